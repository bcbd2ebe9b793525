/- Effects: which may be. -/
import Derived.Test.YteebmpbplenikaaDoorChg
import Derived.Test.YteebmpbplenikaaDoorRow
import Derived.Test.YteebmpbplenikaaDoorOps
import Derived.RegionTactic
import Derived.BigRegion
import Derived.ChangeAlike
namespace Go.Proofs.YteebmpbplenikaaDoor
set_option linter.unusedVariables false
set_option linter.unusedSimpArgs false
open Go.ChangeShapes Go.WideShapes Go.ChangeAt Go.RowKit
def isKnd (n : Int) : Bool := decide (1 ≤ n ∧ n ≤ 11)
theorem isKnd_iff (n : Int) : isKnd n = true ↔ 1 ≤ n ∧ n ≤ 11 := decide_eq_true_iff
theorem kind_any (n : Int) (w : World) : Calls Tryd.prog 23 #[.int .i64 n] w fun e w' => e = .returned (.bool (isKnd n)) ∧ w = w' := by
  go_enter Tryd.func23, Tryd.ntmps23
  by_cases h0 : 1 ≤ n
  · by_cases h1 : n ≤ 11
    · have E := Lib.hid ((isKnd_iff n).2 ⟨h0, h1⟩)
      go_wp2_with fail
      go_ret
      exact ⟨by rw [E.out]; rfl, rfl⟩
    · have E := Lib.hid (show isKnd n = false by unfold isKnd; rw [decide_eq_false]; omega)
      go_wp2_with fail
      go_ret
      exact ⟨by rw [E.out]; rfl, rfl⟩
  · have E := Lib.hid (show isKnd n = false by unfold isKnd; rw [decide_eq_false]; omega)
    go_wp2_with fail
    go_ret
    exact ⟨by rw [E.out]; rfl, rfl⟩
theorem kind_is {n : Int} {b : Bool} (h : isKnd n = b) (w : World) : Calls Tryd.prog 23 #[.int .i64 n] w fun e w' => e = .returned (.bool b) ∧ w = w' := by
  have := kind_any n w
  rwa [h] at this
theorem byte_any (n : Int) (w : World) : Calls Tryd.prog 24 #[.int .i64 n] w fun e w' => e = .returned (.bool (isOct n)) ∧ w = w' := by
  go_enter Tryd.func24, Tryd.ntmps24
  by_cases h0 : 0 ≤ n
  · by_cases h1 : n ≤ 255
    · have E := Lib.hid ((isOct_iff n).2 ⟨h0, h1⟩)
      go_wp2_with fail
      go_ret
      exact ⟨by rw [E.out]; rfl, rfl⟩
    · have E := Lib.hid (show isOct n = false by unfold isOct; rw [decide_eq_false]; omega)
      go_wp2_with fail
      go_ret
      exact ⟨by rw [E.out]; rfl, rfl⟩
  · have E := Lib.hid (show isOct n = false by unfold isOct; rw [decide_eq_false]; omega)
    go_wp2_with fail
    go_ret
    exact ⟨by rw [E.out]; rfl, rfl⟩
theorem byte_is {n : Int} {b : Bool} (h : isOct n = b) (w : World) : Calls Tryd.prog 24 #[.int .i64 n] w fun e w' => e = .returned (.bool b) ∧ w = w' := by
  have := byte_any n w
  rwa [h] at this
/-- an effect's error. -/
def effCode (k a p q : Int) : Int := if isKnd k = true then (if isOct a = true ∧ isOct p = true ∧ 0 ≤ q ∧ q ≤ 65535 then 0 else 4) else 12
theorem eff_kind {k a p q : Int} (h : isKnd k = false) : effCode k a p q = 12 := by unfold effCode; rw [h]; rfl
theorem eff_no {k a p q : Int} (h : isKnd k = true) (h2 : ¬ (isOct a = true ∧ isOct p = true ∧ 0 ≤ q ∧ q ≤ 65535)) : effCode k a p q = 4 := by unfold effCode; rw [if_pos h, if_neg h2]
theorem eff_yes {k a p q : Int} (h : isKnd k = true) (h2 : isOct a = true ∧ isOct p = true ∧ 0 ≤ q ∧ q ≤ 65535) : effCode k a p q = 0 := by unfold effCode; rw [if_pos h, if_pos h2]
set_option maxRecDepth 100000 in
set_option maxHeartbeats 4000000 in
theorem echk_any (k a n p q : Int) (w : World) : Calls Tryd.prog 9 #[.agg #[.int .i64 k, .int .i64 a, .int .i64 n, .int .i64 p, .int .i64 q]] w fun e w' => e = .returned (.int .i64 (effCode k a p q)) ∧ Below w.heap.size w w' := by
  have A := Blk.new w #[.int .i64 k, .int .i64 a, .int .i64 n, .int .i64 p, .int .i64 q] 25
  have HB := Lib.hid ((Below.refl w.heap.size w).alloc (Nat.le_refl _) (.cells #[.int .i64 k, .int .i64 a, .int .i64 n, .int .i64 p, .int .i64 q] 25))
  go_enter Tryd.func9, Tryd.ntmps9
  go_upto_region 1 with fail
  generalize w.alloc (.cells #[.int .i64 k, .int .i64 a, .int .i64 n, .int .i64 p, .int .i64 q] 25) = W at *
  have c0 : W.cell? ⟨w.heap.size, 0, none⟩ = some (.int .i64 k) := A.cell 0
  have c1 : W.cell? ⟨w.heap.size, 1, none⟩ = some (.int .i64 a) := A.cell 1
  have c2 : W.cell? ⟨w.heap.size, 2, none⟩ = some (.int .i64 n) := A.cell 2
  have c3 : W.cell? ⟨w.heap.size, 3, none⟩ = some (.int .i64 p) := A.cell 3
  have c4 : W.cell? ⟨w.heap.size, 4, none⟩ = some (.int .i64 q) := A.cell 4
  clear A
  rcases hk : isKnd k with _ | _
  · have C := Lib.hid (fun w => kind_is hk w)
    have E := Lib.hid (eff_kind (a := a) (p := p) (q := q) hk)
    clear hk
    go_wp2_with ((go_at_call 23; refine (C.out _).mono ?_; rintro e w2 ⟨rfl, rfl⟩))
    go_ret
    exact ⟨by rw [E.out]; rfl, HB.out⟩
  · have C := Lib.hid (fun w => kind_is hk w)
    have HK := Lib.hid hk
    clear hk
    rcases ha : isOct a with _ | _
    · have Ca := Lib.hid (fun w => byte_is ha w)
      have E := Lib.hid (eff_no (q := q) (p := p) HK.out (by rw [ha]; simp))
      clear ha
      go_wp2_with fail
      refine (C.out _).mono ?_
      rintro e w2 ⟨rfl, rfl⟩
      go_wp2_with fail
      refine (Ca.out _).mono ?_
      rintro e w2 ⟨rfl, rfl⟩
      go_wp2_with fail
      go_ret
      exact ⟨by rw [E.out]; rfl, HB.out⟩
    · have Ca := Lib.hid (fun w => byte_is ha w)
      have HA := Lib.hid ha
      clear ha
      rcases hp : isOct p with _ | _
      · have Cp := Lib.hid (fun w => byte_is hp w)
        have E := Lib.hid (eff_no (q := q) (a := a) HK.out (by rw [hp]; simp))
        clear hp
        go_wp2_with fail
        refine (C.out _).mono ?_
        rintro e w2 ⟨rfl, rfl⟩
        go_wp2_with fail
        refine (Ca.out _).mono ?_
        rintro e w2 ⟨rfl, rfl⟩
        go_wp2_with fail
        refine (Cp.out _).mono ?_
        rintro e w2 ⟨rfl, rfl⟩
        go_wp2_with fail
        go_ret
        exact ⟨by rw [E.out]; rfl, HB.out⟩
      · have Cp := Lib.hid (fun w => byte_is hp w)
        have HP := Lib.hid hp
        clear hp
        by_cases h0 : 0 ≤ q
        · by_cases h1 : q ≤ 65535
          · have E := Lib.hid (eff_yes HK.out ⟨HA.out, HP.out, h0, h1⟩)
            go_wp2_with fail
            refine (C.out _).mono ?_
            rintro e w2 ⟨rfl, rfl⟩
            go_wp2_with fail
            refine (Ca.out _).mono ?_
            rintro e w2 ⟨rfl, rfl⟩
            go_wp2_with fail
            refine (Cp.out _).mono ?_
            rintro e w2 ⟨rfl, rfl⟩
            go_wp2_with fail
            go_ret
            exact ⟨by rw [E.out]; rfl, HB.out⟩
          · have E := Lib.hid (eff_no (a := a) (p := p) (q := q) HK.out (by omega))
            go_wp2_with fail
            refine (C.out _).mono ?_
            rintro e w2 ⟨rfl, rfl⟩
            go_wp2_with fail
            refine (Ca.out _).mono ?_
            rintro e w2 ⟨rfl, rfl⟩
            go_wp2_with fail
            refine (Cp.out _).mono ?_
            rintro e w2 ⟨rfl, rfl⟩
            go_wp2_with fail
            go_ret
            exact ⟨by rw [E.out]; rfl, HB.out⟩
        · have E := Lib.hid (eff_no (a := a) (p := p) (q := q) HK.out (by omega))
          go_wp2_with fail
          refine (C.out _).mono ?_
          rintro e w2 ⟨rfl, rfl⟩
          go_wp2_with fail
          refine (Ca.out _).mono ?_
          rintro e w2 ⟨rfl, rfl⟩
          go_wp2_with fail
          refine (Cp.out _).mono ?_
          rintro e w2 ⟨rfl, rfl⟩
          go_wp2_with fail
          go_ret
          exact ⟨by rw [E.out]; rfl, HB.out⟩
set_option maxRecDepth 100000 in
set_option maxHeartbeats 4000000 in
theorem emay_any (k a n p q : Int) (w : World) : Calls Tryd.prog 7 #[.agg #[.int .i64 k, .int .i64 a, .int .i64 n, .int .i64 p, .int .i64 q]] w fun e w' => e = .returned (.int .i64 (effCode k a p q)) ∧ Below w.heap.size w w' := by
  have A := Blk.new w #[.int .i64 k, .int .i64 a, .int .i64 n, .int .i64 p, .int .i64 q] 25
  have HB := Lib.hid ((Below.refl w.heap.size w).alloc (Nat.le_refl _) (.cells #[.int .i64 k, .int .i64 a, .int .i64 n, .int .i64 p, .int .i64 q] 25))
  go_enter Tryd.func7, Tryd.ntmps7
  go_upto_region 1 with fail
  generalize w.alloc (.cells #[.int .i64 k, .int .i64 a, .int .i64 n, .int .i64 p, .int .i64 q] 25) = W at *
  have c0 : W.cell? ⟨w.heap.size, 0, none⟩ = some (.int .i64 k) := A.cell 0
  have c1 : W.cell? ⟨w.heap.size, 1, none⟩ = some (.int .i64 a) := A.cell 1
  have c2 : W.cell? ⟨w.heap.size, 2, none⟩ = some (.int .i64 n) := A.cell 2
  have c3 : W.cell? ⟨w.heap.size, 3, none⟩ = some (.int .i64 p) := A.cell 3
  have c4 : W.cell? ⟨w.heap.size, 4, none⟩ = some (.int .i64 q) := A.cell 4
  clear A
  by_cases h0 : 1 ≤ k
  · by_cases h1 : k ≤ 11
    · have HK := Lib.hid ((isKnd_iff k).2 ⟨h0, h1⟩)
      rcases ha : isOct a with _ | _
      · have Ca := Lib.hid (fun w => small_is ha w)
        have E := Lib.hid (eff_no (q := q) (p := p) HK.out (by rw [ha]; simp))
        clear ha
        go_wp2_with fail
        refine (Ca.out _).mono ?_
        rintro e w2 ⟨rfl, rfl⟩
        go_wp2_with fail
        go_ret
        exact ⟨by rw [E.out]; rfl, HB.out⟩
      · have Ca := Lib.hid (fun w => small_is ha w)
        have HA := Lib.hid ha
        clear ha
        rcases hp : isOct p with _ | _
        · have Cp := Lib.hid (fun w => small_is hp w)
          have E := Lib.hid (eff_no (q := q) (a := a) HK.out (by rw [hp]; simp))
          clear hp
          go_wp2_with fail
          refine (Ca.out _).mono ?_
          rintro e w2 ⟨rfl, rfl⟩
          go_wp2_with fail
          refine (Cp.out _).mono ?_
          rintro e w2 ⟨rfl, rfl⟩
          go_wp2_with fail
          go_ret
          exact ⟨by rw [E.out]; rfl, HB.out⟩
        · have Cp := Lib.hid (fun w => small_is hp w)
          have HP := Lib.hid hp
          clear hp
          by_cases g0 : 0 ≤ q
          · by_cases g1 : q ≤ 65535
            · have E := Lib.hid (eff_yes HK.out ⟨HA.out, HP.out, g0, g1⟩)
              go_wp2_with fail
              refine (Ca.out _).mono ?_
              rintro e w2 ⟨rfl, rfl⟩
              go_wp2_with fail
              refine (Cp.out _).mono ?_
              rintro e w2 ⟨rfl, rfl⟩
              go_wp2_with fail
              go_ret
              exact ⟨by rw [E.out]; rfl, HB.out⟩
            · have E := Lib.hid (eff_no (a := a) (p := p) (q := q) HK.out (by omega))
              go_wp2_with fail
              refine (Ca.out _).mono ?_
              rintro e w2 ⟨rfl, rfl⟩
              go_wp2_with fail
              refine (Cp.out _).mono ?_
              rintro e w2 ⟨rfl, rfl⟩
              go_wp2_with fail
              go_ret
              exact ⟨by rw [E.out]; rfl, HB.out⟩
          · have E := Lib.hid (eff_no (a := a) (p := p) (q := q) HK.out (by omega))
            go_wp2_with fail
            refine (Ca.out _).mono ?_
            rintro e w2 ⟨rfl, rfl⟩
            go_wp2_with fail
            refine (Cp.out _).mono ?_
            rintro e w2 ⟨rfl, rfl⟩
            go_wp2_with fail
            go_ret
            exact ⟨by rw [E.out]; rfl, HB.out⟩
    · have E := Lib.hid (eff_kind (a := a) (p := p) (q := q) (show isKnd k = false by unfold isKnd; rw [decide_eq_false]; omega))
      go_wp2_with fail
      go_ret
      exact ⟨by rw [E.out]; rfl, HB.out⟩
  · have E := Lib.hid (eff_kind (a := a) (p := p) (q := q) (show isKnd k = false by unfold isKnd; rw [decide_eq_false]; omega))
    go_wp2_with fail
    go_ret
    exact ⟨by rw [E.out]; rfl, HB.out⟩
end Go.Proofs.YteebmpbplenikaaDoor
