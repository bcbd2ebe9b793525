/- The order of names: which is less, which may be. -/
import Derived.Test.YtbdonjapcpfgiaaDoorIdn
import Derived.Test.YtbdonjapcpfgiaaDoorEq
import Derived.Deep.DeepCutAuto
import Derived.Maps.AppendAt
import Derived.Test.YtbdonjapcpfgiaaDoorRow
import Derived.Test.YtbdonjapcpfgiaaDoorOps
import Derived.RegionTactic
import Derived.BigRegion
import Derived.ChangeAlike
namespace Go.Proofs.YtbdonjapcpfgiaaDoor
set_option linter.unusedVariables false
set_option linter.unusedSimpArgs false
open Go.ChangeShapes Go.WideShapes Go.ChangeAt Go.RowKit
def mayKey (k1 k2 ko : Int) : Bool := decide (mayId k1 k2 = true ∧ 1 ≤ ko ∧ ko ≤ 255)
theorem mayKey_no {k1 k2 ko : Int} (h : ¬ (mayId k1 k2 = true ∧ 1 ≤ ko ∧ ko ≤ 255)) : mayKey k1 k2 ko = false := decide_eq_false h
set_option maxRecDepth 100000 in
set_option maxHeartbeats 8000000 in
theorem maykey_any (k1 k2 ko : Int) (ku : Bool) (w : World) : Calls Tryd.prog 9 #[.agg #[.int .i64 k1, .int .i64 k2, .int .i64 ko, .bool ku]] w fun e w' => e = .returned (.bool (mayKey k1 k2 ko)) ∧ Below w.heap.size w w' := by
  have A := Blk.new w #[.int .i64 k1, .int .i64 k2, .int .i64 ko, .bool ku] 25
  have HB := Lib.hid ((Below.refl w.heap.size w).alloc (Nat.le_refl _) (.cells #[.int .i64 k1, .int .i64 k2, .int .i64 ko, .bool ku] 25))
  go_enter Tryd.func9, Tryd.ntmps9
  go_upto_region 1 with fail
  generalize w.alloc (.cells #[.int .i64 k1, .int .i64 k2, .int .i64 ko, .bool ku] 25) = W at *
  have c0 : W.cell? ⟨w.heap.size, 0, none⟩ = some (.int .i64 k1) := A.cell 0
  have c1 : W.cell? ⟨w.heap.size, 1, none⟩ = some (.int .i64 k2) := A.cell 1
  have HA := Lib.hid A
  clear A
  go_wp2_with fail
  refine (may_any k1 k2 _).mono ?_
  rintro e w2 ⟨rfl, hb⟩
  have c2 : w2.cell? ⟨w.heap.size, 2, none⟩ = some (.int .i64 ko) := (HA.out.keep hb HA.out.lt).cell 2
  have HB2 := Lib.hid (HB.out.trans (hb.mono HB.out.size))
  clear hb HA HB c0 c1
  rcases hm : mayId k1 k2 with _ | _
  · have E := Lib.hid (mayKey_no (k1 := k1) (k2 := k2) (ko := ko) (by rw [hm]; rintro ⟨h, _⟩; cases h))
    clear hm
    go_wp2_with fail
    go_ret
    exact ⟨by rw [E.out]; rfl, HB2.out⟩
  · by_cases h1 : 1 ≤ ko
    · by_cases h2 : ko ≤ 255
      · have E : Hid (mayKey k1 k2 ko = true) := Lib.hid (decide_eq_true ⟨hm, h1, h2⟩)
        clear hm
        go_wp2_with fail
        go_ret
        exact ⟨by rw [E.out]; rfl, HB2.out⟩
      · have E := Lib.hid (mayKey_no (k1 := k1) (k2 := k2) (ko := ko) (by rintro ⟨_, _, h⟩; exact h2 h))
        have HD := Lib.hid (decide_eq_false h2)
        clear hm
        go_wp2_with fail
        go_ret
        exact ⟨by rw [E.out]; first | rfl | (rw [← HD.out]; rfl), HB2.out⟩
    · have E := Lib.hid (mayKey_no (k1 := k1) (k2 := k2) (ko := ko) (by rintro ⟨_, h, _⟩; exact h1 h))
      have HD := Lib.hid (decide_eq_false h1)
      clear hm
      go_wp2_with fail
      go_ret
      exact ⟨by rw [E.out]; first | rfl | (rw [← HD.out]; rfl), HB2.out⟩
set_option maxRecDepth 100000 in
set_option maxHeartbeats 8000000 in
theorem rmaykey_any (k1 k2 ko : Int) (ku : Bool) (w : World) : Calls Tryd.prog 10 #[.agg #[.int .i64 k1, .int .i64 k2, .int .i64 ko, .bool ku]] w fun e w' => e = .returned (.bool (mayKey k1 k2 ko)) ∧ Below w.heap.size w w' := by
  have A := Blk.new w #[.int .i64 k1, .int .i64 k2, .int .i64 ko, .bool ku] 25
  have HB := Lib.hid ((Below.refl w.heap.size w).alloc (Nat.le_refl _) (.cells #[.int .i64 k1, .int .i64 k2, .int .i64 ko, .bool ku] 25))
  go_enter Tryd.func10, Tryd.ntmps10
  go_upto_region 1 with fail
  generalize w.alloc (.cells #[.int .i64 k1, .int .i64 k2, .int .i64 ko, .bool ku] 25) = W at *
  have c0 : W.cell? ⟨w.heap.size, 0, none⟩ = some (.int .i64 k1) := A.cell 0
  have c1 : W.cell? ⟨w.heap.size, 1, none⟩ = some (.int .i64 k2) := A.cell 1
  have HA := Lib.hid A
  clear A
  go_wp2_with fail
  refine (rmay_any k1 k2 _).mono ?_
  rintro e w2 ⟨rfl, hb⟩
  have c2 : w2.cell? ⟨w.heap.size, 2, none⟩ = some (.int .i64 ko) := (HA.out.keep hb HA.out.lt).cell 2
  have HB2 := Lib.hid (HB.out.trans (hb.mono HB.out.size))
  clear hb HA HB c0 c1
  rcases hm : mayId k1 k2 with _ | _
  · have E := Lib.hid (mayKey_no (k1 := k1) (k2 := k2) (ko := ko) (by rw [hm]; rintro ⟨h, _⟩; cases h))
    clear hm
    go_wp2_with fail
    go_ret
    exact ⟨by rw [E.out]; rfl, HB2.out⟩
  · by_cases h1 : 1 ≤ ko
    · by_cases h2 : ko ≤ 255
      · have E : Hid (mayKey k1 k2 ko = true) := Lib.hid (decide_eq_true ⟨hm, h1, h2⟩)
        clear hm
        go_wp2_with fail
        go_ret
        exact ⟨by rw [E.out]; rfl, HB2.out⟩
      · have E := Lib.hid (mayKey_no (k1 := k1) (k2 := k2) (ko := ko) (by rintro ⟨_, _, h⟩; exact h2 h))
        have HD := Lib.hid (decide_eq_false h2)
        clear hm
        go_wp2_with fail
        go_ret
        exact ⟨by rw [E.out]; first | rfl | (rw [← HD.out]; rfl), HB2.out⟩
    · have E := Lib.hid (mayKey_no (k1 := k1) (k2 := k2) (ko := ko) (by rintro ⟨_, h, _⟩; exact h1 h))
      have HD := Lib.hid (decide_eq_false h1)
      clear hm
      go_wp2_with fail
      go_ret
      exact ⟨by rw [E.out]; first | rfl | (rw [← HD.out]; rfl), HB2.out⟩
theorem cmpI_neg (x y : Int) : cmpI x y < 0 ↔ x < y := by unfold cmpI; split <;> (try split) <;> omega
theorem cmpI_zero (x y : Int) : cmpI x y = 0 ↔ x = y := by unfold cmpI; split <;> (try split) <;> omega
theorem first2 (x y : Int) : firstNZ [x, y] = if x = 0 then y else x := by
  unfold firstNZ
  split
  · unfold firstNZ
    split
    · simp [firstNZ, *]
    · rfl
  · rfl
theorem cmpId_neg (p q p2 q2 : Int) : cmpId p q p2 q2 < 0 ↔ q < q2 ∨ (q = q2 ∧ p < p2) := by
  unfold cmpId
  rw [first2]
  have h1 := cmpI_neg q q2
  have h2 := cmpI_zero q q2
  have h3 := cmpI_neg p p2
  split <;> omega
theorem cmpId_zero (p q p2 q2 : Int) : cmpId p q p2 q2 = 0 ↔ p = p2 ∧ q = q2 := by
  unfold cmpId
  rw [first2]
  have h1 := cmpI_zero q q2
  have h2 := cmpI_zero p p2
  split <;> omega
def idLess (p q p2 q2 : Int) : Bool := decide (cmpId p q p2 q2 < 0)
def lessK (p q o : Int) (u : Bool) (p2 q2 o2 : Int) (u2 : Bool) : Bool := if firstNZ [cmpId p q p2 q2, cmpI o o2] = 0 then (!u && u2) else decide (firstNZ [cmpId p q p2 q2, cmpI o o2] < 0)
theorem less_any (p q p2 q2 : Int) (w : World) : Calls Tryd.prog 11 #[.agg #[.int .i64 p, .int .i64 q], .agg #[.int .i64 p2, .int .i64 q2]] w fun e w' => e = .returned (.bool (idLess p q p2 q2)) ∧ Below w.heap.size w w' := by
  have HB := Lib.hid (((Below.refl w.heap.size w).alloc (Nat.le_refl _) (.cells #[.int .i64 p, .int .i64 q] 23)).alloc (by simp) (.cells #[.int .i64 p2, .int .i64 q2] 23))
  have C := Lib.hid (fun w => compare_any p q p2 q2 w)
  obtain ⟨RV, hRV⟩ : ∃ RV, RV = cmpId p q p2 q2 := ⟨_, rfl⟩
  have HRV : Hid (idLess p q p2 q2 = decide (RV < 0)) := Lib.hid (by rw [hRV]; rfl)
  rw [← hRV] at C
  clear hRV
  go_enter Tryd.func11, Tryd.ntmps11
  go_wp2_with fail
  refine (C.out _).mono ?_
  rintro e w2 ⟨rfl, hb⟩
  have HB2 := Lib.hid (HB.out.trans (hb.mono HB.out.size))
  clear hb
  go_wp2_with fail
  go_ret
  exact ⟨by rw [HRV.out]; rfl, HB2.out⟩
set_option maxHeartbeats 4000000 in
theorem rless_any (p q p2 q2 : Int) (w : World) : Calls Tryd.prog 12 #[.agg #[.int .i64 p, .int .i64 q], .agg #[.int .i64 p2, .int .i64 q2]] w fun e w' => e = .returned (.bool (idLess p q p2 q2)) ∧ Below w.heap.size w w' := by
  have HB := Lib.hid (((Below.refl w.heap.size w).alloc (Nat.le_refl _) (.cells #[.int .i64 p, .int .i64 q] 23)).alloc (by simp) (.cells #[.int .i64 p2, .int .i64 q2] 23))
  have hc := cmpId_neg p q p2 q2
  by_cases h1 : q < q2
  · have HRV : Hid (idLess p q p2 q2 = true) := Lib.hid (decide_eq_true (by omega))
    clear hc
    go_enter Tryd.func12, Tryd.ntmps12
    go_wp2_with fail
    go_ret
    exact ⟨by rw [HRV.out]; first | rfl | simp | (simp; omega), HB.out⟩
  · by_cases h2 : q = q2
    · have h2b : (q == q2) = true := by simpa using h2
      by_cases h3 : p < p2
      · have HRV : Hid (idLess p q p2 q2 = true) := Lib.hid (decide_eq_true (by omega))
        clear hc h2
        go_enter Tryd.func12, Tryd.ntmps12
        go_wp2_with fail
        go_ret
        exact ⟨by rw [HRV.out]; first | rfl | simp | (simp; omega), HB.out⟩
      · have HRV : Hid (idLess p q p2 q2 = false) := Lib.hid (decide_eq_false (by omega))
        clear hc h2
        go_enter Tryd.func12, Tryd.ntmps12
        go_wp2_with fail
        go_ret
        exact ⟨by rw [HRV.out]; first | rfl | simp | (simp; omega), HB.out⟩
    · have h2b : (q == q2) = false := by simpa using h2
      have HRV : Hid (idLess p q p2 q2 = false) := Lib.hid (decide_eq_false (by omega))
      clear hc h2
      go_enter Tryd.func12, Tryd.ntmps12
      go_wp2_with fail
      go_ret
      exact ⟨by rw [HRV.out]; first | rfl | simp | (simp; omega), HB.out⟩
end Go.Proofs.YtbdonjapcpfgiaaDoor
