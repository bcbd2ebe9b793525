/- Changes: which may be, walked. -/
import Derived.Test.YtfffbhkenggdcaaChg
import Derived.Deep.LoopGhost
import Derived.Test.YtfffbhkenggdcaaRow
import Derived.Test.YtfffbhkenggdcaaOps
import Derived.RegionTactic
import Derived.BigRegion
import Derived.ChangeAlike
namespace Go.Proofs.Ytfffbhkenggdcaa
set_option linter.unusedVariables false
set_option linter.unusedSimpArgs false
open Go.ChangeShapes Go.WideShapes Go.ChangeAt Go.RowKit
theorem idx4_0 (k a b p : Int) (w : World) : (Instr.index 84 (.agg #[.int .i64 k, .int .i64 a, .int .i64 b, .int .i64 p]) (.int .i64 0)).run Try.prog w = .ok (.int .i64 k) w := by
  simp [Instr.index, run_underlying Try.underlying84, asIntOf, go_sem]
theorem idx4_1 (k a b p : Int) (w : World) : (Instr.index 84 (.agg #[.int .i64 k, .int .i64 a, .int .i64 b, .int .i64 p]) (.int .i64 1)).run Try.prog w = .ok (.int .i64 a) w := by
  simp [Instr.index, run_underlying Try.underlying84, asIntOf, go_sem]
theorem idx4_2 (k a b p : Int) (w : World) : (Instr.index 84 (.agg #[.int .i64 k, .int .i64 a, .int .i64 b, .int .i64 p]) (.int .i64 2)).run Try.prog w = .ok (.int .i64 b) w := by
  simp [Instr.index, run_underlying Try.underlying84, asIntOf, go_sem]
theorem idx4_3 (k a b p : Int) (w : World) : (Instr.index 84 (.agg #[.int .i64 k, .int .i64 a, .int .i64 b, .int .i64 p]) (.int .i64 3)).run Try.prog w = .ok (.int .i64 p) w := by
  simp [Instr.index, run_underlying Try.underlying84, asIntOf, go_sem]
set_option maxRecDepth 100000 in
set_option maxHeartbeats 4000000 in
theorem chk_any (r s t k a b n p q : Int) (w : World) :
    Calls Try.prog 36 #[.agg #[.int .i64 r, .int .i64 s, .int .i64 t, .int .i64 k, .int .i64 a, .int .i64 b, .int .i64 n, .int .i64 p, .int .i64 q]] w fun e w' => e = .returned (.int .i64 (chkChg r s t k a b p q)) ∧ Below w.heap.size w w' := by
  have A := Blk.new w #[.int .i64 r, .int .i64 s, .int .i64 t, .int .i64 k, .int .i64 a, .int .i64 b, .int .i64 n, .int .i64 p, .int .i64 q] 27
  have HB := Lib.hid ((Below.refl w.heap.size w).alloc (Nat.le_refl _) (.cells #[.int .i64 r, .int .i64 s, .int .i64 t, .int .i64 k, .int .i64 a, .int .i64 b, .int .i64 n, .int .i64 p, .int .i64 q] 27))
  go_enter Try.func36, Try.ntmps36
  go_upto_region 1 with fail
  have hz : w.heap.size < (w.alloc (.cells #[.int .i64 r, .int .i64 s, .int .i64 t, .int .i64 k, .int .i64 a, .int .i64 b, .int .i64 n, .int .i64 p, .int .i64 q] 27)).heap.size := by simp
  generalize w.alloc (.cells #[.int .i64 r, .int .i64 s, .int .i64 t, .int .i64 k, .int .i64 a, .int .i64 b, .int .i64 n, .int .i64 p, .int .i64 q] 27) = W at *
  have c0 : W.cell? ⟨w.heap.size, 0, none⟩ = some (.int .i64 r) := A.cell 0
  have c1 : W.cell? ⟨w.heap.size, 1, none⟩ = some (.int .i64 s) := A.cell 1
  have c2 : W.cell? ⟨w.heap.size, 2, none⟩ = some (.int .i64 t) := A.cell 2
  have c3 : W.cell? ⟨w.heap.size, 3, none⟩ = some (.int .i64 k) := A.cell 3
  have c4 : W.cell? ⟨w.heap.size, 4, none⟩ = some (.int .i64 a) := A.cell 4
  have c5 : W.cell? ⟨w.heap.size, 5, none⟩ = some (.int .i64 b) := A.cell 5
  have c6 : W.cell? ⟨w.heap.size, 6, none⟩ = some (.int .i64 n) := A.cell 6
  have c7 : W.cell? ⟨w.heap.size, 7, none⟩ = some (.int .i64 p) := A.cell 7
  have c8 : W.cell? ⟨w.heap.size, 8, none⟩ = some (.int .i64 q) := A.cell 8
  have HA := Lib.hid A
  clear A
  rcases hm : mayId r s with _ | _
  · have C := Lib.hid (fun w => may_is hm w)
    have E := Lib.hid (show chkChg r s t k a b p q = 4 from chk_no (by rw [hm]; simp))
    clear hm
    go_wp2_with ((go_at_call 39; refine (C.out _).mono ?_; rintro e w2 ⟨rfl, hb2⟩))
    go_ret
    exact ⟨by rw [E.out]; rfl, HB.out.trans (hb2.mono HB.out.size)⟩
  · have C := Lib.hid (fun w => may_is hm w)
    have HM := Lib.hid hm
    clear hm
    go_wp2_with fail
    refine (C.out _).mono ?_
    rintro e w2 ⟨rfl, hb2⟩
    have HB2 := Lib.hid (HB.out.trans (hb2.mono HB.out.size))
    have A2 := HA.out.keep hb2 hz
    clear c0 c1 c2 c3 c4 c5 c6 c7 c8 HA HB
    have c0 : w2.cell? ⟨w.heap.size, 0, none⟩ = some (.int .i64 r) := A2.cell 0
    have c1 : w2.cell? ⟨w.heap.size, 1, none⟩ = some (.int .i64 s) := A2.cell 1
    have c2 : w2.cell? ⟨w.heap.size, 2, none⟩ = some (.int .i64 t) := A2.cell 2
    have c3 : w2.cell? ⟨w.heap.size, 3, none⟩ = some (.int .i64 k) := A2.cell 3
    have c4 : w2.cell? ⟨w.heap.size, 4, none⟩ = some (.int .i64 a) := A2.cell 4
    have c5 : w2.cell? ⟨w.heap.size, 5, none⟩ = some (.int .i64 b) := A2.cell 5
    have c6 : w2.cell? ⟨w.heap.size, 6, none⟩ = some (.int .i64 n) := A2.cell 6
    have c7 : w2.cell? ⟨w.heap.size, 7, none⟩ = some (.int .i64 p) := A2.cell 7
    have c8 : w2.cell? ⟨w.heap.size, 8, none⟩ = some (.int .i64 q) := A2.cell 8
    have hz2 : w.heap.size < w2.heap.size := Nat.lt_of_lt_of_le hz hb2.size
    clear A2 hb2 hz
    by_cases h1 : 1 ≤ t
    · by_cases h2 : t ≤ 1073741824
      · by_cases h3 : 0 ≤ q
        · by_cases h4 : q ≤ 65535
          · go_upto_region 4 with fail
            have hX : Hid (([k, a, b, p] : List Int).length = 4) := Lib.hid rfl
            have HOK := Lib.hid (fun (h : ∀ j, j < 4 → isOct (([k, a, b, p] : List Int).getD j 0) = true) => show chkChg r s t k a b p q = 0 from chk_yes ⟨HM.out, h1, h2, h3, h4, h 0 (by decide), h 1 (by decide), h 2 (by decide), h 3 (by decide)⟩)
            have HNO := Lib.hid (fun j (hj : j < 4) (h : isOct (([k, a, b, p] : List Int).getD j 0) = false) => show chkChg r s t k a b p q = 4 from chk_no (fun hh => by
              obtain ⟨_, _, _, _, _, g0, g1, g2, g3⟩ := hh
              match j, hj with
              | 0, _ => exact absurd (h.symm.trans g0) (by decide)
              | 1, _ => exact absurd (h.symm.trans g1) (by decide)
              | 2, _ => exact absurd (h.symm.trans g2) (by decide)
              | 3, _ => exact absurd (h.symm.trans g3) (by decide)))
            have x0 := idx4_0 k a b p
            have x1 := idx4_1 k a b p
            have x2 := idx4_2 k a b p
            have x3 := idx4_3 k a b p
            go_loopg [41] 4 (fun qq s41 wr => ∃ i : Nat, qq + i = 4 ∧ s41 = .int .i64 i ∧ (∀ j, j < i → isOct (([k, a, b, p] : List Int).getD j 0) = true) ∧ w2 = wr)
            case atStart => exact ⟨0, rfl, rfl, fun j hj => absurd hj (Nat.not_lt_zero _), rfl⟩
            case round =>
              obtain ⟨i, hqi, rfl, hh, rfl⟩ := hrel
              have HH := Lib.hid hh
              clear hh
              rcases (show i = 0 ∨ i = 1 ∨ i = 2 ∨ i = 3 ∨ i = 4 by omega) with hi | hi | hi | hi | hi
              · obtain rfl : i = 0 := by omega
                by_cases g0 : 0 ≤ k
                · by_cases g1 : k ≤ 255
                  · have G := Lib.hid ((isOct_iff k).2 ⟨g0, g1⟩)
                    go_wp2_with fail
                    go_roundg (gk - 1)
                    case measure => omega
                    case rel => exact ⟨1, by omega, by go_num, fun j hj => by
                      by_cases e : j = 0
                      · subst e; exact G.out
                      · exact HH.out j (by omega), rfl⟩
                  · have E := Lib.hid (HNO.out 0 (by decide) (show isOct k = false by unfold isOct; rw [decide_eq_false]; omega))
                    go_wp2_with fail
                    go_ret
                    exact ⟨by rw [E.out]; rfl, HB2.out⟩
                · have E := Lib.hid (HNO.out 0 (by decide) (show isOct k = false by unfold isOct; rw [decide_eq_false]; omega))
                  go_wp2_with fail
                  go_ret
                  exact ⟨by rw [E.out]; rfl, HB2.out⟩
              · obtain rfl : i = 1 := by omega
                by_cases g0 : 0 ≤ a
                · by_cases g1 : a ≤ 255
                  · have G := Lib.hid ((isOct_iff a).2 ⟨g0, g1⟩)
                    go_wp2_with fail
                    go_roundg (gk - 1)
                    case measure => omega
                    case rel => exact ⟨2, by omega, by go_num, fun j hj => by
                      by_cases e : j = 1
                      · subst e; exact G.out
                      · exact HH.out j (by omega), rfl⟩
                  · have E := Lib.hid (HNO.out 1 (by decide) (show isOct a = false by unfold isOct; rw [decide_eq_false]; omega))
                    go_wp2_with fail
                    go_ret
                    exact ⟨by rw [E.out]; rfl, HB2.out⟩
                · have E := Lib.hid (HNO.out 1 (by decide) (show isOct a = false by unfold isOct; rw [decide_eq_false]; omega))
                  go_wp2_with fail
                  go_ret
                  exact ⟨by rw [E.out]; rfl, HB2.out⟩
              · obtain rfl : i = 2 := by omega
                by_cases g0 : 0 ≤ b
                · by_cases g1 : b ≤ 255
                  · have G := Lib.hid ((isOct_iff b).2 ⟨g0, g1⟩)
                    go_wp2_with fail
                    go_roundg (gk - 1)
                    case measure => omega
                    case rel => exact ⟨3, by omega, by go_num, fun j hj => by
                      by_cases e : j = 2
                      · subst e; exact G.out
                      · exact HH.out j (by omega), rfl⟩
                  · have E := Lib.hid (HNO.out 2 (by decide) (show isOct b = false by unfold isOct; rw [decide_eq_false]; omega))
                    go_wp2_with fail
                    go_ret
                    exact ⟨by rw [E.out]; rfl, HB2.out⟩
                · have E := Lib.hid (HNO.out 2 (by decide) (show isOct b = false by unfold isOct; rw [decide_eq_false]; omega))
                  go_wp2_with fail
                  go_ret
                  exact ⟨by rw [E.out]; rfl, HB2.out⟩
              · obtain rfl : i = 3 := by omega
                by_cases g0 : 0 ≤ p
                · by_cases g1 : p ≤ 255
                  · have G := Lib.hid ((isOct_iff p).2 ⟨g0, g1⟩)
                    go_wp2_with fail
                    go_roundg (gk - 1)
                    case measure => omega
                    case rel => exact ⟨4, by omega, by go_num, fun j hj => by
                      by_cases e : j = 3
                      · subst e; exact G.out
                      · exact HH.out j (by omega), rfl⟩
                  · have E := Lib.hid (HNO.out 3 (by decide) (show isOct p = false by unfold isOct; rw [decide_eq_false]; omega))
                    go_wp2_with fail
                    go_ret
                    exact ⟨by rw [E.out]; rfl, HB2.out⟩
                · have E := Lib.hid (HNO.out 3 (by decide) (show isOct p = false by unfold isOct; rw [decide_eq_false]; omega))
                  go_wp2_with fail
                  go_ret
                  exact ⟨by rw [E.out]; rfl, HB2.out⟩
              · obtain rfl : i = 4 := by omega
                have E := Lib.hid (HOK.out HH.out)
                go_wp2_with fail
                go_ret
                exact ⟨by rw [E.out]; rfl, HB2.out⟩
          · have E := Lib.hid (show chkChg r s t k a b p q = 4 from chk_no (by omega))
            go_wp2_with fail
            go_ret
            exact ⟨by rw [E.out]; rfl, HB2.out⟩
        · have E := Lib.hid (show chkChg r s t k a b p q = 4 from chk_no (by omega))
          go_wp2_with fail
          go_ret
          exact ⟨by rw [E.out]; rfl, HB2.out⟩
      · have E := Lib.hid (show chkChg r s t k a b p q = 4 from chk_no (by omega))
        go_wp2_with fail
        go_ret
        exact ⟨by rw [E.out]; rfl, HB2.out⟩
    · have E := Lib.hid (show chkChg r s t k a b p q = 4 from chk_no (by omega))
      go_wp2_with fail
      go_ret
      exact ⟨by rw [E.out]; rfl, HB2.out⟩
set_option maxRecDepth 100000 in
set_option maxHeartbeats 4000000 in
theorem rmayc_any (r s t k a b n p q : Int) (w : World) :
    Calls Try.prog 33 #[.agg #[.int .i64 r, .int .i64 s, .int .i64 t, .int .i64 k, .int .i64 a, .int .i64 b, .int .i64 n, .int .i64 p, .int .i64 q]] w fun e w' => e = .returned (.bool (mayChg r s t k a b p q)) ∧ Below w.heap.size w w' := by
  have A := Blk.new w #[.int .i64 r, .int .i64 s, .int .i64 t, .int .i64 k, .int .i64 a, .int .i64 b, .int .i64 n, .int .i64 p, .int .i64 q] 27
  have HB := Lib.hid ((Below.refl w.heap.size w).alloc (Nat.le_refl _) (.cells #[.int .i64 r, .int .i64 s, .int .i64 t, .int .i64 k, .int .i64 a, .int .i64 b, .int .i64 n, .int .i64 p, .int .i64 q] 27))
  go_enter Try.func33, Try.ntmps33
  go_upto_region 1 with fail
  have hz : w.heap.size < (w.alloc (.cells #[.int .i64 r, .int .i64 s, .int .i64 t, .int .i64 k, .int .i64 a, .int .i64 b, .int .i64 n, .int .i64 p, .int .i64 q] 27)).heap.size := by simp
  generalize w.alloc (.cells #[.int .i64 r, .int .i64 s, .int .i64 t, .int .i64 k, .int .i64 a, .int .i64 b, .int .i64 n, .int .i64 p, .int .i64 q] 27) = W at *
  have c0 : W.cell? ⟨w.heap.size, 0, none⟩ = some (.int .i64 r) := A.cell 0
  have c1 : W.cell? ⟨w.heap.size, 1, none⟩ = some (.int .i64 s) := A.cell 1
  have c2 : W.cell? ⟨w.heap.size, 2, none⟩ = some (.int .i64 t) := A.cell 2
  have c3 : W.cell? ⟨w.heap.size, 3, none⟩ = some (.int .i64 k) := A.cell 3
  have c4 : W.cell? ⟨w.heap.size, 4, none⟩ = some (.int .i64 a) := A.cell 4
  have c5 : W.cell? ⟨w.heap.size, 5, none⟩ = some (.int .i64 b) := A.cell 5
  have c6 : W.cell? ⟨w.heap.size, 6, none⟩ = some (.int .i64 n) := A.cell 6
  have c7 : W.cell? ⟨w.heap.size, 7, none⟩ = some (.int .i64 p) := A.cell 7
  have c8 : W.cell? ⟨w.heap.size, 8, none⟩ = some (.int .i64 q) := A.cell 8
  have HA := Lib.hid A
  clear A
  rcases hm : mayId r s with _ | _
  · have C := Lib.hid (fun w => rmay_is hm w)
    have E := Lib.hid (show mayChg r s t k a b p q = false from mayChg_no (by rw [hm]; simp))
    clear hm
    go_wp2_with ((go_at_call 35; refine (C.out _).mono ?_; rintro e w2 ⟨rfl, hb2⟩))
    go_ret
    exact ⟨by rw [E.out]; rfl, HB.out.trans (hb2.mono HB.out.size)⟩
  · have C := Lib.hid (fun w => rmay_is hm w)
    have HM := Lib.hid hm
    clear hm
    go_wp2_with fail
    refine (C.out _).mono ?_
    rintro e w2 ⟨rfl, hb2⟩
    have HB2 := Lib.hid (HB.out.trans (hb2.mono HB.out.size))
    have A2 := HA.out.keep hb2 hz
    clear c0 c1 c2 c3 c4 c5 c6 c7 c8 HA HB
    have c0 : w2.cell? ⟨w.heap.size, 0, none⟩ = some (.int .i64 r) := A2.cell 0
    have c1 : w2.cell? ⟨w.heap.size, 1, none⟩ = some (.int .i64 s) := A2.cell 1
    have c2 : w2.cell? ⟨w.heap.size, 2, none⟩ = some (.int .i64 t) := A2.cell 2
    have c3 : w2.cell? ⟨w.heap.size, 3, none⟩ = some (.int .i64 k) := A2.cell 3
    have c4 : w2.cell? ⟨w.heap.size, 4, none⟩ = some (.int .i64 a) := A2.cell 4
    have c5 : w2.cell? ⟨w.heap.size, 5, none⟩ = some (.int .i64 b) := A2.cell 5
    have c6 : w2.cell? ⟨w.heap.size, 6, none⟩ = some (.int .i64 n) := A2.cell 6
    have c7 : w2.cell? ⟨w.heap.size, 7, none⟩ = some (.int .i64 p) := A2.cell 7
    have c8 : w2.cell? ⟨w.heap.size, 8, none⟩ = some (.int .i64 q) := A2.cell 8
    clear A2 hb2 hz C
    by_cases h1 : 1 ≤ t
    · by_cases h2 : t ≤ 1073741824
      · by_cases gk : isOct k = true
        · by_cases ga : isOct a = true
          · by_cases gb : isOct b = true
            · by_cases gp : isOct p = true
              · by_cases h3 : 0 ≤ q
                · by_cases h4 : q ≤ 65535
                  · have Ck := Lib.hid (fun w => small_is gk w)
                    have Ca := Lib.hid (fun w => small_is ga w)
                    have Cb := Lib.hid (fun w => small_is gb w)
                    have Cp := Lib.hid (fun w => small_is gp w)
                    have E := Lib.hid (show mayChg r s t k a b p q = true from decide_eq_true ⟨HM.out, h1, h2, h3, h4, gk, ga, gb, gp⟩)
                    clear gk ga gb gp
                    go_wp2_with fail
                    refine (Ck.out _).mono ?_
                    rintro e w3 ⟨rfl, rfl⟩
                    go_wp2_with fail
                    refine (Ca.out _).mono ?_
                    rintro e w3 ⟨rfl, rfl⟩
                    go_wp2_with fail
                    refine (Cb.out _).mono ?_
                    rintro e w3 ⟨rfl, rfl⟩
                    go_wp2_with fail
                    refine (Cp.out _).mono ?_
                    rintro e w3 ⟨rfl, rfl⟩
                    go_wp2_with fail
                    go_ret
                    exact ⟨by rw [E.out]; simp [h4], HB2.out⟩
                  · have Ck := Lib.hid (fun w => small_is gk w)
                    have Ca := Lib.hid (fun w => small_is ga w)
                    have Cb := Lib.hid (fun w => small_is gb w)
                    have Cp := Lib.hid (fun w => small_is gp w)
                    have E := Lib.hid (show mayChg r s t k a b p q = false from mayChg_no (by omega))
                    clear gk ga gb gp
                    go_wp2_with fail
                    refine (Ck.out _).mono ?_
                    rintro e w3 ⟨rfl, rfl⟩
                    go_wp2_with fail
                    refine (Ca.out _).mono ?_
                    rintro e w3 ⟨rfl, rfl⟩
                    go_wp2_with fail
                    refine (Cb.out _).mono ?_
                    rintro e w3 ⟨rfl, rfl⟩
                    go_wp2_with fail
                    refine (Cp.out _).mono ?_
                    rintro e w3 ⟨rfl, rfl⟩
                    go_wp2_with fail
                    go_ret
                    exact ⟨by rw [E.out]; first | rfl | simp [h4], HB2.out⟩
                · have Ck := Lib.hid (fun w => small_is gk w)
                  have Ca := Lib.hid (fun w => small_is ga w)
                  have Cb := Lib.hid (fun w => small_is gb w)
                  have Cp := Lib.hid (fun w => small_is gp w)
                  have E := Lib.hid (show mayChg r s t k a b p q = false from mayChg_no (by omega))
                  clear gk ga gb gp
                  go_wp2_with fail
                  refine (Ck.out _).mono ?_
                  rintro e w3 ⟨rfl, rfl⟩
                  go_wp2_with fail
                  refine (Ca.out _).mono ?_
                  rintro e w3 ⟨rfl, rfl⟩
                  go_wp2_with fail
                  refine (Cb.out _).mono ?_
                  rintro e w3 ⟨rfl, rfl⟩
                  go_wp2_with fail
                  refine (Cp.out _).mono ?_
                  rintro e w3 ⟨rfl, rfl⟩
                  go_wp2_with fail
                  go_ret
                  exact ⟨by rw [E.out]; first | rfl | simp [h4], HB2.out⟩
              · have Ck := Lib.hid (fun w => small_is gk w)
                have Ca := Lib.hid (fun w => small_is ga w)
                have Cb := Lib.hid (fun w => small_is gb w)
                have Cp := Lib.hid (fun w => small_is (Bool.eq_false_iff.2 gp) w)
                have E := Lib.hid (show mayChg r s t k a b p q = false from mayChg_no (by intro hh; exact gp hh.2.2.2.2.2.2.2.2))
                clear gk ga gb gp
                go_wp2_with fail
                refine (Ck.out _).mono ?_
                rintro e w3 ⟨rfl, rfl⟩
                go_wp2_with fail
                refine (Ca.out _).mono ?_
                rintro e w3 ⟨rfl, rfl⟩
                go_wp2_with fail
                refine (Cb.out _).mono ?_
                rintro e w3 ⟨rfl, rfl⟩
                go_wp2_with fail
                refine (Cp.out _).mono ?_
                rintro e w3 ⟨rfl, rfl⟩
                go_wp2_with fail
                go_ret
                exact ⟨by rw [E.out]; first | rfl | simp [h4], HB2.out⟩
            · have Ck := Lib.hid (fun w => small_is gk w)
              have Ca := Lib.hid (fun w => small_is ga w)
              have Cb := Lib.hid (fun w => small_is (Bool.eq_false_iff.2 gb) w)
              have E := Lib.hid (show mayChg r s t k a b p q = false from mayChg_no (by intro hh; exact gb hh.2.2.2.2.2.2.2.1))
              clear gk ga gb
              go_wp2_with fail
              refine (Ck.out _).mono ?_
              rintro e w3 ⟨rfl, rfl⟩
              go_wp2_with fail
              refine (Ca.out _).mono ?_
              rintro e w3 ⟨rfl, rfl⟩
              go_wp2_with fail
              refine (Cb.out _).mono ?_
              rintro e w3 ⟨rfl, rfl⟩
              go_wp2_with fail
              go_ret
              exact ⟨by rw [E.out]; first | rfl | simp [h4], HB2.out⟩
          · have Ck := Lib.hid (fun w => small_is gk w)
            have Ca := Lib.hid (fun w => small_is (Bool.eq_false_iff.2 ga) w)
            have E := Lib.hid (show mayChg r s t k a b p q = false from mayChg_no (by intro hh; exact ga hh.2.2.2.2.2.2.1))
            clear gk ga
            go_wp2_with fail
            refine (Ck.out _).mono ?_
            rintro e w3 ⟨rfl, rfl⟩
            go_wp2_with fail
            refine (Ca.out _).mono ?_
            rintro e w3 ⟨rfl, rfl⟩
            go_wp2_with fail
            go_ret
            exact ⟨by rw [E.out]; first | rfl | simp [h4], HB2.out⟩
        · have Ck := Lib.hid (fun w => small_is (Bool.eq_false_iff.2 gk) w)
          have E := Lib.hid (show mayChg r s t k a b p q = false from mayChg_no (by intro hh; exact gk hh.2.2.2.2.2.1))
          clear gk
          go_wp2_with fail
          refine (Ck.out _).mono ?_
          rintro e w3 ⟨rfl, rfl⟩
          go_wp2_with fail
          go_ret
          exact ⟨by rw [E.out]; first | rfl | simp [h4], HB2.out⟩
      · have E := Lib.hid (show mayChg r s t k a b p q = false from mayChg_no (by omega))
        go_wp2_with fail
        go_ret
        exact ⟨by rw [E.out]; first | rfl | simp [h4], HB2.out⟩
    · have E := Lib.hid (show mayChg r s t k a b p q = false from mayChg_no (by omega))
      go_wp2_with fail
      go_ret
      exact ⟨by rw [E.out]; first | rfl | simp [h4], HB2.out⟩
end Go.Proofs.Ytfffbhkenggdcaa
