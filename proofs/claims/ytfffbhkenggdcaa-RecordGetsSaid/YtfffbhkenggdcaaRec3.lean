/- The fields that a record's kind has: the other kinds. -/
import Derived.Test.YtfffbhkenggdcaaRec2
import Derived.Test.YtfffbhkenggdcaaRow
import Derived.Test.YtfffbhkenggdcaaOps
import Derived.Test.YtfffbhkenggdcaaEq
import Derived.Test.YtfffbhkenggdcaaChgOps
import Derived.RegionTactic
import Derived.BigRegion
import Derived.ChangeAlike
namespace Go.Proofs.Ytfffbhkenggdcaa
set_option linter.unusedVariables false
set_option linter.unusedSimpArgs false
open Go.ChangeShapes Go.WideShapes Go.ChangeAt Go.RowKit
/-- may a request's name be? -/
def mayKey (k1 k2 ko : Int) : Bool := decide (mayId k1 k2 = true ∧ 1 ≤ ko ∧ ko ≤ 255)
theorem mayKey_no {k1 k2 ko : Int} (h : ¬ (mayId k1 k2 = true ∧ 1 ≤ ko ∧ ko ≤ 255)) : mayKey k1 k2 ko = false := decide_eq_false h
set_option maxRecDepth 100000 in
set_option maxHeartbeats 2000000 in
theorem maykey_any (k1 k2 ko : Int) (ku : Bool) (w : World) : Calls Try.prog 40 #[.agg #[.int .i64 k1, .int .i64 k2, .int .i64 ko, .bool ku]] w fun e w' => e = .returned (.bool (mayKey k1 k2 ko)) ∧ Below w.heap.size w w' := by
  have A := Blk.new w #[.int .i64 k1, .int .i64 k2, .int .i64 ko, .bool ku] 29
  have HB := Lib.hid ((Below.refl w.heap.size w).alloc (Nat.le_refl _) (.cells #[.int .i64 k1, .int .i64 k2, .int .i64 ko, .bool ku] 29))
  go_enter Try.func40, Try.ntmps40
  go_upto_region 1 with fail
  generalize w.alloc (.cells #[.int .i64 k1, .int .i64 k2, .int .i64 ko, .bool ku] 29) = W at *
  have c0 : W.cell? ⟨w.heap.size, 0, none⟩ = some (.int .i64 k1) := A.cell 0
  have c1 : W.cell? ⟨w.heap.size, 1, none⟩ = some (.int .i64 k2) := A.cell 1
  have HA := Lib.hid A
  clear A
  go_wp2_with fail
  refine (may_any k1 k2 _).mono ?_
  rintro e w2 ⟨rfl, hb⟩
  have c2 : w2.cell? ⟨w.heap.size, 2, none⟩ = some (.int .i64 ko) := (HA.out.keep hb HA.out.lt).cell 2
  have HB2 := Lib.hid (HB.out.trans (hb.mono HB.out.size))
  clear hb HA HB c0 c1
  rcases hm : mayId k1 k2 with _ | _
  · have E := Lib.hid (mayKey_no (k1 := k1) (k2 := k2) (ko := ko) (by rw [hm]; rintro ⟨h, _⟩; cases h))
    clear hm
    go_wp2_with fail
    go_ret
    exact ⟨by rw [E.out]; first | rfl | (rw [← HD.out]; rfl), HB2.out⟩
  · by_cases h1 : 1 ≤ ko
    · by_cases h2 : ko ≤ 255
      · have E : Hid (mayKey k1 k2 ko = true) := Lib.hid (decide_eq_true ⟨hm, h1, h2⟩)
        clear hm
        go_wp2_with fail
        go_ret
        exact ⟨by rw [E.out]; first | rfl | (rw [← HD.out]; rfl), HB2.out⟩
      · have E := Lib.hid (mayKey_no (k1 := k1) (k2 := k2) (ko := ko) (by rintro ⟨_, _, h⟩; exact h2 h))
        have HD := Lib.hid (decide_eq_false h2)
        clear hm
        go_wp2_with fail
        go_ret
        exact ⟨by rw [E.out]; first | rfl | (rw [← HD.out]; rfl), HB2.out⟩
    · have E := Lib.hid (mayKey_no (k1 := k1) (k2 := k2) (ko := ko) (by rintro ⟨_, h, _⟩; exact h1 h))
      have HD := Lib.hid (decide_eq_false h1)
      clear hm
      go_wp2_with fail
      go_ret
      exact ⟨by rw [E.out]; first | rfl | (rw [← HD.out]; rfl), HB2.out⟩
set_option maxRecDepth 100000 in
set_option maxHeartbeats 8000000 in
theorem fieldsC_any (r s t k a b n p q i1 i2 k1 k2 ko : Int) (ku : Bool) (now : Int) (w : World) : Calls Try.prog 25 #[.agg #[.int .i64 1, .int .i64 r, .int .i64 s, .int .i64 t, .int .i64 k, .int .i64 a, .int .i64 b, .int .i64 n, .int .i64 p, .int .i64 q, .int .i64 i1, .int .i64 i2, .int .i64 k1, .int .i64 k2, .int .i64 ko, .bool ku, .int .i64 now]] w fun e w' => e = .returned (.tuple #[.agg (rec17 1 r s t k a b n p q 0 0 0 0 0 false 0).toArray, .bool (decide (chkChg r s t k a b p q = 0))]) ∧ Below w.heap.size w w' := by
  have A1 := Blk.new w #[.int .i64 1, .int .i64 r, .int .i64 s, .int .i64 t, .int .i64 k, .int .i64 a, .int .i64 b, .int .i64 n, .int .i64 p, .int .i64 q, .int .i64 i1, .int .i64 i2, .int .i64 k1, .int .i64 k2, .int .i64 ko, .bool ku, .int .i64 now] 31
  have hz1 : (w.alloc (.cells #[.int .i64 1, .int .i64 r, .int .i64 s, .int .i64 t, .int .i64 k, .int .i64 a, .int .i64 b, .int .i64 n, .int .i64 p, .int .i64 q, .int .i64 i1, .int .i64 i2, .int .i64 k1, .int .i64 k2, .int .i64 ko, .bool ku, .int .i64 now] 31)).heap.size = w.heap.size + 1 := by simp
  have AC : Blk ((w.alloc (.cells #[.int .i64 1, .int .i64 r, .int .i64 s, .int .i64 t, .int .i64 k, .int .i64 a, .int .i64 b, .int .i64 n, .int .i64 p, .int .i64 q, .int .i64 i1, .int .i64 i2, .int .i64 k1, .int .i64 k2, .int .i64 ko, .bool ku, .int .i64 now] 31)).alloc (.cells #[.int .i64 0, .int .i64 0, .int .i64 0, .int .i64 0, .int .i64 0, .int .i64 0, .int .i64 0, .int .i64 0, .int .i64 0, .int .i64 0, .int .i64 0, .int .i64 0, .int .i64 0, .int .i64 0, .int .i64 0, .bool false, .int .i64 0] 31)) (w.heap.size + 1) [.int .i64 0, .int .i64 0, .int .i64 0, .int .i64 0, .int .i64 0, .int .i64 0, .int .i64 0, .int .i64 0, .int .i64 0, .int .i64 0, .int .i64 0, .int .i64 0, .int .i64 0, .int .i64 0, .int .i64 0, .bool false, .int .i64 0] 31 := hz1 ▸ Blk.new (w.alloc (.cells #[.int .i64 1, .int .i64 r, .int .i64 s, .int .i64 t, .int .i64 k, .int .i64 a, .int .i64 b, .int .i64 n, .int .i64 p, .int .i64 q, .int .i64 i1, .int .i64 i2, .int .i64 k1, .int .i64 k2, .int .i64 ko, .bool ku, .int .i64 now] 31)) #[.int .i64 0, .int .i64 0, .int .i64 0, .int .i64 0, .int .i64 0, .int .i64 0, .int .i64 0, .int .i64 0, .int .i64 0, .int .i64 0, .int .i64 0, .int .i64 0, .int .i64 0, .int .i64 0, .int .i64 0, .bool false, .int .i64 0] 31
  have A : Blk ((w.alloc (.cells #[.int .i64 1, .int .i64 r, .int .i64 s, .int .i64 t, .int .i64 k, .int .i64 a, .int .i64 b, .int .i64 n, .int .i64 p, .int .i64 q, .int .i64 i1, .int .i64 i2, .int .i64 k1, .int .i64 k2, .int .i64 ko, .bool ku, .int .i64 now] 31)).alloc (.cells #[.int .i64 0, .int .i64 0, .int .i64 0, .int .i64 0, .int .i64 0, .int .i64 0, .int .i64 0, .int .i64 0, .int .i64 0, .int .i64 0, .int .i64 0, .int .i64 0, .int .i64 0, .int .i64 0, .int .i64 0, .bool false, .int .i64 0] 31)) w.heap.size [.int .i64 1, .int .i64 r, .int .i64 s, .int .i64 t, .int .i64 k, .int .i64 a, .int .i64 b, .int .i64 n, .int .i64 p, .int .i64 q, .int .i64 i1, .int .i64 i2, .int .i64 k1, .int .i64 k2, .int .i64 ko, .bool ku, .int .i64 now] 31 := (A1.alloc _)
  have HB := ((((Below.refl w.heap.size w).alloc (Nat.le_refl _) (.cells #[.int .i64 1, .int .i64 r, .int .i64 s, .int .i64 t, .int .i64 k, .int .i64 a, .int .i64 b, .int .i64 n, .int .i64 p, .int .i64 q, .int .i64 i1, .int .i64 i2, .int .i64 k1, .int .i64 k2, .int .i64 ko, .bool ku, .int .i64 now] 31)).alloc (by rw [hz1]; omega) (.cells #[.int .i64 0, .int .i64 0, .int .i64 0, .int .i64 0, .int .i64 0, .int .i64 0, .int .i64 0, .int .i64 0, .int .i64 0, .int .i64 0, .int .i64 0, .int .i64 0, .int .i64 0, .int .i64 0, .int .i64 0, .bool false, .int .i64 0] 31)))
  have HH := Lib.hid (show HoldF w [.int .i64 1, .int .i64 r, .int .i64 s, .int .i64 t, .int .i64 k, .int .i64 a, .int .i64 b, .int .i64 n, .int .i64 p, .int .i64 q, .int .i64 i1, .int .i64 i2, .int .i64 k1, .int .i64 k2, .int .i64 ko, .bool ku, .int .i64 now] ((w.alloc (.cells #[.int .i64 1, .int .i64 r, .int .i64 s, .int .i64 t, .int .i64 k, .int .i64 a, .int .i64 b, .int .i64 n, .int .i64 p, .int .i64 q, .int .i64 i1, .int .i64 i2, .int .i64 k1, .int .i64 k2, .int .i64 ko, .bool ku, .int .i64 now] 31)).alloc (.cells #[.int .i64 0, .int .i64 0, .int .i64 0, .int .i64 0, .int .i64 0, .int .i64 0, .int .i64 0, .int .i64 0, .int .i64 0, .int .i64 0, .int .i64 0, .int .i64 0, .int .i64 0, .int .i64 0, .int .i64 0, .bool false, .int .i64 0] 31)) from ⟨HB, A, _, rfl, AC⟩)
  have HV := rec17_ok 1 r s t k a b n p q 0 0 0 0 0 false 0
  clear A1 AC hz1 HB A
  go_enter Try.func25, Try.ntmps25
  go_upto_region 1 with fail
  generalize ((w.alloc (.cells #[.int .i64 1, .int .i64 r, .int .i64 s, .int .i64 t, .int .i64 k, .int .i64 a, .int .i64 b, .int .i64 n, .int .i64 p, .int .i64 q, .int .i64 i1, .int .i64 i2, .int .i64 k1, .int .i64 k2, .int .i64 ko, .bool ku, .int .i64 now] 31)).alloc (.cells #[.int .i64 0, .int .i64 0, .int .i64 0, .int .i64 0, .int .i64 0, .int .i64 0, .int .i64 0, .int .i64 0, .int .i64 0, .int .i64 0, .int .i64 0, .int .i64 0, .int .i64 0, .int .i64 0, .int .i64 0, .bool false, .int .i64 0] 31)) = W at *
  have c0 : W.cell? ⟨w.heap.size, 0, none⟩ = some (.int .i64 1) := HH.out.2.1.cell 0
  go_upto_region 3 with fail
  refine held_begin (fun w' => HoldF w [.int .i64 1, .int .i64 r, .int .i64 s, .int .i64 t, .int .i64 k, .int .i64 a, .int .i64 b, .int .i64 n, .int .i64 p, .int .i64 q, .int .i64 i1, .int .i64 i2, .int .i64 k1, .int .i64 k2, .int .i64 ko, .bool ku, .int .i64 now] w') 9 [false, false, false, false, false, false, false, false, false] (by kernel_rfl) rfl (by rfl) ?_
  have hHeld : HoldF w [.int .i64 1, .int .i64 r, .int .i64 s, .int .i64 t, .int .i64 k, .int .i64 a, .int .i64 b, .int .i64 n, .int .i64 p, .int .i64 q, .int .i64 i1, .int .i64 i2, .int .i64 k1, .int .i64 k2, .int .i64 ko, .bool ku, .int .i64 now] W.drew := HH.out.drew
  refine held_take (v := ?_) 0 8 [true, false, false, false, false, false, false, false, false] rfl (by rfl) (by rfl) (by kernel_rfl) (by kernel_rfl) (by kernel_rfl) (by rfl) (fun _ _ _ h => h) ?_ hHeld ?_
  rotate_left
  · intro w hSw; go_simp <;> with_reducible rfl
  simp only [Act.put, List.setIfInBounds_toArray, List.set_cons_zero, List.set_cons_succ]
  refine held_take 1 9 [true, true, false, false, false, false, false, false, false] rfl (by rfl) (by rfl) (by kernel_rfl) (by kernel_rfl) (by kernel_rfl) (by rfl) (fun _ _ _ h => h) (fun w' h => run_op_load rfl rfl (h.2.1.range 1 [.int .i64 r, .int .i64 s, .int .i64 t, .int .i64 k, .int .i64 a, .int .i64 b, .int .i64 n, .int .i64 p, .int .i64 q] rfl) Try.underlying27 rfl (by kernel_rfl)) hHeld ?_
  simp only [Act.put, List.setIfInBounds_toArray, List.set_cons_zero, List.set_cons_succ]
  refine held_take (v := ?_) 3 11 [true, true, false, true, false, false, false, false, false] rfl (by rfl) (by rfl) (by kernel_rfl) (by kernel_rfl) (by kernel_rfl) (by rfl) (fun _ _ _ h => h) ?_ hHeld ?_
  rotate_left
  · intro w hSw; go_simp <;> with_reducible rfl
  simp only [Act.put, List.setIfInBounds_toArray, List.set_cons_zero, List.set_cons_succ]
  refine held_take 4 12 [true, true, false, true, true, false, false, false, false] rfl (by rfl) (by rfl) (by kernel_rfl) (by kernel_rfl) (by kernel_rfl) (by rfl) (fun _ _ _ h => h) (fun w' h => run_op_load rfl rfl (h.2.1.range 1 [.int .i64 r, .int .i64 s, .int .i64 t, .int .i64 k, .int .i64 a, .int .i64 b, .int .i64 n, .int .i64 p, .int .i64 q] rfl) Try.underlying27 rfl (by kernel_rfl)) hHeld ?_
  simp only [Act.put, List.setIfInBounds_toArray, List.set_cons_zero, List.set_cons_succ]
  refine held_call 2 10 [true, true, true, true, true, false, false, false, false] (by kernel_rfl) rfl (by rfl) (by rfl) (by rfl) (by go_simp) ((mkC_any r s t k a b n p q _).mono ?_)
  rintro e w1 ⟨rfl, hb1⟩
  refine ⟨_, rfl, hHeld.keep hb1, fun hHeld => ?_⟩
  simp only [Act.put, List.setIfInBounds_toArray, List.set_cons_zero, List.set_cons_succ]
  refine held_call 5 13 [true, true, true, true, true, true, false, false, false] (by kernel_rfl) rfl (by rfl) (by rfl) (by rfl) (by go_simp) ((chk_any r s t k a b n p q _).mono ?_)
  rintro e w2 ⟨rfl, hb2⟩
  refine ⟨_, rfl, hHeld.keep hb2, fun hHeld => ?_⟩
  simp only [Act.put, List.setIfInBounds_toArray, List.set_cons_zero, List.set_cons_succ]
  refine held_take (v := ?_) 6 14 [true, true, true, true, true, true, true, false, false] rfl (by rfl) (by rfl) (by kernel_rfl) (by kernel_rfl) (by kernel_rfl) (by rfl) (fun _ _ _ h => h) ?_ hHeld ?_
  rotate_left
  · intro w hSw; go_simp <;> with_reducible rfl
  simp only [Act.put, List.setIfInBounds_toArray, List.set_cons_zero, List.set_cons_succ]
  refine held_one 7 (by kernel_rfl) ?_
  obtain ⟨h1, h2, old, hlo, h3⟩ := id hHeld
  refine op_skip [true, true, true, true, true, true, true, true, false] rfl (by rfl) (by rfl) (by rfl) (rc_st_run rfl rfl rfl h3 hlo HV) (hHeld.store HV.out.1) fun hHeld => ?_
  refine held_take (v := ?_) 8 3 [true, true, true, true, true, true, true, true, true] rfl (by rfl) (by rfl) (by kernel_rfl) (by kernel_rfl) (by kernel_rfl) (by rfl) (fun _ _ _ h => h) ?_ hHeld ?_
  rotate_left
  · intro w hSw; go_simp <;> with_reducible rfl
  simp only [Act.put, List.setIfInBounds_toArray, List.set_cons_zero, List.set_cons_succ]
  refine held_done (by kernel_rfl) ?_
  have C5 := h3.setAll (rec17 1 r s t k a b n p q 0 0 0 0 0 false 0) (by rw [hlo]; rfl)
  have HBZ := hHeld.1
  clear hHeld h1 h2 h3 hlo HH c0
  generalize w2.setCells (w.heap.size + 1) 0 (rec17 1 r s t k a b n p q 0 0 0 0 0 false 0) = WW at *
  go_wp2_with fail
  refine ret_cell_tmp (p := 2) (q := 3) rfl rfl rfl C5 Try.underlying31 rfl (by rw [rc_size]; rfl) rfl ⟨rfl, HBZ⟩
set_option maxRecDepth 100000 in
set_option maxHeartbeats 8000000 in
theorem fieldsA_any (r s t k a b n p q i1 i2 k1 k2 ko : Int) (ku : Bool) (now : Int) (w : World) : Calls Try.prog 25 #[.agg #[.int .i64 4, .int .i64 r, .int .i64 s, .int .i64 t, .int .i64 k, .int .i64 a, .int .i64 b, .int .i64 n, .int .i64 p, .int .i64 q, .int .i64 i1, .int .i64 i2, .int .i64 k1, .int .i64 k2, .int .i64 ko, .bool ku, .int .i64 now]] w fun e w' => e = .returned (.tuple #[.agg (rec17 4 0 0 0 0 0 0 0 0 0 0 0 k1 k2 ko ku 0).toArray, .bool (mayKey k1 k2 ko)]) ∧ Below w.heap.size w w' := by
  have A1 := Blk.new w #[.int .i64 4, .int .i64 r, .int .i64 s, .int .i64 t, .int .i64 k, .int .i64 a, .int .i64 b, .int .i64 n, .int .i64 p, .int .i64 q, .int .i64 i1, .int .i64 i2, .int .i64 k1, .int .i64 k2, .int .i64 ko, .bool ku, .int .i64 now] 31
  have hz1 : (w.alloc (.cells #[.int .i64 4, .int .i64 r, .int .i64 s, .int .i64 t, .int .i64 k, .int .i64 a, .int .i64 b, .int .i64 n, .int .i64 p, .int .i64 q, .int .i64 i1, .int .i64 i2, .int .i64 k1, .int .i64 k2, .int .i64 ko, .bool ku, .int .i64 now] 31)).heap.size = w.heap.size + 1 := by simp
  have AC : Blk ((w.alloc (.cells #[.int .i64 4, .int .i64 r, .int .i64 s, .int .i64 t, .int .i64 k, .int .i64 a, .int .i64 b, .int .i64 n, .int .i64 p, .int .i64 q, .int .i64 i1, .int .i64 i2, .int .i64 k1, .int .i64 k2, .int .i64 ko, .bool ku, .int .i64 now] 31)).alloc (.cells #[.int .i64 0, .int .i64 0, .int .i64 0, .int .i64 0, .int .i64 0, .int .i64 0, .int .i64 0, .int .i64 0, .int .i64 0, .int .i64 0, .int .i64 0, .int .i64 0, .int .i64 0, .int .i64 0, .int .i64 0, .bool false, .int .i64 0] 31)) (w.heap.size + 1) [.int .i64 0, .int .i64 0, .int .i64 0, .int .i64 0, .int .i64 0, .int .i64 0, .int .i64 0, .int .i64 0, .int .i64 0, .int .i64 0, .int .i64 0, .int .i64 0, .int .i64 0, .int .i64 0, .int .i64 0, .bool false, .int .i64 0] 31 := hz1 ▸ Blk.new (w.alloc (.cells #[.int .i64 4, .int .i64 r, .int .i64 s, .int .i64 t, .int .i64 k, .int .i64 a, .int .i64 b, .int .i64 n, .int .i64 p, .int .i64 q, .int .i64 i1, .int .i64 i2, .int .i64 k1, .int .i64 k2, .int .i64 ko, .bool ku, .int .i64 now] 31)) #[.int .i64 0, .int .i64 0, .int .i64 0, .int .i64 0, .int .i64 0, .int .i64 0, .int .i64 0, .int .i64 0, .int .i64 0, .int .i64 0, .int .i64 0, .int .i64 0, .int .i64 0, .int .i64 0, .int .i64 0, .bool false, .int .i64 0] 31
  have A : Blk ((w.alloc (.cells #[.int .i64 4, .int .i64 r, .int .i64 s, .int .i64 t, .int .i64 k, .int .i64 a, .int .i64 b, .int .i64 n, .int .i64 p, .int .i64 q, .int .i64 i1, .int .i64 i2, .int .i64 k1, .int .i64 k2, .int .i64 ko, .bool ku, .int .i64 now] 31)).alloc (.cells #[.int .i64 0, .int .i64 0, .int .i64 0, .int .i64 0, .int .i64 0, .int .i64 0, .int .i64 0, .int .i64 0, .int .i64 0, .int .i64 0, .int .i64 0, .int .i64 0, .int .i64 0, .int .i64 0, .int .i64 0, .bool false, .int .i64 0] 31)) w.heap.size [.int .i64 4, .int .i64 r, .int .i64 s, .int .i64 t, .int .i64 k, .int .i64 a, .int .i64 b, .int .i64 n, .int .i64 p, .int .i64 q, .int .i64 i1, .int .i64 i2, .int .i64 k1, .int .i64 k2, .int .i64 ko, .bool ku, .int .i64 now] 31 := (A1.alloc _)
  have HB := ((((Below.refl w.heap.size w).alloc (Nat.le_refl _) (.cells #[.int .i64 4, .int .i64 r, .int .i64 s, .int .i64 t, .int .i64 k, .int .i64 a, .int .i64 b, .int .i64 n, .int .i64 p, .int .i64 q, .int .i64 i1, .int .i64 i2, .int .i64 k1, .int .i64 k2, .int .i64 ko, .bool ku, .int .i64 now] 31)).alloc (by rw [hz1]; omega) (.cells #[.int .i64 0, .int .i64 0, .int .i64 0, .int .i64 0, .int .i64 0, .int .i64 0, .int .i64 0, .int .i64 0, .int .i64 0, .int .i64 0, .int .i64 0, .int .i64 0, .int .i64 0, .int .i64 0, .int .i64 0, .bool false, .int .i64 0] 31)))
  have HH := Lib.hid (show HoldF w [.int .i64 4, .int .i64 r, .int .i64 s, .int .i64 t, .int .i64 k, .int .i64 a, .int .i64 b, .int .i64 n, .int .i64 p, .int .i64 q, .int .i64 i1, .int .i64 i2, .int .i64 k1, .int .i64 k2, .int .i64 ko, .bool ku, .int .i64 now] ((w.alloc (.cells #[.int .i64 4, .int .i64 r, .int .i64 s, .int .i64 t, .int .i64 k, .int .i64 a, .int .i64 b, .int .i64 n, .int .i64 p, .int .i64 q, .int .i64 i1, .int .i64 i2, .int .i64 k1, .int .i64 k2, .int .i64 ko, .bool ku, .int .i64 now] 31)).alloc (.cells #[.int .i64 0, .int .i64 0, .int .i64 0, .int .i64 0, .int .i64 0, .int .i64 0, .int .i64 0, .int .i64 0, .int .i64 0, .int .i64 0, .int .i64 0, .int .i64 0, .int .i64 0, .int .i64 0, .int .i64 0, .bool false, .int .i64 0] 31)) from ⟨HB, A, _, rfl, AC⟩)
  have HV := rec17_ok 4 0 0 0 0 0 0 0 0 0 0 0 k1 k2 ko ku 0
  clear A1 AC hz1 HB A
  go_enter Try.func25, Try.ntmps25
  go_upto_region 1 with fail
  generalize ((w.alloc (.cells #[.int .i64 4, .int .i64 r, .int .i64 s, .int .i64 t, .int .i64 k, .int .i64 a, .int .i64 b, .int .i64 n, .int .i64 p, .int .i64 q, .int .i64 i1, .int .i64 i2, .int .i64 k1, .int .i64 k2, .int .i64 ko, .bool ku, .int .i64 now] 31)).alloc (.cells #[.int .i64 0, .int .i64 0, .int .i64 0, .int .i64 0, .int .i64 0, .int .i64 0, .int .i64 0, .int .i64 0, .int .i64 0, .int .i64 0, .int .i64 0, .int .i64 0, .int .i64 0, .int .i64 0, .int .i64 0, .bool false, .int .i64 0] 31)) = W at *
  have c0 : W.cell? ⟨w.heap.size, 0, none⟩ = some (.int .i64 4) := HH.out.2.1.cell 0
  go_upto_region 9 with fail
  refine held_begin (fun w' => HoldF w [.int .i64 4, .int .i64 r, .int .i64 s, .int .i64 t, .int .i64 k, .int .i64 a, .int .i64 b, .int .i64 n, .int .i64 p, .int .i64 q, .int .i64 i1, .int .i64 i2, .int .i64 k1, .int .i64 k2, .int .i64 ko, .bool ku, .int .i64 now] w') 8 [false, false, false, false, false, false, false, false] (by kernel_rfl) rfl (by rfl) ?_
  have hHeld : HoldF w [.int .i64 4, .int .i64 r, .int .i64 s, .int .i64 t, .int .i64 k, .int .i64 a, .int .i64 b, .int .i64 n, .int .i64 p, .int .i64 q, .int .i64 i1, .int .i64 i2, .int .i64 k1, .int .i64 k2, .int .i64 ko, .bool ku, .int .i64 now] W.drew := HH.out.drew
  refine held_take (v := ?_) 0 40 [true, false, false, false, false, false, false, false] rfl (by rfl) (by rfl) (by kernel_rfl) (by kernel_rfl) (by kernel_rfl) (by rfl) (fun _ _ _ h => h) ?_ hHeld ?_
  rotate_left
  · intro w hSw; go_simp <;> with_reducible rfl
  simp only [Act.put, List.setIfInBounds_toArray, List.set_cons_zero, List.set_cons_succ]
  refine held_take 1 41 [true, true, false, false, false, false, false, false] rfl (by rfl) (by rfl) (by kernel_rfl) (by kernel_rfl) (by kernel_rfl) (by rfl) (fun _ _ _ h => h) (fun w' h => run_op_load rfl rfl (h.2.1.range 12 [.int .i64 k1, .int .i64 k2, .int .i64 ko, .bool ku] rfl) Try.underlying29 rfl (by kernel_rfl)) hHeld ?_
  simp only [Act.put, List.setIfInBounds_toArray, List.set_cons_zero, List.set_cons_succ]
  refine held_take (v := ?_) 3 43 [true, true, false, true, false, false, false, false] rfl (by rfl) (by rfl) (by kernel_rfl) (by kernel_rfl) (by kernel_rfl) (by rfl) (fun _ _ _ h => h) ?_ hHeld ?_
  rotate_left
  · intro w hSw; go_simp <;> with_reducible rfl
  simp only [Act.put, List.setIfInBounds_toArray, List.set_cons_zero, List.set_cons_succ]
  refine held_take 4 44 [true, true, false, true, true, false, false, false] rfl (by rfl) (by rfl) (by kernel_rfl) (by kernel_rfl) (by kernel_rfl) (by rfl) (fun _ _ _ h => h) (fun w' h => run_op_load rfl rfl (h.2.1.range 12 [.int .i64 k1, .int .i64 k2, .int .i64 ko, .bool ku] rfl) Try.underlying29 rfl (by kernel_rfl)) hHeld ?_
  simp only [Act.put, List.setIfInBounds_toArray, List.set_cons_zero, List.set_cons_succ]
  refine held_call 2 42 [true, true, true, true, true, false, false, false] (by kernel_rfl) rfl (by rfl) (by rfl) (by rfl) (by go_simp) ((mkA_any k1 k2 ko ku _).mono ?_)
  rintro e w1 ⟨rfl, hb1⟩
  refine ⟨_, rfl, hHeld.keep hb1, fun hHeld => ?_⟩
  simp only [Act.put, List.setIfInBounds_toArray, List.set_cons_zero, List.set_cons_succ]
  refine held_call 5 45 [true, true, true, true, true, true, false, false] (by kernel_rfl) rfl (by rfl) (by rfl) (by rfl) (by go_simp) ((maykey_any k1 k2 ko ku _).mono ?_)
  rintro e w2 ⟨rfl, hb2⟩
  refine ⟨_, rfl, hHeld.keep hb2, fun hHeld => ?_⟩
  simp only [Act.put, List.setIfInBounds_toArray, List.set_cons_zero, List.set_cons_succ]
  refine held_one 6 (by kernel_rfl) ?_
  obtain ⟨h1, h2, old, hlo, h3⟩ := id hHeld
  refine op_skip [true, true, true, true, true, true, true, false] rfl (by rfl) (by rfl) (by rfl) (rc_st_run rfl rfl rfl h3 hlo HV) (hHeld.store HV.out.1) fun hHeld => ?_
  refine held_take (v := ?_) 7 3 [true, true, true, true, true, true, true, true] rfl (by rfl) (by rfl) (by kernel_rfl) (by kernel_rfl) (by kernel_rfl) (by rfl) (fun _ _ _ h => h) ?_ hHeld ?_
  rotate_left
  · intro w hSw; go_simp <;> with_reducible rfl
  simp only [Act.put, List.setIfInBounds_toArray, List.set_cons_zero, List.set_cons_succ]
  refine held_done (by kernel_rfl) ?_
  have C5 := h3.setAll (rec17 4 0 0 0 0 0 0 0 0 0 0 0 k1 k2 ko ku 0) (by rw [hlo]; rfl)
  have HBZ := hHeld.1
  clear hHeld h1 h2 h3 hlo HH c0
  generalize w2.setCells (w.heap.size + 1) 0 (rec17 4 0 0 0 0 0 0 0 0 0 0 0 k1 k2 ko ku 0) = WW at *
  go_wp2_with fail
  refine ret_cell_tmp (p := 2) (q := 3) rfl rfl rfl C5 Try.underlying31 rfl (by rw [rc_size]; rfl) rfl ⟨rfl, HBZ⟩
end Go.Proofs.Ytfffbhkenggdcaa
