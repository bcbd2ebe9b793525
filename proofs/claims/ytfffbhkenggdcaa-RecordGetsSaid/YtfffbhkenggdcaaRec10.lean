/- The fields of a record of a request that will be sent. -/
import Derived.Test.YtfffbhkenggdcaaRec9
import Derived.Test.YtfffbhkenggdcaaRec4
import Derived.Test.YtfffbhkenggdcaaRow
import Derived.Test.YtfffbhkenggdcaaOps
import Derived.Test.YtfffbhkenggdcaaEq
import Derived.Test.YtfffbhkenggdcaaChgOps
import Derived.RegionTactic
import Derived.BigRegion
import Derived.ChangeAlike
namespace Go.Proofs.Ytfffbhkenggdcaa
set_option linter.unusedVariables false
set_option linter.unusedSimpArgs false
open Go.ChangeShapes Go.WideShapes Go.ChangeAt Go.RowKit
section
variable {P : Program} {ops : Array Oper} {Q : Exit → Act → World → Prop} {md : Region.Mode} {S : World → Prop}
/-- an operation whose guard says no. -/
theorem held_drop (i d : Nat) (l' : List Bool) {l : List Bool} {oi : Oper} {fuel : Nat} {a : Act} {w : World} (hi : ops[i]? = some oi) (hd : oi.dst = some d) (hl : l.set i true = l')
    (hs : Region.noSelect ops = true) (hf : Region.free md ops l.toArray i = true) (hr : (Region.ready md ops l.toArray).contains i = true)
    (hw : Region.wanted oi (yielded ops a.tmps) = false)
    (hQ : ∀ c a w, Q (.panic c) (a.put oi.dst undef) w → Q (.panic c) a w) (hS : S w)
    (h : wpAnyH P md ops Q S fuel l'.toArray (a.put (some d) undef) w) : wpAnyH P md ops Q S (fuel + 1) l.toArray a w :=
  wpAnyH_take hi hs hf hr hQ (Or.inr ⟨hw, rfl⟩) hS (by rw [List.setIfInBounds_toArray, hl, hd]; exact h)
end
set_option maxRecDepth 100000 in
set_option maxHeartbeats 8000000 in
theorem fieldsT_yes (r s t k a b n p q i1 i2 k1 k2 ko : Int) (ku : Bool) (now : Int) (w : World) (hk : mayKey k1 k2 ko = true) : Calls Try.prog 25 #[.agg #[.int .i64 3, .int .i64 r, .int .i64 s, .int .i64 t, .int .i64 k, .int .i64 a, .int .i64 b, .int .i64 n, .int .i64 p, .int .i64 q, .int .i64 i1, .int .i64 i2, .int .i64 k1, .int .i64 k2, .int .i64 ko, .bool ku, .int .i64 now]] w fun e w' => e = .returned (.tuple #[.agg (rec17 3 0 0 0 0 0 0 0 0 0 0 0 k1 k2 ko ku now).toArray, .bool (inB now 0 1073741824)]) ∧ Below w.heap.size w w' := by
  have A1 := Blk.new w #[.int .i64 3, .int .i64 r, .int .i64 s, .int .i64 t, .int .i64 k, .int .i64 a, .int .i64 b, .int .i64 n, .int .i64 p, .int .i64 q, .int .i64 i1, .int .i64 i2, .int .i64 k1, .int .i64 k2, .int .i64 ko, .bool ku, .int .i64 now] 31
  have hz1 : (w.alloc (.cells #[.int .i64 3, .int .i64 r, .int .i64 s, .int .i64 t, .int .i64 k, .int .i64 a, .int .i64 b, .int .i64 n, .int .i64 p, .int .i64 q, .int .i64 i1, .int .i64 i2, .int .i64 k1, .int .i64 k2, .int .i64 ko, .bool ku, .int .i64 now] 31)).heap.size = w.heap.size + 1 := by simp
  have AC : Blk ((w.alloc (.cells #[.int .i64 3, .int .i64 r, .int .i64 s, .int .i64 t, .int .i64 k, .int .i64 a, .int .i64 b, .int .i64 n, .int .i64 p, .int .i64 q, .int .i64 i1, .int .i64 i2, .int .i64 k1, .int .i64 k2, .int .i64 ko, .bool ku, .int .i64 now] 31)).alloc (.cells #[.int .i64 0, .int .i64 0, .int .i64 0, .int .i64 0, .int .i64 0, .int .i64 0, .int .i64 0, .int .i64 0, .int .i64 0, .int .i64 0, .int .i64 0, .int .i64 0, .int .i64 0, .int .i64 0, .int .i64 0, .bool false, .int .i64 0] 31)) (w.heap.size + 1) [.int .i64 0, .int .i64 0, .int .i64 0, .int .i64 0, .int .i64 0, .int .i64 0, .int .i64 0, .int .i64 0, .int .i64 0, .int .i64 0, .int .i64 0, .int .i64 0, .int .i64 0, .int .i64 0, .int .i64 0, .bool false, .int .i64 0] 31 := hz1 ▸ Blk.new (w.alloc (.cells #[.int .i64 3, .int .i64 r, .int .i64 s, .int .i64 t, .int .i64 k, .int .i64 a, .int .i64 b, .int .i64 n, .int .i64 p, .int .i64 q, .int .i64 i1, .int .i64 i2, .int .i64 k1, .int .i64 k2, .int .i64 ko, .bool ku, .int .i64 now] 31)) #[.int .i64 0, .int .i64 0, .int .i64 0, .int .i64 0, .int .i64 0, .int .i64 0, .int .i64 0, .int .i64 0, .int .i64 0, .int .i64 0, .int .i64 0, .int .i64 0, .int .i64 0, .int .i64 0, .int .i64 0, .bool false, .int .i64 0] 31
  have A : Blk ((w.alloc (.cells #[.int .i64 3, .int .i64 r, .int .i64 s, .int .i64 t, .int .i64 k, .int .i64 a, .int .i64 b, .int .i64 n, .int .i64 p, .int .i64 q, .int .i64 i1, .int .i64 i2, .int .i64 k1, .int .i64 k2, .int .i64 ko, .bool ku, .int .i64 now] 31)).alloc (.cells #[.int .i64 0, .int .i64 0, .int .i64 0, .int .i64 0, .int .i64 0, .int .i64 0, .int .i64 0, .int .i64 0, .int .i64 0, .int .i64 0, .int .i64 0, .int .i64 0, .int .i64 0, .int .i64 0, .int .i64 0, .bool false, .int .i64 0] 31)) w.heap.size [.int .i64 3, .int .i64 r, .int .i64 s, .int .i64 t, .int .i64 k, .int .i64 a, .int .i64 b, .int .i64 n, .int .i64 p, .int .i64 q, .int .i64 i1, .int .i64 i2, .int .i64 k1, .int .i64 k2, .int .i64 ko, .bool ku, .int .i64 now] 31 := (A1.alloc _)
  have HB := ((((Below.refl w.heap.size w).alloc (Nat.le_refl _) (.cells #[.int .i64 3, .int .i64 r, .int .i64 s, .int .i64 t, .int .i64 k, .int .i64 a, .int .i64 b, .int .i64 n, .int .i64 p, .int .i64 q, .int .i64 i1, .int .i64 i2, .int .i64 k1, .int .i64 k2, .int .i64 ko, .bool ku, .int .i64 now] 31)).alloc (by rw [hz1]; omega) (.cells #[.int .i64 0, .int .i64 0, .int .i64 0, .int .i64 0, .int .i64 0, .int .i64 0, .int .i64 0, .int .i64 0, .int .i64 0, .int .i64 0, .int .i64 0, .int .i64 0, .int .i64 0, .int .i64 0, .int .i64 0, .bool false, .int .i64 0] 31)))
  have HH := Lib.hid (show HoldF w [.int .i64 3, .int .i64 r, .int .i64 s, .int .i64 t, .int .i64 k, .int .i64 a, .int .i64 b, .int .i64 n, .int .i64 p, .int .i64 q, .int .i64 i1, .int .i64 i2, .int .i64 k1, .int .i64 k2, .int .i64 ko, .bool ku, .int .i64 now] ((w.alloc (.cells #[.int .i64 3, .int .i64 r, .int .i64 s, .int .i64 t, .int .i64 k, .int .i64 a, .int .i64 b, .int .i64 n, .int .i64 p, .int .i64 q, .int .i64 i1, .int .i64 i2, .int .i64 k1, .int .i64 k2, .int .i64 ko, .bool ku, .int .i64 now] 31)).alloc (.cells #[.int .i64 0, .int .i64 0, .int .i64 0, .int .i64 0, .int .i64 0, .int .i64 0, .int .i64 0, .int .i64 0, .int .i64 0, .int .i64 0, .int .i64 0, .int .i64 0, .int .i64 0, .int .i64 0, .int .i64 0, .bool false, .int .i64 0] 31)) from ⟨HB, A, _, rfl, AC⟩)
  have HV := rec17_ok 3 0 0 0 0 0 0 0 0 0 0 0 k1 k2 ko ku now
  have MK : Hid (∀ w, Calls Try.prog 40 #[.agg #[.int .i64 k1, .int .i64 k2, .int .i64 ko, .bool ku]] w fun e w' => e = .returned (.bool true) ∧ Below w.heap.size w w') := Lib.hid (fun w => hk ▸ maykey_any k1 k2 ko ku w)
  clear hk
  clear A1 AC hz1 HB A
  go_enter Try.func25, Try.ntmps25
  go_upto_region 1 with fail
  generalize ((w.alloc (.cells #[.int .i64 3, .int .i64 r, .int .i64 s, .int .i64 t, .int .i64 k, .int .i64 a, .int .i64 b, .int .i64 n, .int .i64 p, .int .i64 q, .int .i64 i1, .int .i64 i2, .int .i64 k1, .int .i64 k2, .int .i64 ko, .bool ku, .int .i64 now] 31)).alloc (.cells #[.int .i64 0, .int .i64 0, .int .i64 0, .int .i64 0, .int .i64 0, .int .i64 0, .int .i64 0, .int .i64 0, .int .i64 0, .int .i64 0, .int .i64 0, .int .i64 0, .int .i64 0, .int .i64 0, .int .i64 0, .bool false, .int .i64 0] 31)) = W at *
  have c0 : W.cell? ⟨w.heap.size, 0, none⟩ = some (.int .i64 3) := HH.out.2.1.cell 0
  go_upto_region 7 with fail
  refine held_begin (fun w' => HoldF w [.int .i64 3, .int .i64 r, .int .i64 s, .int .i64 t, .int .i64 k, .int .i64 a, .int .i64 b, .int .i64 n, .int .i64 p, .int .i64 q, .int .i64 i1, .int .i64 i2, .int .i64 k1, .int .i64 k2, .int .i64 ko, .bool ku, .int .i64 now] w') 15 [false, false, false, false, false, false, false, false, false, false, false, false, false, false, false] (by kernel_rfl) rfl (by rfl) ?_
  have hHeld : HoldF w [.int .i64 3, .int .i64 r, .int .i64 s, .int .i64 t, .int .i64 k, .int .i64 a, .int .i64 b, .int .i64 n, .int .i64 p, .int .i64 q, .int .i64 i1, .int .i64 i2, .int .i64 k1, .int .i64 k2, .int .i64 ko, .bool ku, .int .i64 now] W.drew := HH.out.drew
  refine held_take (v := ?_) 0 25 [true, false, false, false, false, false, false, false, false, false, false, false, false, false, false] rfl (by rfl) (by rfl) (by kernel_rfl) (by kernel_rfl) (by kernel_rfl) (by rfl) (fun _ _ _ h => h) ?_ hHeld ?_
  rotate_left
  · intro w hSw; go_simp <;> with_reducible rfl
  simp only [Act.put, List.setIfInBounds_toArray, List.set_cons_zero, List.set_cons_succ]
  refine held_take 1 26 [true, true, false, false, false, false, false, false, false, false, false, false, false, false, false] rfl (by rfl) (by rfl) (by kernel_rfl) (by kernel_rfl) (by kernel_rfl) (by rfl) (fun _ _ _ h => h) (fun w' h => run_op_load rfl rfl (h.2.1.range 12 [.int .i64 k1, .int .i64 k2, .int .i64 ko, .bool ku] rfl) Try.underlying29 rfl (by kernel_rfl)) hHeld ?_
  simp only [Act.put, List.setIfInBounds_toArray, List.set_cons_zero, List.set_cons_succ]
  refine held_take (v := ?_) 2 27 [true, true, true, false, false, false, false, false, false, false, false, false, false, false, false] rfl (by rfl) (by rfl) (by kernel_rfl) (by kernel_rfl) (by kernel_rfl) (by rfl) (fun _ _ _ h => h) ?_ hHeld ?_
  rotate_left
  · intro w hSw; go_simp <;> with_reducible rfl
  simp only [Act.put, List.setIfInBounds_toArray, List.set_cons_zero, List.set_cons_succ]
  refine held_take (v := .int .i64 now) 3 28 [true, true, true, true, false, false, false, false, false, false, false, false, false, false, false] rfl (by rfl) (by rfl) (by kernel_rfl) (by kernel_rfl) (by kernel_rfl) (by rfl) (fun _ _ _ h => h) (fun w' h => run_op_one rfl rfl Try.underlying3 rfl (h.2.1.cell 16)) hHeld ?_
  simp only [Act.put, List.setIfInBounds_toArray, List.set_cons_zero, List.set_cons_succ]
  refine held_take (v := ?_) 5 30 [true, true, true, true, false, true, false, false, false, false, false, false, false, false, false] rfl (by rfl) (by rfl) (by kernel_rfl) (by kernel_rfl) (by kernel_rfl) (by rfl) (fun _ _ _ h => h) ?_ hHeld ?_
  rotate_left
  · intro w hSw; go_simp <;> with_reducible rfl
  simp only [Act.put, List.setIfInBounds_toArray, List.set_cons_zero, List.set_cons_succ]
  refine held_take 6 31 [true, true, true, true, false, true, true, false, false, false, false, false, false, false, false] rfl (by rfl) (by rfl) (by kernel_rfl) (by kernel_rfl) (by kernel_rfl) (by rfl) (fun _ _ _ h => h) (fun w' h => run_op_load rfl rfl (h.2.1.range 12 [.int .i64 k1, .int .i64 k2, .int .i64 ko, .bool ku] rfl) Try.underlying29 rfl (by kernel_rfl)) hHeld ?_
  simp only [Act.put, List.setIfInBounds_toArray, List.set_cons_zero, List.set_cons_succ]
  refine held_call 4 29 [true, true, true, true, true, true, true, false, false, false, false, false, false, false, false] (by kernel_rfl) rfl (by rfl) (by rfl) (by rfl) (by go_simp) ((mkT_any k1 k2 ko ku now _).mono ?_)
  rintro e w1 ⟨rfl, hb1⟩
  refine ⟨_, rfl, hHeld.keep hb1, fun hHeld => ?_⟩
  simp only [Act.put, List.setIfInBounds_toArray, List.set_cons_zero, List.set_cons_succ]
  refine held_call 7 32 [true, true, true, true, true, true, true, true, false, false, false, false, false, false, false] (by kernel_rfl) rfl (by rfl) (by rfl) (by rfl) (by go_simp) ((MK.out _).mono ?_)
  rintro e w2 ⟨rfl, hb2⟩
  refine ⟨_, rfl, hHeld.keep hb2, fun hHeld => ?_⟩
  simp only [Act.put, List.setIfInBounds_toArray, List.set_cons_zero, List.set_cons_succ]
  refine held_take (v := ?_) 8 33 [true, true, true, true, true, true, true, true, true, false, false, false, false, false, false] rfl (by rfl) (by rfl) (by kernel_rfl) (by kernel_rfl) (by kernel_rfl) (by rfl) (fun _ _ _ h => h) ?_ hHeld ?_
  rotate_left
  · intro w hSw; go_simp <;> with_reducible rfl
  simp only [Act.put, List.setIfInBounds_toArray, List.set_cons_zero, List.set_cons_succ]
  refine held_take (v := ?_) 9 34 [true, true, true, true, true, true, true, true, true, true, false, false, false, false, false] rfl (by rfl) (by rfl) (by kernel_rfl) (by kernel_rfl) (by kernel_rfl) (by rfl) (fun _ _ _ h => h) ?_ hHeld ?_
  rotate_left
  · intro w hSw; go_simp <;> with_reducible rfl
  simp only [Act.put, List.setIfInBounds_toArray, List.set_cons_zero, List.set_cons_succ]
  refine held_take (v := .int .i64 now) 10 35 [true, true, true, true, true, true, true, true, true, true, true, false, false, false, false] rfl (by rfl) (by rfl) (by kernel_rfl) (by kernel_rfl) (by kernel_rfl) (by rfl) (fun _ _ _ h => h) (fun w' h => run_op_one rfl rfl Try.underlying3 rfl (h.2.1.cell 16)) hHeld ?_
  simp only [Act.put, List.setIfInBounds_toArray, List.set_cons_zero, List.set_cons_succ]
  refine held_call 11 36 [true, true, true, true, true, true, true, true, true, true, true, true, false, false, false] (by kernel_rfl) rfl (by rfl) (by rfl) (by rfl) (by go_simp) ((in_any now 0 1073741824 _).mono ?_)
  rintro e w3 ⟨rfl, rfl⟩
  refine ⟨_, rfl, hHeld, fun hHeld => ?_⟩
  simp only [Act.put, List.setIfInBounds_toArray, List.set_cons_zero, List.set_cons_succ]
  refine held_take (v := ?_) 12 37 [true, true, true, true, true, true, true, true, true, true, true, true, true, false, false] rfl (by rfl) (by rfl) (by kernel_rfl) (by kernel_rfl) (by kernel_rfl) (by rfl) (fun _ _ _ h => h) ?_ hHeld ?_
  rotate_left
  · intro w hSw; go_simp <;> with_reducible rfl
  simp only [Act.put, List.setIfInBounds_toArray, List.set_cons_zero, List.set_cons_succ]
  refine held_one 13 (by kernel_rfl) ?_
  obtain ⟨h1, h2, old, hlo, h3⟩ := id hHeld
  refine op_skip [true, true, true, true, true, true, true, true, true, true, true, true, true, true, false] rfl (by rfl) (by rfl) (by rfl) (rc_st_run rfl rfl rfl h3 hlo HV) (hHeld.store HV.out.1) fun hHeld => ?_
  refine held_take (v := ?_) 14 3 [true, true, true, true, true, true, true, true, true, true, true, true, true, true, true] rfl (by rfl) (by rfl) (by kernel_rfl) (by kernel_rfl) (by kernel_rfl) (by rfl) (fun _ _ _ h => h) ?_ hHeld ?_
  rotate_left
  · intro w hSw; go_simp <;> with_reducible rfl
  simp only [Act.put, List.setIfInBounds_toArray, List.set_cons_zero, List.set_cons_succ]
  refine held_done (by kernel_rfl) ?_
  have C5 := h3.setAll (rec17 3 0 0 0 0 0 0 0 0 0 0 0 k1 k2 ko ku now) (by rw [hlo]; rfl)
  have HBZ := hHeld.1
  clear hHeld h1 h2 h3 hlo HH c0
  generalize w2.setCells (w.heap.size + 1) 0 (rec17 3 0 0 0 0 0 0 0 0 0 0 0 k1 k2 ko ku now) = WW at *
  go_wp2_with fail
  refine ret_cell_tmp (p := 2) (q := 3) rfl rfl rfl C5 Try.underlying31 rfl (by rw [rc_size]; rfl) rfl ⟨rfl, HBZ⟩
set_option maxRecDepth 100000 in
set_option maxHeartbeats 8000000 in
theorem fieldsT_no (r s t k a b n p q i1 i2 k1 k2 ko : Int) (ku : Bool) (now : Int) (w : World) (hk : mayKey k1 k2 ko = false) : Calls Try.prog 25 #[.agg #[.int .i64 3, .int .i64 r, .int .i64 s, .int .i64 t, .int .i64 k, .int .i64 a, .int .i64 b, .int .i64 n, .int .i64 p, .int .i64 q, .int .i64 i1, .int .i64 i2, .int .i64 k1, .int .i64 k2, .int .i64 ko, .bool ku, .int .i64 now]] w fun e w' => e = .returned (.tuple #[.agg (rec17 3 0 0 0 0 0 0 0 0 0 0 0 k1 k2 ko ku now).toArray, .bool false]) ∧ Below w.heap.size w w' := by
  have A1 := Blk.new w #[.int .i64 3, .int .i64 r, .int .i64 s, .int .i64 t, .int .i64 k, .int .i64 a, .int .i64 b, .int .i64 n, .int .i64 p, .int .i64 q, .int .i64 i1, .int .i64 i2, .int .i64 k1, .int .i64 k2, .int .i64 ko, .bool ku, .int .i64 now] 31
  have hz1 : (w.alloc (.cells #[.int .i64 3, .int .i64 r, .int .i64 s, .int .i64 t, .int .i64 k, .int .i64 a, .int .i64 b, .int .i64 n, .int .i64 p, .int .i64 q, .int .i64 i1, .int .i64 i2, .int .i64 k1, .int .i64 k2, .int .i64 ko, .bool ku, .int .i64 now] 31)).heap.size = w.heap.size + 1 := by simp
  have AC : Blk ((w.alloc (.cells #[.int .i64 3, .int .i64 r, .int .i64 s, .int .i64 t, .int .i64 k, .int .i64 a, .int .i64 b, .int .i64 n, .int .i64 p, .int .i64 q, .int .i64 i1, .int .i64 i2, .int .i64 k1, .int .i64 k2, .int .i64 ko, .bool ku, .int .i64 now] 31)).alloc (.cells #[.int .i64 0, .int .i64 0, .int .i64 0, .int .i64 0, .int .i64 0, .int .i64 0, .int .i64 0, .int .i64 0, .int .i64 0, .int .i64 0, .int .i64 0, .int .i64 0, .int .i64 0, .int .i64 0, .int .i64 0, .bool false, .int .i64 0] 31)) (w.heap.size + 1) [.int .i64 0, .int .i64 0, .int .i64 0, .int .i64 0, .int .i64 0, .int .i64 0, .int .i64 0, .int .i64 0, .int .i64 0, .int .i64 0, .int .i64 0, .int .i64 0, .int .i64 0, .int .i64 0, .int .i64 0, .bool false, .int .i64 0] 31 := hz1 ▸ Blk.new (w.alloc (.cells #[.int .i64 3, .int .i64 r, .int .i64 s, .int .i64 t, .int .i64 k, .int .i64 a, .int .i64 b, .int .i64 n, .int .i64 p, .int .i64 q, .int .i64 i1, .int .i64 i2, .int .i64 k1, .int .i64 k2, .int .i64 ko, .bool ku, .int .i64 now] 31)) #[.int .i64 0, .int .i64 0, .int .i64 0, .int .i64 0, .int .i64 0, .int .i64 0, .int .i64 0, .int .i64 0, .int .i64 0, .int .i64 0, .int .i64 0, .int .i64 0, .int .i64 0, .int .i64 0, .int .i64 0, .bool false, .int .i64 0] 31
  have A : Blk ((w.alloc (.cells #[.int .i64 3, .int .i64 r, .int .i64 s, .int .i64 t, .int .i64 k, .int .i64 a, .int .i64 b, .int .i64 n, .int .i64 p, .int .i64 q, .int .i64 i1, .int .i64 i2, .int .i64 k1, .int .i64 k2, .int .i64 ko, .bool ku, .int .i64 now] 31)).alloc (.cells #[.int .i64 0, .int .i64 0, .int .i64 0, .int .i64 0, .int .i64 0, .int .i64 0, .int .i64 0, .int .i64 0, .int .i64 0, .int .i64 0, .int .i64 0, .int .i64 0, .int .i64 0, .int .i64 0, .int .i64 0, .bool false, .int .i64 0] 31)) w.heap.size [.int .i64 3, .int .i64 r, .int .i64 s, .int .i64 t, .int .i64 k, .int .i64 a, .int .i64 b, .int .i64 n, .int .i64 p, .int .i64 q, .int .i64 i1, .int .i64 i2, .int .i64 k1, .int .i64 k2, .int .i64 ko, .bool ku, .int .i64 now] 31 := (A1.alloc _)
  have HB := ((((Below.refl w.heap.size w).alloc (Nat.le_refl _) (.cells #[.int .i64 3, .int .i64 r, .int .i64 s, .int .i64 t, .int .i64 k, .int .i64 a, .int .i64 b, .int .i64 n, .int .i64 p, .int .i64 q, .int .i64 i1, .int .i64 i2, .int .i64 k1, .int .i64 k2, .int .i64 ko, .bool ku, .int .i64 now] 31)).alloc (by rw [hz1]; omega) (.cells #[.int .i64 0, .int .i64 0, .int .i64 0, .int .i64 0, .int .i64 0, .int .i64 0, .int .i64 0, .int .i64 0, .int .i64 0, .int .i64 0, .int .i64 0, .int .i64 0, .int .i64 0, .int .i64 0, .int .i64 0, .bool false, .int .i64 0] 31)))
  have HH := Lib.hid (show HoldF w [.int .i64 3, .int .i64 r, .int .i64 s, .int .i64 t, .int .i64 k, .int .i64 a, .int .i64 b, .int .i64 n, .int .i64 p, .int .i64 q, .int .i64 i1, .int .i64 i2, .int .i64 k1, .int .i64 k2, .int .i64 ko, .bool ku, .int .i64 now] ((w.alloc (.cells #[.int .i64 3, .int .i64 r, .int .i64 s, .int .i64 t, .int .i64 k, .int .i64 a, .int .i64 b, .int .i64 n, .int .i64 p, .int .i64 q, .int .i64 i1, .int .i64 i2, .int .i64 k1, .int .i64 k2, .int .i64 ko, .bool ku, .int .i64 now] 31)).alloc (.cells #[.int .i64 0, .int .i64 0, .int .i64 0, .int .i64 0, .int .i64 0, .int .i64 0, .int .i64 0, .int .i64 0, .int .i64 0, .int .i64 0, .int .i64 0, .int .i64 0, .int .i64 0, .int .i64 0, .int .i64 0, .bool false, .int .i64 0] 31)) from ⟨HB, A, _, rfl, AC⟩)
  have HV := rec17_ok 3 0 0 0 0 0 0 0 0 0 0 0 k1 k2 ko ku now
  have MK : Hid (∀ w, Calls Try.prog 40 #[.agg #[.int .i64 k1, .int .i64 k2, .int .i64 ko, .bool ku]] w fun e w' => e = .returned (.bool false) ∧ Below w.heap.size w w') := Lib.hid (fun w => hk ▸ maykey_any k1 k2 ko ku w)
  clear hk
  clear A1 AC hz1 HB A
  go_enter Try.func25, Try.ntmps25
  go_upto_region 1 with fail
  generalize ((w.alloc (.cells #[.int .i64 3, .int .i64 r, .int .i64 s, .int .i64 t, .int .i64 k, .int .i64 a, .int .i64 b, .int .i64 n, .int .i64 p, .int .i64 q, .int .i64 i1, .int .i64 i2, .int .i64 k1, .int .i64 k2, .int .i64 ko, .bool ku, .int .i64 now] 31)).alloc (.cells #[.int .i64 0, .int .i64 0, .int .i64 0, .int .i64 0, .int .i64 0, .int .i64 0, .int .i64 0, .int .i64 0, .int .i64 0, .int .i64 0, .int .i64 0, .int .i64 0, .int .i64 0, .int .i64 0, .int .i64 0, .bool false, .int .i64 0] 31)) = W at *
  have c0 : W.cell? ⟨w.heap.size, 0, none⟩ = some (.int .i64 3) := HH.out.2.1.cell 0
  go_upto_region 7 with fail
  refine held_begin (fun w' => HoldF w [.int .i64 3, .int .i64 r, .int .i64 s, .int .i64 t, .int .i64 k, .int .i64 a, .int .i64 b, .int .i64 n, .int .i64 p, .int .i64 q, .int .i64 i1, .int .i64 i2, .int .i64 k1, .int .i64 k2, .int .i64 ko, .bool ku, .int .i64 now] w') 15 [false, false, false, false, false, false, false, false, false, false, false, false, false, false, false] (by kernel_rfl) rfl (by rfl) ?_
  have hHeld : HoldF w [.int .i64 3, .int .i64 r, .int .i64 s, .int .i64 t, .int .i64 k, .int .i64 a, .int .i64 b, .int .i64 n, .int .i64 p, .int .i64 q, .int .i64 i1, .int .i64 i2, .int .i64 k1, .int .i64 k2, .int .i64 ko, .bool ku, .int .i64 now] W.drew := HH.out.drew
  refine held_take (v := ?_) 0 25 [true, false, false, false, false, false, false, false, false, false, false, false, false, false, false] rfl (by rfl) (by rfl) (by kernel_rfl) (by kernel_rfl) (by kernel_rfl) (by rfl) (fun _ _ _ h => h) ?_ hHeld ?_
  rotate_left
  · intro w hSw; go_simp <;> with_reducible rfl
  simp only [Act.put, List.setIfInBounds_toArray, List.set_cons_zero, List.set_cons_succ]
  refine held_take 1 26 [true, true, false, false, false, false, false, false, false, false, false, false, false, false, false] rfl (by rfl) (by rfl) (by kernel_rfl) (by kernel_rfl) (by kernel_rfl) (by rfl) (fun _ _ _ h => h) (fun w' h => run_op_load rfl rfl (h.2.1.range 12 [.int .i64 k1, .int .i64 k2, .int .i64 ko, .bool ku] rfl) Try.underlying29 rfl (by kernel_rfl)) hHeld ?_
  simp only [Act.put, List.setIfInBounds_toArray, List.set_cons_zero, List.set_cons_succ]
  refine held_take (v := ?_) 2 27 [true, true, true, false, false, false, false, false, false, false, false, false, false, false, false] rfl (by rfl) (by rfl) (by kernel_rfl) (by kernel_rfl) (by kernel_rfl) (by rfl) (fun _ _ _ h => h) ?_ hHeld ?_
  rotate_left
  · intro w hSw; go_simp <;> with_reducible rfl
  simp only [Act.put, List.setIfInBounds_toArray, List.set_cons_zero, List.set_cons_succ]
  refine held_take (v := .int .i64 now) 3 28 [true, true, true, true, false, false, false, false, false, false, false, false, false, false, false] rfl (by rfl) (by rfl) (by kernel_rfl) (by kernel_rfl) (by kernel_rfl) (by rfl) (fun _ _ _ h => h) (fun w' h => run_op_one rfl rfl Try.underlying3 rfl (h.2.1.cell 16)) hHeld ?_
  simp only [Act.put, List.setIfInBounds_toArray, List.set_cons_zero, List.set_cons_succ]
  refine held_take (v := ?_) 5 30 [true, true, true, true, false, true, false, false, false, false, false, false, false, false, false] rfl (by rfl) (by rfl) (by kernel_rfl) (by kernel_rfl) (by kernel_rfl) (by rfl) (fun _ _ _ h => h) ?_ hHeld ?_
  rotate_left
  · intro w hSw; go_simp <;> with_reducible rfl
  simp only [Act.put, List.setIfInBounds_toArray, List.set_cons_zero, List.set_cons_succ]
  refine held_take 6 31 [true, true, true, true, false, true, true, false, false, false, false, false, false, false, false] rfl (by rfl) (by rfl) (by kernel_rfl) (by kernel_rfl) (by kernel_rfl) (by rfl) (fun _ _ _ h => h) (fun w' h => run_op_load rfl rfl (h.2.1.range 12 [.int .i64 k1, .int .i64 k2, .int .i64 ko, .bool ku] rfl) Try.underlying29 rfl (by kernel_rfl)) hHeld ?_
  simp only [Act.put, List.setIfInBounds_toArray, List.set_cons_zero, List.set_cons_succ]
  refine held_call 4 29 [true, true, true, true, true, true, true, false, false, false, false, false, false, false, false] (by kernel_rfl) rfl (by rfl) (by rfl) (by rfl) (by go_simp) ((mkT_any k1 k2 ko ku now _).mono ?_)
  rintro e w1 ⟨rfl, hb1⟩
  refine ⟨_, rfl, hHeld.keep hb1, fun hHeld => ?_⟩
  simp only [Act.put, List.setIfInBounds_toArray, List.set_cons_zero, List.set_cons_succ]
  refine held_call 7 32 [true, true, true, true, true, true, true, true, false, false, false, false, false, false, false] (by kernel_rfl) rfl (by rfl) (by rfl) (by rfl) (by go_simp) ((MK.out _).mono ?_)
  rintro e w2 ⟨rfl, hb2⟩
  refine ⟨_, rfl, hHeld.keep hb2, fun hHeld => ?_⟩
  simp only [Act.put, List.setIfInBounds_toArray, List.set_cons_zero, List.set_cons_succ]
  refine held_take (v := ?_) 8 33 [true, true, true, true, true, true, true, true, true, false, false, false, false, false, false] rfl (by rfl) (by rfl) (by kernel_rfl) (by kernel_rfl) (by kernel_rfl) (by rfl) (fun _ _ _ h => h) ?_ hHeld ?_
  rotate_left
  · intro w hSw; go_simp <;> with_reducible rfl
  simp only [Act.put, List.setIfInBounds_toArray, List.set_cons_zero, List.set_cons_succ]
  refine held_drop 9 34 [true, true, true, true, true, true, true, true, true, true, false, false, false, false, false] rfl (by rfl) (by rfl) (by kernel_rfl) (by kernel_rfl) (by kernel_rfl) (by rfl) (fun _ _ _ h => h) hHeld ?_
  simp only [Act.put, List.setIfInBounds_toArray, List.set_cons_zero, List.set_cons_succ]
  refine held_drop 10 35 [true, true, true, true, true, true, true, true, true, true, true, false, false, false, false] rfl (by rfl) (by rfl) (by kernel_rfl) (by kernel_rfl) (by kernel_rfl) (by rfl) (fun _ _ _ h => h) hHeld ?_
  simp only [Act.put, List.setIfInBounds_toArray, List.set_cons_zero, List.set_cons_succ]
  refine held_drop 11 36 [true, true, true, true, true, true, true, true, true, true, true, true, false, false, false] rfl (by rfl) (by rfl) (by kernel_rfl) (by kernel_rfl) (by kernel_rfl) (by rfl) (fun _ _ _ h => h) hHeld ?_
  simp only [Act.put, List.setIfInBounds_toArray, List.set_cons_zero, List.set_cons_succ]
  refine held_take (v := ?_) 12 37 [true, true, true, true, true, true, true, true, true, true, true, true, true, false, false] rfl (by rfl) (by rfl) (by kernel_rfl) (by kernel_rfl) (by kernel_rfl) (by rfl) (fun _ _ _ h => h) ?_ hHeld ?_
  rotate_left
  · intro w hSw; go_simp <;> with_reducible rfl
  simp only [Act.put, List.setIfInBounds_toArray, List.set_cons_zero, List.set_cons_succ]
  refine held_one 13 (by kernel_rfl) ?_
  obtain ⟨h1, h2, old, hlo, h3⟩ := id hHeld
  refine op_skip [true, true, true, true, true, true, true, true, true, true, true, true, true, true, false] rfl (by rfl) (by rfl) (by rfl) (rc_st_run rfl rfl rfl h3 hlo HV) (hHeld.store HV.out.1) fun hHeld => ?_
  refine held_take (v := ?_) 14 3 [true, true, true, true, true, true, true, true, true, true, true, true, true, true, true] rfl (by rfl) (by rfl) (by kernel_rfl) (by kernel_rfl) (by kernel_rfl) (by rfl) (fun _ _ _ h => h) ?_ hHeld ?_
  rotate_left
  · intro w hSw; go_simp <;> with_reducible rfl
  simp only [Act.put, List.setIfInBounds_toArray, List.set_cons_zero, List.set_cons_succ]
  refine held_done (by kernel_rfl) ?_
  have C5 := h3.setAll (rec17 3 0 0 0 0 0 0 0 0 0 0 0 k1 k2 ko ku now) (by rw [hlo]; rfl)
  have HBZ := hHeld.1
  clear hHeld h1 h2 h3 hlo HH c0
  generalize w2.setCells (w.heap.size + 1) 0 (rec17 3 0 0 0 0 0 0 0 0 0 0 0 k1 k2 ko ku now) = WW at *
  go_wp2_with fail
  refine ret_cell_tmp (p := 2) (q := 3) rfl rfl rfl C5 Try.underlying31 rfl (by rw [rc_size]; rfl) rfl ⟨rfl, HBZ⟩
theorem fieldsT_any (r s t k a b n p q i1 i2 k1 k2 ko : Int) (ku : Bool) (now : Int) (w : World) : Calls Try.prog 25 #[.agg #[.int .i64 3, .int .i64 r, .int .i64 s, .int .i64 t, .int .i64 k, .int .i64 a, .int .i64 b, .int .i64 n, .int .i64 p, .int .i64 q, .int .i64 i1, .int .i64 i2, .int .i64 k1, .int .i64 k2, .int .i64 ko, .bool ku, .int .i64 now]] w fun e w' => e = .returned (.tuple #[.agg (rec17 3 0 0 0 0 0 0 0 0 0 0 0 k1 k2 ko ku now).toArray, .bool (mayKey k1 k2 ko && inB now 0 1073741824)]) ∧ Below w.heap.size w w' := by
  rcases hk : mayKey k1 k2 ko with _ | _
  · exact fieldsT_no r s t k a b n p q i1 i2 k1 k2 ko ku now w hk
  · rw [Bool.true_and]; exact fieldsT_yes r s t k a b n p q i1 i2 k1 k2 ko ku now w hk
end Go.Proofs.Ytfffbhkenggdcaa
