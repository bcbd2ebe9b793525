/- The fields that a record's kind has. -/
import Derived.Test.YtfffbhkenggdcaaRec
import Derived.Test.YtfffbhkenggdcaaHeld
import Derived.Test.YtfffbhkenggdcaaChg2
import Derived.Test.YtfffbhkenggdcaaNum
import Derived.Test.YtfffbhkenggdcaaRow
import Derived.Test.YtfffbhkenggdcaaOps
import Derived.Test.YtfffbhkenggdcaaEq
import Derived.Test.YtfffbhkenggdcaaChgOps
import Derived.RegionTactic
import Derived.BigRegion
import Derived.ChangeAlike
namespace Go.Proofs.Ytfffbhkenggdcaa
set_option linter.unusedVariables false
set_option linter.unusedSimpArgs false
open Go.ChangeShapes Go.WideShapes Go.ChangeAt Go.RowKit
theorem Blk.sets_other {g g' t : Nat} {cs : List Value} (hne : g ≠ g') (vs : List Value) : ∀ (o : Nat) (w : World), Blk w g cs t → Blk (w.setCells g' o vs) g cs t := by
  induction vs with
  | nil => intro o w h; exact h
  | cons v r ih => intro o w h; exact ih (o + 1) _ (h.set_other hne o v)
theorem rc_st_run {o : Oper} {x y : Operand} {a : Act} {w : World} {g T : Nat} {old cs : List Value} (ho : o.op = .store 31 x y) (hx : a.eval x = .pointer (some ⟨g, 0, none⟩)) (hy : a.eval y = .agg cs.toArray) (hb : Blk w g old T) (hl : old.length = 17) (hv : Hid (cs.length = 17 ∧ ∀ u ∈ cs, u.oneCell' = true)) :
    (execOp a.eval o).run Try.prog w = .ok .skip (w.setCells g 0 cs) := by
  have := run_storeAt_mid (P := Try.prog) w g 0 31 cs.toArray (hb.there 0 _ (by rw [List.size_toArray, hv.out.1, hl]; decide)) (by rw [rc_size, List.size_toArray, hv.out.1]) (all_oneCell_toArray hv.out.2)
  rw [List.toList_toArray] at this
  unfold execOp
  simp only [ho, hx, hy, Sem.run_bind, this, Result.andThen_ok, Sem.run_pure]
/-- a record's block and its result's, while its fields are looked at. -/
def HoldF (w : World) (R : List Value) (w' : World) : Prop := Below w.heap.size w w' ∧ Blk w' w.heap.size R 31 ∧ ∃ cs, cs.length = 17 ∧ Blk w' (w.heap.size + 1) cs 31
theorem HoldF.keep {w w1 w2 : World} {R : List Value} (h : HoldF w R w1) (hb : Below w1.heap.size w1 w2) : HoldF w R w2 := by
  obtain ⟨h1, h2, cs, hl, h3⟩ := h
  exact ⟨h1.trans (hb.mono h1.size), h2.keep hb h2.lt, cs, hl, h3.keep hb h3.lt⟩
theorem HoldF.drew {w w1 : World} {R : List Value} (h : HoldF w R w1) : HoldF w R w1.drew := by
  obtain ⟨h1, h2, cs, hl, h3⟩ := h
  exact ⟨h1.drew, h2.drew, cs, hl, h3.drew⟩
theorem HoldF.store {w w1 : World} {R cs : List Value} (h : HoldF w R w1) (hl : cs.length = 17) : HoldF w R (w1.setCells (w.heap.size + 1) 0 cs) := by
  obtain ⟨h1, h2, old, ho, h3⟩ := h
  exact ⟨below_sets (Nat.le_succ _) cs 0 _ h1, Blk.sets_other (by omega) cs 0 _ h2, cs, hl, h3.setAll cs (by rw [hl, ho])⟩
set_option maxRecDepth 100000 in
set_option maxHeartbeats 8000000 in
theorem fieldsM_any (r s t k a b n p q i1 i2 k1 k2 ko : Int) (ku : Bool) (now : Int) (w : World) : Calls Try.prog 25 #[.agg #[.int .i64 2, .int .i64 r, .int .i64 s, .int .i64 t, .int .i64 k, .int .i64 a, .int .i64 b, .int .i64 n, .int .i64 p, .int .i64 q, .int .i64 i1, .int .i64 i2, .int .i64 k1, .int .i64 k2, .int .i64 ko, .bool ku, .int .i64 now]] w fun e w' => e = .returned (.tuple #[.agg (rec17 2 0 0 0 0 0 0 0 0 0 i1 i2 0 0 0 false 0).toArray, .bool (mayId i1 i2)]) ∧ Below w.heap.size w w' := by
  have A1 := Blk.new w #[.int .i64 2, .int .i64 r, .int .i64 s, .int .i64 t, .int .i64 k, .int .i64 a, .int .i64 b, .int .i64 n, .int .i64 p, .int .i64 q, .int .i64 i1, .int .i64 i2, .int .i64 k1, .int .i64 k2, .int .i64 ko, .bool ku, .int .i64 now] 31
  have hz1 : (w.alloc (.cells #[.int .i64 2, .int .i64 r, .int .i64 s, .int .i64 t, .int .i64 k, .int .i64 a, .int .i64 b, .int .i64 n, .int .i64 p, .int .i64 q, .int .i64 i1, .int .i64 i2, .int .i64 k1, .int .i64 k2, .int .i64 ko, .bool ku, .int .i64 now] 31)).heap.size = w.heap.size + 1 := by simp
  have AC : Blk ((w.alloc (.cells #[.int .i64 2, .int .i64 r, .int .i64 s, .int .i64 t, .int .i64 k, .int .i64 a, .int .i64 b, .int .i64 n, .int .i64 p, .int .i64 q, .int .i64 i1, .int .i64 i2, .int .i64 k1, .int .i64 k2, .int .i64 ko, .bool ku, .int .i64 now] 31)).alloc (.cells #[.int .i64 0, .int .i64 0, .int .i64 0, .int .i64 0, .int .i64 0, .int .i64 0, .int .i64 0, .int .i64 0, .int .i64 0, .int .i64 0, .int .i64 0, .int .i64 0, .int .i64 0, .int .i64 0, .int .i64 0, .bool false, .int .i64 0] 31)) (w.heap.size + 1) [.int .i64 0, .int .i64 0, .int .i64 0, .int .i64 0, .int .i64 0, .int .i64 0, .int .i64 0, .int .i64 0, .int .i64 0, .int .i64 0, .int .i64 0, .int .i64 0, .int .i64 0, .int .i64 0, .int .i64 0, .bool false, .int .i64 0] 31 := hz1 ▸ Blk.new (w.alloc (.cells #[.int .i64 2, .int .i64 r, .int .i64 s, .int .i64 t, .int .i64 k, .int .i64 a, .int .i64 b, .int .i64 n, .int .i64 p, .int .i64 q, .int .i64 i1, .int .i64 i2, .int .i64 k1, .int .i64 k2, .int .i64 ko, .bool ku, .int .i64 now] 31)) #[.int .i64 0, .int .i64 0, .int .i64 0, .int .i64 0, .int .i64 0, .int .i64 0, .int .i64 0, .int .i64 0, .int .i64 0, .int .i64 0, .int .i64 0, .int .i64 0, .int .i64 0, .int .i64 0, .int .i64 0, .bool false, .int .i64 0] 31
  have A : Blk ((w.alloc (.cells #[.int .i64 2, .int .i64 r, .int .i64 s, .int .i64 t, .int .i64 k, .int .i64 a, .int .i64 b, .int .i64 n, .int .i64 p, .int .i64 q, .int .i64 i1, .int .i64 i2, .int .i64 k1, .int .i64 k2, .int .i64 ko, .bool ku, .int .i64 now] 31)).alloc (.cells #[.int .i64 0, .int .i64 0, .int .i64 0, .int .i64 0, .int .i64 0, .int .i64 0, .int .i64 0, .int .i64 0, .int .i64 0, .int .i64 0, .int .i64 0, .int .i64 0, .int .i64 0, .int .i64 0, .int .i64 0, .bool false, .int .i64 0] 31)) w.heap.size [.int .i64 2, .int .i64 r, .int .i64 s, .int .i64 t, .int .i64 k, .int .i64 a, .int .i64 b, .int .i64 n, .int .i64 p, .int .i64 q, .int .i64 i1, .int .i64 i2, .int .i64 k1, .int .i64 k2, .int .i64 ko, .bool ku, .int .i64 now] 31 := (A1.alloc _)
  have HB := ((((Below.refl w.heap.size w).alloc (Nat.le_refl _) (.cells #[.int .i64 2, .int .i64 r, .int .i64 s, .int .i64 t, .int .i64 k, .int .i64 a, .int .i64 b, .int .i64 n, .int .i64 p, .int .i64 q, .int .i64 i1, .int .i64 i2, .int .i64 k1, .int .i64 k2, .int .i64 ko, .bool ku, .int .i64 now] 31)).alloc (by rw [hz1]; omega) (.cells #[.int .i64 0, .int .i64 0, .int .i64 0, .int .i64 0, .int .i64 0, .int .i64 0, .int .i64 0, .int .i64 0, .int .i64 0, .int .i64 0, .int .i64 0, .int .i64 0, .int .i64 0, .int .i64 0, .int .i64 0, .bool false, .int .i64 0] 31)))
  have HH := Lib.hid (show HoldF w [.int .i64 2, .int .i64 r, .int .i64 s, .int .i64 t, .int .i64 k, .int .i64 a, .int .i64 b, .int .i64 n, .int .i64 p, .int .i64 q, .int .i64 i1, .int .i64 i2, .int .i64 k1, .int .i64 k2, .int .i64 ko, .bool ku, .int .i64 now] ((w.alloc (.cells #[.int .i64 2, .int .i64 r, .int .i64 s, .int .i64 t, .int .i64 k, .int .i64 a, .int .i64 b, .int .i64 n, .int .i64 p, .int .i64 q, .int .i64 i1, .int .i64 i2, .int .i64 k1, .int .i64 k2, .int .i64 ko, .bool ku, .int .i64 now] 31)).alloc (.cells #[.int .i64 0, .int .i64 0, .int .i64 0, .int .i64 0, .int .i64 0, .int .i64 0, .int .i64 0, .int .i64 0, .int .i64 0, .int .i64 0, .int .i64 0, .int .i64 0, .int .i64 0, .int .i64 0, .int .i64 0, .bool false, .int .i64 0] 31)) from ⟨HB, A, _, rfl, AC⟩)
  have HV := rec17_ok 2 0 0 0 0 0 0 0 0 0 i1 i2 0 0 0 false 0
  clear A1 AC hz1 HB A
  go_enter Try.func25, Try.ntmps25
  go_upto_region 1 with fail
  generalize ((w.alloc (.cells #[.int .i64 2, .int .i64 r, .int .i64 s, .int .i64 t, .int .i64 k, .int .i64 a, .int .i64 b, .int .i64 n, .int .i64 p, .int .i64 q, .int .i64 i1, .int .i64 i2, .int .i64 k1, .int .i64 k2, .int .i64 ko, .bool ku, .int .i64 now] 31)).alloc (.cells #[.int .i64 0, .int .i64 0, .int .i64 0, .int .i64 0, .int .i64 0, .int .i64 0, .int .i64 0, .int .i64 0, .int .i64 0, .int .i64 0, .int .i64 0, .int .i64 0, .int .i64 0, .int .i64 0, .int .i64 0, .bool false, .int .i64 0] 31)) = W at *
  have c0 : W.cell? ⟨w.heap.size, 0, none⟩ = some (.int .i64 2) := HH.out.2.1.cell 0
  go_upto_region 5 with fail
  refine held_begin (fun w' => HoldF w [.int .i64 2, .int .i64 r, .int .i64 s, .int .i64 t, .int .i64 k, .int .i64 a, .int .i64 b, .int .i64 n, .int .i64 p, .int .i64 q, .int .i64 i1, .int .i64 i2, .int .i64 k1, .int .i64 k2, .int .i64 ko, .bool ku, .int .i64 now] w') 8 [false, false, false, false, false, false, false, false] (by kernel_rfl) rfl (by rfl) ?_
  have hHeld : HoldF w [.int .i64 2, .int .i64 r, .int .i64 s, .int .i64 t, .int .i64 k, .int .i64 a, .int .i64 b, .int .i64 n, .int .i64 p, .int .i64 q, .int .i64 i1, .int .i64 i2, .int .i64 k1, .int .i64 k2, .int .i64 ko, .bool ku, .int .i64 now] W.drew := HH.out.drew
  refine held_take (v := ?_) 0 17 [true, false, false, false, false, false, false, false] rfl (by rfl) (by rfl) (by kernel_rfl) (by kernel_rfl) (by kernel_rfl) (by rfl) (fun _ _ _ h => h) ?_ hHeld ?_
  rotate_left
  · intro w hSw; go_simp <;> with_reducible rfl
  simp only [Act.put, List.setIfInBounds_toArray, List.set_cons_zero, List.set_cons_succ]
  refine held_take 1 18 [true, true, false, false, false, false, false, false] rfl (by rfl) (by rfl) (by kernel_rfl) (by kernel_rfl) (by kernel_rfl) (by rfl) (fun _ _ _ h => h) (fun w' h => run_op_load rfl rfl (h.2.1.range 10 [.int .i64 i1, .int .i64 i2] rfl) Try.underlying25 rfl (by kernel_rfl)) hHeld ?_
  simp only [Act.put, List.setIfInBounds_toArray, List.set_cons_zero, List.set_cons_succ]
  refine held_take (v := ?_) 3 20 [true, true, false, true, false, false, false, false] rfl (by rfl) (by rfl) (by kernel_rfl) (by kernel_rfl) (by kernel_rfl) (by rfl) (fun _ _ _ h => h) ?_ hHeld ?_
  rotate_left
  · intro w hSw; go_simp <;> with_reducible rfl
  simp only [Act.put, List.setIfInBounds_toArray, List.set_cons_zero, List.set_cons_succ]
  refine held_take 4 21 [true, true, false, true, true, false, false, false] rfl (by rfl) (by rfl) (by kernel_rfl) (by kernel_rfl) (by kernel_rfl) (by rfl) (fun _ _ _ h => h) (fun w' h => run_op_load rfl rfl (h.2.1.range 10 [.int .i64 i1, .int .i64 i2] rfl) Try.underlying25 rfl (by kernel_rfl)) hHeld ?_
  simp only [Act.put, List.setIfInBounds_toArray, List.set_cons_zero, List.set_cons_succ]
  refine held_call 2 19 [true, true, true, true, true, false, false, false] (by kernel_rfl) rfl (by rfl) (by rfl) (by rfl) (by go_simp) ((mkM_any i1 i2 _).mono ?_)
  rintro e w1 ⟨rfl, hb1⟩
  refine ⟨_, rfl, hHeld.keep hb1, fun hHeld => ?_⟩
  simp only [Act.put, List.setIfInBounds_toArray, List.set_cons_zero, List.set_cons_succ]
  refine held_call 5 22 [true, true, true, true, true, true, false, false] (by kernel_rfl) rfl (by rfl) (by rfl) (by rfl) (by go_simp) ((may_any i1 i2 _).mono ?_)
  rintro e w2 ⟨rfl, hb2⟩
  refine ⟨_, rfl, hHeld.keep hb2, fun hHeld => ?_⟩
  simp only [Act.put, List.setIfInBounds_toArray, List.set_cons_zero, List.set_cons_succ]
  refine held_one 6 (by kernel_rfl) ?_
  obtain ⟨h1, h2, old, hlo, h3⟩ := id hHeld
  refine op_skip [true, true, true, true, true, true, true, false] rfl (by rfl) (by rfl) (by rfl) (rc_st_run rfl rfl rfl h3 hlo HV) (hHeld.store HV.out.1) fun hHeld => ?_
  refine held_take (v := ?_) 7 3 [true, true, true, true, true, true, true, true] rfl (by rfl) (by rfl) (by kernel_rfl) (by kernel_rfl) (by kernel_rfl) (by rfl) (fun _ _ _ h => h) ?_ hHeld ?_
  rotate_left
  · intro w hSw; go_simp <;> with_reducible rfl
  simp only [Act.put, List.setIfInBounds_toArray, List.set_cons_zero, List.set_cons_succ]
  refine held_done (by kernel_rfl) ?_
  have C5 := h3.setAll (rec17 2 0 0 0 0 0 0 0 0 0 i1 i2 0 0 0 false 0) (by rw [hlo]; rfl)
  have HBZ := hHeld.1
  clear hHeld h1 h2 h3 hlo HH c0
  generalize w2.setCells (w.heap.size + 1) 0 (rec17 2 0 0 0 0 0 0 0 0 0 i1 i2 0 0 0 false 0) = WW at *
  go_wp2_with fail
  refine ret_cell_tmp (p := 2) (q := 3) rfl rfl rfl C5 Try.underlying31 rfl (by rw [rc_size]; rfl) rfl ⟨rfl, HBZ⟩
end Go.Proofs.Ytfffbhkenggdcaa
