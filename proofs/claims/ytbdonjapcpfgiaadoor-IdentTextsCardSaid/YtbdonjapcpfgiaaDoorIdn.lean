/- The order of names. -/
import Derived.Test.YtbdonjapcpfgiaaDoorCmp
import Derived.Test.YtbdonjapcpfgiaaDoorQt
import Derived.Test.YtbdonjapcpfgiaaDoorLd
import Derived.Test.YtbdonjapcpfgiaaDoorChg
import Derived.Deep.DeepCutAuto
import Derived.Maps.AppendAt
import Derived.Test.YtbdonjapcpfgiaaDoorRow
import Derived.Test.YtbdonjapcpfgiaaDoorOps
import Derived.RegionTactic
import Derived.BigRegion
import Derived.ChangeAlike
namespace Go.Proofs.YtbdonjapcpfgiaaDoor
set_option linter.unusedVariables false
set_option linter.unusedSimpArgs false
open Go.ChangeShapes Go.WideShapes Go.ChangeAt Go.RowKit
def cmpId (p q p2 q2 : Int) : Int := firstNZ [cmpI q q2, cmpI p p2]
theorem compare_any (p q p2 q2 : Int) (w : World) : Calls Tryd.prog 23 #[.agg #[.int .i64 p, .int .i64 q], .agg #[.int .i64 p2, .int .i64 q2]] w fun e w' => e = .returned (.int .i64 (cmpId p q p2 q2)) ∧ Below w.heap.size w w' := by
  have HB := Lib.hid (((Below.refl w.heap.size w).alloc (Nat.le_refl _) (.cells #[.int .i64 p, .int .i64 q] 23)).alloc (by simp) (.cells #[.int .i64 p2, .int .i64 q2] 23))
  have A := Lib.hid ((Blk.new w #[.int .i64 p, .int .i64 q] 23).alloc (.cells #[.int .i64 p2, .int .i64 q2] 23))
  have B : Hid (Blk ((w.alloc (.cells #[.int .i64 p, .int .i64 q] 23)).alloc (.cells #[.int .i64 p2, .int .i64 q2] 23)) (w.heap.size + 1) #[.int .i64 p2, .int .i64 q2].toList 23) := Lib.hid (by have := Blk.new (w.alloc (.cells #[.int .i64 p, .int .i64 q] 23)) #[.int .i64 p2, .int .i64 q2] 23; simpa using this)
  obtain ⟨RV, hRV⟩ : ∃ RV, RV = cmpId p q p2 q2 := ⟨_, rfl⟩
  rw [← hRV]
  have HRV : Hid (RV = firstNZ [cmpI q q2, cmpI p p2]) := Lib.hid hRV
  clear hRV
  go_enter Tryd.func23, Tryd.ntmps23
  go_upto_region 1 with fail
  generalize hg0 : w.heap.size = g0 at *
  have HG0 := Lib.hid hg0
  generalize (w.alloc (.cells #[.int .i64 p, .int .i64 q] 23)).alloc (.cells #[.int .i64 p2, .int .i64 q2] 23) = w1 at *
  clear hg0
  refine held_begin (fun w' => Below w1.heap.size w1 w') 13 [false, false, false, false, false, false, false, false, false, false, false, false, false] (by kernel_rfl) rfl (by rfl) ?_
  have hHeld : Below w1.heap.size w1 w1.drew := (Below.refl _ _).drew
  refine held_take (v := ?_) 0 5 [true, false, false, false, false, false, false, false, false, false, false, false, false] rfl (by rfl) (by rfl) (by kernel_rfl) (by kernel_rfl) (by kernel_rfl) (by rfl) (fun _ _ _ h => h) ?_ hHeld ?_
  rotate_left
  · intro w hSw; go_simp <;> with_reducible rfl
  simp only [Act.put, List.setIfInBounds_toArray, List.set_cons_zero, List.set_cons_succ]
  refine held_take (v := .int .i64 q) 1 6 [true, true, false, false, false, false, false, false, false, false, false, false, false] rfl (by rfl) (by rfl) (by kernel_rfl) (by kernel_rfl) (by kernel_rfl) (by rfl) (fun _ _ _ h => h) (fun w' h => run_op_one rfl rfl Tryd.underlying3 rfl ((A.out.keep h A.out.lt).cell 1)) hHeld ?_
  simp only [Act.put, List.setIfInBounds_toArray, List.set_cons_zero, List.set_cons_succ]
  refine held_take (v := ?_) 2 7 [true, true, true, false, false, false, false, false, false, false, false, false, false] rfl (by rfl) (by rfl) (by kernel_rfl) (by kernel_rfl) (by kernel_rfl) (by rfl) (fun _ _ _ h => h) ?_ hHeld ?_
  rotate_left
  · intro w hSw; go_simp <;> with_reducible rfl
  simp only [Act.put, List.setIfInBounds_toArray, List.set_cons_zero, List.set_cons_succ]
  refine held_take (v := .int .i64 q2) 3 8 [true, true, true, true, false, false, false, false, false, false, false, false, false] rfl (by rfl) (by rfl) (by kernel_rfl) (by kernel_rfl) (by kernel_rfl) (by rfl) (fun _ _ _ h => h) (fun w' h => run_op_one rfl rfl Tryd.underlying3 rfl ((B.out.keep h B.out.lt).cell 1)) hHeld ?_
  simp only [Act.put, List.setIfInBounds_toArray, List.set_cons_zero, List.set_cons_succ]
  refine held_take (v := ?_) 5 10 [true, true, true, true, false, true, false, false, false, false, false, false, false] rfl (by rfl) (by rfl) (by kernel_rfl) (by kernel_rfl) (by kernel_rfl) (by rfl) (fun _ _ _ h => h) ?_ hHeld ?_
  rotate_left
  · intro w hSw; go_simp <;> with_reducible rfl
  simp only [Act.put, List.setIfInBounds_toArray, List.set_cons_zero, List.set_cons_succ]
  refine held_take (v := .int .i64 p) 6 11 [true, true, true, true, false, true, true, false, false, false, false, false, false] rfl (by rfl) (by rfl) (by kernel_rfl) (by kernel_rfl) (by kernel_rfl) (by rfl) (fun _ _ _ h => h) (fun w' h => run_op_one rfl rfl Tryd.underlying3 rfl ((A.out.keep h A.out.lt).cell 0)) hHeld ?_
  simp only [Act.put, List.setIfInBounds_toArray, List.set_cons_zero, List.set_cons_succ]
  refine held_take (v := ?_) 7 12 [true, true, true, true, false, true, true, true, false, false, false, false, false] rfl (by rfl) (by rfl) (by kernel_rfl) (by kernel_rfl) (by kernel_rfl) (by rfl) (fun _ _ _ h => h) ?_ hHeld ?_
  rotate_left
  · intro w hSw; go_simp <;> with_reducible rfl
  simp only [Act.put, List.setIfInBounds_toArray, List.set_cons_zero, List.set_cons_succ]
  refine held_take (v := .int .i64 p2) 8 13 [true, true, true, true, false, true, true, true, true, false, false, false, false] rfl (by rfl) (by rfl) (by kernel_rfl) (by kernel_rfl) (by kernel_rfl) (by rfl) (fun _ _ _ h => h) (fun w' h => run_op_one rfl rfl Tryd.underlying3 rfl ((B.out.keep h B.out.lt).cell 0)) hHeld ?_
  simp only [Act.put, List.setIfInBounds_toArray, List.set_cons_zero, List.set_cons_succ]
  refine held_call 4 9 [true, true, true, true, true, true, true, true, true, false, false, false, false] (by kernel_rfl) rfl (by rfl) (by rfl) (by rfl) (by go_simp) ((cmp_any q q2 _).mono ?_)
  rintro e w4 ⟨rfl, rfl⟩
  refine ⟨_, rfl, hHeld, fun hHeld => ?_⟩
  simp only [Act.put, List.setIfInBounds_toArray, List.set_cons_zero, List.set_cons_succ]
  refine held_call 9 14 [true, true, true, true, true, true, true, true, true, true, false, false, false] (by kernel_rfl) rfl (by rfl) (by rfl) (by rfl) (by go_simp) ((cmp_any p p2 _).mono ?_)
  rintro e w4 ⟨rfl, rfl⟩
  refine ⟨_, rfl, hHeld, fun hHeld => ?_⟩
  simp only [Act.put, List.setIfInBounds_toArray, List.set_cons_zero, List.set_cons_succ]
  generalize cmpI q q2 = x at *
  generalize cmpI p p2 = y at *
  generalize w1.drew = wD at *
  have hal := (Below.refl wD.heap.size wD).alloc (Nat.le_refl _) (.cells #[.int .i64 x, .int .i64 y] 3)
  have hsl := sl_ints wD [x, y] (by simp)
  refine held_one 10 (by kernel_rfl) ?_
  refine op_value (v := .slice (some ⟨wD.heap.size, 0, none⟩) 2 2) 15 [true, true, true, true, true, true, true, true, true, true, true, false, false] rfl (by rfl) (by rfl) (by rfl) (by go_simp <;> rfl) (hHeld.trans (hal.mono hHeld.size)) fun hHeld => ?_
  simp only [Act.put, List.setIfInBounds_toArray, List.set_cons_zero, List.set_cons_succ]
  refine held_call 11 16 [true, true, true, true, true, true, true, true, true, true, true, true, false] (by kernel_rfl) rfl (by rfl) (by rfl) (by rfl) (by go_simp) ((or_any _ 2 2 [x, y] _ hsl (by decide)).mono ?_)
  rintro e w5 ⟨rfl, rfl⟩
  refine ⟨_, rfl, hHeld, fun hHeld => ?_⟩
  simp only [Act.put, List.setIfInBounds_toArray, List.set_cons_zero, List.set_cons_succ]
  refine held_take (v := ?_) 12 4 [true, true, true, true, true, true, true, true, true, true, true, true, true] rfl (by rfl) (by rfl) (by kernel_rfl) (by kernel_rfl) (by kernel_rfl) (by rfl) (fun _ _ _ h => h) ?_ hHeld ?_
  rotate_left
  · intro w hSw; go_simp <;> with_reducible rfl
  simp only [Act.put, List.setIfInBounds_toArray, List.set_cons_zero, List.set_cons_succ]
  refine held_done (by kernel_rfl) ?_
  have HB9 := HB.out.trans (hHeld.mono (HG0.out ▸ HB.out.size))
  go_wp2_with fail
  go_ret
  have hge := HG0.out
  subst hge
  exact ⟨by rw [HRV.out]; rfl, HB9⟩
end Go.Proofs.YtbdonjapcpfgiaaDoor
