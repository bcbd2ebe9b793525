/- The order of changes. -/
import Derived.Test.YtcfipimhpeblbaaCmp
import Derived.Test.YtcfipimhpeblbaaQt
import Derived.Test.YtcfipimhpeblbaaLd
import Derived.Test.YtcfipimhpeblbaaRws
import Derived.Deep.DeepCutAuto
import Derived.Maps.AppendAt
import Derived.Test.YtcfipimhpeblbaaRow
import Derived.Test.YtcfipimhpeblbaaOps
import Derived.RegionTactic
import Derived.BigRegion
import Derived.ChangeAlike
namespace Go.Proofs.Ytcfipimhpeblbaa
set_option linter.unusedVariables false
set_option linter.unusedSimpArgs false
open Go.ChangeShapes Go.WideShapes Go.ChangeAt Go.RowKit
def cmpC (c d : List Int) : Int := firstNZ [cmpI (c.getD 2 0) (d.getD 2 0), cmpI (c.getD 0 0) (d.getD 0 0), cmpI (c.getD 1 0) (d.getD 1 0)]
def lessC (c d : List Int) : Bool := decide (cmpC c d < 0)
set_option maxHeartbeats 4000000 in
theorem scompare_any (p q t k a b n r s p2 q2 t2 k2 a2 b2 n2 r2 s2 : Int) (w : World) : Calls Try.prog 41 #[.agg #[.int .i64 p, .int .i64 q, .int .i64 t, .int .i64 k, .int .i64 a, .int .i64 b, .int .i64 n, .int .i64 r, .int .i64 s], .agg #[.int .i64 p2, .int .i64 q2, .int .i64 t2, .int .i64 k2, .int .i64 a2, .int .i64 b2, .int .i64 n2, .int .i64 r2, .int .i64 s2]] w fun e w' => e = .returned (.int .i64 (cmpC [p, q, t, k, a, b, n, r, s] [p2, q2, t2, k2, a2, b2, n2, r2, s2])) ∧ Below w.heap.size w w' := by
  have HB := Lib.hid (((Below.refl w.heap.size w).alloc (Nat.le_refl _) (.cells #[.int .i64 p, .int .i64 q, .int .i64 t, .int .i64 k, .int .i64 a, .int .i64 b, .int .i64 n, .int .i64 r, .int .i64 s] 36)).alloc (by simp) (.cells #[.int .i64 p2, .int .i64 q2, .int .i64 t2, .int .i64 k2, .int .i64 a2, .int .i64 b2, .int .i64 n2, .int .i64 r2, .int .i64 s2] 36))
  have A := Lib.hid ((Blk.new w #[.int .i64 p, .int .i64 q, .int .i64 t, .int .i64 k, .int .i64 a, .int .i64 b, .int .i64 n, .int .i64 r, .int .i64 s] 36).alloc (.cells #[.int .i64 p2, .int .i64 q2, .int .i64 t2, .int .i64 k2, .int .i64 a2, .int .i64 b2, .int .i64 n2, .int .i64 r2, .int .i64 s2] 36))
  have B : Hid (Blk ((w.alloc (.cells #[.int .i64 p, .int .i64 q, .int .i64 t, .int .i64 k, .int .i64 a, .int .i64 b, .int .i64 n, .int .i64 r, .int .i64 s] 36)).alloc (.cells #[.int .i64 p2, .int .i64 q2, .int .i64 t2, .int .i64 k2, .int .i64 a2, .int .i64 b2, .int .i64 n2, .int .i64 r2, .int .i64 s2] 36)) (w.heap.size + 1) #[.int .i64 p2, .int .i64 q2, .int .i64 t2, .int .i64 k2, .int .i64 a2, .int .i64 b2, .int .i64 n2, .int .i64 r2, .int .i64 s2].toList 36) := Lib.hid (by have := Blk.new (w.alloc (.cells #[.int .i64 p, .int .i64 q, .int .i64 t, .int .i64 k, .int .i64 a, .int .i64 b, .int .i64 n, .int .i64 r, .int .i64 s] 36)) #[.int .i64 p2, .int .i64 q2, .int .i64 t2, .int .i64 k2, .int .i64 a2, .int .i64 b2, .int .i64 n2, .int .i64 r2, .int .i64 s2] 36; simpa using this)
  obtain ⟨RV, hRV⟩ : ∃ RV, RV = cmpC [p, q, t, k, a, b, n, r, s] [p2, q2, t2, k2, a2, b2, n2, r2, s2] := ⟨_, rfl⟩
  rw [← hRV]
  have HRV : Hid (RV = firstNZ [cmpI t t2, cmpI p p2, cmpI q q2]) := Lib.hid hRV
  clear hRV
  go_enter Try.func41, Try.ntmps41
  go_upto_region 1 with fail
  generalize hg0 : w.heap.size = g0 at *
  have HG0 := Lib.hid hg0
  generalize (w.alloc (.cells #[.int .i64 p, .int .i64 q, .int .i64 t, .int .i64 k, .int .i64 a, .int .i64 b, .int .i64 n, .int .i64 r, .int .i64 s] 36)).alloc (.cells #[.int .i64 p2, .int .i64 q2, .int .i64 t2, .int .i64 k2, .int .i64 a2, .int .i64 b2, .int .i64 n2, .int .i64 r2, .int .i64 s2] 36) = w1 at *
  clear hg0
  refine held_begin (fun w' => Below w1.heap.size w1 w') 22 [false, false, false, false, false, false, false, false, false, false, false, false, false, false, false, false, false, false, false, false, false, false] (by kernel_rfl) rfl (by rfl) ?_
  have hHeld : Below w1.heap.size w1 w1.drew := (Below.refl _ _).drew
  refine held_take (v := ?_) 0 5 [true, false, false, false, false, false, false, false, false, false, false, false, false, false, false, false, false, false, false, false, false, false] rfl (by rfl) (by rfl) (by kernel_rfl) (by kernel_rfl) (by kernel_rfl) (by rfl) (fun _ _ _ h => h) ?_ hHeld ?_
  rotate_left
  · intro w hSw; go_simp <;> with_reducible rfl
  simp only [Act.put, List.setIfInBounds_toArray, List.set_cons_zero, List.set_cons_succ]
  refine held_take (v := .int .i64 t) 1 6 [true, true, false, false, false, false, false, false, false, false, false, false, false, false, false, false, false, false, false, false, false, false] rfl (by rfl) (by rfl) (by kernel_rfl) (by kernel_rfl) (by kernel_rfl) (by rfl) (fun _ _ _ h => h) (fun w' h => run_op_one rfl rfl Try.underlying3 rfl ((A.out.keep h A.out.lt).cell 2)) hHeld ?_
  simp only [Act.put, List.setIfInBounds_toArray, List.set_cons_zero, List.set_cons_succ]
  refine held_take (v := ?_) 2 7 [true, true, true, false, false, false, false, false, false, false, false, false, false, false, false, false, false, false, false, false, false, false] rfl (by rfl) (by rfl) (by kernel_rfl) (by kernel_rfl) (by kernel_rfl) (by rfl) (fun _ _ _ h => h) ?_ hHeld ?_
  rotate_left
  · intro w hSw; go_simp <;> with_reducible rfl
  simp only [Act.put, List.setIfInBounds_toArray, List.set_cons_zero, List.set_cons_succ]
  refine held_take (v := .int .i64 t2) 3 8 [true, true, true, true, false, false, false, false, false, false, false, false, false, false, false, false, false, false, false, false, false, false] rfl (by rfl) (by rfl) (by kernel_rfl) (by kernel_rfl) (by kernel_rfl) (by rfl) (fun _ _ _ h => h) (fun w' h => run_op_one rfl rfl Try.underlying3 rfl ((B.out.keep h B.out.lt).cell 2)) hHeld ?_
  simp only [Act.put, List.setIfInBounds_toArray, List.set_cons_zero, List.set_cons_succ]
  refine held_take (v := ?_) 5 10 [true, true, true, true, false, true, false, false, false, false, false, false, false, false, false, false, false, false, false, false, false, false] rfl (by rfl) (by rfl) (by kernel_rfl) (by kernel_rfl) (by kernel_rfl) (by rfl) (fun _ _ _ h => h) ?_ hHeld ?_
  rotate_left
  · intro w hSw; go_simp <;> with_reducible rfl
  simp only [Act.put, List.setIfInBounds_toArray, List.set_cons_zero, List.set_cons_succ]
  refine held_take (v := ?_) 6 11 [true, true, true, true, false, true, true, false, false, false, false, false, false, false, false, false, false, false, false, false, false, false] rfl (by rfl) (by rfl) (by kernel_rfl) (by kernel_rfl) (by kernel_rfl) (by rfl) (fun _ _ _ h => h) ?_ hHeld ?_
  rotate_left
  · intro w hSw; go_simp <;> with_reducible rfl
  simp only [Act.put, List.setIfInBounds_toArray, List.set_cons_zero, List.set_cons_succ]
  refine held_take (v := .int .i64 p) 7 12 [true, true, true, true, false, true, true, true, false, false, false, false, false, false, false, false, false, false, false, false, false, false] rfl (by rfl) (by rfl) (by kernel_rfl) (by kernel_rfl) (by kernel_rfl) (by rfl) (fun _ _ _ h => h) (fun w' h => run_op_one rfl rfl Try.underlying3 rfl ((A.out.keep h A.out.lt).cell 0)) hHeld ?_
  simp only [Act.put, List.setIfInBounds_toArray, List.set_cons_zero, List.set_cons_succ]
  refine held_take (v := ?_) 8 13 [true, true, true, true, false, true, true, true, true, false, false, false, false, false, false, false, false, false, false, false, false, false] rfl (by rfl) (by rfl) (by kernel_rfl) (by kernel_rfl) (by kernel_rfl) (by rfl) (fun _ _ _ h => h) ?_ hHeld ?_
  rotate_left
  · intro w hSw; go_simp <;> with_reducible rfl
  simp only [Act.put, List.setIfInBounds_toArray, List.set_cons_zero, List.set_cons_succ]
  refine held_take (v := ?_) 9 14 [true, true, true, true, false, true, true, true, true, true, false, false, false, false, false, false, false, false, false, false, false, false] rfl (by rfl) (by rfl) (by kernel_rfl) (by kernel_rfl) (by kernel_rfl) (by rfl) (fun _ _ _ h => h) ?_ hHeld ?_
  rotate_left
  · intro w hSw; go_simp <;> with_reducible rfl
  simp only [Act.put, List.setIfInBounds_toArray, List.set_cons_zero, List.set_cons_succ]
  refine held_take (v := .int .i64 p2) 10 15 [true, true, true, true, false, true, true, true, true, true, true, false, false, false, false, false, false, false, false, false, false, false] rfl (by rfl) (by rfl) (by kernel_rfl) (by kernel_rfl) (by kernel_rfl) (by rfl) (fun _ _ _ h => h) (fun w' h => run_op_one rfl rfl Try.underlying3 rfl ((B.out.keep h B.out.lt).cell 0)) hHeld ?_
  simp only [Act.put, List.setIfInBounds_toArray, List.set_cons_zero, List.set_cons_succ]
  refine held_take (v := ?_) 12 17 [true, true, true, true, false, true, true, true, true, true, true, false, true, false, false, false, false, false, false, false, false, false] rfl (by rfl) (by rfl) (by kernel_rfl) (by kernel_rfl) (by kernel_rfl) (by rfl) (fun _ _ _ h => h) ?_ hHeld ?_
  rotate_left
  · intro w hSw; go_simp <;> with_reducible rfl
  simp only [Act.put, List.setIfInBounds_toArray, List.set_cons_zero, List.set_cons_succ]
  refine held_take (v := ?_) 13 18 [true, true, true, true, false, true, true, true, true, true, true, false, true, true, false, false, false, false, false, false, false, false] rfl (by rfl) (by rfl) (by kernel_rfl) (by kernel_rfl) (by kernel_rfl) (by rfl) (fun _ _ _ h => h) ?_ hHeld ?_
  rotate_left
  · intro w hSw; go_simp <;> with_reducible rfl
  simp only [Act.put, List.setIfInBounds_toArray, List.set_cons_zero, List.set_cons_succ]
  refine held_take (v := .int .i64 q) 14 19 [true, true, true, true, false, true, true, true, true, true, true, false, true, true, true, false, false, false, false, false, false, false] rfl (by rfl) (by rfl) (by kernel_rfl) (by kernel_rfl) (by kernel_rfl) (by rfl) (fun _ _ _ h => h) (fun w' h => run_op_one rfl rfl Try.underlying3 rfl ((A.out.keep h A.out.lt).cell 1)) hHeld ?_
  simp only [Act.put, List.setIfInBounds_toArray, List.set_cons_zero, List.set_cons_succ]
  refine held_take (v := ?_) 15 20 [true, true, true, true, false, true, true, true, true, true, true, false, true, true, true, true, false, false, false, false, false, false] rfl (by rfl) (by rfl) (by kernel_rfl) (by kernel_rfl) (by kernel_rfl) (by rfl) (fun _ _ _ h => h) ?_ hHeld ?_
  rotate_left
  · intro w hSw; go_simp <;> with_reducible rfl
  simp only [Act.put, List.setIfInBounds_toArray, List.set_cons_zero, List.set_cons_succ]
  refine held_take (v := ?_) 16 21 [true, true, true, true, false, true, true, true, true, true, true, false, true, true, true, true, true, false, false, false, false, false] rfl (by rfl) (by rfl) (by kernel_rfl) (by kernel_rfl) (by kernel_rfl) (by rfl) (fun _ _ _ h => h) ?_ hHeld ?_
  rotate_left
  · intro w hSw; go_simp <;> with_reducible rfl
  simp only [Act.put, List.setIfInBounds_toArray, List.set_cons_zero, List.set_cons_succ]
  refine held_take (v := .int .i64 q2) 17 22 [true, true, true, true, false, true, true, true, true, true, true, false, true, true, true, true, true, true, false, false, false, false] rfl (by rfl) (by rfl) (by kernel_rfl) (by kernel_rfl) (by kernel_rfl) (by rfl) (fun _ _ _ h => h) (fun w' h => run_op_one rfl rfl Try.underlying3 rfl ((B.out.keep h B.out.lt).cell 1)) hHeld ?_
  simp only [Act.put, List.setIfInBounds_toArray, List.set_cons_zero, List.set_cons_succ]
  refine held_call 4 9 [true, true, true, true, true, true, true, true, true, true, true, false, true, true, true, true, true, true, false, false, false, false] (by kernel_rfl) rfl (by rfl) (by rfl) (by rfl) (by go_simp) ((cmp_any t t2 _).mono ?_)
  rintro e w4 ⟨rfl, rfl⟩
  refine ⟨_, rfl, hHeld, fun hHeld => ?_⟩
  simp only [Act.put, List.setIfInBounds_toArray, List.set_cons_zero, List.set_cons_succ]
  refine held_call 11 16 [true, true, true, true, true, true, true, true, true, true, true, true, true, true, true, true, true, true, false, false, false, false] (by kernel_rfl) rfl (by rfl) (by rfl) (by rfl) (by go_simp) ((cmp_any p p2 _).mono ?_)
  rintro e w4 ⟨rfl, rfl⟩
  refine ⟨_, rfl, hHeld, fun hHeld => ?_⟩
  simp only [Act.put, List.setIfInBounds_toArray, List.set_cons_zero, List.set_cons_succ]
  refine held_call 18 23 [true, true, true, true, true, true, true, true, true, true, true, true, true, true, true, true, true, true, true, false, false, false] (by kernel_rfl) rfl (by rfl) (by rfl) (by rfl) (by go_simp) ((cmp_any q q2 _).mono ?_)
  rintro e w4 ⟨rfl, rfl⟩
  refine ⟨_, rfl, hHeld, fun hHeld => ?_⟩
  simp only [Act.put, List.setIfInBounds_toArray, List.set_cons_zero, List.set_cons_succ]
  generalize cmpI t t2 = x at *
  generalize cmpI p p2 = y at *
  generalize cmpI q q2 = z at *
  generalize w1.drew = wD at *
  have hal := (Below.refl wD.heap.size wD).alloc (Nat.le_refl _) (.cells #[.int .i64 x, .int .i64 y, .int .i64 z] 3)
  have hsl := sl_ints wD [x, y, z] (by simp)
  refine held_one 19 (by kernel_rfl) ?_
  refine op_value (v := .slice (some ⟨wD.heap.size, 0, none⟩) 3 3) 24 [true, true, true, true, true, true, true, true, true, true, true, true, true, true, true, true, true, true, true, true, false, false] rfl (by rfl) (by rfl) (by rfl) (by go_simp <;> rfl) (hHeld.trans (hal.mono hHeld.size)) fun hHeld => ?_
  simp only [Act.put, List.setIfInBounds_toArray, List.set_cons_zero, List.set_cons_succ]
  refine held_call 20 25 [true, true, true, true, true, true, true, true, true, true, true, true, true, true, true, true, true, true, true, true, true, false] (by kernel_rfl) rfl (by rfl) (by rfl) (by rfl) (by go_simp) ((or_any _ 3 3 [x, y, z] _ hsl (by decide)).mono ?_)
  rintro e w5 ⟨rfl, rfl⟩
  refine ⟨_, rfl, hHeld, fun hHeld => ?_⟩
  simp only [Act.put, List.setIfInBounds_toArray, List.set_cons_zero, List.set_cons_succ]
  refine held_take (v := ?_) 21 4 [true, true, true, true, true, true, true, true, true, true, true, true, true, true, true, true, true, true, true, true, true, true] rfl (by rfl) (by rfl) (by kernel_rfl) (by kernel_rfl) (by kernel_rfl) (by rfl) (fun _ _ _ h => h) ?_ hHeld ?_
  rotate_left
  · intro w hSw; go_simp <;> with_reducible rfl
  simp only [Act.put, List.setIfInBounds_toArray, List.set_cons_zero, List.set_cons_succ]
  refine held_done (by kernel_rfl) ?_
  have HB9 := HB.out.trans (hHeld.mono (HG0.out ▸ HB.out.size))
  go_wp2_with fail
  go_ret
  have hge := HG0.out
  subst hge
  exact ⟨by rw [HRV.out]; rfl, HB9⟩
theorem nine {c : List Int} (h : c.length = 9) : ∃ p q t k a b n r s, c = [p, q, t, k, a, b, n, r, s] := by
  match c, h with
  | [p, q, t, k, a, b, n, r, s], _ => exact ⟨p, q, t, k, a, b, n, r, s, rfl⟩
theorem scmp (c d : List Int) (hc : c.length = 9) (hd : d.length = 9) (w : World) : Calls Try.prog 41 #[.agg (ints c).toArray, .agg (ints d).toArray] w fun e w' => e = .returned (.int .i64 (cmpC c d)) ∧ Below w.heap.size w w' := by
  obtain ⟨p, q, t, k, a, b, n, r, s, rfl⟩ := nine hc
  obtain ⟨p2, q2, t2, k2, a2, b2, n2, r2, s2, rfl⟩ := nine hd
  exact scompare_any p q t k a b n r s p2 q2 t2 k2 a2 b2 n2 r2 s2 w
set_option maxHeartbeats 4000000 in
theorem sless_any (p q t k a b n r s p2 q2 t2 k2 a2 b2 n2 r2 s2 : Int) (w : World) : Calls Try.prog 37 #[.agg #[.int .i64 p, .int .i64 q, .int .i64 t, .int .i64 k, .int .i64 a, .int .i64 b, .int .i64 n, .int .i64 r, .int .i64 s], .agg #[.int .i64 p2, .int .i64 q2, .int .i64 t2, .int .i64 k2, .int .i64 a2, .int .i64 b2, .int .i64 n2, .int .i64 r2, .int .i64 s2]] w fun e w' => e = .returned (.bool (lessC [p, q, t, k, a, b, n, r, s] [p2, q2, t2, k2, a2, b2, n2, r2, s2])) ∧ Below w.heap.size w w' := by
  have HB := Lib.hid (((Below.refl w.heap.size w).alloc (Nat.le_refl _) (.cells #[.int .i64 p, .int .i64 q, .int .i64 t, .int .i64 k, .int .i64 a, .int .i64 b, .int .i64 n, .int .i64 r, .int .i64 s] 36)).alloc (by simp) (.cells #[.int .i64 p2, .int .i64 q2, .int .i64 t2, .int .i64 k2, .int .i64 a2, .int .i64 b2, .int .i64 n2, .int .i64 r2, .int .i64 s2] 36))
  have A := Lib.hid ((Blk.new w #[.int .i64 p, .int .i64 q, .int .i64 t, .int .i64 k, .int .i64 a, .int .i64 b, .int .i64 n, .int .i64 r, .int .i64 s] 36).alloc (.cells #[.int .i64 p2, .int .i64 q2, .int .i64 t2, .int .i64 k2, .int .i64 a2, .int .i64 b2, .int .i64 n2, .int .i64 r2, .int .i64 s2] 36))
  have B : Hid (Blk ((w.alloc (.cells #[.int .i64 p, .int .i64 q, .int .i64 t, .int .i64 k, .int .i64 a, .int .i64 b, .int .i64 n, .int .i64 r, .int .i64 s] 36)).alloc (.cells #[.int .i64 p2, .int .i64 q2, .int .i64 t2, .int .i64 k2, .int .i64 a2, .int .i64 b2, .int .i64 n2, .int .i64 r2, .int .i64 s2] 36)) (w.heap.size + 1) #[.int .i64 p2, .int .i64 q2, .int .i64 t2, .int .i64 k2, .int .i64 a2, .int .i64 b2, .int .i64 n2, .int .i64 r2, .int .i64 s2].toList 36) := Lib.hid (by have := Blk.new (w.alloc (.cells #[.int .i64 p, .int .i64 q, .int .i64 t, .int .i64 k, .int .i64 a, .int .i64 b, .int .i64 n, .int .i64 r, .int .i64 s] 36)) #[.int .i64 p2, .int .i64 q2, .int .i64 t2, .int .i64 k2, .int .i64 a2, .int .i64 b2, .int .i64 n2, .int .i64 r2, .int .i64 s2] 36; simpa using this)
  obtain ⟨RV, hRV⟩ : ∃ RV, RV = lessC [p, q, t, k, a, b, n, r, s] [p2, q2, t2, k2, a2, b2, n2, r2, s2] := ⟨_, rfl⟩
  rw [← hRV]
  have HRV : Hid (RV = decide (cmpC [p, q, t, k, a, b, n, r, s] [p2, q2, t2, k2, a2, b2, n2, r2, s2] < 0)) := Lib.hid hRV
  have C := Lib.hid (fun w => scompare_any p q t k a b n r s p2 q2 t2 k2 a2 b2 n2 r2 s2 w)
  generalize cmpC [p, q, t, k, a, b, n, r, s] [p2, q2, t2, k2, a2, b2, n2, r2, s2] = x at *
  clear hRV
  go_enter Try.func37, Try.ntmps37
  go_wp2_with fail
  refine (C.out _).mono ?_
  rintro e w2 ⟨rfl, hb⟩
  have HB2 := Lib.hid (HB.out.trans (hb.mono HB.out.size))
  clear hb
  go_wp2_with fail
  go_ret
  exact ⟨by rw [HRV.out]; rfl, HB2.out⟩
theorem sless (c d : List Int) (hc : c.length = 9) (hd : d.length = 9) (w : World) : Calls Try.prog 37 #[.agg (ints c).toArray, .agg (ints d).toArray] w fun e w' => e = .returned (.bool (lessC c d)) ∧ Below w.heap.size w w' := by
  obtain ⟨p, q, t, k, a, b, n, r, s, rfl⟩ := nine hc
  obtain ⟨p2, q2, t2, k2, a2, b2, n2, r2, s2, rfl⟩ := nine hd
  exact sless_any p q t k a b n r s p2 q2 t2 k2 a2 b2 n2 r2 s2 w
end Go.Proofs.Ytcfipimhpeblbaa
