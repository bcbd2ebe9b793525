/- Names of changes and requests as octets. -/
import Derived.Test.YtfffbhkenggdcaaRec7
import Derived.Test.YtfffbhkenggdcaaQt
import Derived.Test.YtfffbhkenggdcaaRow
import Derived.Test.YtfffbhkenggdcaaOps
import Derived.Test.YtfffbhkenggdcaaEq
import Derived.Test.YtfffbhkenggdcaaChgOps
import Derived.RegionTactic
import Derived.BigRegion
import Derived.ChangeAlike
namespace Go.Proofs.Ytfffbhkenggdcaa
set_option linter.unusedVariables false
set_option linter.unusedSimpArgs false
open Go.ChangeShapes Go.WideShapes Go.ChangeAt Go.RowKit
def idOcts (i1 i2 : Int) : List UInt8 := beOf (u64 i1) 1 ++ beOf (u64 i2) 2
set_option maxRecDepth 100000 in
set_option maxHeartbeats 4000000 in
theorem putid_any (a : Option Addr) (n c : Nat) (xs : List UInt8) (i1 i2 : Int) (w : World) (h : Sl w a n 1 (bcells xs)) (hn : n + 16 ≤ 140737488355328) :
    Calls Try.prog 22 #[.slice a n c, .agg #[.int .i64 i1, .int .i64 i2]] w fun e w' => ∃ v, e = .returned v ∧ w'.ownsRow w.heap.size 5 1 v (n + 3) (bcells (xs ++ idOcts i1 i2)) ∧ Below w.heap.size w w' := by
  have HA := Lib.hid (Blk.new w #[.int .i64 i1, .int .i64 i2] 25)
  have HB := Lib.hid ((Below.refl w.heap.size w).alloc (Nat.le_refl _) (.cells #[.int .i64 i1, .int .i64 i2] 25))
  have HS := Lib.hid (h.keep HB.out)
  have HW1 := Lib.hid (u64_wrap i1)
  have HW2 := Lib.hid (u64_wrap i2)
  have M1 := Lib.hid (u64_lt i1)
  have M2 := Lib.hid (u64_lt i2)
  clear h
  go_enter Try.func22, Try.ntmps22
  go_upto_region 1 with fail
  have hz : w.heap.size < (w.alloc (.cells #[.int .i64 i1, .int .i64 i2] 25)).heap.size := by simp
  generalize w.alloc (.cells #[.int .i64 i1, .int .i64 i2] 25) = W at *
  refine held_begin (fun w' => Below W.heap.size W w') 10 [false, false, false, false, false, false, false, false, false, false] (by kernel_rfl) rfl (by rfl) ?_
  have hHeld : Below W.heap.size W W.drew := ⟨rfl, rfl, rfl, Nat.le_refl _, fun _ _ => rfl⟩
  refine held_take (v := ?_) 0 5 [true, false, false, false, false, false, false, false, false, false] rfl (by rfl) (by rfl) (by kernel_rfl) (by kernel_rfl) (by kernel_rfl) (by rfl) (fun _ _ _ h => h) ?_ hHeld ?_
  rotate_left
  · intro w hSw; go_simp <;> with_reducible rfl
  simp only [Act.put, List.setIfInBounds_toArray, List.set_cons_zero, List.set_cons_succ]
  refine held_take (v := ?_) 1 6 [true, true, false, false, false, false, false, false, false, false] rfl (by rfl) (by rfl) (by kernel_rfl) (by kernel_rfl) (by kernel_rfl) (by rfl) (fun _ _ _ h => h) ?_ hHeld ?_
  rotate_left
  · intro w hSw; go_simp <;> with_reducible rfl
  simp only [Act.put, List.setIfInBounds_toArray, List.set_cons_zero, List.set_cons_succ]
  refine held_take (v := .int .i64 i1) 2 7 [true, true, true, false, false, false, false, false, false, false] rfl (by rfl) (by rfl) (by kernel_rfl) (by kernel_rfl) (by kernel_rfl) (by rfl) (fun _ _ _ h => h) (fun w' h => run_op_one rfl rfl Try.underlying3 rfl ((HA.out.keep h HA.out.lt).cell 0)) hHeld ?_
  simp only [Act.put, List.setIfInBounds_toArray, List.set_cons_zero, List.set_cons_succ]
  refine held_take (v := ?_) 3 8 [true, true, true, true, false, false, false, false, false, false] rfl (by rfl) (by rfl) (by kernel_rfl) (by kernel_rfl) (by kernel_rfl) (by rfl) (fun _ _ _ h => h) ?_ hHeld ?_
  rotate_left
  · intro w hSw; go_simp <;> with_reducible rfl
  simp only [Act.put, List.setIfInBounds_toArray, List.set_cons_zero, List.set_cons_succ]
  rw [HW1.out]
  refine held_take (v := ?_) 5 10 [true, true, true, true, false, true, false, false, false, false] rfl (by rfl) (by rfl) (by kernel_rfl) (by kernel_rfl) (by kernel_rfl) (by rfl) (fun _ _ _ h => h) ?_ hHeld ?_
  rotate_left
  · intro w hSw; go_simp <;> with_reducible rfl
  simp only [Act.put, List.setIfInBounds_toArray, List.set_cons_zero, List.set_cons_succ]
  refine held_take (v := .int .i64 i2) 6 11 [true, true, true, true, false, true, true, false, false, false] rfl (by rfl) (by rfl) (by kernel_rfl) (by kernel_rfl) (by kernel_rfl) (by rfl) (fun _ _ _ h => h) (fun w' h => run_op_one rfl rfl Try.underlying3 rfl ((HA.out.keep h HA.out.lt).cell 1)) hHeld ?_
  simp only [Act.put, List.setIfInBounds_toArray, List.set_cons_zero, List.set_cons_succ]
  refine held_take (v := ?_) 7 12 [true, true, true, true, false, true, true, true, false, false] rfl (by rfl) (by rfl) (by kernel_rfl) (by kernel_rfl) (by kernel_rfl) (by rfl) (fun _ _ _ h => h) ?_ hHeld ?_
  rotate_left
  · intro w hSw; go_simp <;> with_reducible rfl
  simp only [Act.put, List.setIfInBounds_toArray, List.set_cons_zero, List.set_cons_succ]
  rw [HW2.out]
  have P1 := put_ok a n c (bcells xs) (u64 i1) 1 _ (HS.out.keep hHeld) (fun u hu => bcells_one hu) (by omega) (by decide) (by decide) M1.out
  rw [show (((1 : Nat) : Int)) = 1 from rfl] at P1
  refine held_call 4 9 [true, true, true, true, true, true, true, true, false, false] (by kernel_rfl) rfl (by rfl) (by rfl) (by rfl) (by go_simp) ((P1).mono ?_)
  rintro e w1 ⟨v1, rfl, ho1, hb1⟩
  refine ⟨_, rfl, hHeld.trans (hb1.mono hHeld.size), fun hHeld => ?_⟩
  simp only [Act.put, List.setIfInBounds_toArray, List.set_cons_zero, List.set_cons_succ]
  clear P1
  obtain ⟨a1, c1, rfl, _, _, hs1⟩ := Sl.own ho1
  have P2 := put_ok a1 (n + 1) c1 _ (u64 i2) 2 _ hs1 (fun u hu => by rw [← bcells_add] at hu; exact bcells_one hu) (by omega) (by decide) (by decide) M2.out
  rw [show (((2 : Nat) : Int)) = 2 from rfl] at P2
  refine held_call 8 13 [true, true, true, true, true, true, true, true, true, false] (by kernel_rfl) rfl (by rfl) (by rfl) (by rfl) (by go_simp) ((P2).mono ?_)
  rintro e w2 ⟨v2, rfl, ho2, hb2⟩
  refine ⟨_, rfl, hHeld.trans (hb2.mono hHeld.size), fun hHeld => ?_⟩
  simp only [Act.put, List.setIfInBounds_toArray, List.set_cons_zero, List.set_cons_succ]
  clear P2
  refine held_take (v := ?_) 9 4 [true, true, true, true, true, true, true, true, true, true] rfl (by rfl) (by rfl) (by kernel_rfl) (by kernel_rfl) (by kernel_rfl) (by rfl) (fun _ _ _ h => h) ?_ hHeld ?_
  rotate_left
  · intro w hSw; go_simp <;> with_reducible rfl
  simp only [Act.put, List.setIfInBounds_toArray, List.set_cons_zero, List.set_cons_succ]
  refine held_done (by kernel_rfl) ?_
  have HO := Lib.hid (show w2.ownsRow w.heap.size 5 1 v2 (n + 3) (bcells (xs ++ idOcts i1 i2)) by
    have h3 := own_base ho2 (show w.heap.size ≤ w1.heap.size from Nat.le_trans (Nat.le_of_lt hz) hb1.size)
    rw [← bcells_add, ← bcells_add] at h3
    unfold idOcts
    rw [← List.append_assoc]
    exact h3)
  have HBZ := Lib.hid (HB.out.trans (hHeld.mono (Nat.le_of_lt hz)))
  clear hHeld hb1 hb2 ho1 ho2 hs1
  go_wp2_with fail
  go_ret
  exact ⟨_, rfl, HO.out, HBZ.out⟩
end Go.Proofs.Ytfffbhkenggdcaa
