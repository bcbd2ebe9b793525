/- The reference's text of a name. -/
import Derived.Test.YtaaefkadkciohaaDoorDec
import Derived.Test.YtaaefkadkciohaaDoorTxtM
import Derived.Deep.DeepCutAuto
import Derived.Maps.AppendAt
import Derived.Test.YtaaefkadkciohaaDoorRow
import Derived.Test.YtaaefkadkciohaaDoorOps
import Derived.RegionTactic
import Derived.BigRegion
import Derived.ChangeAlike
namespace Go.Proofs.YtaaefkadkciohaaDoor
set_option linter.unusedVariables false
set_option linter.unusedSimpArgs false
open Go.ChangeShapes Go.WideShapes Go.ChangeAt Go.RowKit
theorem decB (n : Int) (w : World) (hn : fits n = true) : Calls Tryd.prog 8 #[.int .i64 n] w fun e w' => e = .returned (.string (itB n)) ∧ Below w.heap.size w w' := dec_any n w hn
set_option maxHeartbeats 2000000 in
theorem ridtext_any (p q : Int) (w : World) (hp : fits p = true) (hq : fits q = true) : Calls Tryd.prog 7 #[.agg #[.int .i64 p, .int .i64 q]] w fun e w' => e = .returned (.string (idB p q)) ∧ Below w.heap.size w w' := by
  have HB := Lib.hid ((Below.refl w.heap.size w).alloc (Nat.le_refl _) (.cells #[.int .i64 p, .int .i64 q] 23))
  have A := Lib.hid (Blk.new w #[.int .i64 p, .int .i64 q] 23)
  have hl := Lib.hid (show w.heap.size < (w.alloc (.cells #[.int .i64 p, .int .i64 q] 23)).heap.size by simp)
  have CP := Lib.hid (fun w' (hb : Below (w.alloc (.cells #[.int .i64 p, .int .i64 q] 23)).heap.size (w.alloc (.cells #[.int .i64 p, .int .i64 q] 23)) w') => decB p w' hp)
  have CQ := Lib.hid (fun w' (hb : Below (w.alloc (.cells #[.int .i64 p, .int .i64 q] 23)).heap.size (w.alloc (.cells #[.int .i64 p, .int .i64 q] 23)) w') => decB q w' hq)
  have s1 := itB_small p hp
  have s2 := itB_small q hq
  go_enter Tryd.func7, Tryd.ntmps7
  go_upto_region 1 with fail
  generalize hg : w.heap.size = g at *
  generalize (w.alloc (.cells #[.int .i64 p, .int .i64 q] 23)) = w1 at *
  have HG := Lib.hid hg
  clear hg
  refine q_begin (by kernel_rfl) (by kernel_rfl) ?_
  repeat (first
    | go_big_quiet_skip
    | ((with_reducible apply q_int); (· rfl); (· rfl); (· exact Tryd.underlying3); (· exact A.out); (· exact hl.out); (· rfl); (simp only [Act.put, List.setIfInBounds_toArray, List.set_cons_zero, List.set_cons_succ]))
    | ((with_reducible apply q_call 8 (.string (itB p))); (· rfl); (· exact Nat.le_refl _); (· intro w hw; exact CP.out w hw); (· intro w; go_simp); (simp only [Act.put, List.setIfInBounds_toArray, List.set_cons_zero, List.set_cons_succ]))
    | ((with_reducible apply q_call 8 (.string (itB q))); (· rfl); (· exact Nat.le_refl _); (· intro w hw; exact CQ.out w hw); (· intro w; go_simp); (simp only [Act.put, List.setIfInBounds_toArray, List.set_cons_zero, List.set_cons_succ]))
    | (go_big_quiet_want; go_big_quiet_op; (first | go_big_quiet_on | (apply Exists.intro; refine ⟨fun _ _ => rfl, ?_⟩; go_big_quiet_on))))
  refine q_end ?_
  intro w2 hb
  have hg := HG.out
  subst hg
  have HB2 := HB.out.trans (hb.mono HB.out.size)
  go_wp2_with fail
  go_ret
  exact ⟨rfl, HB2⟩
end Go.Proofs.YtaaefkadkciohaaDoor
