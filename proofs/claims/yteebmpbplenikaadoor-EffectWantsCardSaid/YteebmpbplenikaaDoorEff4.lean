/- An effect's octets of a wrong length; an entry's flags. -/
import Derived.Test.YteebmpbplenikaaDoorEff3
import Derived.Test.YteebmpbplenikaaDoorEnt
import Derived.Test.YteebmpbplenikaaDoorRow
import Derived.Test.YteebmpbplenikaaDoorOps
import Derived.RegionTactic
import Derived.BigRegion
import Derived.ChangeAlike
namespace Go.Proofs.YteebmpbplenikaaDoor
set_option linter.unusedVariables false
set_option linter.unusedSimpArgs false
open Go.ChangeShapes Go.WideShapes Go.ChangeAt Go.RowKit
set_option maxRecDepth 100000 in
set_option maxHeartbeats 4000000 in
theorem eget_len (a : Option Addr) (n c : Nat) (w : World) (hn : n ≠ 13) :
    Calls Tryd.prog 11 #[.slice a n c] w fun e w' => e = .returned (.tuple #[.agg #[.int .i64 0, .int .i64 0, .int .i64 0, .int .i64 0, .int .i64 0], .int .i64 16]) ∧ Below w.heap.size w w' := by
  have HB := Lib.hid ((Below.refl w.heap.size w).alloc (Nat.le_refl _) (.cells #[.int .i64 0, .int .i64 0, .int .i64 0, .int .i64 0, .int .i64 0] 25))
  have AZ := Lib.hid (Blk.new w #[.int .i64 0, .int .i64 0, .int .i64 0, .int .i64 0, .int .i64 0] 25)
  have hn' : ¬ (n : Int) = 13 := by omega
  clear hn
  go_enter Tryd.func11, Tryd.ntmps11
  go_upto_region 1 with fail
  generalize w.alloc (.cells #[.int .i64 0, .int .i64 0, .int .i64 0, .int .i64 0, .int .i64 0] 25) = W at *
  go_upto_region 2 with fail
  have C5 := Lib.hid (AZ.out.setAll (ints [0, 0, 0, 0, 0]) rfl)
  have HBZ := Lib.hid (below_sets (Nat.le_refl _) (ints [0, 0, 0, 0, 0]) 0 _ HB.out)
  go_wp2_with (first
    | ((with_reducible apply ef_store0); (· rfl); (· rfl); (· exact AZ.out); (· rfl); (simp only [Act.put, List.setIfInBounds_toArray, List.set_cons_zero, List.set_cons_succ]); (generalize W.setCells w.heap.size 0 (ints [0, 0, 0, 0, 0]) = WW at *)))
  refine ret_cell_tmp (p := 2) (q := 3) rfl rfl rfl C5.out Tryd.underlying25 rfl (by rw [ef_size]; rfl) rfl ⟨rfl, HBZ.out⟩
/-- an entry's flags. -/
def flagsOf (ak gn : Bool) : Nat := (if ak then 1 else 0) + (if gn then 2 else 0)
end Go.Proofs.YteebmpbplenikaaDoor
