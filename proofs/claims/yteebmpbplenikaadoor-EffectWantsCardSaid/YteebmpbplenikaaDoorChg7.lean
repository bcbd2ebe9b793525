/- The reference's Get of a change. -/
import Derived.Test.YteebmpbplenikaaDoorChg5
import Derived.Test.YteebmpbplenikaaDoorLaw02
import Derived.Test.YteebmpbplenikaaDoorHeld
import Derived.Deep.DeepCutAuto
import Derived.StillTailTactics
import Derived.Lib.SmallJoins
import Derived.BigQuiet
import Derived.Deep.QuietTactic
import Derived.Test.YteebmpbplenikaaDoorOct
import Derived.Test.YteebmpbplenikaaDoorApp
import Derived.Test.YteebmpbplenikaaDoorRow
import Derived.Test.YteebmpbplenikaaDoorOps
import Derived.RegionTactic
import Derived.BigRegion
import Derived.ChangeAlike
namespace Go.Proofs.YteebmpbplenikaaDoor
set_option linter.unusedVariables false
set_option linter.unusedSimpArgs false
open Go.ChangeShapes Go.WideShapes Go.ChangeAt Go.RowKit
theorem i64_wrap64 (x : Int) : IntKind.i64.wrap x = wrap64 x := (IntKind.wrap_i64 x).trans (by unfold wrap64; rfl)
theorem fld_one (bs : List UInt8) (i : Nat) (h : i < bs.length) : ((bs.getD i 0).toNat : Int) = fld bs i 1 := by
  have hx : (bs.getD i 0).toNat < 256 := UInt8.toNat_lt _
  unfold fld
  rw [show (bs.drop i).take 1 = [bs.getD i 0] by
    rw [List.drop_eq_getElem_cons h, List.take_succ_cons, List.take_zero, List.getD_eq_getElem?_getD, List.getElem?_eq_getElem h]; rfl]
  rw [s64_small (by simp only [numOf, List.foldl_cons, List.foldl_nil]; omega)]
  simp [numOf]
theorem wrap_oct (bs : List UInt8) (i : Nat) (h : i < bs.length) : fld bs i 1 = IntKind.i64.wrap ((bs.getD i 0).toNat : Int) := by
  have hx : (bs.getD i 0).toNat < 256 := UInt8.toNat_lt _
  rw [← fld_one bs i h, i64_wrap64]
  unfold wrap64
  omega
theorem sub_at {w : World} {bb off c i k : Nat} {bs : List UInt8} (h : Sl w (some ⟨bb, off, none⟩) 22 1 (bcells bs)) (hk : i + k ≤ 22) (hc : 22 ≤ c) (hi : i < 22 := by decide) : Sl w (some ⟨bb, off + i, none⟩) k 1 (bcells ((bs.drop i).take k)) := by
  have := h.sub (c := c) hk hc
  unfold restOf at this
  rw [if_neg (by omega)] at this
  simpa [add_plain] using this
end Go.Proofs.YteebmpbplenikaaDoor
