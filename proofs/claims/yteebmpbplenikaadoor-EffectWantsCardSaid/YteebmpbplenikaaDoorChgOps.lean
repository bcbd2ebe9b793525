/- A change's nine cells, loaded and stored whole. -/
import Derived.Test.YteebmpbplenikaaDoorChg2
import Derived.Test.YteebmpbplenikaaDoorOct
import Derived.Deep.RegionHeld
import Derived.Test.YteebmpbplenikaaDoorApp
import Derived.Test.YteebmpbplenikaaDoorRow
import Derived.Test.YteebmpbplenikaaDoorOps
import Derived.RegionTactic
import Derived.BigRegion
import Derived.ChangeAlike
namespace Go.Proofs.YteebmpbplenikaaDoor
set_option linter.unusedVariables false
set_option linter.unusedSimpArgs false
open Go.ChangeShapes Go.WideShapes Go.ChangeAt Go.RowKit
theorem Blk.cg {w : World} {g t : Nat} {x : List Int} (h : Blk w g (ints x) t) (hv : Hid (x.length = 9)) : w.rangeAt g 0 (ints x) := h.range 0 _ (by simp)
end Go.Proofs.YteebmpbplenikaaDoor
