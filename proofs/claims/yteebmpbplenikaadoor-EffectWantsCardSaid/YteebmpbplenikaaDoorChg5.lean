/- Octets read as numbers, one behind the other. -/
import Derived.Test.YteebmpbplenikaaDoorChg2
import Derived.Test.YteebmpbplenikaaDoorOct
import Derived.Test.YteebmpbplenikaaDoorRead
import Derived.Test.YteebmpbplenikaaDoorChgOps
import Derived.Test.YteebmpbplenikaaDoorChg4
import Derived.Deep.RegionHeld
import Derived.Test.YteebmpbplenikaaDoorApp
import Derived.Test.YteebmpbplenikaaDoorRow
import Derived.Test.YteebmpbplenikaaDoorOps
import Derived.RegionTactic
import Derived.BigRegion
import Derived.ChangeAlike
namespace Go.Proofs.YteebmpbplenikaaDoor
set_option linter.unusedVariables false
set_option linter.unusedSimpArgs false
open Go.ChangeShapes Go.WideShapes Go.ChangeAt Go.RowKit
/-- the number of some octets. -/
def fld (bs : List UInt8) (o k : Nat) : Int := s64 (numOf ((bs.drop o).take k))
end Go.Proofs.YteebmpbplenikaaDoor
