/- The statements of changes: their octets. -/
import Derived.Test.YteebmpbplenikaaDoorChg8
import Derived.Test.YteebmpbplenikaaDoorChg6
import Derived.Test.YteebmpbplenikaaDoorChg4
import Derived.Test.YteebmpbplenikaaDoorMath9
import Derived.Test.YteebmpbplenikaaDoorChgEq
import Derived.Test.YteebmpbplenikaaDoorLaw02
import Derived.Test.YteebmpbplenikaaDoorHeld
import Derived.Test.YteebmpbplenikaaDoorRd
import Derived.Test.YteebmpbplenikaaDoorOct
import Derived.Test.YteebmpbplenikaaDoorApp
import Derived.Test.YteebmpbplenikaaDoorRow
import Derived.Test.YteebmpbplenikaaDoorOps
import Derived.RegionTactic
import Derived.BigRegion
import Derived.ChangeAlike
namespace Go.Proofs.YteebmpbplenikaaDoor
set_option linter.unusedVariables false
set_option linter.unusedSimpArgs false
open Go.ChangeShapes Go.WideShapes Go.ChangeAt Go.RowKit
end Go.Proofs.YteebmpbplenikaaDoor
