/- Put and Get of a change. -/
import Derived.Test.YteebmpbplenikaaDoorChg2
import Derived.Test.YteebmpbplenikaaDoorChg3
import Derived.Test.YteebmpbplenikaaDoorOct
import Derived.Test.YteebmpbplenikaaDoorApp
import Derived.Test.YteebmpbplenikaaDoorRow
import Derived.Test.YteebmpbplenikaaDoorOps
import Derived.RegionTactic
import Derived.BigRegion
import Derived.ChangeAlike
namespace Go.Proofs.YteebmpbplenikaaDoor
set_option linter.unusedVariables false
set_option linter.unusedSimpArgs false
open Go.ChangeShapes Go.WideShapes Go.ChangeAt Go.RowKit
end Go.Proofs.YteebmpbplenikaaDoor
