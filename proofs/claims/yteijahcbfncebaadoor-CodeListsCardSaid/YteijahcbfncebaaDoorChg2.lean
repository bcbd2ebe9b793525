/- Changes: which may be, walked. -/
import Derived.Test.YteijahcbfncebaaDoorChg
import Derived.Deep.LoopGhost
import Derived.Test.YteijahcbfncebaaDoorRow
import Derived.Test.YteijahcbfncebaaDoorOps
import Derived.RegionTactic
import Derived.BigRegion
import Derived.ChangeAlike
namespace Go.Proofs.YteijahcbfncebaaDoor
set_option linter.unusedVariables false
set_option linter.unusedSimpArgs false
open Go.ChangeShapes Go.WideShapes Go.ChangeAt Go.RowKit
end Go.Proofs.YteijahcbfncebaaDoor
