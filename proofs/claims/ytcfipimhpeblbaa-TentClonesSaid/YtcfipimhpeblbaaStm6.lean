/- Two changes, sorted: slices.SortStableFunc, stamp.Sorted. -/
import Derived.Test.YtcfipimhpeblbaaStm5
import Derived.Deep.DeepCutAuto
import Derived.Maps.AppendAt
import Derived.Test.YtcfipimhpeblbaaRow
import Derived.Test.YtcfipimhpeblbaaOps
import Derived.RegionTactic
import Derived.BigRegion
import Derived.ChangeAlike
namespace Go.Proofs.Ytcfipimhpeblbaa
set_option linter.unusedVariables false
set_option linter.unusedSimpArgs false
open Go.ChangeShapes Go.WideShapes Go.ChangeAt Go.RowKit
end Go.Proofs.Ytcfipimhpeblbaa
