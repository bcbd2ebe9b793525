/- Lists of changes: the greatest time. -/
import Derived.Test.YtcfipimhpeblbaaStm3
import Derived.Lib.MinMax
import Derived.Deep.DeepCutAuto
import Derived.Maps.AppendAt
import Derived.Test.YtcfipimhpeblbaaRow
import Derived.Test.YtcfipimhpeblbaaOps
import Derived.RegionTactic
import Derived.BigRegion
import Derived.ChangeAlike
namespace Go.Proofs.Ytcfipimhpeblbaa
set_option linter.unusedVariables false
set_option linter.unusedSimpArgs false
open Go.ChangeShapes Go.WideShapes Go.ChangeAt Go.RowKit
def lastC (L : List Int) : Nat → Int
  | 0 => 0
  | k + 1 => max (lastC L k) (L.getD (k * 9 + 2) 0)
end Go.Proofs.Ytcfipimhpeblbaa
