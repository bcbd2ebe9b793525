/- Requests that may be. -/
import Derived.Test.YteebmpbplenikaaDoorEnt
import Derived.Test.YteebmpbplenikaaDoorNum
import Derived.BigQuiet
import Derived.Deep.QuietTactic
import Derived.Lib.SmallJoins
import Derived.Test.YteebmpbplenikaaDoorRow
import Derived.Test.YteebmpbplenikaaDoorOps
import Derived.RegionTactic
import Derived.BigRegion
import Derived.ChangeAlike
namespace Go.Proofs.YteebmpbplenikaaDoor
set_option linter.unusedVariables false
set_option linter.unusedSimpArgs false
open Go.ChangeShapes Go.WideShapes Go.ChangeAt Go.RowKit
def mayEnt (o k a p q s l : Int) (ak gn : Bool) (b bl : Int) : Bool := decide (effCode k a p q = 0 ∧ inB o 1 255 = true ∧ inB s 1 8 = true ∧ inB b 0 8 = true ∧ (0 < b → (ak && gn) = true) ∧ inB l 0 1073741824 = true ∧ inB bl 0 1073741824 = true ∧ (0 < b ∨ bl = 0))
theorem ment_no {o k a p q s l : Int} {ak gn : Bool} {b bl : Int} (h : ¬ (effCode k a p q = 0 ∧ inB o 1 255 = true ∧ inB s 1 8 = true ∧ inB b 0 8 = true ∧ (0 < b → (ak && gn) = true) ∧ inB l 0 1073741824 = true ∧ inB bl 0 1073741824 = true ∧ (0 < b ∨ bl = 0))) : mayEnt o k a p q s l ak gn b bl = false := decide_eq_false h
theorem ment_yes {o k a p q s l : Int} {ak gn : Bool} {b bl : Int} (h : effCode k a p q = 0 ∧ inB o 1 255 = true ∧ inB s 1 8 = true ∧ inB b 0 8 = true ∧ (0 < b → (ak && gn) = true) ∧ inB l 0 1073741824 = true ∧ inB bl 0 1073741824 = true ∧ (0 < b ∨ bl = 0)) : mayEnt o k a p q s l ak gn b bl = true := decide_eq_true h
end Go.Proofs.YteebmpbplenikaaDoor
