/- Requests that may be: the reference's. -/
import Derived.Test.YteebmpbplenikaaDoorEnt2
import Derived.Test.YteebmpbplenikaaDoorNum
import Derived.BigQuiet
import Derived.Deep.QuietTactic
import Derived.Lib.SmallJoins
import Derived.Test.YteebmpbplenikaaDoorRow
import Derived.Test.YteebmpbplenikaaDoorOps
import Derived.RegionTactic
import Derived.BigRegion
import Derived.ChangeAlike
namespace Go.Proofs.YteebmpbplenikaaDoor
set_option linter.unusedVariables false
set_option linter.unusedSimpArgs false
open Go.ChangeShapes Go.WideShapes Go.ChangeAt Go.RowKit
theorem inB_iff (n lo hi : Int) : inB n lo hi = true ↔ lo ≤ n ∧ n ≤ hi := by unfold inB; simp
theorem ment_iff (o k a p q s l : Int) (ak gn : Bool) (b bl : Int) : mayEnt o k a p q s l ak gn b bl = true ↔ effCode k a p q = 0 ∧ 1 ≤ o ∧ o ≤ 255 ∧ 1 ≤ s ∧ s ≤ 8 ∧ 0 ≤ b ∧ b ≤ 8 ∧ (0 < b → (ak && gn) = true) ∧ 0 ≤ l ∧ l ≤ 1073741824 ∧ 0 ≤ bl ∧ bl ≤ 1073741824 ∧ (0 < b ∨ bl = 0) := by
  unfold mayEnt
  rw [decide_eq_true_iff, inB_iff, inB_iff, inB_iff, inB_iff, inB_iff]
  constructor
  · rintro ⟨h1, ⟨h2, h3⟩, ⟨h4, h5⟩, ⟨h6, h7⟩, h8, ⟨h9, g1⟩, ⟨g2, g3⟩, g4⟩
    exact ⟨h1, h2, h3, h4, h5, h6, h7, h8, h9, g1, g2, g3, g4⟩
  · rintro ⟨h1, h2, h3, h4, h5, h6, h7, h8, h9, g1, g2, g3, g4⟩
    exact ⟨h1, ⟨h2, h3⟩, ⟨h4, h5⟩, ⟨h6, h7⟩, h8, ⟨h9, g1⟩, ⟨g2, g3⟩, g4⟩
theorem ment_not {o k a p q s l : Int} {ak gn : Bool} {b bl : Int} (h : ¬ (effCode k a p q = 0 ∧ 1 ≤ o ∧ o ≤ 255 ∧ 1 ≤ s ∧ s ≤ 8 ∧ 0 ≤ b ∧ b ≤ 8 ∧ (0 < b → (ak && gn) = true) ∧ 0 ≤ l ∧ l ≤ 1073741824 ∧ 0 ≤ bl ∧ bl ≤ 1073741824 ∧ (0 < b ∨ bl = 0))) : mayEnt o k a p q s l ak gn b bl = false := by
  rw [Bool.eq_false_iff]
  exact fun hh => h ((ment_iff o k a p q s l ak gn b bl).1 hh)
end Go.Proofs.YteebmpbplenikaaDoor
