/- Changes: which may be. -/
import Derived.Test.YtaaefkadkciohaaDoorBlk
import Derived.Test.YtaaefkadkciohaaDoorRow
import Derived.Test.YtaaefkadkciohaaDoorOps
import Derived.RegionTactic
import Derived.BigRegion
import Derived.ChangeAlike
namespace Go.Proofs.YtaaefkadkciohaaDoor
set_option linter.unusedVariables false
set_option linter.unusedSimpArgs false
open Go.ChangeShapes Go.WideShapes Go.ChangeAt Go.RowKit
def mayId (r s : Int) : Bool := decide (0 ≤ r ∧ r < 4 ∧ 1 ≤ s ∧ s ≤ 65535)
theorem mayId_iff (r s : Int) : mayId r s = true ↔ 0 ≤ r ∧ r < 4 ∧ 1 ≤ s ∧ s ≤ 65535 := decide_eq_true_iff
def isOct (n : Int) : Bool := decide (0 ≤ n ∧ n ≤ 255)
theorem isOct_iff (n : Int) : isOct n = true ↔ 0 ≤ n ∧ n ≤ 255 := decide_eq_true_iff
/-- the cells of a change. -/
def chg9 (r s t k a b n p q : Int) : List Value := ints [r, s, t, k, a, b, n, p, q]
def mayChg (r s t k a b p q : Int) : Bool := decide (mayId r s = true ∧ 1 ≤ t ∧ t ≤ 1073741824 ∧ 0 ≤ q ∧ q ≤ 65535 ∧ isOct k = true ∧ isOct a = true ∧ isOct b = true ∧ isOct p = true)
def chkChg (r s t k a b p q : Int) : Int := if mayChg r s t k a b p q = true then 0 else 4
theorem chk_no {r s t k a b p q : Int} (h : ¬ (mayId r s = true ∧ 1 ≤ t ∧ t ≤ 1073741824 ∧ 0 ≤ q ∧ q ≤ 65535 ∧ isOct k = true ∧ isOct a = true ∧ isOct b = true ∧ isOct p = true)) : chkChg r s t k a b p q = 4 := by
  unfold chkChg mayChg
  rw [decide_eq_false h]; rfl
theorem chk_yes {r s t k a b p q : Int} (h : mayId r s = true ∧ 1 ≤ t ∧ t ≤ 1073741824 ∧ 0 ≤ q ∧ q ≤ 65535 ∧ isOct k = true ∧ isOct a = true ∧ isOct b = true ∧ isOct p = true) : chkChg r s t k a b p q = 0 := by
  unfold chkChg mayChg
  rw [decide_eq_true h]; rfl
theorem mayChg_no {r s t k a b p q : Int} (h : ¬ (mayId r s = true ∧ 1 ≤ t ∧ t ≤ 1073741824 ∧ 0 ≤ q ∧ q ≤ 65535 ∧ isOct k = true ∧ isOct a = true ∧ isOct b = true ∧ isOct p = true)) : mayChg r s t k a b p q = false := decide_eq_false h
end Go.Proofs.YtaaefkadkciohaaDoor
