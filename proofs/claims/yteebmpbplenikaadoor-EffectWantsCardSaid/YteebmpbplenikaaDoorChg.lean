/- Changes: which may be. -/
import Derived.Test.YteebmpbplenikaaDoorBlk
import Derived.Test.YteebmpbplenikaaDoorRow
import Derived.Test.YteebmpbplenikaaDoorOps
import Derived.RegionTactic
import Derived.BigRegion
import Derived.ChangeAlike
namespace Go.Proofs.YteebmpbplenikaaDoor
set_option linter.unusedVariables false
set_option linter.unusedSimpArgs false
open Go.ChangeShapes Go.WideShapes Go.ChangeAt Go.RowKit
def mayId (r s : Int) : Bool := decide (0 ≤ r ∧ r < 4 ∧ 1 ≤ s ∧ s ≤ 65535)
theorem mayId_iff (r s : Int) : mayId r s = true ↔ 0 ≤ r ∧ r < 4 ∧ 1 ≤ s ∧ s ≤ 65535 := decide_eq_true_iff
def isOct (n : Int) : Bool := decide (0 ≤ n ∧ n ≤ 255)
theorem isOct_iff (n : Int) : isOct n = true ↔ 0 ≤ n ∧ n ≤ 255 := decide_eq_true_iff
theorem small_any (n : Int) (w : World) : Calls Tryd.prog 21 #[.int .i64 n] w fun e w' => e = .returned (.bool (isOct n)) ∧ w = w' := by
  go_enter Tryd.func21, Tryd.ntmps21
  by_cases h0 : 0 ≤ n
  · by_cases h1 : n ≤ 255
    · have E := Lib.hid ((isOct_iff n).2 ⟨h0, h1⟩)
      go_wp2_with fail
      go_ret
      exact ⟨by rw [E.out]; rfl, rfl⟩
    · have E := Lib.hid (show isOct n = false by unfold isOct; rw [decide_eq_false]; omega)
      go_wp2_with fail
      go_ret
      exact ⟨by rw [E.out]; rfl, rfl⟩
  · have E := Lib.hid (show isOct n = false by unfold isOct; rw [decide_eq_false]; omega)
    go_wp2_with fail
    go_ret
    exact ⟨by rw [E.out]; rfl, rfl⟩
theorem small_is {n : Int} {v : Bool} (h : isOct n = v) (w : World) : Calls Tryd.prog 21 #[.int .i64 n] w fun e w' => e = .returned (.bool v) ∧ w = w' := by
  have := small_any n w
  rwa [h] at this
/-- the cells of a change. -/
def chg9 (r s t k a b n p q : Int) : List Value := ints [r, s, t, k, a, b, n, p, q]
def mayChg (r s t k a b p q : Int) : Bool := decide (mayId r s = true ∧ 1 ≤ t ∧ t ≤ 1073741824 ∧ 0 ≤ q ∧ q ≤ 65535 ∧ isOct k = true ∧ isOct a = true ∧ isOct b = true ∧ isOct p = true)
def chkChg (r s t k a b p q : Int) : Int := if mayChg r s t k a b p q = true then 0 else 4
theorem chk_no {r s t k a b p q : Int} (h : ¬ (mayId r s = true ∧ 1 ≤ t ∧ t ≤ 1073741824 ∧ 0 ≤ q ∧ q ≤ 65535 ∧ isOct k = true ∧ isOct a = true ∧ isOct b = true ∧ isOct p = true)) : chkChg r s t k a b p q = 4 := by
  unfold chkChg mayChg
  rw [decide_eq_false h]; rfl
theorem chk_yes {r s t k a b p q : Int} (h : mayId r s = true ∧ 1 ≤ t ∧ t ≤ 1073741824 ∧ 0 ≤ q ∧ q ≤ 65535 ∧ isOct k = true ∧ isOct a = true ∧ isOct b = true ∧ isOct p = true) : chkChg r s t k a b p q = 0 := by
  unfold chkChg mayChg
  rw [decide_eq_true h]; rfl
theorem mayChg_no {r s t k a b p q : Int} (h : ¬ (mayId r s = true ∧ 1 ≤ t ∧ t ≤ 1073741824 ∧ 0 ≤ q ∧ q ≤ 65535 ∧ isOct k = true ∧ isOct a = true ∧ isOct b = true ∧ isOct p = true)) : mayChg r s t k a b p q = false := decide_eq_false h
end Go.Proofs.YteebmpbplenikaaDoor
