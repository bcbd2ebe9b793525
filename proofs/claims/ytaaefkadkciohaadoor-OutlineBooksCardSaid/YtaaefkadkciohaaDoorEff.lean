/- Effects: which may be. -/
import Derived.Test.YtaaefkadkciohaaDoorChg
import Derived.Test.YtaaefkadkciohaaDoorRow
import Derived.Test.YtaaefkadkciohaaDoorOps
import Derived.RegionTactic
import Derived.BigRegion
import Derived.ChangeAlike
namespace Go.Proofs.YtaaefkadkciohaaDoor
set_option linter.unusedVariables false
set_option linter.unusedSimpArgs false
open Go.ChangeShapes Go.WideShapes Go.ChangeAt Go.RowKit
def isKnd (n : Int) : Bool := decide (1 ≤ n ∧ n ≤ 11)
theorem isKnd_iff (n : Int) : isKnd n = true ↔ 1 ≤ n ∧ n ≤ 11 := decide_eq_true_iff
theorem kind_any (n : Int) (w : World) : Calls Tryd.prog 26 #[.int .i64 n] w fun e w' => e = .returned (.bool (isKnd n)) ∧ w = w' := by
  go_enter Tryd.func26, Tryd.ntmps26
  by_cases h0 : 1 ≤ n
  · by_cases h1 : n ≤ 11
    · have E := Lib.hid ((isKnd_iff n).2 ⟨h0, h1⟩)
      go_wp2_with fail
      go_ret
      exact ⟨by rw [E.out]; rfl, rfl⟩
    · have E := Lib.hid (show isKnd n = false by unfold isKnd; rw [decide_eq_false]; omega)
      go_wp2_with fail
      go_ret
      exact ⟨by rw [E.out]; rfl, rfl⟩
  · have E := Lib.hid (show isKnd n = false by unfold isKnd; rw [decide_eq_false]; omega)
    go_wp2_with fail
    go_ret
    exact ⟨by rw [E.out]; rfl, rfl⟩
theorem kind_is {n : Int} {b : Bool} (h : isKnd n = b) (w : World) : Calls Tryd.prog 26 #[.int .i64 n] w fun e w' => e = .returned (.bool b) ∧ w = w' := by
  have := kind_any n w
  rwa [h] at this
/-- an effect's error. -/
def effCode (k a p q : Int) : Int := if isKnd k = true then (if isOct a = true ∧ isOct p = true ∧ 0 ≤ q ∧ q ≤ 65535 then 0 else 4) else 12
theorem eff_kind {k a p q : Int} (h : isKnd k = false) : effCode k a p q = 12 := by unfold effCode; rw [h]; rfl
theorem eff_no {k a p q : Int} (h : isKnd k = true) (h2 : ¬ (isOct a = true ∧ isOct p = true ∧ 0 ≤ q ∧ q ≤ 65535)) : effCode k a p q = 4 := by unfold effCode; rw [if_pos h, if_neg h2]
theorem eff_yes {k a p q : Int} (h : isKnd k = true) (h2 : isOct a = true ∧ isOct p = true ∧ 0 ≤ q ∧ q ≤ 65535) : effCode k a p q = 0 := by unfold effCode; rw [if_pos h, if_pos h2]
end Go.Proofs.YtaaefkadkciohaaDoor
