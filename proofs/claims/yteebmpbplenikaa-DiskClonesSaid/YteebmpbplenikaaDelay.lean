/- Contracts of delay's functions and of the reference's. -/
import Derived.Test.YteebmpbplenikaaNum
import Derived.Handy
namespace Go.Proofs.Yteebmpbplenikaa
set_option linter.unusedVariables false
set_option linter.unusedSimpArgs false
open Go.ChangeShapes Go.WideShapes Go.ChangeAt Go.RowKit
theorem clampI_bd (n lo hi : Int) (h : lo ≤ hi) : lo ≤ clampI n lo hi ∧ clampI n lo hi ≤ hi := by unfold clampI; split <;> (try split) <;> omega
/-- the wait behind the (k+1)-st try. -/
def itw (m x : Int) : Nat → Int
  | 0 => x
  | k + 1 => min (2 * itw m x k) m
def waitI (b m n : Int) : Int := if clampI n 0 64 = 0 then 0 else itw (clampI m 1 64) (min (clampI b 1 64) (clampI m 1 64)) (clampI n 0 64 - 1).toNat
theorem itw_bd (m x : Int) (hx : 1 ≤ x) (hm : x ≤ m) (k : Nat) : 1 ≤ itw m x k ∧ itw m x k ≤ m := by
  induction k with
  | zero => exact ⟨hx, hm⟩
  | succ k ih => simp only [itw]; omega
theorem ret_int {k : IntKind} {a b : Int} (h : a = b) : Ending.returned (.int k a) = .returned (.int k b) := by rw [h]
theorem waitI_bd (b m n : Int) : 0 ≤ waitI b m n ∧ waitI b m n ≤ 64 := by
  have hb := clampI_bd b 1 64 (by decide)
  have hm := clampI_bd m 1 64 (by decide)
  unfold waitI
  split
  · omega
  · have := itw_bd (clampI m 1 64) (min (clampI b 1 64) (clampI m 1 64)) (by omega) (by omega) (clampI n 0 64 - 1).toNat
    omega
def dueI (b m n last : Int) : Int := clampI last 0 1073741824 + waitI b m n
theorem dueI_bd (b m n last : Int) : 0 ≤ dueI b m n last ∧ dueI b m n last ≤ 1073741888 := by
  have := waitI_bd b m n
  have := clampI_bd last 0 1073741824 (by decide)
  unfold dueI; omega
def readyB (b m n last now : Int) : Bool := decide (clampI n 0 64 = 0) || decide (dueI b m n last ≤ now)
/-- all waits together. -/
def totI (b m : Int) : Nat → Int
  | 0 => 0
  | k + 1 => totI b m k + waitI b m ((k : Int) + 1)
theorem totI_bd (b m : Int) (k : Nat) : 0 ≤ totI b m k ∧ totI b m k ≤ 64 * k := by
  induction k with
  | zero => exact ⟨Int.le_refl _, Int.le_refl _⟩
  | succ k ih => have := waitI_bd b m ((k : Int) + 1); simp only [totI]; omega
/-! the reference -/
theorem near_any (a b c : Int) (w : World) :
    Calls Try.prog 7 #[.int .i64 a, .int .i64 b, .int .i64 c] w fun e w' => e = .returned (.int .i64 (clampI a b c)) ∧ w = w' := by
  unfold clampI
  by_cases h1 : a < b
  · rw [if_pos h1]
    go_enter Try.func7, Try.ntmps7
    go_wp2
    go_ret
    exact ⟨rfl, rfl⟩
  · rw [if_neg h1]
    by_cases h2 : c < a
    · rw [if_pos h2]
      go_enter Try.func7, Try.ntmps7
      go_wp2
      go_ret
      exact ⟨rfl, rfl⟩
    · rw [if_neg h2]
      go_enter Try.func7, Try.ntmps7
      go_wp2
      go_ret
      exact ⟨rfl, rfl⟩
theorem itw_top (m x : Int) (hm : 1 ≤ m) (j : Nat) (h : itw m x j = m) (k : Nat) : itw m x (j + k) = m := by
  induction k with
  | zero => exact h
  | succ k ih => show min (2 * itw m x (j + k)) m = m; rw [ih]; omega
end Go.Proofs.Yteebmpbplenikaa
