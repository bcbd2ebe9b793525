/- The laws of delay, walked. -/
import Derived.Test.YtalbkpahphndiaaDelay
import Derived.Test.YtalbkpahphndiaaRow
import Derived.Below
namespace Go.Proofs.Ytalbkpahphndiaa
set_option linter.unusedVariables false
set_option linter.unusedSimpArgs false
open Go.ChangeShapes Go.WideShapes Go.ChangeAt Go.RowKit
theorem rdue_any (b m n last : Int) (w : World) :
    Calls Try.prog 72 #[.int .i64 b, .int .i64 m, .int .i64 n, .int .i64 last] w fun e w' => e = .returned (.int .i64 (dueI b m n last)) ∧ w = w' := by
  have h1 := waitI_bd b m n
  have h2 := clampI_bd last 0 1073741824 (by decide)
  have D : Hid (dueI b m n last = clampI last 0 1073741824 + waitI b m n) := Lib.hid rfl
  have C := Lib.hid (fun (w : World) => near_any last 0 1073741824 w)
  have V := Lib.hid (fun (w : World) => rwait_any b m n w)
  generalize clampI last 0 1073741824 = c at *
  generalize waitI b m n = v at *
  obtain ⟨h11, h12⟩ := h1
  obtain ⟨h21, h22⟩ := h2
  go_enter Try.func72, Try.ntmps72
  go_wp2_with (first
    | (go_at_call 81; refine (C.out _).mono ?_; rintro e w' ⟨rfl, rfl⟩)
    | (go_at_call 82; refine (V.out _).mono ?_; rintro e w' ⟨rfl, rfl⟩))
  go_ret
  exact ⟨ret_int D.out.symm, rfl⟩
theorem itw_pow (m x : Int) (hx : 1 ≤ x) (hxm : x ≤ m) (k : Nat) : itw m x k = m ∨ (2 : Int) ^ k ≤ itw m x k := by
  induction k with
  | zero => right; simpa [itw] using hx
  | succ k ih =>
    simp only [itw]
    have hb := itw_bd m x hx hxm k
    rcases ih with h | h
    · left; omega
    · have : (2 : Int) ^ (k + 1) = 2 * 2 ^ k := by rw [Int.pow_succ]; omega
      omega
theorem rises (b m n : Int) (h1 : 1 ≤ n) (h2 : n ≤ 70) :
    1 ≤ waitI b m n ∧ waitI b m n ≤ clampI m 1 64 ∧ waitI b m n ≤ waitI b m (n + 1) ∧ (waitI b m (n + 1) = 2 * waitI b m n ∨ waitI b m (n + 1) = clampI m 1 64) := by
  have hb := clampI_bd b 1 64 (by decide)
  have hm := clampI_bd m 1 64 (by decide)
  have e1 : clampI n 0 64 = min n 64 := by unfold clampI; split <;> (try split) <;> omega
  have e2 : clampI (n + 1) 0 64 = min (n + 1) 64 := by unfold clampI; split <;> (try split) <;> omega
  unfold waitI
  rw [e1, e2, if_neg (by omega), if_neg (by omega)]
  generalize clampI b 1 64 = b' at *
  generalize clampI m 1 64 = m' at *
  have hbd := itw_bd m' (min b' m') (by omega) (by omega)
  by_cases h : n < 64
  · have k1 : (min n 64 - 1).toNat + 1 = (min (n + 1) 64 - 1).toNat := by omega
    rw [← k1]
    have := hbd (min n 64 - 1).toNat
    simp only [itw]
    omega
  · have k1 : (min n 64 - 1).toNat = 63 := by omega
    have k2 : (min (n + 1) 64 - 1).toNat = 63 := by omega
    rw [k1, k2]
    have := hbd 63
    have hp := itw_pow m' (min b' m') (by omega) (by omega) 63
    have : (2 : Int) ^ 63 = 9223372036854775808 := by decide
    omega
theorem waitI_zero (b m : Int) : waitI b m 0 = 0 := by unfold waitI; rw [if_pos (by decide)]
theorem readyB_later (b m n last now later : Int) (h : now ≤ later) (hr : readyB b m n last now = true) : readyB b m n last later = true := by
  unfold readyB at *
  rw [Bool.or_eq_true, decide_eq_true_eq, decide_eq_true_eq] at *
  omega
end Go.Proofs.Ytalbkpahphndiaa
