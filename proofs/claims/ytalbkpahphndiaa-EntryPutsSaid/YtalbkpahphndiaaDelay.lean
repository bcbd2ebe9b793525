/- Contracts of delay's functions and of the reference's. -/
import Derived.Test.YtalbkpahphndiaaNum
import Derived.Handy
namespace Go.Proofs.Ytalbkpahphndiaa
set_option linter.unusedVariables false
set_option linter.unusedSimpArgs false
open Go.ChangeShapes Go.WideShapes Go.ChangeAt Go.RowKit
theorem clampI_bd (n lo hi : Int) (h : lo ≤ hi) : lo ≤ clampI n lo hi ∧ clampI n lo hi ≤ hi := by unfold clampI; split <;> (try split) <;> omega
/-- the wait behind the (k+1)-st try. -/
def itw (m x : Int) : Nat → Int
  | 0 => x
  | k + 1 => min (2 * itw m x k) m
def waitI (b m n : Int) : Int := if clampI n 0 64 = 0 then 0 else itw (clampI m 1 64) (min (clampI b 1 64) (clampI m 1 64)) (clampI n 0 64 - 1).toNat
theorem itw_bd (m x : Int) (hx : 1 ≤ x) (hm : x ≤ m) (k : Nat) : 1 ≤ itw m x k ∧ itw m x k ≤ m := by
  induction k with
  | zero => exact ⟨hx, hm⟩
  | succ k ih => simp only [itw]; omega
theorem limit_any (a b c : Int) (w : World) :
    Calls Try.prog 71 #[.int .i64 a, .int .i64 b, .int .i64 c] w fun e w' => e = .returned (.tuple #[.int .i64 (clampI a 1 64), .int .i64 (clampI b 1 64), .int .i64 (clampI c 0 64)]) ∧ w = w' := by
  go_enter Try.func71, Try.ntmps71
  go_wp2_with (go_at_call 73; refine (clamp_any _ _ _ _).mono ?_; rintro e w' ⟨rfl, rfl⟩)
  go_ret3
  exact ⟨rfl, rfl⟩
theorem ret_int {k : IntKind} {a b : Int} (h : a = b) : Ending.returned (.int k a) = .returned (.int k b) := by rw [h]
set_option maxHeartbeats 400000 in
theorem wait_any (b m n : Int) (w : World) :
    Calls Try.prog 74 #[.int .i64 b, .int .i64 m, .int .i64 n] w fun e w' => e = .returned (.int .i64 (waitI b m n)) ∧ w = w' := by
  have hb := clampI_bd b 1 64 (by decide)
  have hm := clampI_bd m 1 64 (by decide)
  have hn := clampI_bd n 0 64 (by decide)
  have W : Hid (waitI b m n = if clampI n 0 64 = 0 then 0 else itw (clampI m 1 64) (min (clampI b 1 64) (clampI m 1 64)) (clampI n 0 64 - 1).toNat) := Lib.hid rfl
  by_cases h0 : clampI n 0 64 = 0
  · have h0' : (clampI n 0 64 == 0) = true := by simpa using h0
    have W' := Lib.hid (show waitI b m n = 0 by rw [W.out, if_pos h0])
    clear h0 W
    go_enter Try.func74, Try.ntmps74
    go_wp2_with (go_at_call 71; refine (limit_any _ _ _ _).mono ?_; rintro e w' ⟨rfl, rfl⟩)
    go_ret
    exact ⟨ret_int W'.out.symm, rfl⟩
  · have h0' : (clampI n 0 64 == 0) = false := by simpa using h0
    have W' := Lib.hid (show waitI b m n = itw (clampI m 1 64) (min (clampI b 1 64) (clampI m 1 64)) (clampI n 0 64 - 1).toNat by rw [W.out, if_neg h0])
    clear W
    have hn1 : 1 ≤ clampI n 0 64 := by omega
    clear h0
    have L := fun (w : World) => limit_any b m n w
    generalize clampI b 1 64 = b' at *
    generalize clampI m 1 64 = m' at *
    generalize clampI n 0 64 = n' at *
    obtain ⟨hb1, hb2⟩ := hb
    obtain ⟨hm1, hm2⟩ := hm
    obtain ⟨hn0, hn2⟩ := hn
    have HL := Lib.hid L
    clear L
    by_cases hbm : m' < b'
    all_goals
      go_enter Try.func74, Try.ntmps74
      go_wp2_with (go_at_call 71; refine (HL.out _).mono ?_; rintro e w' ⟨rfl, rfl⟩)
      go_loop [7, 23] (fun x i => ∃ (k : Nat), (k : Int) ≤ n' - 1 ∧ i = .int .i64 k ∧ x = .int .i64 (itw m' (min b' m') k)) (fun _ i => 64 - (intOf i).toNat)
      case atStart => exact ⟨0, by omega, rfl, congrArg (Value.int .i64) (by simp only [itw]; omega)⟩
      case round =>
        obtain ⟨k, hk, rfl, rfl⟩ := hrel
        have hi := itw_bd m' (min b' m') (by omega) (by omega) k
        have HS : Hid (itw m' (min b' m') (k + 1) = min (2 * itw m' (min b' m') k) m') := Lib.hid rfl
        by_cases hlt : (k : Int) < n' - 1
        · generalize itw m' (min b' m') k = y at *
          obtain ⟨hi1, hi2⟩ := hi
          by_cases hy : m' < 2 * y
          all_goals
            go_wp2
            go_round
            case rel => exact ⟨k + 1, by omega, by go_num, congrArg (Value.int .i64) (by rw [HS.out]; omega)⟩
            case measure => simp [intOf]; omega
        · have HK := Lib.hid (show (n' - 1).toNat = k by omega)
          go_wp2
          go_ret
          exact ⟨ret_int (by rw [W'.out, HK.out]), rfl⟩
theorem waitI_bd (b m n : Int) : 0 ≤ waitI b m n ∧ waitI b m n ≤ 64 := by
  have hb := clampI_bd b 1 64 (by decide)
  have hm := clampI_bd m 1 64 (by decide)
  unfold waitI
  split
  · omega
  · have := itw_bd (clampI m 1 64) (min (clampI b 1 64) (clampI m 1 64)) (by omega) (by omega) (clampI n 0 64 - 1).toNat
    omega
def dueI (b m n last : Int) : Int := clampI last 0 1073741824 + waitI b m n
theorem dueI_bd (b m n last : Int) : 0 ≤ dueI b m n last ∧ dueI b m n last ≤ 1073741888 := by
  have := waitI_bd b m n
  have := clampI_bd last 0 1073741824 (by decide)
  unfold dueI; omega
theorem due_any (b m n last : Int) (w : World) :
    Calls Try.prog 54 #[.int .i64 b, .int .i64 m, .int .i64 n, .int .i64 last] w fun e w' => e = .returned (.int .i64 (dueI b m n last)) ∧ w = w' := by
  have h1 := waitI_bd b m n
  have h2 := clampI_bd last 0 1073741824 (by decide)
  have D : Hid (dueI b m n last = clampI last 0 1073741824 + waitI b m n) := Lib.hid rfl
  have C := Lib.hid (fun (w : World) => clamp_any last 0 1073741824 w)
  have V := Lib.hid (fun (w : World) => wait_any b m n w)
  generalize clampI last 0 1073741824 = c at *
  generalize waitI b m n = v at *
  obtain ⟨h11, h12⟩ := h1
  obtain ⟨h21, h22⟩ := h2
  go_enter Try.func54, Try.ntmps54
  go_wp2_with (first
    | (go_at_call 73; refine (C.out _).mono ?_; rintro e w' ⟨rfl, rfl⟩)
    | (go_at_call 74; refine (V.out _).mono ?_; rintro e w' ⟨rfl, rfl⟩))
  go_ret
  exact ⟨ret_int D.out.symm, rfl⟩
def readyB (b m n last now : Int) : Bool := decide (clampI n 0 64 = 0) || decide (dueI b m n last ≤ now)
theorem ready_any (b m n last now : Int) (w : World) :
    Calls Try.prog 52 #[.int .i64 b, .int .i64 m, .int .i64 n, .int .i64 last, .int .i64 now] w fun e w' => e = .returned (.bool (readyB b m n last now)) ∧ w = w' := by
  unfold readyB
  have L := Lib.hid (fun (w : World) => limit_any b m n w)
  generalize clampI n 0 64 = n' at *
  by_cases h0 : n' = 0
  · rw [show decide (n' = 0) = true from by simpa using h0, Bool.true_or]
    subst h0
    go_enter Try.func52, Try.ntmps52
    go_wp2_with (go_at_call 71; refine (L.out _).mono ?_; rintro e w' ⟨rfl, rfl⟩)
    go_ret
    exact ⟨rfl, rfl⟩
  · rw [show decide (n' = 0) = false from by simpa using h0, Bool.false_or]
    have h0' : (n' == 0) = false := by simpa using h0
    clear h0
    go_enter Try.func52, Try.ntmps52
    go_wp2_with (first
      | (go_at_call 71; refine (L.out _).mono ?_; rintro e w' ⟨rfl, rfl⟩)
      | (go_at_call 54; refine (due_any _ _ _ _ _).mono ?_; rintro e w' ⟨rfl, rfl⟩))
    go_ret
    exact ⟨rfl, rfl⟩
/-- all waits together. -/
def totI (b m : Int) : Nat → Int
  | 0 => 0
  | k + 1 => totI b m k + waitI b m ((k : Int) + 1)
theorem totI_bd (b m : Int) (k : Nat) : 0 ≤ totI b m k ∧ totI b m k ≤ 64 * k := by
  induction k with
  | zero => exact ⟨Int.le_refl _, Int.le_refl _⟩
  | succ k ih => have := waitI_bd b m ((k : Int) + 1); simp only [totI]; omega
/-! the reference -/
theorem near_any (a b c : Int) (w : World) :
    Calls Try.prog 81 #[.int .i64 a, .int .i64 b, .int .i64 c] w fun e w' => e = .returned (.int .i64 (clampI a b c)) ∧ w = w' := by
  unfold clampI
  by_cases h1 : a < b
  · rw [if_pos h1]
    go_enter Try.func81, Try.ntmps81
    go_wp2
    go_ret
    exact ⟨rfl, rfl⟩
  · rw [if_neg h1]
    by_cases h2 : c < a
    · rw [if_pos h2]
      go_enter Try.func81, Try.ntmps81
      go_wp2
      go_ret
      exact ⟨rfl, rfl⟩
    · rw [if_neg h2]
      go_enter Try.func81, Try.ntmps81
      go_wp2
      go_ret
      exact ⟨rfl, rfl⟩
theorem itw_top (m x : Int) (hm : 1 ≤ m) (j : Nat) (h : itw m x j = m) (k : Nat) : itw m x (j + k) = m := by
  induction k with
  | zero => exact h
  | succ k ih => show min (2 * itw m x (j + k)) m = m; rw [ih]; omega
set_option maxHeartbeats 800000 in
theorem rwait_any (b m n : Int) (w : World) :
    Calls Try.prog 82 #[.int .i64 b, .int .i64 m, .int .i64 n] w fun e w' => e = .returned (.int .i64 (waitI b m n)) ∧ w = w' := by
  have hb := clampI_bd b 1 64 (by decide)
  have hm := clampI_bd m 1 64 (by decide)
  have CB := Lib.hid (fun (w : World) => near_any b 1 64 w)
  have CM := Lib.hid (fun (w : World) => near_any m 1 64 w)
  by_cases h0 : n < 1
  · have W' := Lib.hid (show waitI b m n = 0 by unfold waitI; rw [if_pos (by unfold clampI; split <;> (try split) <;> omega)])
    go_enter Try.func82, Try.ntmps82
    go_wp2_with (go_at_call 81; refine (near_any _ _ _ _).mono ?_; rintro e w' ⟨rfl, rfl⟩)
    go_ret
    exact ⟨ret_int W'.out.symm, rfl⟩
  · have hN : clampI n 0 64 = min n 64 := by unfold clampI; split <;> (try split) <;> omega
    have W' := Lib.hid (show waitI b m n = itw (clampI m 1 64) (min (clampI b 1 64) (clampI m 1 64)) (min n 64 - 1).toNat by unfold waitI; rw [hN, if_neg (by omega)])
    clear hN
    have CT := Lib.hid (fun (w : World) => near_any b 1 64 w)
    generalize clampI b 1 64 = b' at *
    generalize clampI m 1 64 = m' at *
    obtain ⟨hb1, hb2⟩ := hb
    obtain ⟨hm1, hm2⟩ := hm
    go_enter Try.func82, Try.ntmps82
    go_wp2_with fail
    refine (CB.out _).mono ?_
    rintro e w' ⟨rfl, rfl⟩
    go_wp2_with fail
    refine (CM.out _).mono ?_
    rintro e w' ⟨rfl, rfl⟩
    go_wp2
    go_loop [7, 8] (fun x i => ∃ (k : Nat) (v : Int), (k : Int) + 1 ≤ n ∧ k < 64 ∧ 1 ≤ v ∧ v ≤ 128 ∧ i = .int .i64 ((k : Int) + 1) ∧ x = .int .i64 v ∧ Hid (min v m' = itw m' (min b' m') k)) (fun _ i => 64 - (intOf i).toNat)
    case atStart => exact ⟨0, b', by omega, by omega, hb1, by omega, rfl, rfl, Lib.hid rfl⟩
    case round =>
      obtain ⟨k, v, hk, hk2, hv1, hv2, rfl, rfl, HV⟩ := hrel
      have HS : Hid (itw m' (min b' m') (k + 1) = min (2 * itw m' (min b' m') k) m') := Lib.hid rfl
      by_cases hlt : (k : Int) + 1 < n ∧ k < 63 ∧ v < m'
      · obtain ⟨l1, l2, l3⟩ := hlt
        go_wp2
        go_round
        case rel => exact ⟨k + 1, v * 2, by omega, by omega, by omega, by omega, by go_num, rfl, Lib.hid (by have := HV.out; rw [HS.out, ← this]; omega)⟩
        case measure => simp [intOf]; omega
      · have HE := Lib.hid (show waitI b m n = min v m' by
          rw [W'.out, HV.out]
          by_cases hvm : v < m'
          · rw [show (min n 64 - 1).toNat = k by omega]
          · have ht := itw_top m' (min b' m') hm1 k (by rw [← HV.out]; omega) ((min n 64 - 1).toNat - k)
            rw [show k + ((min n 64 - 1).toNat - k) = (min n 64 - 1).toNat by omega] at ht
            rw [ht, ← HV.out]; omega)
        by_cases l1 : (k : Int) + 1 < n
        · by_cases l2 : k < 63
          · have l3 : ¬ v < m' := fun h => hlt ⟨l1, l2, h⟩
            clear hlt
            by_cases l4 : m' < v
            all_goals
              go_wp2
              go_ret
              exact ⟨ret_int (by rw [HE.out]; omega), rfl⟩
          · clear hlt
            by_cases l4 : m' < v
            all_goals
              go_wp2
              go_ret
              exact ⟨ret_int (by rw [HE.out]; omega), rfl⟩
        · clear hlt
          by_cases l4 : m' < v
          all_goals
            go_wp2
            go_ret
            exact ⟨ret_int (by rw [HE.out]; omega), rfl⟩
end Go.Proofs.Ytalbkpahphndiaa
