/- The laws of delay, walked. -/
import Derived.Test.YtbaiihfhffhglaaDelay
import Derived.Test.YtbaiihfhffhglaaRow
import Derived.Below
namespace Go.Proofs.Ytbaiihfhffhglaa
set_option linter.unusedVariables false
open Go.ChangeShapes Go.WideShapes Go.ChangeAt Go.RowKit
theorem rdue_any (b m n last : Int) (w : World) :
    Calls Try.prog 21 #[.int .i64 b, .int .i64 m, .int .i64 n, .int .i64 last] w fun e w' => e = .returned (.int .i64 (dueI b m n last)) ∧ w = w' := by
  have h1 := waitI_bd b m n
  have h2 := clampI_bd last 0 1073741824 (by decide)
  have D : Hid (dueI b m n last = clampI last 0 1073741824 + waitI b m n) := Lib.hid rfl
  have C := Lib.hid (fun (w : World) => near_any last 0 1073741824 w)
  have V := Lib.hid (fun (w : World) => rwait_any b m n w)
  generalize clampI last 0 1073741824 = c at *
  generalize waitI b m n = v at *
  obtain ⟨h11, h12⟩ := h1
  obtain ⟨h21, h22⟩ := h2
  go_enter Try.func21, Try.ntmps21
  go_wp2_with (first
    | (go_at_call 26; refine (C.out _).mono ?_; rintro e w' ⟨rfl, rfl⟩)
    | (go_at_call 20; refine (V.out _).mono ?_; rintro e w' ⟨rfl, rfl⟩))
  go_ret
  exact ⟨ret_int D.out.symm, rfl⟩
set_option maxHeartbeats 400000 in
theorem alive05 (w : World) : Calls Try.prog 19 #[] w fun e w' => e = .returned (.bool true) ∧ w = w' := by
  have e1 : waitI 3 10 1 = 3 := by decide
  have e2 : waitI 3 10 2 = 6 := by decide
  have e3 : waitI 3 10 3 = 10 := by decide
  have e4 : dueI 3 10 2 5 = 11 := by decide
  have e5 : readyB 3 10 0 99 0 = true := by decide
  have e6 : totI 3 10 (clampI 3 0 64).toNat = 19 := by decide
  go_enter Try.func19, Try.ntmps19
  go_wp2_with (first
    | (go_at_call 22; refine (wait_any _ _ _ _).mono ?_; rintro e w' ⟨rfl, rfl⟩)
    | (go_at_call 23; refine (due_any _ _ _ _ _).mono ?_; rintro e w' ⟨rfl, rfl⟩)
    | (go_at_call 24; refine (ready_any _ _ _ _ _ _).mono ?_; rintro e w' ⟨rfl, rfl⟩)
    | (go_at_call 25; refine (total_any _ _ _ _).mono ?_; rintro e w' ⟨rfl, rfl⟩))
  go_ret
  exact ⟨rfl, rfl⟩
set_option maxHeartbeats 1000000 in
theorem waits_walk (b m n last now : Int) (hn : (Lit.int .i64 n).wf = true) (w : World) :
    Calls Try.prog 6 #[.int .i64 b, .int .i64 m, .int .i64 n, .int .i64 last, .int .i64 now] w fun e w' => e = .returned (.bool true) ∧ Grown w w' := by
  have hn1 : n ≤ 9223372036854775807 := ((fits_iff n).1 (fits_wf hn)).2
  clear hn
  have A := Lib.hid (fun (w : World) => alive05 w)
  go_enter Try.func6, Try.ntmps6
  go_wp2_with (go_at_call 19; refine (A.out _).mono ?_; rintro e w' ⟨rfl, rfl⟩)
  go_loop [11, 12] (fun x i => ∃ (k : Nat), k ≤ 64 ∧ ((k : Int) ≤ n ∨ k = 0) ∧ i = .int .i64 ((k : Int) + 1) ∧ x = .int .i64 (totI b m k)) (fun _ i => 65 - (intOf i).toNat)
  case atStart => exact ⟨0, by omega, Or.inr rfl, rfl, rfl⟩
  case round =>
    obtain ⟨k, hk, hk2, rfl, rfl⟩ := hrel
    by_cases hlt : (k : Int) + 1 ≤ n ∧ k < 64
    · obtain ⟨l1, l2⟩ := hlt
      have hi := totI_bd b m k
      have hw := waitI_bd b m ((k : Int) + 1)
      have HS : Hid (totI b m (k + 1) = totI b m k + waitI b m ((k : Int) + 1)) := Lib.hid rfl
      have V := Lib.hid (fun (w : World) => rwait_any b m ((k : Int) + 1) w)
      generalize totI b m k = y at *
      generalize waitI b m ((k : Int) + 1) = z at *
      obtain ⟨hi1, hi2⟩ := hi
      obtain ⟨hw1, hw2⟩ := hw
      have hy : y ≤ 4096 := by omega
      clear hk2
      go_wp2_with (go_at_call 20; refine (V.out _).mono ?_; rintro e w' ⟨rfl, rfl⟩)
      go_round
      case rel => exact ⟨k + 1, by omega, Or.inl (by omega), by go_num, congrArg (Value.int .i64) HS.out.symm⟩
      case measure => simp [intOf]; omega
    · have HK := Lib.hid (show (clampI n 0 64).toNat = k by unfold clampI; split <;> (try split) <;> omega)
      have T := Lib.hid (fun (w : World) => total_any b m n w)
      have R := Lib.hid (fun (w : World) => ready_any b m n last now w)
      rw [HK.out] at T
      have hr : readyB b m n last now = (decide (n < 1) || decide (dueI b m n last ≤ now)) := by
        unfold readyB
        congr 1
        rw [decide_eq_decide]
        unfold clampI; split <;> (try split) <;> omega
      rw [hr] at R
      clear hr
      have nl : ((k : Int) + 1 ≤ n ∧ 64 ≤ k) ∨ ¬ (k : Int) + 1 ≤ n := by omega
      clear hlt hk2 HK
      by_cases q1 : n < 1
      · have R1 := Lib.hid (fun (w : World) => show Calls Try.prog 24 #[.int .i64 b, .int .i64 m, .int .i64 n, .int .i64 last, .int .i64 now] w fun e w' => e = .returned (.bool true) ∧ w = w' from by have := R.out w; rw [show decide (n < 1) = true from by simpa using q1, Bool.true_or] at this; exact this)
        clear R
        have l1 : ¬ (k : Int) + 1 ≤ n := by omega
        clear nl
        go_wp2_with (first
          | (go_at_call 21; refine (rdue_any _ _ _ _ _).mono ?_; rintro e w' ⟨rfl, rfl⟩)
          | (go_at_call 22; refine (wait_any _ _ _ _).mono ?_; rintro e w' ⟨rfl, rfl⟩)
          | (go_at_call 20; refine (rwait_any _ _ _ _).mono ?_; rintro e w' ⟨rfl, rfl⟩)
          | (go_at_call 23; refine (due_any _ _ _ _ _).mono ?_; rintro e w' ⟨rfl, rfl⟩)
          | (go_at_call 24; refine (R1.out _).mono ?_; rintro e w' ⟨rfl, rfl⟩)
          | (go_at_call 25; refine (T.out _).mono ?_; rintro e w' ⟨rfl, rfl⟩))
        go_ret
        exact ⟨rfl, Grown.refl _⟩
      · have R1 := Lib.hid (fun (w : World) => show Calls Try.prog 24 #[.int .i64 b, .int .i64 m, .int .i64 n, .int .i64 last, .int .i64 now] w fun e w' => e = .returned (.bool (decide (dueI b m n last ≤ now))) ∧ w = w' from by have := R.out w; rw [show decide (n < 1) = false from by simpa using q1, Bool.false_or] at this; exact this)
        clear R
        have hq : decide (n < 1) = false := by simpa using q1
        rcases nl with ⟨l1, l2⟩ | l1
        all_goals
          go_wp2_with (first
            | (go_at_call 21; refine (rdue_any _ _ _ _ _).mono ?_; rintro e w' ⟨rfl, rfl⟩)
            | (go_at_call 22; refine (wait_any _ _ _ _).mono ?_; rintro e w' ⟨rfl, rfl⟩)
            | (go_at_call 20; refine (rwait_any _ _ _ _).mono ?_; rintro e w' ⟨rfl, rfl⟩)
            | (go_at_call 23; refine (due_any _ _ _ _ _).mono ?_; rintro e w' ⟨rfl, rfl⟩)
            | (go_at_call 24; refine (R1.out _).mono ?_; rintro e w' ⟨rfl, rfl⟩)
            | (go_at_call 25; refine (T.out _).mono ?_; rintro e w' ⟨rfl, rfl⟩))
          go_ret
          exact ⟨rfl, Grown.refl _⟩
theorem itw_pow (m x : Int) (hx : 1 ≤ x) (hxm : x ≤ m) (k : Nat) : itw m x k = m ∨ (2 : Int) ^ k ≤ itw m x k := by
  induction k with
  | zero => right; simpa [itw] using hx
  | succ k ih =>
    simp only [itw]
    have hb := itw_bd m x hx hxm k
    rcases ih with h | h
    · left; omega
    · have : (2 : Int) ^ (k + 1) = 2 * 2 ^ k := by rw [Int.pow_succ]; omega
      omega
theorem rises (b m n : Int) (h1 : 1 ≤ n) (h2 : n ≤ 70) :
    1 ≤ waitI b m n ∧ waitI b m n ≤ clampI m 1 64 ∧ waitI b m n ≤ waitI b m (n + 1) ∧ (waitI b m (n + 1) = 2 * waitI b m n ∨ waitI b m (n + 1) = clampI m 1 64) := by
  have hb := clampI_bd b 1 64 (by decide)
  have hm := clampI_bd m 1 64 (by decide)
  have e1 : clampI n 0 64 = min n 64 := by unfold clampI; split <;> (try split) <;> omega
  have e2 : clampI (n + 1) 0 64 = min (n + 1) 64 := by unfold clampI; split <;> (try split) <;> omega
  unfold waitI
  rw [e1, e2, if_neg (by omega), if_neg (by omega)]
  generalize clampI b 1 64 = b' at *
  generalize clampI m 1 64 = m' at *
  have hbd := itw_bd m' (min b' m') (by omega) (by omega)
  by_cases h : n < 64
  · have k1 : (min n 64 - 1).toNat + 1 = (min (n + 1) 64 - 1).toNat := by omega
    rw [← k1]
    have := hbd (min n 64 - 1).toNat
    simp only [itw]
    omega
  · have k1 : (min n 64 - 1).toNat = 63 := by omega
    have k2 : (min (n + 1) 64 - 1).toNat = 63 := by omega
    rw [k1, k2]
    have := hbd 63
    have hp := itw_pow m' (min b' m') (by omega) (by omega) 63
    have : (2 : Int) ^ 63 = 9223372036854775808 := by decide
    omega
theorem waitI_zero (b m : Int) : waitI b m 0 = 0 := by unfold waitI; rw [if_pos (by decide)]
set_option maxHeartbeats 400000 in
theorem rises_walk (b m n : Int) (w : World) :
    Calls Try.prog 7 #[.int .i64 b, .int .i64 m, .int .i64 n] w fun e w' => e = .returned (.bool true) ∧ Grown w w' := by
  have A := Lib.hid (fun (w : World) => alive05 w)
  have hn := clampI_bd n 1 70 (by decide)
  have N1 := Lib.hid (fun (w : World) => near_any n 1 70 w)
  have N2 := Lib.hid (fun (w : World) => near_any m 1 64 w)
  have hm := clampI_bd m 1 64 (by decide)
  generalize clampI n 1 70 = n' at *
  have hr := rises b m n' hn.1 hn.2
  generalize clampI m 1 64 = m' at *
  have V0 := Lib.hid (fun (w : World) => wait_any b m 0 w)
  rw [waitI_zero] at V0
  have V1 := Lib.hid (fun (w : World) => wait_any b m n' w)
  have V2 := Lib.hid (fun (w : World) => wait_any b m (n' + 1) w)
  generalize waitI b m n' = x at *
  generalize waitI b m (n' + 1) = y at *
  obtain ⟨hr1, hr2, hr3, hr4⟩ := hr
  obtain ⟨hn1, hn2⟩ := hn
  obtain ⟨hm1, hm2⟩ := hm
  by_cases hd : y = 2 * x
  · subst hd
    clear hr4
    go_enter Try.func7, Try.ntmps7
    go_wp2_with fail
    refine (A.out _).mono ?_
    rintro e w' ⟨rfl, rfl⟩
    go_wp2_with fail
    refine (N1.out _).mono ?_
    rintro e w' ⟨rfl, rfl⟩
    go_wp2_with fail
    refine (N2.out _).mono ?_
    rintro e w' ⟨rfl, rfl⟩
    go_wp2_with fail
    refine (V1.out _).mono ?_
    rintro e w' ⟨rfl, rfl⟩
    go_wp2_with fail
    refine (V2.out _).mono ?_
    rintro e w' ⟨rfl, rfl⟩
    go_wp2_with fail
    refine (V0.out _).mono ?_
    rintro e w' ⟨rfl, rfl⟩
    go_wp2
    go_ret
    exact ⟨rfl, Grown.refl _⟩
  · obtain rfl : y = m' := by omega
    have hd' : (y == 2 * x) = false := by simpa using hd
    clear hr4 hd
    go_enter Try.func7, Try.ntmps7
    go_wp2_with fail
    refine (A.out _).mono ?_
    rintro e w' ⟨rfl, rfl⟩
    go_wp2_with fail
    refine (N1.out _).mono ?_
    rintro e w' ⟨rfl, rfl⟩
    go_wp2_with fail
    refine (N2.out _).mono ?_
    rintro e w' ⟨rfl, rfl⟩
    go_wp2_with fail
    refine (V1.out _).mono ?_
    rintro e w' ⟨rfl, rfl⟩
    go_wp2_with fail
    refine (V2.out _).mono ?_
    rintro e w' ⟨rfl, rfl⟩
    go_wp2_with fail
    refine (V0.out _).mono ?_
    rintro e w' ⟨rfl, rfl⟩
    go_wp2
    go_ret
    exact ⟨rfl, Grown.refl _⟩
theorem readyB_later (b m n last now later : Int) (h : now ≤ later) (hr : readyB b m n last now = true) : readyB b m n last later = true := by
  unfold readyB at *
  rw [Bool.or_eq_true, decide_eq_true_eq, decide_eq_true_eq] at *
  omega
set_option maxHeartbeats 400000 in
theorem late_walk (b m n last now later : Int) (w : World) :
    Calls Try.prog 8 #[.int .i64 b, .int .i64 m, .int .i64 n, .int .i64 last, .int .i64 now, .int .i64 later] w fun e w' => e = .returned (.bool true) ∧ Grown w w' := by
  have A := Lib.hid (fun (w : World) => alive05 w)
  by_cases h1 : later < now
  · go_enter Try.func8, Try.ntmps8
    go_wp2_with (go_at_call 19; refine (A.out _).mono ?_; rintro e w' ⟨rfl, rfl⟩)
    go_ret
    exact ⟨rfl, Grown.refl _⟩
  · have HM := Lib.hid (readyB_later b m n last now later (by omega))
    by_cases h2 : readyB b m n last now = true
    · have h3 := HM.out h2
      go_enter Try.func8, Try.ntmps8
      go_wp2_with (first
        | (go_at_call 19; refine (A.out _).mono ?_; rintro e w' ⟨rfl, rfl⟩)
        | (go_at_call 24; refine (ready_any _ _ _ _ _ _).mono ?_; rintro e w' ⟨rfl, rfl⟩))
      go_ret
      exact ⟨rfl, Grown.refl _⟩
    · rw [Bool.not_eq_true] at h2
      go_enter Try.func8, Try.ntmps8
      go_wp2_with (first
        | (go_at_call 19; refine (A.out _).mono ?_; rintro e w' ⟨rfl, rfl⟩)
        | (go_at_call 24; refine (ready_any _ _ _ _ _ _).mono ?_; rintro e w' ⟨rfl, rfl⟩))
      go_ret
      exact ⟨rfl, Grown.refl _⟩
end Go.Proofs.Ytbaiihfhffhglaa
