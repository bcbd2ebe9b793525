/- The reference's functions of law 1, and what alive() answers. -/
import Derived.Test.YtbaiihfhffhglaaNum
import Derived.Handy
namespace Go.Proofs.Ytbaiihfhffhglaa
set_option linter.unusedVariables false
open Go.ChangeShapes Go.WideShapes Go.ChangeAt Go.RowKit
set_option maxHeartbeats 400000 in
theorem radd_any (a b : Int) (w : World) (ha : fits a = true) (hb : fits b = true) :
    Calls Try.prog 11 #[.int .i64 a, .int .i64 b] w fun e w' => e = .returned (.tuple #[.int .i64 (fit0 (a + b)), .bool (fits (a + b))]) ∧ w = w' := by
  rw [fits_iff] at ha hb
  obtain ⟨a1, a2⟩ := ha
  obtain ⟨b1, b2⟩ := hb
  by_cases p : 0 < b
  · by_cases q : 9223372036854775807 - b < a
    · have H := Lib.hid (show fits (a + b) = false by rw [fits_not]; omega)
      go_enter Try.func11, Try.ntmps11
      go_wp2
      go_ret2
      exact ⟨ret_fit (by unfold fit0; rw [H.out]; rfl) H.out.symm, rfl⟩
    · have H := Lib.hid (show fits (a + b) = true by rw [fits_iff]; omega)
      have H1 : a + b ≤ 9223372036854775807 := by omega
      have H2 : -9223372036854775808 ≤ a + b := by omega
      go_enter Try.func11, Try.ntmps11
      go_wp2
      go_ret2
      exact ⟨ret_fit (by unfold fit0; rw [H.out]; rfl) H.out.symm, rfl⟩
  · by_cases p2 : b < 0
    · by_cases q : a < -9223372036854775808 - b
      · have H := Lib.hid (show fits (a + b) = false by rw [fits_not]; omega)
        go_enter Try.func11, Try.ntmps11
        go_wp2
        go_ret2
        exact ⟨ret_fit (by unfold fit0; rw [H.out]; rfl) H.out.symm, rfl⟩
      · have H := Lib.hid (show fits (a + b) = true by rw [fits_iff]; omega)
        have H1 : a + b ≤ 9223372036854775807 := by omega
        have H2 : -9223372036854775808 ≤ a + b := by omega
        go_enter Try.func11, Try.ntmps11
        go_wp2
        go_ret2
        exact ⟨ret_fit (by unfold fit0; rw [H.out]; rfl) H.out.symm, rfl⟩
    · have H := Lib.hid (show fits (a + b) = true by rw [fits_iff]; omega)
      have H1 : a + b ≤ 9223372036854775807 := by omega
      have H2 : -9223372036854775808 ≤ a + b := by omega
      go_enter Try.func11, Try.ntmps11
      go_wp2
      go_ret2
      exact ⟨ret_fit (by unfold fit0; rw [H.out]; rfl) H.out.symm, rfl⟩
set_option maxHeartbeats 400000 in
theorem rsub_any (a b : Int) (w : World) (ha : fits a = true) (hb : fits b = true) :
    Calls Try.prog 13 #[.int .i64 a, .int .i64 b] w fun e w' => e = .returned (.tuple #[.int .i64 (fit0 (a - b)), .bool (fits (a - b))]) ∧ w = w' := by
  rw [fits_iff] at ha hb
  obtain ⟨a1, a2⟩ := ha
  obtain ⟨b1, b2⟩ := hb
  by_cases p : b < 0
  · by_cases q : 9223372036854775807 + b < a
    · have H := Lib.hid (show fits (a - b) = false by rw [fits_not]; omega)
      go_enter Try.func13, Try.ntmps13
      go_wp2
      go_ret2
      exact ⟨ret_fit (by unfold fit0; rw [H.out]; rfl) H.out.symm, rfl⟩
    · have H := Lib.hid (show fits (a - b) = true by rw [fits_iff]; omega)
      have H1 : a - b ≤ 9223372036854775807 := by omega
      have H2 : -9223372036854775808 ≤ a - b := by omega
      go_enter Try.func13, Try.ntmps13
      go_wp2
      go_ret2
      exact ⟨ret_fit (by unfold fit0; rw [H.out]; rfl) H.out.symm, rfl⟩
  · by_cases p2 : 0 < b
    · by_cases q : a < -9223372036854775808 + b
      · have H := Lib.hid (show fits (a - b) = false by rw [fits_not]; omega)
        go_enter Try.func13, Try.ntmps13
        go_wp2
        go_ret2
        exact ⟨ret_fit (by unfold fit0; rw [H.out]; rfl) H.out.symm, rfl⟩
      · have H := Lib.hid (show fits (a - b) = true by rw [fits_iff]; omega)
        have H1 : a - b ≤ 9223372036854775807 := by omega
        have H2 : -9223372036854775808 ≤ a - b := by omega
        go_enter Try.func13, Try.ntmps13
        go_wp2
        go_ret2
        exact ⟨ret_fit (by unfold fit0; rw [H.out]; rfl) H.out.symm, rfl⟩
    · have H := Lib.hid (show fits (a - b) = true by rw [fits_iff]; omega)
      have H1 : a - b ≤ 9223372036854775807 := by omega
      have H2 : -9223372036854775808 ≤ a - b := by omega
      go_enter Try.func13, Try.ntmps13
      go_wp2
      go_ret2
      exact ⟨ret_fit (by unfold fit0; rw [H.out]; rfl) H.out.symm, rfl⟩
theorem fits0 : fits 0 = true := by decide
theorem ret_eq {n m : Int} {b c : Bool} (h1 : n = m) (h2 : b = c) : Ending.returned (.tuple #[.int .i64 n, .bool b]) = Ending.returned (.tuple #[.int .i64 m, .bool c]) := by rw [h1, h2]
set_option maxHeartbeats 400000 in
theorem rmul_any (a b : Int) (w : World) (ha : fits a = true) (hb : fits b = true) :
    Calls Try.prog 15 #[.int .i64 a, .int .i64 b] w fun e w' => e = .returned (.tuple #[.int .i64 (fit0 (a * b)), .bool (fits (a * b))]) ∧ w = w' := by
  by_cases ha0 : a = 0
  · subst ha0
    rw [Int.zero_mul]
    go_enter Try.func15, Try.ntmps15
    go_wp2
    go_ret2
    exact ⟨rfl, rfl⟩
  by_cases hb0 : b = 0
  · subst hb0
    rw [Int.mul_zero]
    have h1 : (a == 0) = false := by simpa using ha0
    go_enter Try.func15, Try.ntmps15
    go_wp2
    go_ret2
    exact ⟨rfl, rfl⟩
  have h1 : (a == 0) = false := by simpa using ha0
  have h2 : (b == 0) = false := by simpa using hb0
  by_cases hm : a = -1
  · subst hm
    have HB := Lib.hid hb
    have HE := Lib.hid (show (-1 : Int) * b = 0 - b by omega)
    clear ha hb hb0 ha0
    go_enter Try.func15, Try.ntmps15
    go_wp2_with (go_at_call 13; refine (rsub_any _ _ _ fits0 HB.out).mono ?_; rintro e w' ⟨rfl, rfl⟩)
    go_ret2
    exact ⟨ret_eq (by rw [HE.out, Int.zero_sub]) (by rw [HE.out, Int.zero_sub]), rfl⟩
  have h3 : (a == -1) = false := by simpa using hm
  by_cases hn : b = -1
  · subst hn
    have HB := Lib.hid ha
    have HE := Lib.hid (show a * (-1 : Int) = 0 - a by omega)
    clear ha hb hb0 ha0 hm
    go_enter Try.func15, Try.ntmps15
    go_wp2_with (go_at_call 13; refine (rsub_any _ _ _ fits0 HB.out).mono ?_; rintro e w' ⟨rfl, rfl⟩)
    go_ret2
    exact ⟨ret_eq (by rw [HE.out, Int.zero_sub]) (by rw [HE.out, Int.zero_sub]), rfl⟩
  have h4 : (b == -1) = false := by simpa using hn
  have G := Lib.hid (show fits (a * b) = true → wrap64 (a * b) = a * b ∧ wrap64 ((wrap64 (a * b)).tdiv b) = a from fun h => mul_quo a b ha hb0 h)
  have M := Lib.hid (show wrap64 ((wrap64 (a * b)).tdiv b) = a → fits (a * b) = true from fun hq => mul_over1 a b ha hb ha0 hb0 hn hq)
  clear ha0 ha hb hm hn
  go_enter Try.func15, Try.ntmps15
  go_wp2
  · have hq : ¬ wrap64 ((wrap64 (a * b)).tdiv b) = a := by have h : (wrap64 ((wrap64 (a * b)).tdiv b) != a) = true := by assumption
                                                           simpa using h
    go_ret2
    have hf : fits (a * b) = false := by
      rw [← Bool.not_eq_true]
      intro h
      exact hq (G.out h).2
    exact ⟨ret_fit (by unfold fit0; rw [hf]; rfl) hf.symm, rfl⟩
  · have hq : wrap64 ((wrap64 (a * b)).tdiv b) = a := by have h : (wrap64 ((wrap64 (a * b)).tdiv b) != a) = false := by assumption
                                                         simpa using h
    go_ret2
    have hf := M.out hq
    exact ⟨ret_fit (by unfold fit0; rw [hf]; exact (G.out hf).1) hf.symm, rfl⟩
theorem mul_no (a b : Int) (w : World) (ha : fits a = true) (hb : fits b = true) (h : fits (a * b) = false) :
    Calls Try.prog 14 #[.int .i64 a, .int .i64 b] w fun e w' => e = .returned (.tuple #[.int .i64 0, .bool false]) ∧ w = w' :=
  (mul_any a b w ha hb).mono fun e w' ⟨he, hw⟩ => ⟨by rw [he]; exact ret_fit (by unfold fit0; rw [h]; rfl) h, hw⟩
theorem cells3 (w : World) (x y z : Value) (t : TypeId) (k : Nat) (l : List Value) (hl : l = [x, y, z]) (h : k < 3) :
    (w.alloc (Obj.cells #[x, y, z] t)).cell? ⟨w.heap.size, 0 + k, none⟩ = some (l.getD k undef) := by
  subst hl
  match k, h with
  | 0, _ => simp [go_sem]
  | 1, _ => simp [go_sem]
  | 2, _ => simp [go_sem]
set_option maxHeartbeats 400000 in
theorem alive01 (w : World) : Calls Try.prog 9 #[] w fun e w' => e = .returned (.bool true) ∧ Grown w w' ∧ Below w.heap.size w w' := by
  have c5 : clampI 9 1 5 = 5 := by decide
  have c3 : inB 3 1 3 = true := by decide
  go_enter Try.func9, Try.ntmps9
  go_wp2_with (first | (go_at_call 10; refine (add_yes 1 2 _ (by decide) (by decide) (by decide)).mono ?_; rintro e w' ⟨rfl, rfl⟩) | (go_at_call 14; refine (mul_no 4611686018427387904 4 _ (by decide) (by decide) (by decide)).mono ?_; rintro e w' ⟨rfl, rfl⟩) | (go_at_call 17; refine (clamp_any _ _ _ _).mono ?_; rintro e w' ⟨rfl, rfl⟩) | (go_at_call 18; refine (in_any _ _ _ _).mono ?_; rintro e w' ⟨rfl, rfl⟩))
  refine (sum_some w.heap.size 0 3 [1, 2, 3] _ (by decide) (by decide) ?_).mono ?_
  · intro k hk
    refine (cells3 w _ _ _ 2 k _ rfl hk).trans ?_
    match k, hk with
    | 0, _ => rfl
    | 1, _ => rfl
    | 2, _ => rfl
  · rintro e w' ⟨rfl, rfl⟩
    have s6 : sumGo 0 [1, 2, 3] = some 6 := by decide
    rw [s6]
    go_wp2_with (first | (go_at_call 17; refine (clamp_any _ _ _ _).mono ?_; rintro e w' ⟨rfl, rfl⟩) | (go_at_call 18; refine (in_any _ _ _ _).mono ?_; rintro e w' ⟨rfl, rfl⟩))
    go_ret
    exact ⟨rfl, by repeat (first | exact Grown.refl _ | apply Grown.drew | apply Grown.alloc), (Below.refl _ _).alloc (Nat.le_refl _) _⟩
theorem fits_wf {n : Int} (h : (Lit.int .i64 n).wf = true) : fits n = true := by
  simp only [Lit.wf, IntKind.min, IntKind.max, IntKind.signed, IntKind.bits, Bool.and_eq_true, decide_eq_true_eq, if_true] at h
  rw [fits_iff]; omega
set_option maxHeartbeats 800000 in
theorem tells_walk (a b : Int) (ha : (Lit.int .i64 a).wf = true) (hb : (Lit.int .i64 b).wf = true) (w : World) :
    Calls Try.prog 3 #[.int .i64 a, .int .i64 b] w fun e w' => e = .returned (.bool true) ∧ Grown w w' := by
  have HA := Lib.hid (fits_wf ha)
  have HB := Lib.hid (fits_wf hb)
  clear ha hb
  go_enter Try.func3, Try.ntmps3
  go_wp2_with (first
    | (go_at_call 9; refine (alive01 _).mono ?_; rintro e w' ⟨rfl, hg, hb⟩)
    | (go_at_call 10; refine (add_any _ _ _ HA.out HB.out).mono ?_; rintro e w' ⟨rfl, rfl⟩)
    | (go_at_call 12; refine (sub_any _ _ _ HA.out HB.out).mono ?_; rintro e w' ⟨rfl, rfl⟩)
    | (go_at_call 14; refine (mul_any _ _ _ HA.out HB.out).mono ?_; rintro e w' ⟨rfl, rfl⟩)
    | (go_at_call 11; refine (radd_any _ _ _ HA.out HB.out).mono ?_; rintro e w' ⟨rfl, rfl⟩)
    | (go_at_call 13; refine (rsub_any _ _ _ HA.out HB.out).mono ?_; rintro e w' ⟨rfl, rfl⟩)
    | (go_at_call 15; refine (rmul_any _ _ _ HA.out HB.out).mono ?_; rintro e w' ⟨rfl, rfl⟩))
  go_ret
  exact ⟨rfl, by assumption⟩
set_option maxHeartbeats 800000 in
theorem clamps_walk (n lo hi : Int) (w : World) :
    Calls Try.prog 5 #[.int .i64 n, .int .i64 lo, .int .i64 hi] w fun e w' => e = .returned (.bool true) ∧ Grown w w' := by
  by_cases h1 : n < lo
  · have c : clampI n lo hi = lo := by unfold clampI; rw [if_pos h1]
    have i : inB n lo hi = false := by unfold inB; simp; omega
    go_enter Try.func5, Try.ntmps5
    go_wp2_with (first
      | (go_at_call 9; refine (alive01 _).mono ?_; rintro e w' ⟨rfl, hg, hb⟩)
      | (go_at_call 17; refine (clamp_any _ _ _ _).mono ?_; rintro e w' ⟨rfl, rfl⟩)
      | (go_at_call 18; refine (in_any _ _ _ _).mono ?_; rintro e w' ⟨rfl, rfl⟩))
    go_ret
    exact ⟨rfl, by assumption⟩
  · by_cases h2 : hi < n
    · have c : clampI n lo hi = hi := by unfold clampI; rw [if_neg h1, if_pos h2]
      have i : inB n lo hi = false := by unfold inB; simp; omega
      go_enter Try.func5, Try.ntmps5
      go_wp2_with (first
        | (go_at_call 9; refine (alive01 _).mono ?_; rintro e w' ⟨rfl, hg, hb⟩)
        | (go_at_call 17; refine (clamp_any _ _ _ _).mono ?_; rintro e w' ⟨rfl, rfl⟩)
        | (go_at_call 18; refine (in_any _ _ _ _).mono ?_; rintro e w' ⟨rfl, rfl⟩))
      go_ret
      exact ⟨rfl, by assumption⟩
    · have c : clampI n lo hi = n := by unfold clampI; rw [if_neg h1, if_neg h2]
      have i : inB n lo hi = true := by unfold inB; simp; omega
      go_enter Try.func5, Try.ntmps5
      go_wp2_with (first
        | (go_at_call 9; refine (alive01 _).mono ?_; rintro e w' ⟨rfl, hg, hb⟩)
        | (go_at_call 17; refine (clamp_any _ _ _ _).mono ?_; rintro e w' ⟨rfl, rfl⟩)
        | (go_at_call 18; refine (in_any _ _ _ _).mono ?_; rintro e w' ⟨rfl, rfl⟩))
      go_ret
      exact ⟨rfl, by assumption⟩
theorem radd_yes (a b : Int) (w : World) (ha : fits a = true) (hb : fits b = true) (h : fits (a + b) = true) :
    Calls Try.prog 11 #[.int .i64 a, .int .i64 b] w fun e w' => e = .returned (.tuple #[.int .i64 (a + b), .bool true]) ∧ w = w' :=
  (radd_any a b w ha hb).mono fun e w' ⟨he, hw⟩ => ⟨by rw [he]; exact ret_fit (by unfold fit0; rw [h]; rfl) h, hw⟩
theorem radd_no (a b : Int) (w : World) (ha : fits a = true) (hb : fits b = true) (h : fits (a + b) = false) :
    Calls Try.prog 11 #[.int .i64 a, .int .i64 b] w fun e w' => e = .returned (.tuple #[.int .i64 0, .bool false]) ∧ w = w' :=
  (radd_any a b w ha hb).mono fun e w' ⟨he, hw⟩ => ⟨by rw [he]; exact ret_fit (by unfold fit0; rw [h]; rfl) h, hw⟩
theorem sum_zero (a : Option Addr) (cap : Nat) (w : World) :
    Calls Try.prog 16 #[.slice a 0 cap] w fun e w' => e = .returned (.tuple #[.int .i64 0, .bool true]) ∧ w = w' := by
  go_enter Try.func16, Try.ntmps16
  go_wp2
  go_rounds 1
  go_ret2
  exact ⟨rfl, rfl⟩
theorem sums_zero (a : Option Addr) (cap : Nat) (w : World) :
    Calls Try.prog 4 #[.slice a 0 cap] w fun e w' => e = .returned (.bool true) ∧ Below w.heap.size w w' := by
  go_enter Try.func4, Try.ntmps4
  go_wp2_with (first
    | (go_at_call 9; refine (alive01 _).mono ?_; rintro e w' ⟨rfl, hg, hb⟩)
    | (go_at_call 16; refine (sum_zero _ _ _).mono ?_; rintro e w' ⟨rfl, rfl⟩))
  go_rounds 1
  go_ret
  exact ⟨rfl, by assumption⟩
set_option maxHeartbeats 800000 in
theorem sums_some (b off cap : Nat) (zs : List Int) (w : World) (hlt : b < w.heap.size) (hl : zs.length ≤ 9223372036854775807) (hz : ∀ z ∈ zs, fits z = true)
    (hc : ∀ k, k < zs.length → w.cell? ⟨b, off + k, none⟩ = some (.int .i64 (zs.getD k 0))) :
    Calls Try.prog 4 #[.slice (some ⟨b, off, none⟩) zs.length cap] w fun e w' => e = .returned (.bool true) ∧ Below w.heap.size w w' := by
  have HZ := Lib.hid hz
  have HG := Lib.hid (fits_getD zs hz)
  have HC := Lib.hid hc
  clear hc hz
  go_enter Try.func4, Try.ntmps4
  go_wp2_with (go_at_call 9; refine (alive01 _).mono ?_; rintro e w1 ⟨rfl, hg, hb⟩)
  have HC1 := Lib.hid (show ∀ k, k < zs.length → w1.cell? ⟨b, off + k, none⟩ = some (.int .i64 (zs.getD k 0)) from fun k hk => (hb.cell (p := ⟨b, off + k, none⟩) hlt).trans (HC.out k hk))
  refine (sum_some b off cap zs w1 hl HZ.out HC1.out).mono ?_
  rintro e w2 ⟨rfl, rfl⟩
  go_wp2
  go_loop [5, 6, 7] (fun s o i => ∃ (k : Nat) (t : Int) (q : Bool), k ≤ zs.length ∧ i = .int .i64 k ∧ s = .int .i64 t ∧ o = .bool q ∧ fits t = true ∧ (q = true ∧ Hid (sumGo 0 (zs.take k) = some t) ∨ q = false ∧ t = 0 ∧ Hid (sumGo 0 zs = none))) (fun _ _ i => zs.length - (intOf i).toNat)
  case atStart => exact ⟨0, 0, true, Nat.zero_le _, rfl, rfl, rfl, by decide, Or.inl ⟨rfl, Lib.hid rfl⟩⟩
  case round =>
    obtain ⟨k, t, q, hk, rfl, rfl, rfl, hft, hq⟩ := hrel
    have HF := Lib.hid hft
    clear hft
    rcases hq with ⟨rfl, HS⟩ | ⟨rfl, rfl, HS⟩
    · by_cases hlt : k < zs.length
      · have hcell := HC1.out k hlt
        have HZ0 := Lib.hid (HG.out k)
        have N1 := Lib.hid (fun h => sumGo_next zs k hlt t HS.out h)
        have N2 := Lib.hid (fun h => sumGo_stop zs k hlt t HS.out h)
        generalize zs.getD k 0 = z at *
        by_cases hf : fits (t + z) = true
        · have HY := Lib.hid hf
          clear hf
          go_wp2_with (go_at_call 11; refine (radd_yes _ _ _ HF.out HZ0.out HY.out).mono ?_; rintro e w' ⟨rfl, rfl⟩)
          go_round
          case rel => exact ⟨k + 1, _, true, by omega, by go_num, rfl, rfl, HY.out, Or.inl ⟨rfl, Lib.hid (N1.out HY.out)⟩⟩
          case measure => simp [intOf]; omega
        · rw [Bool.not_eq_true] at hf
          have HY := Lib.hid hf
          clear hf
          go_wp2_with (go_at_call 11; refine (radd_no _ _ _ HF.out HZ0.out HY.out).mono ?_; rintro e w' ⟨rfl, rfl⟩)
          go_round
          case rel => exact ⟨k + 1, _, false, by omega, by go_num, rfl, rfl, by decide, Or.inr ⟨rfl, rfl, Lib.hid (N2.out HY.out)⟩⟩
          case measure => simp [intOf]; omega
      · have hkl : k = zs.length := by omega
        have hs := HS.out
        rw [hkl, List.take_length] at hs
        have h1 : (sumGo 0 zs).getD 0 = t := by rw [hs]; rfl
        have h2 : (sumGo 0 zs).isSome = true := by rw [hs]; rfl
        clear hs hkl
        go_wp2
        go_ret
        exact ⟨rfl, hb⟩
    · have h1 : (sumGo 0 zs).getD 0 = 0 := by rw [HS.out]; rfl
      have h2 : (sumGo 0 zs).isSome = false := by rw [HS.out]; rfl
      by_cases hlt : k < zs.length
      · go_wp2
        go_ret
        exact ⟨rfl, hb⟩
      · go_wp2
        go_ret
        exact ⟨rfl, hb⟩
/-- what is told of a slice of integers that came in. -/
def RowIn (k : IntKind) (w : World) (a : Option Addr) (len cap : Nat) (zs : List Int) : Prop :=
  (a = none ∧ len = 0 ∧ cap = 0 ∧ zs = []) ∨
  ∃ x, a = some x ∧ len ≤ cap ∧ cap ≤ maxLen ∧ zs.length = cap ∧ (∀ i, i < zs.length → w.cell? (x.add i) = some (.int k (zs.getD i 0))) ∧ ∀ n ∈ zs, (Lit.int k n).wf = true
/-- its elements: either there are none, or they lie one by one in a block that was there. -/
theorem RowIn.elems {k : IntKind} {w : World} {a : Option Addr} {len cap : Nat} {zs : List Int} (h : RowIn k w a len cap zs) :
    len = 0 ∨ ∃ b off, a = some ⟨b, off, none⟩ ∧ (zs.take len).length = len ∧ 0 < len ∧ len ≤ maxLen ∧ b < w.heap.size ∧
      (∀ i, i < (zs.take len).length → w.cell? ⟨b, off + i, none⟩ = some (.int k ((zs.take len).getD i 0))) ∧ ∀ n ∈ zs.take len, (Lit.int k n).wf = true := by
  rcases h with ⟨_, h, _, _⟩ | ⟨x, rfl, hl, hm, hz, hc, hw⟩
  · exact Or.inl h
  · by_cases h0 : len = 0
    · exact Or.inl h0
    · have hlen : (zs.take len).length = len := by rw [List.length_take]; omega
      obtain ⟨b, off, rfl, hcell⟩ := ints_at hc (by omega)
      refine Or.inr ⟨b, off, rfl, hlen, by omega, by omega, ?_, ?_, fun n hn => hw n (List.mem_of_mem_take hn)⟩
      · have h1 := hcell 0 (by omega)
        apply Decidable.byContradiction
        intro hb
        have : w.heap[b]? = none := by rw [Array.getElem?_eq_none]; omega
        simp [World.cell?, this] at h1
      · intro i hi
        rw [hlen] at hi
        rw [hcell i (by omega)]
        simp [List.getD_eq_getElem?_getD, hi]
theorem sums_walk (a : Option Addr) (len cap : Nat) (zs : List Int) (w : World) (h : RowIn .i64 w a len cap zs) :
    Calls Try.prog 4 #[.slice a len cap] w fun e w' => e = .returned (.bool true) ∧ Below w.heap.size w w' := by
  rcases h.elems with rfl | ⟨b, off, rfl, hlen, _, hm, hb, hc, hw⟩
  · exact sums_zero a cap w
  · have H := sums_some b off cap (zs.take len) w hb (by unfold maxLen at hm; omega) (fun z hz => fits_wf (hw z hz)) hc
    rw [hlen] at H
    exact H
end Go.Proofs.Ytbaiihfhffhglaa
