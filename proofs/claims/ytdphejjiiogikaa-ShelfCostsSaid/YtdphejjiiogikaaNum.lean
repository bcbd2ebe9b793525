/- Contracts of num's functions. -/
import Derived.Test.YtdphejjiiogikaaRows
import Derived.Test.YtdphejjiiogikaaMath
import Derived.WalkKit
import Derived.ProofKit
import Derived.OpenShut
import Derived.Deep.QuietTactic
import Derived.BigQuiet
import Derived.Lib.Hide
namespace Go.Proofs.Ytdphejjiiogikaa
set_option linter.unusedVariables false
set_option linter.unusedSimpArgs false
open Go.ChangeShapes Go.WideShapes Go.ChangeAt Go.RowKit
def clampI (a b c : Int) : Int := if a < b then b else if c < a then c else a
def inB (a b c : Int) : Bool := decide (b ≤ a) && decide (a ≤ c)
theorem in_any (a b c : Int) (w : World) :
    Calls Try.prog 30 #[.int .i64 a, .int .i64 b, .int .i64 c] w fun e w' => e = .returned (.bool (inB a b c)) ∧ w = w' := by
  unfold inB
  by_cases h : b ≤ a
  · rw [show decide (b ≤ a) = true from by simpa using h, Bool.true_and]
    go_enter Try.func30, Try.ntmps30
    go_wp2
    go_ret
    exact ⟨rfl, rfl⟩
  · rw [show decide (b ≤ a) = false from by simpa using h, Bool.false_and]
    go_enter Try.func30, Try.ntmps30
    go_wp2
    go_ret
    exact ⟨rfl, rfl⟩
def fit0 (n : Int) : Int := if fits n then n else 0
theorem add_any (a b : Int) (w : World) (ha : fits a = true) (hb : fits b = true) :
    Calls Try.prog 24 #[.int .i64 a, .int .i64 b] w fun e w' => e = .returned (.tuple #[.int .i64 (fit0 (a + b)), .bool (fits (a + b))]) ∧ w = w' := by
  have ho := over_add a b ha hb
  by_cases h : fits (a + b) = true
  · have h0 : fit0 (a + b) = a + b := by unfold fit0; rw [if_pos h]
    have hn : ¬ (bits .and .i64 (bits .xor .i64 a (wrap64 (a + b))) (bits .xor .i64 b (wrap64 (a + b))) < 0) := by rw [ho, h]; simp
    have hw : wrap64 (a + b) = a + b := by rw [fits_iff] at h; unfold wrap64; omega
    have HW := Lib.hid hw
    have H0 := Lib.hid h0
    have H := Lib.hid h
    clear hw h0 h ho ha hb
    go_enter Try.func24, Try.ntmps24
    go_wp2
    go_ret2
    exact ⟨by rw [H0.out, H.out, HW.out]; rfl, rfl⟩
  · rw [Bool.not_eq_true] at h
    have h0 : fit0 (a + b) = 0 := by unfold fit0; rw [h]; rfl
    have hn : bits .and .i64 (bits .xor .i64 a (wrap64 (a + b))) (bits .xor .i64 b (wrap64 (a + b))) < 0 := by rw [ho, h]
    have H0 := Lib.hid h0
    have H := Lib.hid h
    clear h0 h ho ha hb
    go_enter Try.func24, Try.ntmps24
    go_wp2
    go_ret2
    exact ⟨by rw [H0.out, H.out]; rfl, rfl⟩
theorem mul_zero (a b : Int) (w : World) (h : a = 0 ∨ b = 0) :
    Calls Try.prog 27 #[.int .i64 a, .int .i64 b] w fun e w' => e = .returned (.tuple #[.int .i64 (fit0 (a * b)), .bool (fits (a * b))]) ∧ w = w' := by
  have hp : a * b = 0 := by rcases h with h | h <;> simp [h]
  rw [hp]
  by_cases h0 : a = 0
  · subst h0
    go_enter Try.func27, Try.ntmps27
    go_wp2
    go_ret2
    exact ⟨rfl, rfl⟩
  · have hb : b = 0 := by omega
    subst hb
    have hf : (a == 0) = false := by simpa using h0
    go_enter Try.func27, Try.ntmps27
    go_wp2
    go_ret2
    exact ⟨rfl, rfl⟩
theorem ret_fit {n m : Int} {b c : Bool} (h1 : n = m) (h2 : b = c) : Ending.returned (.tuple #[.int .i64 n, .bool b]) = Ending.returned (.tuple #[.int .i64 m, .bool c]) := by rw [h1, h2]
set_option maxHeartbeats 400000 in
theorem mul_any (a b : Int) (w : World) (ha : fits a = true) (hb : fits b = true) :
    Calls Try.prog 27 #[.int .i64 a, .int .i64 b] w fun e w' => e = .returned (.tuple #[.int .i64 (fit0 (a * b)), .bool (fits (a * b))]) ∧ w = w' := by
  by_cases h0 : a = 0 ∨ b = 0
  · exact mul_zero a b w h0
  · have ha0 : a ≠ 0 := fun h => h0 (Or.inl h)
    have hb0 : b ≠ 0 := fun h => h0 (Or.inr h)
    have h1 : (a == 0) = false := by simpa using ha0
    have h2 : (b == 0) = false := by simpa using hb0
    have G : Hid (fits (a * b) = true → wrap64 (a * b) = a * b ∧ wrap64 ((wrap64 (a * b)).tdiv b) = a ∧ (!decide (a * b < 0) == !decide (a < 0) == decide (b < 0)) = false) :=
      Lib.hid (fun h => ⟨(mul_quo a b ha hb0 h).1, (mul_quo a b ha hb0 h).2, sign_fits a b ha0 hb0⟩)
    have M : Hid (wrap64 ((wrap64 (a * b)).tdiv b) = a → (!decide (wrap64 (a * b) < 0) == !decide (a < 0) == decide (b < 0)) = false → fits (a * b) = true) :=
      Lib.hid (fun hq hs => mul_over a b ha hb ha0 hb0 hq hs)
    clear h0 ha0 ha hb
    go_enter Try.func27, Try.ntmps27
    go_wp2
    · have hq : wrap64 ((wrap64 (a * b)).tdiv b) = a := by assumption
      have hs : (!decide (wrap64 (a * b) < 0) == !decide (a < 0) == decide (b < 0)) = true := by assumption
      go_ret2
      have hf : fits (a * b) = false := by
        rw [← Bool.not_eq_true]
        intro h
        have g := G.out h
        rw [g.1, g.2.2] at hs
        exact absurd hs (by decide)
      exact ⟨ret_fit (by unfold fit0; rw [hf]; rfl) hf.symm, rfl⟩
    · have hq : wrap64 ((wrap64 (a * b)).tdiv b) = a := by assumption
      have hs : (!decide (wrap64 (a * b) < 0) == !decide (a < 0) == decide (b < 0)) = false := by assumption
      go_ret2
      have hf := M.out hq hs
      exact ⟨ret_fit (by unfold fit0; rw [hf]; exact (G.out hf).1) hf.symm, rfl⟩
    · have hq : ¬ wrap64 ((wrap64 (a * b)).tdiv b) = a := by assumption
      go_ret2
      have hf : fits (a * b) = false := by
        rw [← Bool.not_eq_true]
        intro h
        exact hq (G.out h).2.1
      exact ⟨ret_fit (by unfold fit0; rw [hf]; rfl) hf.symm, rfl⟩
theorem add_yes (a b : Int) (w : World) (ha : fits a = true) (hb : fits b = true) (h : fits (a + b) = true) :
    Calls Try.prog 24 #[.int .i64 a, .int .i64 b] w fun e w' => e = .returned (.tuple #[.int .i64 (a + b), .bool true]) ∧ w = w' :=
  (add_any a b w ha hb).mono fun e w' ⟨he, hw⟩ => ⟨by rw [he]; exact ret_fit (by unfold fit0; rw [h]; rfl) h, hw⟩
theorem add_no (a b : Int) (w : World) (ha : fits a = true) (hb : fits b = true) (h : fits (a + b) = false) :
    Calls Try.prog 24 #[.int .i64 a, .int .i64 b] w fun e w' => e = .returned (.tuple #[.int .i64 0, .bool false]) ∧ w = w' :=
  (add_any a b w ha hb).mono fun e w' ⟨he, hw⟩ => ⟨by rw [he]; exact ret_fit (by unfold fit0; rw [h]; rfl) h, hw⟩
/-- the sum of a list, number by number. -/
def sumGo : Int → List Int → Option Int
  | s, [] => some s
  | s, z :: zs => if fits (s + z) then sumGo (s + z) zs else none
theorem sumGo_append (s : Int) (l1 l2 : List Int) : sumGo s (l1 ++ l2) = (sumGo s l1).bind fun t => sumGo t l2 := by
  induction l1 generalizing s with
  | nil => rfl
  | cons z zs ih =>
    simp only [List.cons_append, sumGo]
    split
    · exact ih _
    · rfl
theorem take_next (zs : List Int) (k : Nat) (h : k < zs.length) : zs.take (k + 1) = zs.take k ++ [zs.getD k 0] := by
  rw [List.take_succ_eq_append_getElem h]
  simp [List.getD_eq_getElem?_getD, h]
theorem sumGo_next (zs : List Int) (k : Nat) (h : k < zs.length) (t : Int) (ht : sumGo 0 (zs.take k) = some t) (hf : fits (t + zs.getD k 0) = true) :
    sumGo 0 (zs.take (k + 1)) = some (t + zs.getD k 0) := by
  rw [take_next zs k h, sumGo_append, ht]
  simp only [Option.bind_some, sumGo, hf, if_true]
theorem sumGo_stop (zs : List Int) (k : Nat) (h : k < zs.length) (t : Int) (ht : sumGo 0 (zs.take k) = some t) (hf : fits (t + zs.getD k 0) = false) :
    sumGo 0 zs = none := by
  conv => lhs; rw [← List.take_append_drop (k + 1) zs]
  rw [take_next zs k h, sumGo_append, sumGo_append, ht]
  simp only [Option.bind_some, sumGo, hf]
  rfl
theorem fits_getD (zs : List Int) (hz : ∀ z ∈ zs, fits z = true) (k : Nat) : fits (zs.getD k 0) = true := by
  rw [List.getD_eq_getElem?_getD]
  by_cases h : k < zs.length
  · rw [List.getElem?_eq_getElem h]; exact hz _ (List.getElem_mem h)
  · rw [List.getElem?_eq_none (by omega)]; decide
end Go.Proofs.Ytdphejjiiogikaa
