/- Answers and their octets: there and back. -/
import Derived.Test.YteijahcbfncebaaDoorCode9
import Derived.RegionTactic
import Derived.BigRegion
import Derived.ChangeAlike
namespace Go.Proofs.YteijahcbfncebaaDoor
set_option linter.unusedVariables false
set_option linter.unusedSimpArgs false
open Go.ChangeShapes Go.WideShapes Go.ChangeAt Go.RowKit
theorem nb_fold (bs : List UInt8) : ∀ a : Nat, bs.foldl (fun n b => n * 256 + b.toNat) a = a * 256 ^ bs.length + numOf bs := by
  induction bs with
  | nil => intro a; simp [numOf]
  | cons b bs ih =>
    intro a
    rw [List.foldl_cons, ih, show numOf (b :: bs) = bs.foldl (fun n b => n * 256 + b.toNat) (0 * 256 + b.toNat) from rfl, ih, List.length_cons, Nat.pow_succ, Nat.add_mul, Nat.zero_mul, Nat.zero_add, Nat.mul_assoc, Nat.mul_comm 256, Nat.add_assoc]
theorem nb_cons (b : UInt8) (bs : List UInt8) : numOf (b :: bs) = b.toNat * 256 ^ bs.length + numOf bs := by
  show bs.foldl (fun n b => n * 256 + b.toNat) (0 * 256 + b.toNat) = _
  rw [nb_fold, Nat.zero_mul, Nat.zero_add]
theorem nb_beOf (m : Nat) : ∀ k, numOf (beOf m k) = m % 256 ^ k
  | 0 => by simp [beOf, numOf, Nat.mod_one]
  | k + 1 => by
    have h : (UInt8.ofNat (m / 256 ^ k % 256)).toNat = m / 256 ^ k % 256 := by
      rw [UInt8.toNat_ofNat']; omega
    rw [beOf, nb_cons, beOf_len, nb_beOf m k, h, Nat.mod_pow_succ, Nat.mul_comm, Nat.add_comm]
theorem nb_inj : ∀ {l m : List UInt8}, l.length = m.length → numOf l = numOf m → l = m
  | [], [], _, _ => rfl
  | [], _ :: _, h, _ => by simp at h
  | _ :: _, [], h, _ => by simp at h
  | x :: l, y :: m, h, e => by
    have hl : l.length = m.length := by simpa using h
    rw [nb_cons, nb_cons, hl] at e
    have h1 := numOf_lt l
    have h2 := numOf_lt m
    rw [hl] at h1
    have hx : x.toNat = y.toNat := by
      have e1 : (x.toNat * 256 ^ m.length + numOf l) / 256 ^ m.length = x.toNat := by
        rw [Nat.mul_comm, Nat.mul_add_div (Nat.pow_pos (by decide)), Nat.div_eq_of_lt h1, Nat.add_zero]
      have e2 : (y.toNat * 256 ^ m.length + numOf m) / 256 ^ m.length = y.toNat := by
        rw [Nat.mul_comm, Nat.mul_add_div (Nat.pow_pos (by decide)), Nat.div_eq_of_lt h2, Nat.add_zero]
      rw [← e1, ← e2, e]
    rw [hx] at e
    have he : numOf l = numOf m := by omega
    rw [nb_inj hl he, UInt8.toNat_inj.1 hx]
theorem nb_back (x : List UInt8) : beOf (numOf x) x.length = x :=
  nb_inj (beOf_len _ _) (by rw [nb_beOf, Nat.mod_eq_of_lt (numOf_lt x)])
theorem tk_app (k : Nat) (xs ys : List UInt8) (h : xs.length = k) : tkN (xs ++ ys, true) k = numOf xs ∧ tkS (xs ++ ys, true) k = (ys, true) := by
  subst h
  unfold tkN tkS tkB
  simp
theorem inB_iff {z a b : Int} : inB z a b = true ↔ a ≤ z ∧ z ≤ b := by unfold inB; simp
theorem back_small {z : Int} {k : Nat} (h0 : 0 ≤ z) (h1 : z < 256 ^ k) (h2 : z < 9223372036854775808) : wrap64 (numOf (beOf (u64 z) k) : Int) = z := by
  rw [nb_beOf]
  have hu : (u64 z : Int) = z := by unfold u64; omega
  have hm : u64 z % 256 ^ k = u64 z := Nat.mod_eq_of_lt (by have : ((u64 z : Nat) : Int) < ((256 ^ k : Nat) : Int) := by rw [hu]; simpa using h1
                                                            exact_mod_cast this)
  rw [hm, hu]
  unfold wrap64; omega
theorem ans_enc {x n m : Int} (hx : inB x 0 255 = true) (hm : inB m 0 255 = true) (hn : inB n 0 2147483647 = true) : ansL (encA x n m) = [x, n, m] := by
  obtain ⟨x0, x1⟩ := inB_iff.1 hx
  obtain ⟨m0, m1⟩ := inB_iff.1 hm
  obtain ⟨n0, n1⟩ := inB_iff.1 hn
  unfold ansL encA
  rw [List.append_assoc]
  have a1 := tk_app 1 (beOf (u64 x) 1) (beOf (u64 n) 4 ++ beOf (u64 m) 1) (beOf_len _ _)
  have a2 := tk_app 4 (beOf (u64 n) 4) (beOf (u64 m) 1) (beOf_len _ _)
  have a3 := tk_app 1 (beOf (u64 m) 1) [] (beOf_len _ _)
  rw [List.append_nil] at a3
  rw [a1.2, a2.2, a1.1, a2.1, a3.1, back_small x0 (by omega) (by omega), back_small n0 (by omega) (by omega), back_small m0 (by omega) (by omega)]
end Go.Proofs.YteijahcbfncebaaDoor
