/- Changes and their octets: there and back. -/
import Derived.Test.YteebmpbplenikaaDoorChg5
namespace Go.Proofs.YteebmpbplenikaaDoor
set_option linter.unusedVariables false
set_option linter.unusedSimpArgs false
open Go.ChangeShapes Go.WideShapes Go.ChangeAt Go.RowKit
theorem numFold (bs : List UInt8) : ∀ a : Nat, bs.foldl (fun n b => n * 256 + b.toNat) a = a * 256 ^ bs.length + numOf bs := by
  induction bs with
  | nil => intro a; simp [numOf]
  | cons b bs ih =>
    intro a
    rw [List.foldl_cons, ih, show numOf (b :: bs) = bs.foldl (fun n b => n * 256 + b.toNat) (0 * 256 + b.toNat) from rfl, ih, List.length_cons, Nat.pow_succ, Nat.add_mul, Nat.zero_mul, Nat.zero_add, Nat.mul_assoc, Nat.mul_comm 256, Nat.add_assoc]
theorem numOf_cons (b : UInt8) (bs : List UInt8) : numOf (b :: bs) = b.toNat * 256 ^ bs.length + numOf bs := by
  show bs.foldl (fun n b => n * 256 + b.toNat) (0 * 256 + b.toNat) = _
  rw [numFold, Nat.zero_mul, Nat.zero_add]
theorem numOf_beOf (m : Nat) : ∀ k, numOf (beOf m k) = m % 256 ^ k
  | 0 => by simp [beOf, numOf, Nat.mod_one]
  | k + 1 => by
    have h : (UInt8.ofNat (m / 256 ^ k % 256)).toNat = m / 256 ^ k % 256 := by
      rw [UInt8.toNat_ofNat']; omega
    rw [beOf, numOf_cons, beOf_len, numOf_beOf m k, h, Nat.mod_pow_succ, Nat.mul_comm, Nat.add_comm]
theorem numOf_inj : ∀ {l m : List UInt8}, l.length = m.length → numOf l = numOf m → l = m
  | [], [], _, _ => rfl
  | [], _ :: _, h, _ => by simp at h
  | _ :: _, [], h, _ => by simp at h
  | x :: l, y :: m, h, e => by
    have hl : l.length = m.length := by simpa using h
    rw [numOf_cons, numOf_cons, hl] at e
    have h1 := numOf_lt l
    have h2 := numOf_lt m
    rw [hl] at h1
    have hx : x.toNat = y.toNat := by
      have e1 : (x.toNat * 256 ^ m.length + numOf l) / 256 ^ m.length = x.toNat := by
        rw [Nat.mul_comm, Nat.mul_add_div (Nat.pow_pos (by decide)), Nat.div_eq_of_lt h1, Nat.add_zero]
      have e2 : (y.toNat * 256 ^ m.length + numOf m) / 256 ^ m.length = y.toNat := by
        rw [Nat.mul_comm, Nat.mul_add_div (Nat.pow_pos (by decide)), Nat.div_eq_of_lt h2, Nat.add_zero]
      rw [← e1, ← e2, e]
    rw [hx] at e
    have he : numOf l = numOf m := by omega
    rw [numOf_inj hl he, UInt8.toNat_inj.1 hx]
theorem beOf_numOf (x : List UInt8) : beOf (numOf x) x.length = x :=
  numOf_inj (beOf_len _ _) (by rw [numOf_beOf, Nat.mod_eq_of_lt (numOf_lt x)])
theorem u64_s64 {m : Nat} (h : m < 18446744073709551616) : u64 (s64 m) = m := by
  unfold u64 s64 wrap64; omega
theorem seg (bs : List UInt8) (o k : Nat) (h : o + k ≤ bs.length) (hk : k ≤ 8) : beOf (u64 (fld bs o k)) k = (bs.drop o).take k := by
  have hl : ((bs.drop o).take k).length = k := by rw [List.length_take, List.length_drop]; omega
  have hlt := numOf_lt ((bs.drop o).take k)
  rw [hl] at hlt
  have h8 : 256 ^ k ≤ 256 ^ 8 := Nat.pow_le_pow_right (by decide) hk
  unfold fld
  rw [u64_s64 (Nat.lt_of_lt_of_le hlt h8)]
  have := beOf_numOf ((bs.drop o).take k)
  rwa [hl] at this
theorem enc_dec {bs : List UInt8} (h : bs.length = 22) (he : (bs.getD 21 0).toNat = 67) : encOf (fld bs 0 1) (fld bs 1 2) (fld bs 3 4) (fld bs 7 1) (fld bs 8 1) (fld bs 9 1) (fld bs 10 8) (fld bs 18 1) (fld bs 19 2) = bs := by
  unfold encOf
  rw [seg bs 0 1 (by omega) (by decide), seg bs 1 2 (by omega) (by decide), seg bs 3 4 (by omega) (by decide), seg bs 7 1 (by omega) (by decide), seg bs 8 1 (by omega) (by decide), seg bs 9 1 (by omega) (by decide), seg bs 10 8 (by omega) (by decide), seg bs 18 1 (by omega) (by decide), seg bs 19 2 (by omega) (by decide)]
  match bs, h with
  | [a0, a1, a2, a3, a4, a5, a6, a7, a8, a9, a10, a11, a12, a13, a14, a15, a16, a17, a18, a19, a20, a21], _ =>
    have e21 : a21 = 67 := UInt8.toNat_inj.1 he
    subst e21
    rfl
set_option maxRecDepth 10000 in
theorem enc_seg0 (r s t k a b n p q : Int) : ((encOf r s t k a b n p q).drop 0).take 1 = beOf (u64 r) 1 := by simp [encOf, beOf]
set_option maxRecDepth 10000 in
theorem enc_seg1 (r s t k a b n p q : Int) : ((encOf r s t k a b n p q).drop 1).take 2 = beOf (u64 s) 2 := by simp [encOf, beOf]
set_option maxRecDepth 10000 in
theorem enc_seg2 (r s t k a b n p q : Int) : ((encOf r s t k a b n p q).drop 3).take 4 = beOf (u64 t) 4 := by simp [encOf, beOf]
set_option maxRecDepth 10000 in
theorem enc_seg3 (r s t k a b n p q : Int) : ((encOf r s t k a b n p q).drop 7).take 1 = beOf (u64 k) 1 := by simp [encOf, beOf]
set_option maxRecDepth 10000 in
theorem enc_seg4 (r s t k a b n p q : Int) : ((encOf r s t k a b n p q).drop 8).take 1 = beOf (u64 a) 1 := by simp [encOf, beOf]
set_option maxRecDepth 10000 in
theorem enc_seg5 (r s t k a b n p q : Int) : ((encOf r s t k a b n p q).drop 9).take 1 = beOf (u64 b) 1 := by simp [encOf, beOf]
set_option maxRecDepth 10000 in
theorem enc_seg6 (r s t k a b n p q : Int) : ((encOf r s t k a b n p q).drop 10).take 8 = beOf (u64 n) 8 := by simp [encOf, beOf]
set_option maxRecDepth 10000 in
theorem enc_seg7 (r s t k a b n p q : Int) : ((encOf r s t k a b n p q).drop 18).take 1 = beOf (u64 p) 1 := by simp [encOf, beOf]
set_option maxRecDepth 10000 in
theorem enc_seg8 (r s t k a b n p q : Int) : ((encOf r s t k a b n p q).drop 19).take 2 = beOf (u64 q) 2 := by simp [encOf, beOf]
theorem back_small {v : Int} {k : Nat} (h0 : 0 ≤ v) (h1 : v < 256 ^ k) (hk : k ≤ 4) : s64 (numOf (beOf (u64 v) k)) = v := by
  obtain ⟨m, rfl⟩ : ∃ m : Nat, v = m := ⟨v.toNat, by omega⟩
  have hm : m < 256 ^ k := by
    rcases (show k = 0 ∨ k = 1 ∨ k = 2 ∨ k = 3 ∨ k = 4 by omega) with rfl | rfl | rfl | rfl | rfl <;> omega
  have h4 : 256 ^ k ≤ 256 ^ 4 := Nat.pow_le_pow_right (by decide) hk
  have hu : u64 (m : Int) = m := by unfold u64; omega
  rw [numOf_beOf, hu, Nat.mod_eq_of_lt hm, s64_small (by omega)]
theorem back_eight {v : Int} (h : fits v = true) : s64 (numOf (beOf (u64 v) 8)) = v := by
  obtain ⟨h1, h2⟩ := (fits_iff v).1 h
  rw [numOf_beOf, Nat.mod_eq_of_lt (by have := u64_lt v; omega)]
  unfold s64 wrap64 u64
  omega
/-- back from its octets. -/
theorem dec_enc {r s t k a b n p q : Int} (h : mayChg r s t k a b p q = true) (hn : fits n = true) : [fld (encOf r s t k a b n p q) 0 1, fld (encOf r s t k a b n p q) 1 2, fld (encOf r s t k a b n p q) 3 4, fld (encOf r s t k a b n p q) 7 1, fld (encOf r s t k a b n p q) 8 1, fld (encOf r s t k a b n p q) 9 1, fld (encOf r s t k a b n p q) 10 8, fld (encOf r s t k a b n p q) 18 1, fld (encOf r s t k a b n p q) 19 2] = [r, s, t, k, a, b, n, p, q] := by
  obtain ⟨h1, h2, h3, h4, h5, h6, h7, h8, h9⟩ := of_decide_eq_true h
  obtain ⟨g1, g2, g3, g4⟩ := (mayId_iff r s).1 h1
  obtain ⟨k1, k2⟩ := (isOct_iff k).1 h6
  obtain ⟨a1, a2⟩ := (isOct_iff a).1 h7
  obtain ⟨b1, b2⟩ := (isOct_iff b).1 h8
  obtain ⟨p1, p2⟩ := (isOct_iff p).1 h9
  unfold fld
  rw [enc_seg0, enc_seg1, enc_seg2, enc_seg3, enc_seg4, enc_seg5, enc_seg6, enc_seg7, enc_seg8]
  rw [back_small (v := r) (k := 1) g1 (by omega) (by decide), back_small (v := s) (k := 2) (by omega) (by omega) (by decide), back_small (v := t) (k := 4) (by omega) (by omega) (by decide), back_small (v := k) (k := 1) k1 (by omega) (by decide), back_small (v := a) (k := 1) a1 (by omega) (by decide), back_small (v := b) (k := 1) b1 (by omega) (by decide), back_eight hn, back_small (v := p) (k := 1) p1 (by omega) (by decide), back_small (v := q) (k := 2) h4 (by omega) (by decide)]
theorem enc_last (r s t k a b n p q : Int) : ((encOf r s t k a b n p q).getD 21 0).toNat = 67 := by simp [encOf, beOf, u64]
end Go.Proofs.YteebmpbplenikaaDoor
