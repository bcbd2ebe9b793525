/- Requests and their octets: there and back. -/
import Derived.Test.YteebmpbplenikaaDoorEnt7
import Derived.Test.YteebmpbplenikaaDoorMath9
import Derived.Test.YteebmpbplenikaaDoorLaw09
namespace Go.Proofs.YteebmpbplenikaaDoor
set_option linter.unusedVariables false
set_option linter.unusedSimpArgs false
open Go.ChangeShapes Go.WideShapes Go.ChangeAt Go.RowKit
set_option maxRecDepth 10000 in
theorem ence_seg0 (k a n p q : Int) : ((encE k a n p q).drop 0).take 1 = beOf (u64 k) 1 := by simp [encE, beOf]
set_option maxRecDepth 10000 in
theorem ence_seg1 (k a n p q : Int) : ((encE k a n p q).drop 1).take 1 = beOf (u64 a) 1 := by simp [encE, beOf]
set_option maxRecDepth 10000 in
theorem ence_seg2 (k a n p q : Int) : ((encE k a n p q).drop 2).take 8 = beOf (u64 n) 8 := by simp [encE, beOf]
set_option maxRecDepth 10000 in
theorem ence_seg3 (k a n p q : Int) : ((encE k a n p q).drop 10).take 1 = beOf (u64 p) 1 := by simp [encE, beOf]
set_option maxRecDepth 10000 in
theorem ence_seg4 (k a n p q : Int) : ((encE k a n p q).drop 11).take 2 = beOf (u64 q) 2 := by simp [encE, beOf]
theorem eff_parts {k a p q : Int} (h : effCode k a p q = 0) : (1 ≤ k ∧ k ≤ 11) ∧ (0 ≤ a ∧ a ≤ 255) ∧ (0 ≤ p ∧ p ≤ 255) ∧ 0 ≤ q ∧ q ≤ 65535 := by
  unfold effCode at h
  split at h
  · rename_i hk
    split at h
    · rename_i h2
      exact ⟨(isKnd_iff k).1 hk, (isOct_iff a).1 h2.1, (isOct_iff p).1 h2.2.1, h2.2.2⟩
    · cases h
  · cases h
theorem fld_ence {k a n p q : Int} (h : effCode k a p q = 0) (hn : fits n = true) : [fld (encE k a n p q) 0 1, fld (encE k a n p q) 1 1, fld (encE k a n p q) 2 8, fld (encE k a n p q) 10 1, fld (encE k a n p q) 11 2] = [k, a, n, p, q] := by
  obtain ⟨⟨k1, k2⟩, ⟨a1, a2⟩, ⟨p1, p2⟩, q1, q2⟩ := eff_parts h
  unfold fld
  rw [ence_seg0, ence_seg1, ence_seg2, ence_seg3, ence_seg4]
  rw [back_small (v := k) (k := 1) (by omega) (by omega) (by decide), back_small (v := a) (k := 1) a1 (by omega) (by decide), back_eight hn, back_small (v := p) (k := 1) p1 (by omega) (by decide), back_small (v := q) (k := 2) q1 (by omega) (by decide)]
theorem effOf_enc {k a n p q : Int} (h : effCode k a p q = 0) (hn : fits n = true) : effOf (encE k a n p q) = [k, a, n, p, q] := by
  have E := fld_ence h hn
  have E2 := E
  simp only [List.cons.injEq, and_true] at E2
  obtain ⟨e0, e1, e2, e3, e4⟩ := E2
  unfold effOf
  rw [e0, e1, e2, e3, e4, if_pos h]
section
variable (o k a n p q s l : Int) (ak gn : Bool) (b bl : Int)
theorem encN_seg (xs ys : List UInt8) (i j : Nat) (h : encN o k a n p q s l ak gn b bl = xs ++ ys) (hx : xs.length = i) : ((encN o k a n p q s l ak gn b bl).drop i).take j = ys.take j := by
  rw [h, List.drop_append_of_le_length (by omega), List.drop_of_length_le (by omega), List.nil_append]
theorem encn_seg0 : ((encN o k a n p q s l ak gn b bl).drop 0).take 1 = beOf (u64 o) 1 := by
  rw [encN_seg o k a n p q s l ak gn b bl [] (beOf (u64 o) 1 ++ (encE k a n p q ++ (beOf (u64 s) 1 ++ (beOf (u64 l) 4 ++ (beOf (u64 b) 1 ++ (beOf (u64 bl) 4 ++ [UInt8.ofNat (flagsOf ak gn), 69, 69])))))) 0 1 (by unfold encN encNf; simp only [List.append_assoc, List.nil_append]) rfl]
  rw [List.take_append_of_le_length (by rw [beOf_len]; decide), List.take_of_length_le (by rw [beOf_len]; decide)]
theorem encn_seg1 : ((encN o k a n p q s l ak gn b bl).drop 1).take 13 = encE k a n p q := by
  rw [encN_seg o k a n p q s l ak gn b bl (beOf (u64 o) 1) (encE k a n p q ++ (beOf (u64 s) 1 ++ (beOf (u64 l) 4 ++ (beOf (u64 b) 1 ++ (beOf (u64 bl) 4 ++ [UInt8.ofNat (flagsOf ak gn), 69, 69]))))) 1 13 (by unfold encN encNf; simp only [List.append_assoc]) (beOf_len _ _)]
  rw [List.take_append_of_le_length (by rw [encE_len]; decide), List.take_of_length_le (by rw [encE_len]; decide)]
theorem encn_seg2 : ((encN o k a n p q s l ak gn b bl).drop 14).take 1 = beOf (u64 s) 1 := by
  rw [encN_seg o k a n p q s l ak gn b bl (beOf (u64 o) 1 ++ encE k a n p q) (beOf (u64 s) 1 ++ (beOf (u64 l) 4 ++ (beOf (u64 b) 1 ++ (beOf (u64 bl) 4 ++ [UInt8.ofNat (flagsOf ak gn), 69, 69])))) 14 1 (by unfold encN encNf; simp only [List.append_assoc]) (by simp [beOf_len, encE_len])]
  rw [List.take_append_of_le_length (by rw [beOf_len]; decide), List.take_of_length_le (by rw [beOf_len]; decide)]
theorem encn_seg3 : ((encN o k a n p q s l ak gn b bl).drop 15).take 4 = beOf (u64 l) 4 := by
  rw [encN_seg o k a n p q s l ak gn b bl (beOf (u64 o) 1 ++ encE k a n p q ++ beOf (u64 s) 1) (beOf (u64 l) 4 ++ (beOf (u64 b) 1 ++ (beOf (u64 bl) 4 ++ [UInt8.ofNat (flagsOf ak gn), 69, 69]))) 15 4 (by unfold encN encNf; simp only [List.append_assoc]) (by simp [beOf_len, encE_len])]
  rw [List.take_append_of_le_length (by rw [beOf_len]; decide), List.take_of_length_le (by rw [beOf_len]; decide)]
theorem encn_seg4 : ((encN o k a n p q s l ak gn b bl).drop 19).take 1 = beOf (u64 b) 1 := by
  rw [encN_seg o k a n p q s l ak gn b bl (beOf (u64 o) 1 ++ encE k a n p q ++ beOf (u64 s) 1 ++ beOf (u64 l) 4) (beOf (u64 b) 1 ++ (beOf (u64 bl) 4 ++ [UInt8.ofNat (flagsOf ak gn), 69, 69])) 19 1 (by unfold encN encNf; simp only [List.append_assoc]) (by simp [beOf_len, encE_len])]
  rw [List.take_append_of_le_length (by rw [beOf_len]; decide), List.take_of_length_le (by rw [beOf_len]; decide)]
theorem encn_seg5 : ((encN o k a n p q s l ak gn b bl).drop 20).take 4 = beOf (u64 bl) 4 := by
  rw [encN_seg o k a n p q s l ak gn b bl (beOf (u64 o) 1 ++ encE k a n p q ++ beOf (u64 s) 1 ++ beOf (u64 l) 4 ++ beOf (u64 b) 1) (beOf (u64 bl) 4 ++ [UInt8.ofNat (flagsOf ak gn), 69, 69]) 20 4 (by unfold encN encNf; simp only [List.append_assoc]) (by simp [beOf_len, encE_len])]
  rw [List.take_append_of_le_length (by rw [beOf_len]; decide), List.take_of_length_le (by rw [beOf_len]; decide)]
theorem encn_tail : (encN o k a n p q s l ak gn b bl).drop 24 = [UInt8.ofNat (flagsOf ak gn), 69, 69] := by
  unfold encN encNf
  rw [List.drop_append_of_le_length (by simp [beOf_len, encE_len]), List.drop_of_length_le (by simp [beOf_len, encE_len]), List.nil_append]
theorem encn_flag : fld (encN o k a n p q s l ak gn b bl) 24 1 = flagsOf ak gn := by
  unfold fld
  rw [encn_tail]
  have e : numOf (([UInt8.ofNat (flagsOf ak gn), 69, 69] : List UInt8).take 1) = flagsOf ak gn := by cases ak <;> cases gn <;> decide
  rw [e, s64_small (by cases ak <;> cases gn <;> decide)]
end
theorem flag_act (ak gn : Bool) : actB (flagsOf ak gn : Nat) = ak := by cases ak <;> cases gn <;> rfl
theorem flag_gon (ak gn : Bool) : gonB (flagsOf ak gn : Nat) = gn := by cases ak <;> cases gn <;> rfl
end Go.Proofs.YteebmpbplenikaaDoor
