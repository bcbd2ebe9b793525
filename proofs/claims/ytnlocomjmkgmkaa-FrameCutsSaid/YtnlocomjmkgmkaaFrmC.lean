/- Frames that are cut, with zeros behind. -/
import Derived.Test.YtnlocomjmkgmkaaFrm4
namespace Go.Proofs.Ytnlocomjmkgmkaa
set_option linter.unusedVariables false
set_option linter.unusedSimpArgs false
open Go.ChangeShapes Go.WideShapes Go.ChangeAt Go.RowKit
/-- which octets have a frame. -/
def goodP (p : List UInt8) : Bool := decide (1 ≤ p.length) && decide (p.length ≤ 4096)
/-- the frames of those that have one. -/
def flatF : List (List UInt8) → List UInt8
  | [] => []
  | p :: r => if goodP p then frameOf p ++ flatF r else flatF r
/-- those whose frames end by the cut; at: where the frames ahead end. -/
def wholeF (cut : Nat) : Nat → List (List UInt8) → List (List UInt8)
  | _, [] => []
  | at_, p :: r => if goodP p then (if at_ + p.length + 7 ≤ cut then p :: wholeF cut (at_ + p.length + 7) r else wholeF cut (at_ + p.length + 7) r) else wholeF cut at_ r
theorem goodP_iff (p : List UInt8) : goodP p = true ↔ 1 ≤ p.length ∧ p.length ≤ 4096 := by simp [goodP]
theorem wholeF_none (cut : Nat) : ∀ (r : List (List UInt8)) (at_ : Nat), cut < at_ → wholeF cut at_ r = [] := by
  intro r
  induction r with
  | nil => intro at_ _; rfl
  | cons p r ih =>
    intro at_ h
    simp only [wholeF]
    split
    · rw [if_neg (by omega)]; exact ih _ (by omega)
    · exact ih _ h
theorem wholeF_shift (cut k : Nat) : ∀ (r : List (List UInt8)) (at_ : Nat), wholeF (cut + k) (at_ + k) r = wholeF cut at_ r := by
  intro r
  induction r with
  | nil => intro at_; rfl
  | cons p r ih =>
    intro at_
    have e : at_ + k + p.length + 7 = (at_ + p.length + 7) + k := by omega
    simp only [wholeF]
    rw [e, ih, ih]
    by_cases h : at_ + p.length + 7 ≤ cut
    · rw [if_pos h, if_pos (show at_ + p.length + 7 + k ≤ cut + k by omega)]
    · rw [if_neg h, if_neg (show ¬ at_ + p.length + 7 + k ≤ cut + k by omega)]
theorem getD_zeros (x : List UInt8) (z k : Nat) (h : x.length ≤ k) : (x ++ List.replicate z 0).getD k 0 = 0 := by
  rw [List.getD_eq_getElem?_getD, List.getElem?_append_right h, List.getElem?_replicate]
  split <;> rfl
/-- a frame that is cut is none. -/
theorem getF_cut (p : List UInt8) (cut z : Nat) (hp : p.length ≤ 4096) (hc : cut ≤ p.length + 6) : getF ((frameOf p).take cut ++ List.replicate z 0) = none := by
  have hl : ((frameOf p).take cut).length = cut := by rw [List.length_take, frameOf_len]; omega
  unfold getF
  split
  · rename_i hh
    exfalso
    obtain ⟨_, h1, h2, h3, h4, _⟩ := hh
    have hz : ((frameOf p).take cut ++ List.replicate z 0).getD (numOf (((frameOf p).take cut ++ List.replicate z 0).take 2) + 6) 0 = 0 := by
      by_cases h : 2 ≤ cut
      · have e2 : ((frameOf p).take cut ++ List.replicate z 0).take 2 = beOf p.length 2 := by
          rw [List.take_append_of_le_length (by omega), List.take_take, Nat.min_eq_left h]
          unfold frameOf
          rw [List.append_assoc, List.take_append_of_le_length (by rw [beOf_len]; exact Nat.le_refl _), List.take_of_length_le (by rw [beOf_len]; exact Nat.le_refl _)]
        rw [e2, nb_beOf, Nat.mod_eq_of_lt (by omega)]
        exact getD_zeros _ _ _ (by omega)
      · exact getD_zeros _ _ _ (by omega)
    rw [hz] at h4
    cases h4
  · rfl
theorem getF_zeros (z : Nat) : getF (List.replicate z 0) = none := by
  have := getF_cut [] 0 z (by decide) (by decide)
  simpa using this
theorem cut_all (z : Nat) : ∀ (l : List (List UInt8)) (cut : Nat), cut ≤ (flatF l).length → allF ((flatF l).take cut ++ List.replicate z 0) = wholeF cut 0 l := by
  intro l
  induction l with
  | nil =>
    intro cut h
    simp only [flatF, List.take_nil, List.nil_append, wholeF]
    exact allF_none (getF_zeros z)
  | cons p r ih =>
    intro cut h
    simp only [flatF, wholeF] at h ⊢
    by_cases hg : goodP p = true
    · obtain ⟨g1, g2⟩ := (goodP_iff p).1 hg
      rw [if_pos hg] at h
      rw [if_pos hg, if_pos hg]
      rw [List.length_append, frameOf_len] at h
      by_cases hc : p.length + 7 ≤ cut
      · obtain ⟨k, rfl⟩ : ∃ k, cut = k + (p.length + 7) := ⟨cut - (p.length + 7), by omega⟩
        have ht : (frameOf p ++ flatF r).take (k + (p.length + 7)) = frameOf p ++ (flatF r).take k := by
          rw [List.take_append, List.take_of_length_le (by rw [frameOf_len]; omega), frameOf_len, show k + (p.length + 7) - (p.length + 7) = k by omega]
        have hf := getF_frame p ((flatF r).take k ++ List.replicate z 0) g1 g2
        rw [ht, List.append_assoc, allF_some hf.1, hf.2.1, hf.2.2, ih k (by omega), if_pos (show 0 + p.length + 7 ≤ k + (p.length + 7) by omega)]
        congr 1
        rw [show 0 + p.length + 7 = 0 + (p.length + 7) by omega, wholeF_shift]
      · rw [List.take_append_of_le_length (by rw [frameOf_len]; omega), allF_none (getF_cut p cut z g2 (by omega)), if_neg (by omega), wholeF_none _ _ _ (by omega)]
    · rw [if_neg hg] at h
      rw [if_neg hg, if_neg hg]
      exact ih cut h
theorem flatF_snoc (l : List (List UInt8)) (p : List UInt8) : flatF (l ++ [p]) = flatF l ++ (if goodP p then frameOf p else []) := by
  induction l with
  | nil => simp only [List.nil_append, flatF]; split <;> simp
  | cons q r ih =>
    rw [List.cons_append]
    simp only [flatF]
    rw [ih]
    by_cases h : goodP q = true
    · rw [if_pos h, if_pos h, List.append_assoc]
    · rw [if_neg h, if_neg h]
theorem wholeF_yes (cut : Nat) (p : List UInt8) (hg : goodP p = true) : ∀ (l : List (List UInt8)) (at_ : Nat), at_ + (flatF l).length + p.length + 7 ≤ cut → wholeF cut at_ (l ++ [p]) = wholeF cut at_ l ++ [p] := by
  intro l
  induction l with
  | nil =>
    intro at_ h
    have h2 : at_ + p.length + 7 ≤ cut := by simpa [flatF] using h
    simp only [List.nil_append, wholeF]
    rw [if_pos hg, if_pos h2]
  | cons q r ih =>
    intro at_ h
    rw [List.cons_append]
    simp only [wholeF]
    by_cases hq : goodP q = true
    · have hl : (flatF (q :: r)).length = q.length + 7 + (flatF r).length := by
        simp only [flatF]; rw [if_pos hq, List.length_append, frameOf_len]
      rw [if_pos hq, if_pos hq, ih _ (by omega)]
      split
      · rw [List.cons_append]
      · rfl
    · have hl : (flatF (q :: r)).length = (flatF r).length := by
        simp only [flatF]; rw [if_neg hq]
      rw [if_neg hq, if_neg hq, ih _ (by omega)]
theorem wholeF_no (cut : Nat) (p : List UInt8) : ∀ (l : List (List UInt8)) (at_ : Nat), (goodP p = true → cut < at_ + (flatF l).length + p.length + 7) → wholeF cut at_ (l ++ [p]) = wholeF cut at_ l := by
  intro l
  induction l with
  | nil =>
    intro at_ h
    simp only [List.nil_append, wholeF]
    by_cases hg : goodP p = true
    · have h2 : ¬ at_ + p.length + 7 ≤ cut := by have := h hg; simp [flatF] at this; omega
      rw [if_pos hg, if_neg h2]
    · rw [if_neg hg]
  | cons q r ih =>
    intro at_ h
    rw [List.cons_append]
    simp only [wholeF]
    by_cases hq : goodP q = true
    · have hl : (flatF (q :: r)).length = q.length + 7 + (flatF r).length := by
        simp only [flatF]; rw [if_pos hq, List.length_append, frameOf_len]
      rw [if_pos hq, if_pos hq, ih _ (fun hg => by have := h hg; omega)]
    · have hl : (flatF (q :: r)).length = (flatF r).length := by
        simp only [flatF]; rw [if_neg hq]
      rw [if_neg hq, if_neg hq, ih _ (fun hg => by have := h hg; omega)]
theorem wholeF_len (cut : Nat) : ∀ (l : List (List UInt8)) (at_ : Nat), (wholeF cut at_ l).length ≤ l.length := by
  intro l
  induction l with
  | nil => intro _; exact Nat.le_refl _
  | cons p r ih =>
    intro at_
    simp only [wholeF, List.length_cons]
    split
    · split
      · have := ih (at_ + p.length + 7); simp only [List.length_cons]; omega
      · have := ih (at_ + p.length + 7); omega
    · have := ih at_; omega
theorem flatF_len : ∀ l : List (List UInt8), (flatF l).length ≤ 4103 * l.length := by
  intro l
  induction l with
  | nil => exact Nat.le_refl _
  | cons p r ih =>
    simp only [flatF, List.length_cons]
    by_cases h : goodP p = true
    · have := ((goodP_iff p).1 h).2
      rw [if_pos h, List.length_append, frameOf_len]; omega
    · rw [if_neg h]; omega
end Go.Proofs.Ytnlocomjmkgmkaa
