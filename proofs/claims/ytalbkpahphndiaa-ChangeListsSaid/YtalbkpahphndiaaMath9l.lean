/- Lists of changes and their octets: there and back. -/
import Derived.Test.YtalbkpahphndiaaChg8
import Derived.Test.YtalbkpahphndiaaChg6
import Derived.Test.YtalbkpahphndiaaVec2
import Derived.Test.YtalbkpahphndiaaLaw09m
import Derived.Test.YtalbkpahphndiaaLaw09g
import Derived.Test.YtalbkpahphndiaaVec3
import Derived.Test.YtalbkpahphndiaaVec4
import Derived.Deep.DeepCutAuto
import Derived.Test.YtalbkpahphndiaaLaw02c
import Derived.Deep.LoopGhost
import Derived.Test.YtalbkpahphndiaaChg4
import Derived.Test.YtalbkpahphndiaaMath9
import Derived.Test.YtalbkpahphndiaaChgEq
import Derived.Test.YtalbkpahphndiaaLaw02
import Derived.Test.YtalbkpahphndiaaHeld
import Derived.Test.YtalbkpahphndiaaRd
import Derived.Test.YtalbkpahphndiaaOct
import Derived.Test.YtalbkpahphndiaaApp
import Derived.Test.YtalbkpahphndiaaRow
import Derived.Test.YtalbkpahphndiaaOps
import Derived.RegionTactic
import Derived.BigRegion
import Derived.ChangeAlike
namespace Go.Proofs.Ytalbkpahphndiaa
set_option linter.unusedVariables false
set_option linter.unusedSimpArgs false
open Go.ChangeShapes Go.WideShapes Go.ChangeAt Go.RowKit
theorem encC_list (r s t k a b n p q : Int) : encC [r, s, t, k, a, b, n, p, q] = encOf r s t k a b n p q := rfl
theorem mayC_list (r s t k a b n p q : Int) : mayC [r, s, t, k, a, b, n, p, q] = mayChg r s t k a b p q := rfl
theorem back_enc (x : List Int) (hx : x.length = 9) (hm : mayC x = true) (fx : ∀ k, fits (x.getD k 0) = true) : fldL (encC x) = x ∧ okSeg (encC x) = true := by
  match x, hx with
  | [r, s, t, k, a, b, n, p, q], _ =>
    have hm' : mayChg r s t k a b p q = true := hm
    have hfn : fits n = true := fx 6
    have hE := dec_enc hm' hfn
    have hf : fldL (encC [r, s, t, k, a, b, n, p, q]) = [r, s, t, k, a, b, n, p, q] := by rw [encC_list]; unfold fldL; exact hE
    refine ⟨hf, ?_⟩
    have E2 := hE
    simp only [List.cons.injEq, and_true] at E2
    obtain ⟨e0, e1, e2, e3, e4, e5, e6, e7, e8⟩ := E2
    have hl := enc_last r s t k a b n p q
    rw [encC_list]
    unfold okSeg
    rw [decide_eq_true hl, e0, e1, e2, e3, e4, e5, e7, e8, hm']
    rfl
theorem forth_dec (x : List UInt8) (hx : x.length = 22) (hk : okSeg x = true) : encC (fldL x) = x ∧ mayC (fldL x) = true := by
  unfold okSeg at hk
  rw [Bool.and_eq_true, decide_eq_true_eq] at hk
  unfold fldL
  rw [encC_list, mayC_list]
  exact ⟨enc_dec hx hk.1, hk.2⟩
theorem decTo_len (bs : List UInt8) : ∀ k, (decTo bs k).length = k * 9
  | 0 => rfl
  | k + 1 => by rw [decTo, List.length_append, decTo_len bs k]; simp [fldL]; omega
theorem chAt_app_lo {A B : List Int} {k i : Nat} (hA : A.length = k * 9) (hi : i < k) : chAt (A ++ B) i = chAt A i := by
  unfold chAt
  rw [List.drop_append_of_le_length (by omega), List.take_append_of_le_length (by rw [List.length_drop]; omega)]
theorem chAt_app_hi {A B : List Int} {k : Nat} (hA : A.length = k * 9) (hB : B.length = 9) : chAt (A ++ B) k = B := by
  unfold chAt
  rw [← hA, List.drop_left, List.take_of_length_le (by omega)]
theorem chAt_decTo (bs : List UInt8) : ∀ k i, i < k → chAt (decTo bs k) i = fldL (seg9 bs i)
  | 0, i, h => absurd h (Nat.not_lt_zero _)
  | k + 1, i, h => by
    rw [decTo]
    by_cases e : i = k
    · subst e; exact chAt_app_hi (decTo_len bs i) rfl
    · rw [chAt_app_lo (decTo_len bs k) (by omega), chAt_decTo bs k i (by omega)]
theorem seg9_len {bs : List UInt8} {k i : Nat} (hl : bs.length = 1 + 22 * k) (hi : i < k) : (seg9 bs i).length = 22 := by
  unfold seg9; rw [List.length_take, List.length_drop]; omega
theorem encTo_decTo {bs : List UInt8} {k : Nat} (hl : bs.length = 1 + 22 * k) (ok : ∀ i, i < k → okSeg (seg9 bs i) = true) : ∀ m, m ≤ k → encTo (decTo bs k) m = (bs.drop 1).take (22 * m)
  | 0, _ => by simp [encTo]
  | m + 1, h => by
    rw [encTo, encTo_decTo hl ok m (by omega), chAt_decTo bs k m (by omega), (forth_dec _ (seg9_len hl (by omega)) (ok m (by omega))).1, show 22 * (m + 1) = 22 * m + 22 by omega, List.take_add, List.drop_drop]
    rfl
/-- what came out of octets has these octets. -/
theorem list_back {bs : List UInt8} {k : Nat} (hl : bs.length = 1 + 22 * k) (hk : k < 256) (h0 : (bs.getD 0 0).toNat = k) (ok : ∀ i, i < k → okSeg (seg9 bs i) = true) : UInt8.ofNat k :: encTo (decTo bs k) k = bs := by
  rw [encTo_decTo hl ok k (Nat.le_refl _), List.take_of_length_le (by rw [List.length_drop]; omega)]
  match bs, hl with
  | x :: r, _ =>
    have hx : x.toNat = k := h0
    rw [← hx, UInt8.ofNat_toNat]
    rfl
theorem encTo_seg (L : List Int) : ∀ n i, i < n → ((encTo L n).drop (22 * i)).take 22 = encC (chAt L i)
  | 0, i, h => absurd h (Nat.not_lt_zero _)
  | n + 1, i, h => by
    rw [encTo]
    by_cases e : i = n
    · subst e
      rw [← encTo_len L i, List.drop_left, List.take_of_length_le (by rw [encC_len]; omega)]
    · rw [List.drop_append_of_le_length (by rw [encTo_len]; omega), List.take_append_of_le_length (by rw [List.length_drop, encTo_len]; omega), encTo_seg L n i (by omega)]
theorem seg_enc {L : List Int} {n i : Nat} (b : UInt8) (hi : i < n) : seg9 (b :: encTo L n) i = encC (chAt L i) := by
  unfold seg9
  rw [Nat.add_comm 1, List.drop_succ_cons]
  exact encTo_seg L n i hi
theorem decTo_enc {L : List Int} {n : Nat} (b : UInt8) (hl : L.length = n * 9) (hm : ∀ i, i < n → mayC (chAt L i) = true) (fx : ∀ k, fits (L.getD k 0) = true) : ∀ m, m ≤ n → decTo (b :: encTo L n) m = L.take (m * 9)
  | 0, _ => by simp [decTo]
  | m + 1, h => by
    rw [decTo, decTo_enc b hl hm fx m (by omega), seg_enc b (by omega), (back_enc _ (chAt_len hl (by omega)) (hm m (by omega)) (chAt_fits fx)).1, show (m + 1) * 9 = m * 9 + 9 by omega, List.take_add]
    rfl
theorem okSeg_enc {L : List Int} {n i : Nat} (b : UInt8) (hl : L.length = n * 9) (hi : i < n) (hm : ∀ i, i < n → mayC (chAt L i) = true) (fx : ∀ k, fits (L.getD k 0) = true) : okSeg (seg9 (b :: encTo L n) i) = true := by
  rw [seg_enc b hi]
  exact (back_enc _ (chAt_len hl hi) (hm i hi) (chAt_fits fx)).2
theorem first_bad (P : Nat → Bool) : ∀ n, (∀ i, i < n → P i = true) ∨ ∃ j, j < n ∧ (∀ i, i < j → P i = true) ∧ P j = false
  | 0 => Or.inl fun i h => absurd h (Nat.not_lt_zero _)
  | n + 1 => by
    rcases first_bad P n with h | ⟨j, h1, h2, h3⟩
    · rcases hp : P n with _ | _
      · exact Or.inr ⟨n, Nat.lt_succ_self _, h, hp⟩
      · refine Or.inl fun i hi => ?_
        by_cases e : i = n
        · subst e; exact hp
        · exact h i (by omega)
    · exact Or.inr ⟨j, by omega, h2, h3⟩
end Go.Proofs.Ytalbkpahphndiaa
