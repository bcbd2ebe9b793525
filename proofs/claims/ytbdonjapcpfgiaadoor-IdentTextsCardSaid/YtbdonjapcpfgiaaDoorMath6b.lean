/- Numbers and their digits: what a text of digits spells. -/
import Derived.Test.YtbdonjapcpfgiaaDoorMath6
import Derived.Test.YtbdonjapcpfgiaaDoorTxt
import Derived.Test.YtbdonjapcpfgiaaDoorPar6
import Derived.Deep.DeepCutAuto
import Derived.Maps.AppendAt
import Derived.Test.YtbdonjapcpfgiaaDoorRow
import Derived.Test.YtbdonjapcpfgiaaDoorOps
import Derived.RegionTactic
import Derived.BigRegion
import Derived.ChangeAlike
namespace Go.Proofs.YtbdonjapcpfgiaaDoor
set_option linter.unusedVariables false
set_option linter.unusedSimpArgs false
open Go.ChangeShapes Go.WideShapes Go.ChangeAt Go.RowKit
def rdv (l : List UInt8) : Nat := l.foldl (fun a c => a * 10 + (c.toNat - 48)) 0
def digs (l : List UInt8) : Prop := ∀ b ∈ l, 48 ≤ b.toNat ∧ b.toNat ≤ 57
theorem rdv_snoc (l : List UInt8) (c : UInt8) : rdv (l ++ [c]) = rdv l * 10 + (c.toNat - 48) := by unfold rdv; rw [List.foldl_append]; rfl
theorem foldl_ge : ∀ (l : List UInt8) (a : Nat), a ≤ l.foldl (fun a c => a * 10 + (c.toNat - 48)) a
  | [], a => Nat.le_refl _
  | c :: l, a => Nat.le_trans (by omega) (foldl_ge l (a * 10 + (c.toNat - 48)))
theorem rdv_pos {c : UInt8} {l : List UInt8} (h : 48 < c.toNat) : 1 ≤ rdv (c :: l) := by
  unfold rdv
  rw [List.foldl_cons]
  exact Nat.le_trans (show 1 ≤ 0 * 10 + (c.toNat - 48) by omega) (foldl_ge l _)
theorem rdv_lt (l : List UInt8) (h : digs l) : rdv l < 10 ^ l.length := by
  induction hn : l.length generalizing l with
  | zero => rw [List.eq_nil_of_length_eq_zero hn]; decide
  | succ n ih =>
    have hne : l ≠ [] := by intro e; rw [e] at hn; cases hn
    rw [← List.dropLast_concat_getLast hne] at hn h ⊢
    rw [List.length_append, List.length_singleton] at hn
    have h1 := ih l.dropLast (fun b hb => h b (List.mem_append_left _ hb)) (by omega)
    have h2 := h (l.getLast hne) (by simp)
    rw [rdv_snoc, Nat.pow_succ]
    omega
theorem dec_snoc {v d : Nat} (hv : 1 ≤ v) (hd : d < 10) : Lib.decDigits (v * 10 + d) = Lib.decDigits v ++ [UInt8.ofNat (48 + d)] := by
  rw [Lib.decDigits, dif_neg (by omega), show (v * 10 + d) / 10 = v by omega, show (v * 10 + d) % 10 = d by omega]
theorem ofNat_back {c : UInt8} (h1 : 48 ≤ c.toNat) (h2 : c.toNat ≤ 57) : UInt8.ofNat (48 + (c.toNat - 48)) = c := by
  apply UInt8.toNat_inj.1
  rw [ofNat_dig (by omega)]
  omega
/-- digits without a nought ahead are the digits of what they spell. -/
theorem dec_rdv (l : List UInt8) (hne : l ≠ []) (h : digs l) (h0 : 1 < l.length → l.head? ≠ some 48) : Lib.decDigits (rdv l) = l := by
  induction hn : l.length generalizing l with
  | zero => exact absurd (List.eq_nil_of_length_eq_zero hn) hne
  | succ n ih =>
    obtain ⟨m, c, rfl⟩ : ∃ m c, l = m ++ [c] := ⟨_, _, (List.dropLast_concat_getLast hne).symm⟩
    rw [List.length_append, List.length_singleton] at hn h0
    have hc := h c (by simp)
    have hm : digs m := fun b hb => h b (List.mem_append_left _ hb)
    rw [rdv_snoc]
    cases m with
    | nil =>
      rw [show rdv [] = 0 from rfl, Nat.zero_mul, Nat.zero_add, Lib.decDigits, dif_pos (by omega), ofNat_back hc.1 hc.2]
      rfl
    | cons b m =>
      have hb := h0 (by simp)
      have hb1 := hm b List.mem_cons_self
      have hb2 : b.toNat ≠ 48 := fun e => hb (by rw [List.cons_append, List.head?_cons, UInt8.toNat_inj.1 (show b.toNat = (48 : UInt8).toNat from e)])
      have hp := rdv_pos (l := m) (show 48 < b.toNat by omega)
      rw [dec_snoc hp (by omega), ofNat_back hc.1 hc.2, ih (b :: m) (by simp) hm (fun _ e => hb2 (by have := Option.some.inj e; rw [this]; rfl)) (by omega)]
theorem rdv_dec (u : Nat) : rdv (Lib.decDigits u) = u := by
  induction u using Nat.strongRecOn with
  | _ u ih =>
    rw [Lib.decDigits]
    split
    · rename_i h
      show rdv ([] ++ [_]) = _
      rw [rdv_snoc, ofNat_dig h]
      show 0 * 10 + _ = _
      omega
    · rename_i h
      rw [rdv_snoc, ih _ (by omega), ofNat_dig (Nat.mod_lt _ (by decide))]
      omega
theorem dec_len {u : Nat} (h : u < 100000) : (Lib.decDigits u).length ≤ 5 := by
  have s (v : Nat) (hv : v < 10) : (Lib.decDigits v).length = 1 := by rw [Lib.decDigits, dif_pos hv]; rfl
  have t (v : Nat) (hv : ¬ v < 10) : (Lib.decDigits v).length = (Lib.decDigits (v / 10)).length + 1 := by rw [Lib.decDigits, dif_neg hv, List.length_append]; rfl
  by_cases h1 : u < 10
  · rw [s u h1]; omega
  rw [t u h1]
  by_cases h2 : u / 10 < 10
  · rw [s _ h2]; omega
  rw [t _ h2]
  by_cases h3 : u / 10 / 10 < 10
  · rw [s _ h3]; omega
  rw [t _ h3]
  by_cases h4 : u / 10 / 10 / 10 < 10
  · rw [s _ h4]; omega
  rw [t _ h4, s _ (by omega)]
  omega
theorem dec_head (u : Nat) : 1 < (Lib.decDigits u).length → (Lib.decDigits u).head? ≠ some 48 := by
  induction u using Nat.strongRecOn with
  | _ u ih =>
    rw [Lib.decDigits]
    split
    · intro h; simp at h
    · rename_i h
      intro _
      have hne := dec_ne (u / 10)
      have ih := ih (u / 10) (by omega)
      cases hl : Lib.decDigits (u / 10) with
      | nil => exact absurd hl hne
      | cons b m =>
        rw [hl] at ih
        cases m with
        | nil =>
          have hv := rdv_dec (u / 10)
          rw [hl] at hv
          intro e
          have := Option.some.inj e
          subst this
          have e0 : rdv [48] = 0 := rfl
          omega
        | cons b2 m => exact fun e => ih (by simp) e
theorem itoa_neg {n : Int} (h : n < 0) : Lib.itoa n = 45 :: Lib.decDigits n.natAbs := by unfold Lib.itoa; rw [if_pos h]
theorem dec_inj {u v : Nat} (h : Lib.decDigits u = Lib.decDigits v) : u = v := by rw [← rdv_dec u, h, rdv_dec]
theorem itoa_inj {m n : Int} (h : Lib.itoa m = Lib.itoa n) : m = n := by
  have hd (k : Int) (u : Nat) (e : 45 :: Lib.decDigits u = Lib.decDigits k.toNat) : False := by
    have := (dec_bytes k.toNat 45 (by rw [← e]; exact List.mem_cons_self)).1
    exact absurd this (by decide)
  by_cases hm : m < 0
  · by_cases hn : n < 0
    · rw [itoa_neg hm, itoa_neg hn] at h
      have := dec_inj (List.cons.inj h).2
      omega
    · rw [itoa_neg hm, itoa_pos (by omega)] at h
      exact (hd _ _ h).elim
  · by_cases hn : n < 0
    · rw [itoa_pos (by omega), itoa_neg hn] at h
      exact (hd _ _ h.symm).elim
    · rw [itoa_pos (by omega), itoa_pos (by omega)] at h
      have := dec_inj h
      omega
theorem itoa_dot (n : Int) : ∀ b ∈ Lib.itoa n, b ≠ 46 := by
  intro b hb e
  subst e
  by_cases hn : n < 0
  · rw [itoa_neg hn] at hb
    rcases List.mem_cons.1 hb with h | h
    · exact absurd h (by decide)
    · exact absurd (dec_bytes _ _ h).1 (by decide)
  · rw [itoa_pos (by omega)] at hb
    exact absurd (dec_bytes _ _ hb).1 (by decide)
theorem split_at {c : UInt8} {l m l2 m2 : List UInt8} (h : l ++ c :: m = l2 ++ c :: m2) (h1 : ∀ b ∈ l, b ≠ c) (h2 : ∀ b ∈ l2, b ≠ c) : l = l2 ∧ m = m2 := by
  have e1 := index_at l m h1
  rw [h, index_at l2 m2 h2] at e1
  have hl : l2.length = l.length := by omega
  obtain ⟨a, b⟩ := List.append_inj h hl.symm
  exact ⟨a, (List.cons.inj b).2⟩
theorem idB_toList (p q : Int) : (idB p q).data.toList = Lib.itoa p ++ 46 :: Lib.itoa q := by unfold idB itB; simp [ByteArray.data_append]
theorem idB_inj {p q p2 q2 : Int} (h : idB p q = idB p2 q2) : p = p2 ∧ q = q2 := by
  have e := congrArg (fun b => b.data.toList) h
  simp only [idB_toList] at e
  obtain ⟨a, b⟩ := split_at e (itoa_dot p) (itoa_dot p2)
  exact ⟨itoa_inj a, itoa_inj b⟩
/-- where no octet is so, the place is -1; else it is the first such. -/
theorem index_cases (l : List UInt8) (c : UInt8) : Lib.indexByte l c = -1 ∨ ∃ i : Nat, Lib.indexByte l c = i ∧ i < l.length := by
  induction l with
  | nil => exact Or.inl rfl
  | cons b l ih =>
    by_cases hb : (b == c) = true
    · exact Or.inr ⟨0, by simp [Lib.indexByte, hb], by simp⟩
    · rcases ih with h | ⟨i, h, hi⟩
      · exact Or.inl (by simp [Lib.indexByte, hb, h])
      · refine Or.inr ⟨i + 1, ?_, by simp; omega⟩
        simp only [Lib.indexByte, hb, h]
        rw [if_neg (by simp), if_neg (by first | (simp; done) | (simp; omega))]
        simp
end Go.Proofs.YtbdonjapcpfgiaaDoor
