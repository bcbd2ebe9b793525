/- append to a row of our own which is used again behind it: both rows stand. -/
import Derived.Test.YtnlocomjmkgmkaaApp
import Derived.Test.YtnlocomjmkgmkaaLaw02c
import Derived.ArgAppend
namespace Go.Proofs.Ytnlocomjmkgmkaa
set_option linter.unusedVariables false
set_option linter.unusedSimpArgs false
open Go.ChangeShapes Go.WideShapes Go.ChangeAt Go.RowKit
theorem own_base2 {w : World} {B B' : Nat} {e : TypeId} {sz : Nat} {v : Value} {n : Nat} {xs : List Value} (h : w.ownsRow B e sz v n xs) (hB : B' ≤ B) : w.ownsRow B' e sz v n xs := by
  refine ⟨h.1, h.2.imp id ?_⟩
  rintro ⟨g, cap, cur, h1, h2, h3⟩
  exact ⟨g, cap, cur, h1, Nat.le_trans hB h2, h3⟩
theorem grown_sets (g : Nat) (vs : List Value) : ∀ (o : Nat) (w : World), w.grownBy (w.setCells g o vs) (some g) := by
  induction vs with
  | nil => intro o w; exact ⟨rfl, rfl, rfl, Nat.le_refl _, fun _ _ _ => rfl⟩
  | cons v r ih => intro o w; exact (grown_set w g o v).trans (ih _ _)
theorem grown_none {w w' : World} (h : w.grownBy w' none) (row : Option Nat) : w.grownBy w' row := ⟨h.os, h.tape, h.output, h.size, fun k hk _ => h.block k hk (by intro e; cases e)⟩
section
variable {P : Program} {w : World} {ops : Array Oper} {rest : List Oper} {o : Oper} {a : Act} {Q : Exit → Act → World → Prop}
theorem app_both (s x : Operand) (t : TypeId) (e : TypeId) (i : TypeInfo) (z : Value) (bytes : Nat) (ht : P.underlying t = some (.slice e)) (hi : P.info? e = some i) (hz : i.zero = some z)
    (hsize : i.size = 1) (hby : i.bytes = bytes) (hzs : z.cells.size = 1) (hgd : o.guard = none)
    (ho : o.op = .call { callee := .builtin .append, args := #[s, x], argTypes := #[t, t] })
    {base : Nat} {v : Value} {n : Nat} {xs : List Value} (hs : a.eval s = v) (hown : w.ownsRow base e 1 v n xs) (hn0 : 0 < n)
    {ad : Option Addr} {m c : Nat} {news : List Value} (hx : a.eval x = .slice ad m c) (hsl : Sl w ad m 1 news) (hm0 : 0 < m) (h1 : ∀ u ∈ news, u.oneCell' = true)
    (h63 : n + m ≤ maxLen) (hbytes : (n + m) * bytes ≤ 140737488355328) (hbase : base ≤ w.heap.size)
    (h : ∀ v' w', w'.ownsRow base e 1 v' (n + m) (xs ++ news) → w'.ownsRow base e 1 v n xs → Below base w w' → w.grownBy w' v.ownBlock → wpList P ops Q rest (a.put o.dst v') w') : wpList P ops Q (o :: rest) a w := by
  obtain ⟨hxl, h0 | ⟨g, cap, cur, rfl, hg, hh, hnc, hcm, hcs, hct⟩⟩ := hown
  · omega
  rw [Nat.mul_one] at hxl hcs hct
  have hown : w.ownsRow base e 1 (.slice (some ⟨g, 0, none⟩) n cap) n xs := ⟨by omega, Or.inr ⟨g, cap, cur, rfl, hg, hh, hnc, hcm, by omega, by rw [Nat.mul_one]; exact hct⟩⟩
  have hnl : news.length = m := by have := hsl.1; omega
  obtain ⟨b2, o2, rfl, hb2, hc2⟩ : ∃ b off, ad = some ⟨b, off, none⟩ ∧ b < w.heap.size ∧ _ := by
    rcases hsl.2 with h0 | ⟨b, off, hh, hb, hc⟩
    · omega
    · exact ⟨b, off, hh, hb, hc⟩
  have hB : Blk w g cur.toList e := by unfold Blk; rw [Array.toArray_toList]; exact hh
  have hcl : cur.toList.length = cap := by simp [hcs]
  refine wpList_append_arg w hgd s x t ho e i z 1 bytes ht hi hz hsize hby hzs (by decide) g 0 n cap xs hs (by omega) (fun j u hj => ?_) ⟨b2, o2, none⟩ m c news hx (by omega) (fun j u hj => ?_) h1 (fun hr j hj => ?_) h63 hbytes (fun hr => ?_) fun hr v' w' h2 h3 => ?_
  · rw [Nat.zero_add, hB.cell j]
    rw [← hct, List.getElem?_take] at hj
    split at hj
    · exact hj
    · cases hj
  · have hjm : j < m := by
      rcases Nat.lt_or_ge j news.length with hh | hh
      · omega
      · rw [List.getElem?_eq_none hh] at hj; cases hj
    rw [add_plain]
    refine (hc2 j (by omega)).trans ?_
    rw [List.getD_eq_getElem?_getD, hj]; rfl
  · rw [Nat.zero_add, Nat.mul_one]
    exact ⟨by rw [hB.cell, List.getElem?_eq_getElem (by omega)]; rfl, hB.froz _⟩
  · rw [Nat.zero_add, Nat.mul_one]
    have hS := Blk.setAt news n w cur.toList hB (by omega)
    unfold Blk at hS
    refine h _ _ ⟨by rw [List.length_append]; omega, Or.inr ⟨g, cap, _, rfl, hg, hS, hr, hcm, ?_, ?_⟩⟩ ⟨by omega, Or.inr ⟨g, cap, _, rfl, hg, hS, hnc, hcm, ?_, ?_⟩⟩ (below_sets hg news n w (Below.refl _ _)) (grown_sets g news n w)
    · simp only [List.size_toArray, List.length_append, List.length_take, List.length_drop, hcl, hnl]; omega
    · rw [Nat.mul_one, List.take_append_of_le_length (by rw [List.length_append, List.length_take, hcl, hnl]; omega), hct, List.take_of_length_le (by rw [List.length_append]; omega)]
    · simp only [List.size_toArray, List.length_append, List.length_take, List.length_drop, hcl, hnl]; omega
    · rw [Nat.mul_one, hct, List.append_assoc, List.take_append_of_le_length (by omega), List.take_of_length_le (by omega)]
  · exact h _ _ (own_base2 h2 hbase) (hown.kept h3 (Or.inr (by intro e; cases e))) (Below.grown (Below.refl _ _) h3 hbase fun q hq => by cases hq) (grown_none h3 _)
end
end Go.Proofs.Ytnlocomjmkgmkaa
