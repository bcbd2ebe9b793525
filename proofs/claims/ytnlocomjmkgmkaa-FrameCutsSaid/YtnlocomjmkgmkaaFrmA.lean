/- Frames, one behind the other: lists of payloads. -/
import Derived.Test.YtnlocomjmkgmkaaFrmM
import Derived.Maps.AppendAt
namespace Go.Proofs.Ytnlocomjmkgmkaa
set_option linter.unusedVariables false
set_option linter.unusedSimpArgs false
open Go.ChangeShapes Go.WideShapes Go.ChangeAt Go.RowKit
/-- the payloads of the frames that octets begin with. -/
def allN : Nat → List UInt8 → List (List UInt8)
  | 0, _ => []
  | k + 1, bs => match getF bs with
    | none => []
    | some m => (bs.drop 2).take m :: allN k (bs.drop (m + 7))
theorem allN_fuel : ∀ (f g : Nat) (bs : List UInt8), bs.length ≤ f → bs.length ≤ g → allN f bs = allN g bs := by
  intro f
  induction f with
  | zero =>
    intro g bs h _
    cases g with
    | zero => rfl
    | succ g =>
      have hn : getF bs = none := by
        rcases hg : getF bs with _ | m
        · rfl
        · have := (getF_some hg).2.2.2; omega
      simp [allN, hn]
  | succ f ih =>
    intro g bs h hg
    cases g with
    | zero =>
      have hn : getF bs = none := by
        rcases hg : getF bs with _ | m
        · rfl
        · have := (getF_some hg).2.2.2; omega
      simp [allN, hn]
    | succ g =>
      rcases hm : getF bs with _ | m
      · simp [allN, hm]
      · have := (getF_some hm).2.2.2
        simp only [allN, hm]
        rw [ih g (bs.drop (m + 7)) (by rw [List.length_drop]; omega) (by rw [List.length_drop]; omega)]
def allF (bs : List UInt8) : List (List UInt8) := allN bs.length bs
theorem allF_none {bs : List UInt8} (h : getF bs = none) : allF bs = [] := by
  unfold allF
  cases bs.length with
  | zero => rfl
  | succ k => simp [allN, h]
theorem allF_some {bs : List UInt8} {m : Nat} (h : getF bs = some m) : allF bs = (bs.drop 2).take m :: allF (bs.drop (m + 7)) := by
  have hl := (getF_some h).2.2.2
  unfold allF
  rw [show bs.length = (bs.length - 1) + 1 by omega]
  simp only [allN, h]
  congr 1
  exact allN_fuel _ _ _ (by rw [List.length_drop]; omega) (Nat.le_refl _)
/-- the length of frames. -/
def sumF (ps : List (List UInt8)) : Nat := (ps.map fun p => p.length + 7).sum
theorem sumF_snoc (ps : List (List UInt8)) (p : List UInt8) : sumF (ps ++ [p]) = sumF ps + (p.length + 7) := by simp [sumF]
/-- a list of octets each of which lies somewhere, none of them in the list's own block. -/
def Pays (w : World) (v : Value) (xs : List Value) (ps : List (List UInt8)) : Prop :=
  xs.length = ps.length ∧ ∀ i, i < ps.length → ∃ ai ni ci, xs[i]? = some (.slice ai ni ci) ∧ ni ≤ 140737488355328 ∧ Sl w ai ni 1 (bcells (ps.getD i [])) ∧ ∀ ad, ai = some ad → ad.block < w.heap.size ∧ v.ownBlock ≠ some ad.block
theorem Sl.grownNe {w w' : World} {a : Option Addr} {n sz : Nat} {xs : List Value} {row : Option Nat} (h : Sl w a n sz xs) (hg : w.grownBy w' row) (hne : ∀ ad, a = some ad → row ≠ some ad.block) : Sl w' a n sz xs := by
  refine ⟨h.1, h.2.imp id ?_⟩
  rintro ⟨b, off, rfl, hb, hc⟩
  refine ⟨b, off, rfl, Nat.lt_of_lt_of_le hb hg.size, fun j hj => ?_⟩
  have := hg.block b hb (fun e => hne _ rfl e.symm)
  rw [← hc j hj]
  simp only [World.cell?, this]
theorem Pays.keep {w w' : World} {v : Value} {xs : List Value} {ps : List (List UInt8)} (h : Pays w v xs ps) (hb : Below w.heap.size w w') : Pays w' v xs ps :=
  ⟨h.1, fun i hi => by obtain ⟨ai, ni, ci, h1, h2, h3, h4⟩ := h.2 i hi; exact ⟨ai, ni, ci, h1, h2, h3.keep hb, fun ad ha => ⟨Nat.lt_of_lt_of_le (h4 ad ha).1 hb.size, (h4 ad ha).2⟩⟩⟩
theorem sl_block {w : World} {ad : Addr} {n sz : Nat} {xs : List Value} (h : Sl w (some ad) n sz xs) (hn : 0 < n) : ad.block < w.heap.size := by
  rcases h.2 with h0 | ⟨b, off, e, hb, _⟩
  · omega
  · injection e with e; subst e; exact hb
theorem sl_blk {w : World} {a : Option Addr} {n sz : Nat} {xs : List Value} (h : Sl w a n sz xs) (hn : 0 < n) : ∀ ad, a = some ad → ad.block < w.heap.size := by rintro ad rfl; exact sl_block h hn
theorem Pays.snoc {w w' : World} {v v' : Value} {xs : List Value} {ps : List (List UInt8)} {a : Option Addr} {n c : Nat} {p : List UInt8} (h : Pays w v xs ps) (hg : w.grownBy w' v.ownBlock) (hv : v'.ownBlock = v.ownBlock ∨ v'.ownBlock = some w.heap.size)
    (hs : Sl w a n 1 (bcells p)) (hn : n ≤ 140737488355328) (hne : ∀ ad, a = some ad → v.ownBlock ≠ some ad.block) (hlt : ∀ ad, a = some ad → ad.block < w.heap.size) : Pays w' v' (xs ++ [.slice a n c]) (ps ++ [p]) := by
  refine ⟨by simp [h.1], fun i hi => ?_⟩
  rw [List.length_append, List.length_singleton] at hi
  by_cases hi2 : i < ps.length
  · obtain ⟨ai, ni, ci, h1, h2, h3, h4⟩ := h.2 i hi2
    refine ⟨ai, ni, ci, by rw [List.getElem?_append_left (by rw [h.1]; exact hi2)]; exact h1, h2, ?_, fun ad ha => ?_⟩
    · rw [List.getD_eq_getElem?_getD, List.getElem?_append_left hi2, ← List.getD_eq_getElem?_getD]
      exact h3.grownNe hg (fun ad ha => (h4 ad ha).2)
    · have hb := (h4 ad ha).1
      refine ⟨Nat.lt_of_lt_of_le hb hg.size, ?_⟩
      rcases hv with hv | hv
      · rw [hv]; exact (h4 ad ha).2
      · rw [hv]; intro e; injection e with e; omega
  · have hie : i = ps.length := by omega
    subst hie
    refine ⟨a, n, c, by rw [List.getElem?_append_right (by rw [h.1]; exact Nat.le_refl _), h.1]; simp, hn, ?_, fun ad ha => ?_⟩
    · rw [List.getD_eq_getElem?_getD, List.getElem?_append_right (Nat.le_refl _)]
      simp only [Nat.sub_self, List.getElem?_cons_zero, Option.getD_some]
      exact hs.grownNe hg hne
    · have hb := hlt ad ha
      refine ⟨Nat.lt_of_lt_of_le hb hg.size, ?_⟩
      rcases hv with hv | hv
      · rw [hv]; exact hne ad ha
      · rw [hv]; intro e; injection e with e; omega
theorem slices_info : (Try.prog.info? 22).map (fun i => (i.zero, i.size, i.bytes)) = some (some (.slice none 0 0), 1, 24) := by kernel_rfl
end Go.Proofs.Ytnlocomjmkgmkaa
