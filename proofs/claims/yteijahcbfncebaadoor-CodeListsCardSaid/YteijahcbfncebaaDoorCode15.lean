/- The reference's Check of a step. -/
import Derived.Test.YteijahcbfncebaaDoorCode14
import Derived.RegionTactic
import Derived.BigRegion
import Derived.ChangeAlike
namespace Go.Proofs.YteijahcbfncebaaDoor
set_option linter.unusedVariables false
set_option linter.unusedSimpArgs false
open Go.ChangeShapes Go.WideShapes Go.ChangeAt Go.RowKit
def onlyIf (b : Bool) (z : Int) : Int := if b then z else 0
def ownB (b0 b1 b2 b3 : Bool) (k r i n ck a b cn p q : Int) : List Int := [k, onlyIf b0 r, onlyIf b1 i, onlyIf b2 n, 0, 0, 0, onlyIf b3 ck, onlyIf b3 a, onlyIf b3 b, onlyIf b3 cn, onlyIf b3 p, onlyIf b3 q]
theorem own_bits (k : Nat) (r i n ck a b cn p q : Int) (hk0 : 1 ≤ k) (hk : k < 16) : ownL k r i n ck a b cn p q = ownB (bit (tabF.getD k 0) 1) (bit (tabF.getD k 0) 2) (bit (tabF.getD k 0) 4) (bit (tabF.getD k 0) 8) k r i n ck a b cn p q := by
  match k, hk0, hk with
  | 1, _, _ => rfl
  | 2, _, _ => rfl
  | 3, _, _ => rfl
  | 4, _, _ => rfl
  | 5, _, _ => rfl
  | 6, _, _ => rfl
  | 7, _, _ => rfl
  | 8, _, _ => rfl
  | 9, _, _ => rfl
  | 10, _, _ => rfl
  | 11, _, _ => rfl
  | 12, _, _ => rfl
  | 13, _, _ => rfl
  | 14, _, _ => rfl
  | 15, _, _ => rfl
  | k + 16, _, hk => exact absurd hk (by omega)
theorem onlyIf_fits {b : Bool} {z : Int} (h : fits z = true) : fits (onlyIf b z) = true := by cases b; exact fits0S; exact h
theorem onlyIf_eq {b : Bool} {z : Int} : z = onlyIf b z ↔ (b = true ∨ z = 0) := by cases b <;> simp [onlyIf]
theorem ints_inj {xs ys : List Int} (h : ints xs = ints ys) : xs = ys := by
  induction xs generalizing ys with
  | nil => cases ys with
    | nil => rfl
    | cons y ys => cases h
  | cons x xs ih => cases ys with
    | nil => cases h
    | cons y ys =>
      unfold ints at h ih
      simp only [List.map_cons, List.cons.injEq, Value.int.injEq, true_and] at h
      rw [h.1, ih h.2]
/-- a step has just the fields that its kind has. -/
def justB (b0 b1 b2 b3 : Bool) (r i n i1 i2 t ck a b cn p q : Int) : Prop := (b0 = true ∨ r = 0) ∧ (b1 = true ∨ i = 0) ∧ (b2 = true ∨ n = 0) ∧ i1 = 0 ∧ i2 = 0 ∧ t = 0 ∧ (b3 = true ∨ (ck = 0 ∧ a = 0 ∧ b = 0 ∧ cn = 0 ∧ p = 0 ∧ q = 0))
theorem same_just {b0 b1 b2 b3 : Bool} {k r i n i1 i2 t ck a b cn p q : Int} (hf : ∀ z ∈ ([k, r, i, n, i1, i2, t, ck, a, b, cn, p, q] : List Int), fits z = true) : sameB (ints [k, r, i, n, i1, i2, t, ck, a, b, cn, p, q]) (ints (ownB b0 b1 b2 b3 k r i n ck a b cn p q)) = true ↔ justB b0 b1 b2 b3 r i n i1 i2 t ck a b cn p q := by
  have h2 : ∀ z ∈ ownB b0 b1 b2 b3 k r i n ck a b cn p q, fits z = true := by
    intro z hz
    unfold ownB at hz
    simp only [List.mem_cons, List.not_mem_nil, or_false] at hz
    have g : ∀ z ∈ ([k, r, i, n, i1, i2, t, ck, a, b, cn, p, q] : List Int), fits z = true := hf
    simp only [List.mem_cons, List.not_mem_nil, or_false, forall_eq_or_imp, forall_eq] at g
    obtain ⟨gk, gr, gi, gn, _, _, _, gck, ga, gb, gcn, gp, gq⟩ := g
    rcases hz with rfl | rfl | rfl | rfl | rfl | rfl | rfl | rfl | rfl | rfl | rfl | rfl | rfl
    · exact gk
    · exact onlyIf_fits gr
    · exact onlyIf_fits gi
    · exact onlyIf_fits gn
    · exact fits0S
    · exact fits0S
    · exact fits0S
    · exact onlyIf_fits gck
    · exact onlyIf_fits ga
    · exact onlyIf_fits gb
    · exact onlyIf_fits gcn
    · exact onlyIf_fits gp
    · exact onlyIf_fits gq
  have e : sameB (ints [k, r, i, n, i1, i2, t, ck, a, b, cn, p, q]) (ints (ownB b0 b1 b2 b3 k r i n ck a b cn p q)) = true ↔ [k, r, i, n, i1, i2, t, ck, a, b, cn, p, q] = ownB b0 b1 b2 b3 k r i n ck a b cn p q := by
    have h3 := sameB_iff (ok_ints _ hf) (show OkAll (List.replicate ([k, r, i, n, i1, i2, t, ck, a, b, cn, p, q] : List Int).length (some IntKind.i64)) (ints (ownB b0 b1 b2 b3 k r i n ck a b cn p q)) from ok_ints _ h2)
    exact h3.trans ⟨ints_inj, fun h => by rw [h]⟩
  rw [e]
  unfold ownB justB
  simp only [List.cons.injEq, onlyIf_eq, true_and, and_true]
  refine ⟨fun ⟨h0, h1, h2, h3, h4, h5, h6, h7, h8, h9, h10, h11⟩ => ⟨h0, h1, h2, h3, h4, h5, ?_⟩, fun ⟨h0, h1, h2, h3, h4, h5, h6⟩ => ?_⟩
  · rcases h6 with h6 | h6
    · exact Or.inl h6
    cases b3
    · exact Or.inr ⟨h6, h7.resolve_left (by decide), h8.resolve_left (by decide), h9.resolve_left (by decide), h10.resolve_left (by decide), h11.resolve_left (by decide)⟩
    · exact Or.inl rfl
  · rcases h6 with h6 | ⟨k6, k7, k8, k9, k10, k11⟩
    · exact ⟨h0, h1, h2, h3, h4, h5, Or.inl h6, Or.inl h6, Or.inl h6, Or.inl h6, Or.inl h6, Or.inl h6⟩
    · exact ⟨h0, h1, h2, h3, h4, h5, Or.inr k6, Or.inr k7, Or.inr k8, Or.inr k9, Or.inr k10, Or.inr k11⟩
theorem chk_just (kk : Nat) (r i n i1 i2 t ck a b cn p q : Int) (hk0 : 1 ≤ kk) (hk : kk < 16) (hf : ∀ z ∈ ([(kk : Int), r, i, n, i1, i2, t, ck, a, b, cn, p, q] : List Int), fits z = true) (ho : allOct [r, i, ck, a, b, p] = true) (hn : inB n 0 2147483647 = true) (hq0 : 0 ≤ q) (hq : q ≤ 65535) :
    (justB (bit (tabF.getD kk 0) 1) (bit (tabF.getD kk 0) 2) (bit (tabF.getD kk 0) 4) (bit (tabF.getD kk 0) 8) r i n i1 i2 t ck a b cn p q → chkS kk r i n i1 i2 t ck a b cn p q = 0) ∧ (¬ justB (bit (tabF.getD kk 0) 1) (bit (tabF.getD kk 0) 2) (bit (tabF.getD kk 0) 4) (bit (tabF.getD kk 0) 8) r i n i1 i2 t ck a b cn p q → chkS kk r i n i1 i2 t ck a b cn p q = 16) := by
  have E : chkS kk r i n i1 i2 t ck a b cn p q = if sameB (ints [(kk : Int), r, i, n, i1, i2, t, ck, a, b, cn, p, q]) (ints (ownL kk r i n ck a b cn p q)) = true then 0 else 16 := by
    unfold chkS
    rw [if_neg (by omega), if_neg (by rw [hn]; intro hh; rcases hh with hh | hh | hh; (· cases hh); (· omega); (· omega)), if_neg (by rw [ho]; decide)]
    rfl
  rw [E, own_bits kk r i n ck a b cn p q hk0 hk]
  refine ⟨fun h => if_pos ((same_just hf).2 h), fun h => if_neg fun h2 => h ((same_just hf).1 h2)⟩
end Go.Proofs.YteijahcbfncebaaDoor
