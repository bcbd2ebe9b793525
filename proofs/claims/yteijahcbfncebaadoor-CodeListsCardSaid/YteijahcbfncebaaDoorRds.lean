/- A reader as a list of octets and a flag. -/
import Derived.Test.YteijahcbfncebaaDoorRead
import Derived.Test.YteijahcbfncebaaDoorRow
import Derived.Test.YteijahcbfncebaaDoorOps
import Derived.RegionTactic
import Derived.BigRegion
import Derived.ChangeAlike
namespace Go.Proofs.YteijahcbfncebaaDoor
set_option linter.unusedVariables false
set_option linter.unusedSimpArgs false
open Go.ChangeShapes Go.WideShapes Go.ChangeAt Go.RowKit
/-- a reader's state: what it has left, and whether it never failed. -/
def RdS (B : Nat) (w : World) (g : Nat) (s : List UInt8 × Bool) : Prop := ∃ a c, Rdr w g (.slice a s.1.length c) s.2 ∧ Sl w a s.1.length 1 (bcells s.1) ∧ s.1.length ≤ c ∧ c ≤ 9223372036854775807 ∧ g < B ∧ ∀ x, a = some x → x.block < B
def tkB (s : List UInt8 × Bool) (k : Nat) : Bool := decide (s.2 = true ∧ k ≤ s.1.length)
def tkN (s : List UInt8 × Bool) (k : Nat) : Nat := if tkB s k = true then numOf (s.1.take k) else 0
def tkS (s : List UInt8 × Bool) (k : Nat) : List UInt8 × Bool := if tkB s k = true then (s.1.drop k, true) else ([], false)
theorem restOf_block {a : Option Addr} {c k B : Nat} (h : ∀ x, a = some x → x.block < B) : ∀ x, restOf a c k = some x → x.block < B := by
  intro x hx
  unfold restOf at hx
  split at hx
  · exact h x hx
  · cases a with
    | none => cases hx
    | some y =>
      simp only [Option.map_some, Option.some.injEq] at hx
      subst hx
      obtain ⟨yb, yo, ys⟩ := y
      have := h _ rfl
      unfold Addr.add; split <;> exact this
theorem rds_take {B g k : Nat} {s : List UInt8 × Bool} {w : World} (h : RdS B w g s) (hk1 : 1 ≤ k) (hk8 : k ≤ 8) (z : Int) (hz : z = k) :
    Calls Tryd.prog 34 #[.pointer (some ⟨g, 0, none⟩), .int .i64 z] w fun e w' => e = .returned (.tuple #[.int .u64 (tkN s k), .bool (tkB s k)]) ∧ RdS B w' g (tkS s k) ∧ w.grownBy w' (some g) := by
  subst hz
  obtain ⟨bs, f⟩ := s
  obtain ⟨a, c, h1, h2, h3, h4, hgB, hlo⟩ := h
  by_cases hc : f = true ∧ k ≤ bs.length
  · obtain ⟨rfl, hk⟩ := hc
    have eB : tkB (bs, true) k = true := decide_eq_true ⟨rfl, hk⟩
    refine (take_ok g bs.length c k a bs w h1 h2 hk1 hk8 hk h3 h4).mono ?_
    rintro e w' ⟨rfl, h5, h6, h7⟩
    unfold tkN tkS
    rw [eB, if_pos rfl, if_pos rfl]
    refine ⟨rfl, ⟨restOf a c k, c - k, ?_, ?_, ?_, by omega, hgB, restOf_block hlo⟩, h6⟩
    · show Rdr w' g (.slice _ (bs.drop k).length _) true
      rw [List.length_drop]; exact h5
    · show Sl w' _ (bs.drop k).length 1 _
      rw [List.length_drop]; exact h2.cut_rest h1 hk h3 h6
    · show (bs.drop k).length ≤ _
      have h3' : bs.length ≤ c := h3
      rw [List.length_drop]; omega
  · have eB : tkB (bs, f) k = false := decide_eq_false hc
    refine (take_no g bs.length c k f a w h1 (by omega) (by omega) (by cases f; exact Or.inl rfl; exact Or.inr (by have : ¬ k ≤ bs.length := fun hk => hc ⟨rfl, hk⟩; omega)) (Nat.le_trans h3 h4)).mono ?_
    rintro e w' ⟨rfl, h5, h6, h7⟩
    unfold tkN tkS
    rw [eB, if_neg (by decide), if_neg (by decide)]
    exact ⟨rfl, ⟨none, 0, h5, ⟨rfl, Or.inl rfl⟩, Nat.le_refl _, by decide, hgB, fun x hx => by cases hx⟩, h6⟩
theorem RdS.keep {B g : Nat} {s : List UInt8 × Bool} {w w' : World} (h : RdS B w g s) (hb : Below w.heap.size w w') : RdS B w' g s := by
  obtain ⟨a, c, h1, h2, h3, h4, hgB, hlo⟩ := h
  refine ⟨a, c, ?_, h2.keep hb, h3, h4, hgB, hlo⟩
  unfold Rdr; rw [hb.block g h1.lt]; exact h1
theorem RdS.set {B g gc j : Nat} {s : List UInt8 × Bool} {w : World} (h : RdS B w g s) (hc : B ≤ gc) (v : Value) : RdS B (w.setCell ⟨gc, j, none⟩ v) g s := by
  obtain ⟨a, c, h1, h2, h3, h4, hgB, hlo⟩ := h
  refine ⟨a, c, ?_, h2.set_far hlo hc v, h3, h4, hgB, hlo⟩
  unfold Rdr; rw [heap_setCell_other _ _ _ _ (by show g ≠ gc; omega)]; exact h1
theorem RdS.sets {B g gc : Nat} {s : List UInt8 × Bool} (hc : B ≤ gc) (vs : List Value) : ∀ (o : Nat) (w : World), RdS B w g s → RdS B (w.setCells gc o vs) g s := by
  induction vs with
  | nil => intro o w h; exact h
  | cons v r ih => intro o w h; exact ih (o + 1) _ (h.set hc v)
theorem grown_sets {w : World} {row : Option Nat} {gc : Nat} (hc : w.heap.size ≤ gc) (vs : List Value) : ∀ (o : Nat) (w' : World), w.grownBy w' row → w.grownBy (w'.setCells gc o vs) row := by
  induction vs with
  | nil => intro o w' h; exact h
  | cons v r ih =>
    intro o w' h
    refine ih (o + 1) _ ⟨h.os, h.tape, h.output, by rw [size_set]; exact h.size, fun k hk hn => ?_⟩
    rw [heap_setCell_other _ _ _ _ (by show k ≠ gc; omega)]
    exact h.block k hk hn
end Go.Proofs.YteijahcbfncebaaDoor
