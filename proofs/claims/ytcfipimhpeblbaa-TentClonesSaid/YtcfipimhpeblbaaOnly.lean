/- Worlds of which only some blocks turned, and new ones came. -/
import Derived.Test.YtcfipimhpeblbaaBlk
import Derived.Test.YtcfipimhpeblbaaApp
namespace Go.Proofs.Ytcfipimhpeblbaa
set_option linter.unusedVariables false
set_option linter.unusedSimpArgs false
open Go.ChangeShapes Go.WideShapes Go.ChangeAt Go.RowKit
/-- every old block that p does not name stands. -/
structure Only (p : Nat → Prop) (w w' : World) : Prop where
  os : w'.os = w.os
  tape : w'.tape = w.tape
  output : w'.output = w.output
  size : w.heap.size ≤ w'.heap.size
  block : ∀ k, k < w.heap.size → ¬ p k → w'.heap[k]? = w.heap[k]?
namespace Only
variable {p q : Nat → Prop} {w w' w2 : World}
theorem refl (p : Nat → Prop) (w : World) : Only p w w := ⟨rfl, rfl, rfl, Nat.le_refl _, fun _ _ _ => rfl⟩
theorem trans (h : Only p w w') (k : Only p w' w2) : Only p w w2 :=
  ⟨k.os.trans h.os, k.tape.trans h.tape, k.output.trans h.output, Nat.le_trans h.size k.size, fun i hi hp => (k.block i (Nat.lt_of_lt_of_le hi h.size) hp).trans (h.block i hi hp)⟩
theorem mono (h : Only p w w') (hq : ∀ k, p k → q k) : Only q w w' := ⟨h.os, h.tape, h.output, h.size, fun k hk hn => h.block k hk fun hp => hn (hq k hp)⟩
/-- what is new to the first world may turn too. -/
theorem mono_old (h : Only p w w') (hq : ∀ k, k < w.heap.size → p k → q k) : Only q w w' := ⟨h.os, h.tape, h.output, h.size, fun k hk hn => h.block k hk fun hp => hn (hq k hk hp)⟩
theorem ofBelow {B : Nat} (h : Below B w w') (hB : ∀ k, ¬ p k → k < w.heap.size → k < B) : Only p w w' := ⟨h.os, h.tape, h.output, h.size, fun k hk hn => h.block k (hB k hn hk)⟩
theorem ofBelow' (h : Below w.heap.size w w') : Only p w w' := ofBelow h fun _ _ h => h
theorem toBelow {B : Nat} (h : Only p w w') (hp : ∀ k, p k → B ≤ k) (hB : B ≤ w.heap.size) : Below B w w' := ⟨h.os, h.tape, h.output, h.size, fun k hk => h.block k (by omega) fun hh => by have := hp k hh; omega⟩
theorem setCell (h : Only p w w') {g : Nat} (hg : p g) (j : Nat) (v : Value) : Only p w (w'.setCell ⟨g, j, none⟩ v) := by
  refine ⟨h.os, h.tape, h.output, by rw [size_set]; exact h.size, fun k hk hn => ?_⟩
  rw [heap_setCell_other _ _ _ _ (show k ≠ g from fun e => hn (e ▸ hg))]
  exact h.block k hk hn
theorem setCells (h : Only p w w') {g : Nat} (hg : p g) (vs : List Value) : ∀ (o : Nat), Only p w (w'.setCells g o vs) := by
  induction vs generalizing w' with
  | nil => intro o; exact h
  | cons v r ih => intro o; exact ih (h.setCell hg o v) (o + 1)
theorem alloc (h : Only p w w') (o : Obj) : Only p w (w'.alloc o) := h.trans (ofBelow' ((Below.refl _ _).alloc (Nat.le_refl _) o))
theorem drew (h : Only p w w') : Only p w w'.drew := ⟨h.os, h.tape, h.output, h.size, h.block⟩
end Only
variable {p : Nat → Prop} {w w' : World}
theorem Blk.only {g t : Nat} {cs : List Value} (h : Blk w g cs t) (ho : Only p w w') (hg : ¬ p g) : Blk w' g cs t := by
  unfold Blk; rw [ho.block g h.lt hg]; exact h
theorem Sl.only {a : Option Addr} {n sz : Nat} {xs : List Value} (h : Sl w a n sz xs) (ho : Only p w w') (hp : ∀ x, a = some x → ¬ p x.block) : Sl w' a n sz xs := by
  refine ⟨h.1, ?_⟩
  rcases h.2 with h0 | ⟨b, off, ha, hb, hc⟩
  · exact Or.inl h0
  · refine Or.inr ⟨b, off, ha, Nat.lt_of_lt_of_le hb ho.size, fun j hj => ?_⟩
    rw [← hc j hj]
    unfold World.cell?
    rw [ho.block b hb (hp _ ha)]
theorem range_only {g o : Nat} {cs : List Value} (h : w.rangeAt g o cs) (ho : Only p w w') (hg : ¬ p g) (hl : g < w.heap.size) : w'.rangeAt g o cs := fun j v hv => by
  rw [← h j v hv]
  unfold World.cell?
  rw [ho.block g hl hg]
theorem cell_only {g j : Nat} {v : Value} (h : w.cell? ⟨g, j, none⟩ = some v) (ho : Only p w w') (hg : ¬ p g) : w'.cell? ⟨g, j, none⟩ = some v := by
  have hl := block_lt_of_cell h
  rw [← h]
  unfold World.cell?
  rw [ho.block g hl hg]
end Go.Proofs.Ytcfipimhpeblbaa
