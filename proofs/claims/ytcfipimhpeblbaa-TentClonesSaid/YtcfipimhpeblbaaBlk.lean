/- A block known whole, and a booking in it. -/
import Derived.Test.YtcfipimhpeblbaaOct
import Derived.Deep.MidRow
import Derived.Deep.DeepCutAuto
import Derived.Laws.NewBlocks
import Derived.Laws.Alloc2
namespace Go.Proofs.Ytcfipimhpeblbaa
set_option linter.unusedVariables false
set_option linter.unusedSimpArgs false
open Go.ChangeShapes Go.WideShapes Go.ChangeAt Go.RowKit
/-- block g holds just the cells cs, all of which may be written. -/
def Blk (w : World) (g : Nat) (cs : List Value) (t : TypeId) : Prop := w.heap[g]? = some (.cells cs.toArray t (0, 0))
namespace Blk
variable {w : World} {g : Nat} {cs : List Value} {t : TypeId}
theorem lt (h : Blk w g cs t) : g < w.heap.size := by
  rcases Nat.lt_or_ge g w.heap.size with hl | hl
  · exact hl
  · unfold Blk at h; rw [Array.getElem?_eq_none hl] at h; cases h
theorem cell (h : Blk w g cs t) (j : Nat) : w.cell? ⟨g, j, none⟩ = cs[j]? := by
  rw [cell_of_row w g j _ _ _ h]; simp
theorem froz (h : Blk w g cs t) (j : Nat) : w.frozen? ⟨g, j, none⟩ = false := frozen_of_row w g j _ _ h
theorem set (h : Blk w g cs t) (j : Nat) (v : Value) : Blk (w.setCell ⟨g, j, none⟩ v) g (cs.set j v) t := by
  have := heap_setCell_same w g j _ _ v h
  unfold Blk
  rw [this]
  simp
theorem set_other (h : Blk w g cs t) {g' : Nat} (hne : g ≠ g') (j : Nat) (v : Value) : Blk (w.setCell ⟨g', j, none⟩ v) g cs t := by
  unfold Blk
  rw [heap_setCell_other _ _ _ _ hne]; exact h
theorem keep {w' : World} {B : Nat} (h : Blk w g cs t) (hb : Below B w w') (hg : g < B) : Blk w' g cs t := by
  unfold Blk; rw [hb.block g hg]; exact h
theorem new (w : World) (cs : Array Value) (t : TypeId) : Blk (w.alloc (.cells cs t)) w.heap.size cs.toList t := by
  unfold Blk; rw [Array.toArray_toList]; exact heap_alloc_new _ _
theorem alloc (h : Blk w g cs t) (o : Obj) : Blk (w.alloc o) g cs t := by
  unfold Blk; rw [Below.heap_alloc _ _ _ h.lt]; exact h
theorem drew (h : Blk w g cs t) : Blk w.drew g cs t := h
theorem range (h : Blk w g cs t) (o : Nat) (xs : List Value) (hx : (cs.drop o).take xs.length = xs) : w.rangeAt g o xs := fun j v hv => by
  rw [h.cell]
  have hj := (List.getElem?_eq_some_iff.1 hv).1
  rw [← hx, List.getElem?_take_of_lt hj, List.getElem?_drop] at hv
  exact hv
theorem there (h : Blk w g cs t) (o n : Nat) (hn : o + n ≤ cs.length) : w.there g o n := fun j hj => by
  refine ⟨?_, h.froz _⟩
  rw [h.cell, List.getElem?_eq_getElem (by omega)]; rfl
theorem setAt (vs : List Value) : ∀ (o : Nat) (w : World) (cs : List Value), Blk w g cs t → o + vs.length ≤ cs.length → Blk (w.setCells g o vs) g (cs.take o ++ vs ++ cs.drop (o + vs.length)) t := by
  induction vs with
  | nil => intro o w cs h _; simpa [World.setCells] using h
  | cons v r ih =>
    intro o w cs h hl
    simp only [List.length_cons] at hl
    have := ih (o + 1) _ _ (h.set o v) (by simp; omega)
    simp only [World.setCells]
    have e : (cs.set o v).take (o + 1) ++ r ++ (cs.set o v).drop (o + 1 + r.length) = cs.take o ++ v :: r ++ cs.drop (o + (r.length + 1)) := by
      rw [List.drop_set_of_lt (by omega), List.take_add_one, List.getElem?_set_self (by omega), List.take_set_of_le (Nat.le_refl _)]
      simp [Nat.add_comm, Nat.add_left_comm]
    rw [e] at this
    simpa using this
theorem setAll (h : Blk w g cs t) (vs : List Value) (hl : vs.length = cs.length) : Blk (w.setCells g 0 vs) g vs t := by
  have := setAt vs 0 w cs h (by omega)
  simpa [hl] using this
end Blk
theorem below_set {B : Nat} {w w' : World} (h : Below B w w') {g : Nat} (hg : B ≤ g) (j : Nat) (v : Value) : Below B w (w'.setCell ⟨g, j, none⟩ v) := h.setCell hg v
theorem below_sets {B : Nat} {w : World} {g : Nat} (hg : B ≤ g) (vs : List Value) : ∀ (o : Nat) (w' : World), Below B w w' → Below B w (w'.setCells g o vs) := by
  induction vs with
  | nil => intro o w' h; exact h
  | cons v r ih => intro o w' h; exact ih (o + 1) _ (below_set h hg o v)
theorem size_set (w : World) (a : Addr) (v : Value) : (w.setCell a v).heap.size = w.heap.size := by simp [World.setCell]
theorem size_sets (g : Nat) (vs : List Value) : ∀ (o : Nat) (w : World), (w.setCells g o vs).heap.size = w.heap.size := by
  induction vs with
  | nil => intro o w; rfl
  | cons v r ih => intro o w; exact (ih _ _).trans (size_set _ _ _)
theorem sets_push (w : World) (t : TypeId) (vs : List Value) : ∀ (o : Nat) (cs : List Value), o + vs.length ≤ cs.length → (w.alloc (.cells cs.toArray t)).setCells w.heap.size o vs = w.alloc (.cells (cs.take o ++ vs ++ cs.drop (o + vs.length)).toArray t) := by
  induction vs with
  | nil => intro o cs _; simp [World.setCells]
  | cons v r ih =>
    intro o cs hl
    simp only [List.length_cons] at hl
    simp only [World.setCells]
    rw [World.setCell_alloc_new, List.setIfInBounds_toArray, ih (o + 1) (cs.set o v) (by simp; omega)]
    congr 2
    rw [List.drop_set_of_lt (by omega), List.take_add_one, List.getElem?_set_self (by omega), List.take_set_of_le (Nat.le_refl _)]
    simp [Nat.add_comm, Nat.add_left_comm]
theorem setAll_new (w : World) (old : Array Value) (cs : List Value) (t : TypeId) (h : cs.length = old.size) : (w.alloc (.cells old t)).setCells w.heap.size 0 cs = w.alloc (.cells cs.toArray t) := by
  have := sets_push w t cs 0 old.toList (by simp [h])
  rw [Array.toArray_toList] at this
  rw [this, List.drop_of_length_le (by simp [h])]
  simp
theorem own_base {w : World} {B B' : Nat} {e : TypeId} {sz : Nat} {v : Value} {n : Nat} {xs : List Value} (h : w.ownsRow B e sz v n xs) (hB : B' ≤ B) : w.ownsRow B' e sz v n xs := by
  refine ⟨h.1, h.2.imp id ?_⟩
  rintro ⟨g, cap, cur, h1, h2, h3⟩
  exact ⟨g, cap, cur, h1, Nat.le_trans hB h2, h3⟩
theorem own_set {w : World} {B : Nat} {e : TypeId} {sz : Nat} {v : Value} {n : Nat} {xs : List Value} (h : w.ownsRow B e sz v n xs) {g : Nat} (ha : g < B) (j : Nat) (u : Value) : (w.setCell ⟨g, j, none⟩ u).ownsRow B e sz v n xs := by
  refine ⟨h.1, h.2.imp id ?_⟩
  rintro ⟨g', cap, cur, h1, h2, h3, h4⟩
  refine ⟨g', cap, cur, h1, h2, ?_, h4⟩
  rw [heap_setCell_other _ _ _ _ (show g' ≠ g by omega)]
  exact h3
theorem own_sets {B : Nat} {e : TypeId} {sz : Nat} {v : Value} {n : Nat} {xs : List Value} {g : Nat} (ha : g < B) (vs : List Value) : ∀ (o : Nat) {w : World} (h : w.ownsRow B e sz v n xs), (w.setCells g o vs).ownsRow B e sz v n xs := by
  induction vs with
  | nil => intro o w h; exact h
  | cons x r ih => intro o w h; exact ih _ (own_set h ha _ _)
theorem ret_cell {P : Program} {fn : Func} {R : Ending → World → Prop} {a : Act} {w : World} {p g : Nat} {ty t : TypeId} {cs : List Value} {d : TypeDesc} (h : fn.results = #[.cell p ty]) (hp : a.tmps.getD p undef = .pointer (some ⟨g, 0, none⟩)) (hg : Blk w g cs t)
    (hu : P.underlying ty = some d) (hd : (match d with | .struct _ | .array _ _ => true | _ => false) = true) (hi : (P.info? ty).map (·.size) = some cs.length) (hdf : a.defers = []) (hR : R (.returned (.agg cs.toArray)) w) : bodyPost P fn R .ret a w :=
  bodyPost_ret (results_cell_row h _ _ g _ _ _ _ hp hg hu hd (by rw [hi]; simp)) hdf hR
theorem ret_cell_tmp {P : Program} {fn : Func} {R : Ending → World → Prop} {a : Act} {w : World} {p q g : Nat} {ty t : TypeId} {cs : List Value} {d : TypeDesc} {v : Value} (h : fn.results = #[.cell p ty, .tmp q]) (hp : a.tmps.getD p undef = .pointer (some ⟨g, 0, none⟩)) (hq : a.tmps.getD q undef = v) (hg : Blk w g cs t)
    (hu : P.underlying ty = some d) (hd : (match d with | .struct _ | .array _ _ => true | _ => false) = true) (hi : (P.info? ty).map (·.size) = some cs.length) (hdf : a.defers = []) (hR : R (.returned (.tuple #[.agg cs.toArray, v])) w) : bodyPost P fn R .ret a w := by
  have hp' : a.tmps[p]?.getD undef = .pointer (some ⟨g, 0, none⟩) := by simpa using hp
  have hq' : a.tmps[q]?.getD undef = v := by simpa using hq
  refine bodyPost_ret ?_ hdf hR
  simp [results, h, hp', hq', asAddr, run_loadVar_row w g t ty cs.toArray (0, 0) d hg hu hd (by rw [hi]; simp)]
/-- integers as cells. -/
def ints (l : List Int) : List Value := l.map (.int .i64)
theorem ints_len (l : List Int) : (ints l).length = l.length := by simp [ints]
theorem ints_get (l : List Int) (k : Nat) (h : k < l.length) : (ints l)[k]? = some (.int .i64 (l.getD k 0)) := by
  simp [ints, List.getElem?_eq_getElem h, List.getD_eq_getElem?_getD]
theorem ints_one {l : List Int} {u : Value} (h : u ∈ ints l) : u.oneCell' = true := by
  obtain ⟨b, _, rfl⟩ := List.mem_map.1 h
  rfl
theorem ints_set (l : List Int) (k : Nat) (m : Int) : (ints l).set k (.int .i64 m) = ints (l.set k m) := by simp [ints, List.map_set]
end Go.Proofs.Ytcfipimhpeblbaa
