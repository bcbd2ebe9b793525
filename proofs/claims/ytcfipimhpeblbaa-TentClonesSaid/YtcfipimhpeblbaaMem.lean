/- What lies in memory: numbers in structs and arrays, slices of them; what is told of an argument. -/
import Derived.Test.YtcfipimhpeblbaaRows
import Derived.WalkKit
import Derived.ProofKit
import Derived.OpenShut
import Derived.Below
import Derived.Lib.Hide
import Derived.Deep.Slices
import Derived.SizedLaws
namespace Go.Proofs.Ytcfipimhpeblbaa
set_option linter.unusedVariables false
set_option linter.unusedSimpArgs false
open Go.ChangeShapes Go.WideShapes Go.ChangeAt Go.RowKit

/-- a cell of this kind: a number of its kind, or (none) a truth value. -/
def CellOk : Option IntKind → Value → Prop
  | some k, v => ∃ n, v = .int k n ∧ (Lit.int k n).wf = true
  | none, v => ∃ b, v = .bool b
def OkAll : List (Option IntKind) → List Value → Prop
  | [], [] => True
  | k :: ks, v :: vs => CellOk k v ∧ OkAll ks vs
  | _, _ => False
theorem OkAll.len {ks : List (Option IntKind)} {vs : List Value} (h : OkAll ks vs) : vs.length = ks.length := by
  induction ks generalizing vs with
  | nil => cases vs <;> simp_all [OkAll]
  | cons k ks ih =>
    cases vs with
    | nil => simp [OkAll] at h
    | cons v vs => simp only [List.length_cons]; rw [ih h.2]
theorem OkAll.append {a b : List (Option IntKind)} {xs ys : List Value} (h : OkAll a xs) (k : OkAll b ys) : OkAll (a ++ b) (xs ++ ys) := by
  induction a generalizing xs with
  | nil => cases xs <;> simp_all [OkAll]
  | cons c a ih =>
    cases xs with
    | nil => simp [OkAll] at h
    | cons v xs => exact ⟨h.1, ih h.2⟩
/-- the kinds of a type's cells, where it holds numbers and truth values alone. -/
def flatFields (P : Program) (down : TypeId → Option (List (Option IntKind))) : Nat → List Field → Option (List (Option IntKind))
  | _, [] => some []
  | off, g :: gs => if g.offset = off then (down g.type).bind fun a => if P.cellsOf g.type = a.length then (flatFields P down (off + a.length) gs).map fun b => a ++ b else none else none
def flat (P : Program) : Nat → TypeId → Option (List (Option IntKind))
  | 0, _ => none
  | f + 1, t => match P.underlying t with
    | some .bool => some [none]
    | some (.int k) => some [some k]
    | some (.struct fs) => (flatFields P (flat P f) 0 fs.toList).bind fun a => if P.cellsOf t = a.length then some a else none
    | some (.array n e) => (flat P f e).bind fun a => if P.cellsOf e = a.length ∧ P.cellsOf t = n * a.length then some (List.replicate n a).flatten else none
    | _ => none
section
variable {H : Type} {enc : TypeId × Value → H} {P : Program} {w : World} {base : Nat} {spare : Nat → Bool} {held : Bool}
theorem flat_fields {down : TypeId → Option (List (Option IntKind))} {n : Nat} {cs : List Value}
    (ih : ∀ t ks cs' x, down t = some ks → DataW.trod enc P w base spare held n t cs' = some x → OkAll ks cs') (gs : List Field) :
    ∀ off a, flatFields P down off gs = some a → (∀ g ∈ gs, ∃ y, DataW.trod enc P w base spare held n g.type ((cs.drop g.offset).take (P.cellsOf g.type)) = some y) → OkAll a ((cs.drop off).take a.length) := by
  induction gs with
  | nil =>
    intro off a h _
    simp only [flatFields, Option.some.injEq] at h
    subst h
    simp [OkAll]
  | cons g gs ihg =>
    intro off a h hr
    simp only [flatFields] at h
    split at h
    · rename_i ho
      obtain ⟨a1, h1, h2⟩ := Option.bind_eq_some_iff.1 h
      split at h2
      · rename_i hc
        obtain ⟨a2, h3, rfl⟩ := Option.map_eq_some_iff.1 h2
        obtain ⟨y, hy⟩ := hr g (List.mem_cons_self ..)
        have o1 := ih _ _ _ _ h1 hy
        rw [ho, hc] at o1
        have o2 := ihg _ _ h3 (fun g' hg' => hr g' (List.mem_cons_of_mem _ hg'))
        rw [List.length_append, List.take_add, List.drop_drop]
        exact o1.append o2
      · cases h2
    · cases h
theorem okAll_array {a : List (Option IntKind)} {n : Nat} {cs : List Value} (hl : cs.length = n * a.length) (h : ∀ i, i < n → OkAll a ((cs.drop (i * a.length)).take a.length)) : OkAll (List.replicate n a).flatten cs := by
  induction n generalizing cs with
  | zero =>
    have : cs = [] := List.eq_nil_of_length_eq_zero (by simpa using hl)
    subst this
    simp [OkAll]
  | succ n ih =>
    have h0 := h 0 (Nat.succ_pos _)
    simp only [Nat.zero_mul, List.drop_zero] at h0
    rw [List.replicate_succ, List.flatten_cons, ← List.take_append_drop a.length cs]
    refine h0.append (ih (by rw [List.length_drop, hl, Nat.succ_mul]; omega) fun i hi => ?_)
    rw [List.drop_drop]
    have := h (i + 1) (by omega)
    rwa [Nat.succ_mul, Nat.add_comm] at this
theorem flat_ok (f : Nat) : ∀ (fuel : Nat) (t : TypeId) (ks : List (Option IntKind)) (cs : List Value) (x : DataW H × List MemPlace), flat P f t = some ks → DataW.trod enc P w base spare held fuel t cs = some x → OkAll ks cs := by
  induction f with
  | zero => intro fuel t ks cs x h; simp [flat] at h
  | succ f ih =>
    intro fuel t ks cs x h hx
    simp only [flat] at h
    split at h
    · rename_i hu
      simp only [Option.some.injEq] at h
      obtain ⟨b, rfl, _⟩ := DataW.trod_bool hu hx
      subst h
      exact ⟨⟨b, rfl⟩, trivial⟩
    · rename_i k hu
      simp only [Option.some.injEq] at h
      obtain ⟨n, rfl, _, hw⟩ := DataW.trod_int hu hx
      subst h
      exact ⟨⟨n, rfl, hw⟩, trivial⟩
    · rename_i fs hu
      obtain ⟨a, h1, h2⟩ := Option.bind_eq_some_iff.1 h
      split at h2
      · rename_i hc
        simp only [Option.some.injEq] at h2
        subst h2
        obtain ⟨xs, n, _, _, hl, hlen, hf⟩ := DataW.trod_struct hu hx
        have := flat_fields (cs := cs) (fun t ks cs' x h h' => ih n t ks cs' x h h') fs.toList 0 a h1 (fun g hg => by
          obtain ⟨i, hi, rfl⟩ := List.getElem_of_mem hg
          have hi' : i < fs.size := by simpa using hi
          have e := hf i fs[i] (by simp [hi'])
          rw [List.getElem?_eq_getElem (by omega)] at e
          exact ⟨_, e⟩)
        rwa [List.drop_zero, List.take_of_length_le (by omega)] at this
      · cases h2
    · rename_i n e hu
      obtain ⟨a, h1, h2⟩ := Option.bind_eq_some_iff.1 h
      split at h2
      · rename_i hc
        simp only [Option.some.injEq] at h2
        subst h2
        obtain ⟨xs, m, _, _, hl, hlen, hf⟩ := DataW.trod_array hu hx
        refine okAll_array (by rw [hl, hc.2]) fun i hi => ?_
        have e := hf i hi
        rw [List.getElem?_eq_getElem (by omega), hc.1] at e
        exact ih _ _ _ _ _ h1 e
      · cases h2
    · cases h
end

/-- a slice's cells in memory: n elements of sz cells each, one behind the other. -/
def Sl (w : World) (a : Option Addr) (n sz : Nat) (xs : List Value) : Prop :=
  xs.length = n * sz ∧ (n = 0 ∨ ∃ b off, a = some ⟨b, off, none⟩ ∧ b < w.heap.size ∧ ∀ j, j < n * sz → w.cell? ⟨b, off + j, none⟩ = some (xs.getD j undef))
theorem Sl.keep {w w' : World} {a : Option Addr} {n sz : Nat} {xs : List Value} (h : Sl w a n sz xs) (hb : Below w.heap.size w w') : Sl w' a n sz xs := by
  refine ⟨h.1, h.2.imp id fun ⟨b, off, ha, hlt, hc⟩ => ⟨b, off, ha, Nat.lt_of_lt_of_le hlt hb.size, fun j hj => ?_⟩⟩
  exact (hb.cell (p := ⟨b, off + j, none⟩) hlt).trans (hc j hj)
/-- what is read is told of the argument: in whatever memory; how much room it takes. -/
def Arg (P : Program) (W : World) (t : TypeId) (v : Value) : Prop :=
  ∃ (H : Type) (enc : TypeId × Value → H) (base : Nat) (d : DataW H) (p : List MemPlace), Value.okWide P W .any base t v ∧ DataW.Trod enc P W 0 (fun _ => true) true t v d p ∧ (d.weights P t).all (· ≤ reachBytes) = true
section
variable {P : Program} {W : World}
theorem Arg.flat_struct {t : TypeId} {v : Value} {fs : Array Field} {f : Nat} {ks : List (Option IntKind)} (h : Arg P W t v) (hu : P.underlying t = some (.struct fs)) (hk : flat P f t = some ks) : ∃ cs, v = .agg cs ∧ OkAll ks cs.toList := by
  obtain ⟨H, enc, base, d, p, ho, ⟨fuel, hf⟩, _⟩ := h
  obtain ⟨cs, rfl, hsz⟩ := okWide_struct hu ho
  exact ⟨cs, rfl, flat_ok f fuel t ks _ _ hk hf⟩
theorem Arg.flat_array {t : TypeId} {v : Value} {n : Nat} {e : TypeId} {f : Nat} {ks : List (Option IntKind)} (h : Arg P W t v) (hu : P.underlying t = some (.array n e)) (hk : flat P f t = some ks) : ∃ cs, v = .agg cs ∧ OkAll ks cs.toList := by
  obtain ⟨H, enc, base, d, p, ho, ⟨fuel, hf⟩, _⟩ := h
  simp only [Value.okWide, hu] at ho
  obtain ⟨cs, rfl, _, _⟩ := ho
  exact ⟨cs, rfl, flat_ok f fuel t ks _ _ hk hf⟩
theorem Arg.int {t : TypeId} {v : Value} {k : IntKind} (h : Arg P W t v) (hu : P.underlying t = some (.int k)) : ∃ n, v = .int k n ∧ (Lit.int k n).wf = true := by
  obtain ⟨H, enc, base, d, p, ho, hf, _⟩ := h
  obtain ⟨n, rfl, _, _, hw⟩ := open_int hu ho hf
  exact ⟨n, rfl, hw⟩
theorem Arg.bool {t : TypeId} {v : Value} (h : Arg P W t v) (hu : P.underlying t = some .bool) : ∃ b, v = .bool b := by
  obtain ⟨H, enc, base, d, p, ho, hf, _⟩ := h
  obtain ⟨n, rfl, _, _⟩ := open_bool hu ho hf
  exact ⟨n, rfl⟩
theorem addr_plain {w : World} {a : Addr} {j : Nat} {v : Value} (h : w.cell? (a.add j) = some v) (h0 : ∀ u, w.cell? (a.add 0) = some u → a.spot = none) (h1 : ∃ u, w.cell? (a.add 0) = some u) : w.cell? ⟨a.block, a.off + j, none⟩ = some v := by
  obtain ⟨u, hu⟩ := h1
  have := h0 u hu
  obtain ⟨b, o, s⟩ := a
  simp only at this
  subst this
  rwa [add_plain] at h
/-- a slice of elements that hold numbers and truth values alone. -/
theorem Arg.flat_slice {t e : TypeId} {v : Value} {f : Nat} {ks : List (Option IntKind)} (h : Arg P W t v) (hu : P.underlying t = some (.slice e)) (hk : flat P f e = some ks) (hs : P.cellsOf e = ks.length) (hpos : 0 < ks.length) :
    ∃ a len cap xs, v = .slice a len cap ∧ len ≤ cap ∧ cap ≤ maxLen ∧ len * P.bytesOf e ≤ reachBytes ∧ Sl W a len ks.length xs ∧ ∀ i, i < len → OkAll ks ((xs.drop (i * ks.length)).take ks.length) := by
  obtain ⟨H, enc, base, d, p, ho, ⟨fuel, hf⟩, hw⟩ := h
  obtain ⟨a0, len, cap, rfl⟩ := okWide_slice hu ho
  rcases Go.Deep.open_slice hu hf with ⟨hcs, hx⟩ | ⟨a, len', cap', m, n, D, Pl, hcs, _, hl, hm, hmm, hx, hel⟩
  · simp [Value.cells] at hcs
    obtain ⟨rfl, rfl, rfl⟩ := hcs
    exact ⟨none, 0, 0, [], rfl, Nat.le_refl _, by decide, by simp, ⟨by simp, Or.inl rfl⟩, fun i hi => absurd hi (Nat.not_lt_zero _)⟩
  · simp [Value.cells] at hcs
    obtain ⟨rfl, rfl, rfl⟩ := hcs
    have hmcap : m = cap := by simpa using hmm
    subst hmcap
    have hbytes : len * P.bytesOf e ≤ reachBytes := by
      simp only [Prod.mk.injEq] at hx
      rw [hx.1] at hw
      have h1 := List.all_eq_true.1 hw ((((List.range len).map D).length + ((List.range (m - len)).map fun j => D (len + j)).length) * P.bytesOf e) (by simp [DataW.weights, hu])
      simp only [List.length_map, List.length_range, decide_eq_true_eq] at h1
      exact Nat.le_trans (Nat.mul_le_mul_right _ (by omega)) h1
    by_cases h0 : len = 0
    · subst h0
      exact ⟨some a, 0, m, [], rfl, Nat.zero_le _, hm, by simp, ⟨by simp, Or.inl rfl⟩, fun i hi => absurd hi (Nat.not_lt_zero _)⟩
    · have hspot : a.spot = none := by
        obtain ⟨cs', hc, _⟩ := hel 0 (by omega)
        obtain ⟨_, hcl, hat⟩ := World.cells?_some hc
        have h1 := hat 0 (by omega)
        have hlen0 : 0 < cs'.length := by omega
        rw [List.getElem?_eq_getElem hlen0] at h1
        have := World.cell?_spot h1
        simpa [Addr.add] using this
      obtain ⟨b, off, s⟩ := a
      simp only at hspot
      subst hspot
      have hall : ∀ i, i < len → ∃ cs' : List Value, cs'.length = ks.length ∧ OkAll ks cs' ∧ ∀ j, j < ks.length → W.cell? ⟨b, off + (i * ks.length + j), none⟩ = cs'[j]? := by
        intro i hi
        obtain ⟨cs', hc, ht⟩ := hel i (by omega)
        obtain ⟨_, hcl, hat⟩ := World.cells?_some hc
        rw [hs] at hcl hat
        refine ⟨cs', hcl, flat_ok f _ _ _ _ _ hk ht, fun j hj => ?_⟩
        have := hat j hj
        rwa [Go.Deep.add_add, add_plain] at this
      have hcell : ∀ j, j < len * ks.length → ∃ v, W.cell? ⟨b, off + j, none⟩ = some v := by
        intro j hj
        have hi : j / ks.length < len := Nat.div_lt_of_lt_mul (by rw [Nat.mul_comm]; exact hj)
        obtain ⟨cs', h1, _, h3⟩ := hall _ hi
        have h4 := h3 (j % ks.length) (Nat.mod_lt _ hpos)
        have h5 : j / ks.length * ks.length + j % ks.length = j := by rw [Nat.mul_comm]; exact Nat.div_add_mod _ _
        rw [h5, List.getElem?_eq_getElem (by rw [h1]; exact Nat.mod_lt _ hpos)] at h4
        exact ⟨_, h4⟩
      have hb : b < W.heap.size := by
        obtain ⟨v, hv⟩ := hcell 0 (Nat.mul_pos (by omega) hpos)
        exact block_lt_of_cell hv
      obtain ⟨g, hg⟩ := Go.Deep.choose_lt (α := Value) (p := fun j v => W.cell? ⟨b, off + j, none⟩ = some v) hcell
      refine ⟨some ⟨b, off, none⟩, len, m, (List.range (len * ks.length)).map g, rfl, hl, hm, hbytes, ⟨by simp, Or.inr ⟨b, off, rfl, hb, fun j hj => ?_⟩⟩, fun i hi => ?_⟩
      · rw [hg j hj]
        simp [List.getD_eq_getElem?_getD, hj]
      · obtain ⟨cs', h1, h2, h3⟩ := hall i hi
        have hle : i * ks.length + ks.length ≤ len * ks.length := by
          have : (i + 1) * ks.length ≤ len * ks.length := Nat.mul_le_mul_right _ hi
          rwa [Nat.succ_mul] at this
        have : ((List.range (len * ks.length)).map g |>.drop (i * ks.length) |>.take ks.length) = cs' := by
          apply List.ext_getElem?
          intro j
          by_cases hj : j < ks.length
          · rw [List.getElem?_take_of_lt hj, List.getElem?_drop, List.getElem?_map, List.getElem?_range (by omega), Option.map_some, ← h3 j hj, hg _ (by omega)]
          · rw [List.getElem?_eq_none (by simp; omega), List.getElem?_eq_none (by omega)]
        rw [this]
        exact h2
end
end Go.Proofs.Ytcfipimhpeblbaa
