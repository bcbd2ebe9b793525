/- What is told of cells: read one level at a time, whatever the type. -/
import Derived.Test.YtcfipimhpeblbaaMem
namespace Go.Proofs.Ytcfipimhpeblbaa
set_option linter.unusedVariables false
open Go.ChangeShapes Go.WideShapes Go.ChangeAt Go.RowKit
/-- what is read is told of some cells. -/
def Rd (P : Program) (W : World) (t : TypeId) (cs : List Value) : Prop :=
  ∃ (H : Type) (enc : TypeId × Value → H) (d : DataW H) (p : List MemPlace) (fuel : Nat), DataW.trod enc P W 0 (fun _ => true) true fuel t cs = some (d, p) ∧ (d.weights P t).all (· ≤ reachBytes) = true
section
variable {P : Program} {W : World}
theorem Arg.rd {t : TypeId} {v : Value} (h : Arg P W t v) : Rd P W t v.cells.toList := by
  obtain ⟨H, enc, base, d, p, _, ⟨fuel, hf⟩, hw⟩ := h
  exact ⟨H, enc, d, p, fuel, hf, hw⟩
theorem Arg.shape_struct {t : TypeId} {v : Value} {fs : Array Field} (h : Arg P W t v) (hu : P.underlying t = some (.struct fs)) : ∃ cs : List Value, v = .agg cs.toArray ∧ Rd P W t cs := by
  have hr := h.rd
  obtain ⟨H, enc, base, d, p, ho, _, _⟩ := h
  obtain ⟨cs, rfl, _⟩ := okWide_struct hu ho
  exact ⟨cs.toList, by simp, by simpa [Value.cells] using hr⟩
theorem Arg.shape_slice {t e : TypeId} {v : Value} (h : Arg P W t v) (hu : P.underlying t = some (.slice e)) : ∃ a n c, v = .slice a n c ∧ Rd P W t [.slice a n c] := by
  have hr := h.rd
  obtain ⟨H, enc, base, d, p, ho, _, _⟩ := h
  obtain ⟨a, n, c, rfl⟩ := okWide_slice hu ho
  exact ⟨a, n, c, rfl, by simpa [Value.cells] using hr⟩
theorem rd_weightsAll {H : Type} {e : TypeId} {d : DataW H} {x : Nat} : ∀ {l : List (DataW H)}, d ∈ l → x ∈ d.weights P e → x ∈ DataW.weightsAll P e l
  | [], h, _ => by cases h
  | y :: l, h, hx => by
    unfold DataW.weightsAll
    rcases List.mem_cons.1 h with rfl | h
    · exact List.mem_append_left _ hx
    · exact List.mem_append_right _ (rd_weightsAll h hx)
theorem rd_weightsEach {H : Type} {x : Nat} : ∀ {ts : List TypeId} {ds : List (DataW H)} {i : Nat} {t : TypeId} {d : DataW H}, ts[i]? = some t → ds[i]? = some d → x ∈ d.weights P t → x ∈ DataW.weightsEach P ts ds
  | [], _, _, _, _, h, _, _ => by simp at h
  | _ :: _, [], _, _, _, _, h, _ => by simp at h
  | t0 :: ts, d0 :: ds, 0, t, d, h1, h2, hx => by
    simp at h1 h2
    subst h1; subst h2
    unfold DataW.weightsEach
    exact List.mem_append_left _ hx
  | t0 :: ts, d0 :: ds, i + 1, t, d, h1, h2, hx => by
    unfold DataW.weightsEach
    exact List.mem_append_right _ (rd_weightsEach (i := i) (by simpa using h1) (by simpa using h2) hx)
theorem Rd.len {t : TypeId} {cs : List Value} {fs : Array Field} (h : Rd P W t cs) (hu : P.underlying t = some (.struct fs)) : cs.length = P.cellsOf t := by
  obtain ⟨H, enc, d, p, fuel, hf, hw⟩ := h
  obtain ⟨xs, n, _, _, hl, _, _⟩ := DataW.trod_struct hu hf
  exact hl
/-- a struct's field. -/
theorem Rd.field {t : TypeId} {cs : List Value} {fs : Array Field} (h : Rd P W t cs) (hu : P.underlying t = some (.struct fs)) (i : Nat) (f : Field) (hf : fs[i]? = some f) : Rd P W f.type ((cs.drop f.offset).take (P.cellsOf f.type)) := by
  obtain ⟨H, enc, d, p, fuel, hr, hw⟩ := h
  obtain ⟨xs, n, _, hx, _, hlen, hel⟩ := DataW.trod_struct hu hr
  have h1 := hel i f hf
  have hi : i < xs.length := by rw [hlen]; exact (Array.getElem?_eq_some_iff.1 hf).1
  rw [List.getElem?_eq_getElem hi] at h1
  simp only [Prod.mk.injEq] at hx
  rw [hx.1] at hw
  refine ⟨H, enc, xs[i].1, xs[i].2, n, h1, List.all_eq_true.2 fun x hx' => List.all_eq_true.1 hw x ?_⟩
  simp only [DataW.weights, hu]
  exact rd_weightsEach (i := i) (by simp [hf]) (by simp [hi]) hx'
theorem Rd.at_ {t : TypeId} {cs : List Value} {fs : Array Field} (h : Rd P W t cs) (hu : P.underlying t = some (.struct fs)) (i : Nat) (ft : TypeId) (off sz : Nat) (hf : fs[i]?.map (fun f => (f.type, f.offset)) = some (ft, off)) (hc : P.cellsOf ft = sz) : Rd P W ft ((cs.drop off).take sz) := by
  obtain ⟨f, h1, h2⟩ := Option.map_eq_some_iff.1 hf
  have := h.field hu i f h1
  simp only [Prod.mk.injEq] at h2
  rw [h2.1, h2.2, hc] at this
  exact this
theorem Rd.isFlat {t : TypeId} {cs : List Value} {f : Nat} {ks : List (Option IntKind)} (h : Rd P W t cs) (hk : flat P f t = some ks) : OkAll ks cs := by
  obtain ⟨H, enc, d, p, fuel, hf, _⟩ := h
  exact flat_ok f fuel t ks _ _ hk hf
/-- a slice, whatever its elements: each is read. -/
theorem Rd.slice {t e : TypeId} {cs : List Value} (h : Rd P W t cs) (hu : P.underlying t = some (.slice e)) (hpos : 0 < P.cellsOf e) :
    ∃ a n c, cs = [.slice a n c] ∧ n ≤ c ∧ c ≤ maxLen ∧ n * P.bytesOf e ≤ reachBytes ∧ ∃ xs, Sl W a n (P.cellsOf e) xs ∧ ∀ i, i < n → Rd P W e ((xs.drop (i * P.cellsOf e)).take (P.cellsOf e)) := by
  obtain ⟨H, enc, d, p, fuel, hf, hw⟩ := h
  rcases Go.Deep.open_slice hu hf with ⟨rfl, _⟩ | ⟨a, len, cap, m, n, D, Pl, rfl, _, hl, hm, hmm, hx, hel⟩
  · exact ⟨none, 0, 0, rfl, Nat.le_refl _, by decide, by simp, [], ⟨by simp, Or.inl rfl⟩, fun i hi => absurd hi (Nat.not_lt_zero _)⟩
  · have hmcap : m = cap := by simpa using hmm
    subst hmcap
    simp only [Prod.mk.injEq] at hx
    rw [hx.1] at hw
    have hw' := List.all_eq_true.1 hw
    have hbytes : len * P.bytesOf e ≤ reachBytes := by
      have h1 := hw' ((((List.range len).map D).length + ((List.range (m - len)).map fun j => D (len + j)).length) * P.bytesOf e) (by simp [DataW.weights, hu])
      simp only [List.length_map, List.length_range, decide_eq_true_eq] at h1
      exact Nat.le_trans (Nat.mul_le_mul_right _ (by omega)) h1
    refine ⟨some a, len, m, rfl, hl, hm, hbytes, ?_⟩
    by_cases h0 : len = 0
    · subst h0
      exact ⟨[], ⟨by simp, Or.inl rfl⟩, fun i hi => absurd hi (Nat.not_lt_zero _)⟩
    · have hspot : a.spot = none := by
        obtain ⟨cs', hc, _⟩ := hel 0 (by omega)
        obtain ⟨_, hcl, hat⟩ := World.cells?_some hc
        have h1 := hat 0 (by omega)
        have hlen0 : 0 < cs'.length := by omega
        rw [List.getElem?_eq_getElem hlen0] at h1
        have := World.cell?_spot h1
        simpa [Addr.add] using this
      obtain ⟨b, off, s⟩ := a
      simp only at hspot
      subst hspot
      generalize hsz : P.cellsOf e = sz at *
      have hall : ∀ i, i < len → ∃ cs' : List Value, cs'.length = sz ∧ Rd P W e cs' ∧ ∀ j, j < sz → W.cell? ⟨b, off + (i * sz + j), none⟩ = cs'[j]? := by
        intro i hi
        obtain ⟨cs', hc, ht⟩ := hel i (by omega)
        obtain ⟨_, hcl, hat⟩ := World.cells?_some hc
        refine ⟨cs', hcl, ⟨H, enc, D i, Pl i, n, ht, List.all_eq_true.2 fun x hx' => hw' x ?_⟩, fun j hj => ?_⟩
        · simp only [DataW.weights, hu]
          exact List.mem_cons_of_mem _ (List.mem_append_left _ (rd_weightsAll (List.mem_map.2 ⟨i, List.mem_range.2 hi, rfl⟩) hx'))
        · have := hat j hj
          rwa [Go.Deep.add_add, add_plain] at this
      have hcell : ∀ j, j < len * sz → ∃ v, W.cell? ⟨b, off + j, none⟩ = some v := by
        intro j hj
        have hi : j / sz < len := Nat.div_lt_of_lt_mul (by rw [Nat.mul_comm]; exact hj)
        obtain ⟨cs', h1, _, h3⟩ := hall _ hi
        have h4 := h3 (j % sz) (Nat.mod_lt _ hpos)
        have h5 : j / sz * sz + j % sz = j := by rw [Nat.mul_comm]; exact Nat.div_add_mod _ _
        rw [h5, List.getElem?_eq_getElem (by rw [h1]; exact Nat.mod_lt _ hpos)] at h4
        exact ⟨_, h4⟩
      have hb : b < W.heap.size := by
        obtain ⟨v, hv⟩ := hcell 0 (Nat.mul_pos (by omega) hpos)
        exact block_lt_of_cell hv
      obtain ⟨g, hg⟩ := Go.Deep.choose_lt (α := Value) (p := fun j v => W.cell? ⟨b, off + j, none⟩ = some v) hcell
      refine ⟨(List.range (len * sz)).map g, ⟨by simp, Or.inr ⟨b, off, rfl, hb, fun j hj => ?_⟩⟩, fun i hi => ?_⟩
      · rw [hg j hj]
        simp [List.getD_eq_getElem?_getD, hj]
      · obtain ⟨cs', h1, h2, h3⟩ := hall i hi
        have hle : i * sz + sz ≤ len * sz := by
          have : (i + 1) * sz ≤ len * sz := Nat.mul_le_mul_right _ hi
          rwa [Nat.succ_mul] at this
        have : ((List.range (len * sz)).map g |>.drop (i * sz) |>.take sz) = cs' := by
          apply List.ext_getElem?
          intro j
          by_cases hj : j < sz
          · rw [List.getElem?_take_of_lt hj, List.getElem?_drop, List.getElem?_map, List.getElem?_range (by omega), Option.map_some, ← h3 j hj, hg _ (by omega)]
          · rw [List.getElem?_eq_none (by simp; omega), List.getElem?_eq_none (by omega)]
        rw [this]
        exact h2
/-- a slice of elements that hold numbers and truth values alone. -/
theorem Rd.flat_slice {t e : TypeId} {cs : List Value} {f : Nat} {ks : List (Option IntKind)} (h : Rd P W t cs) (hu : P.underlying t = some (.slice e)) (hk : flat P f e = some ks) (hs : P.cellsOf e = ks.length) (hpos : 0 < ks.length) :
    ∃ a n c xs, cs = [.slice a n c] ∧ n ≤ c ∧ c ≤ maxLen ∧ n * P.bytesOf e ≤ reachBytes ∧ Sl W a n ks.length xs ∧ ∀ i, i < n → OkAll ks ((xs.drop (i * ks.length)).take ks.length) := by
  obtain ⟨a, n, c, he, h1, h2, h3, xs, h4, h5⟩ := h.slice hu (by omega)
  rw [hs] at h4 h5
  exact ⟨a, n, c, xs, he, h1, h2, h3, h4, fun i hi => (h5 i hi).isFlat hk⟩
end
/-- each cell of what is fine is one cell. -/
theorem CellOk.one {k : Option IntKind} {v : Value} (h : CellOk k v) : v.oneCell' = true := by
  cases k with
  | none => obtain ⟨b, rfl⟩ := h; rfl
  | some k => obtain ⟨n, rfl, _⟩ := h; rfl
theorem OkAll.get {ks : List (Option IntKind)} {vs : List Value} (h : OkAll ks vs) {i : Nat} {v : Value} (hv : vs[i]? = some v) : ∃ k, ks[i]? = some k ∧ CellOk k v := by
  induction ks generalizing vs i with
  | nil => cases vs <;> simp_all [OkAll]
  | cons k ks ih =>
    cases vs with
    | nil => simp [OkAll] at h
    | cons u vs =>
      cases i with
      | zero => simp at hv; subst hv; exact ⟨k, rfl, h.1⟩
      | succ i => exact ih h.2 (by simpa using hv)
theorem elems_one {n sz : Nat} {xs : List Value} {ks : List (Option IntKind)} (hl : xs.length = n * sz) (hs : 0 < sz) (h : ∀ i, i < n → OkAll ks ((xs.drop (i * sz)).take sz)) : ∀ u ∈ xs, u.oneCell' = true := by
  intro u hu
  obtain ⟨j, hj, rfl⟩ := List.getElem_of_mem hu
  have hi : j / sz < n := Nat.div_lt_of_lt_mul (by rw [Nat.mul_comm]; omega)
  have h5 : j / sz * sz + j % sz = j := by rw [Nat.mul_comm]; exact Nat.div_add_mod _ _
  have hm := Nat.mod_lt j hs
  have : ((xs.drop (j / sz * sz)).take sz)[j % sz]? = some xs[j] := by
    rw [List.getElem?_take_of_lt hm, List.getElem?_drop, h5, List.getElem?_eq_getElem hj]
  obtain ⟨k, _, hk⟩ := (h _ hi).get this
  exact hk.one
/-- integers, cell by cell. -/
theorem ints_of_ok {k : IntKind} : ∀ (m : Nat) (vs : List Value), OkAll (List.replicate m (some k)) vs → ∃ l : List Int, l.length = m ∧ vs = l.map (.int k) ∧ ∀ z ∈ l, (Lit.int k z).wf = true
  | 0, vs, h => by
    cases vs with
    | nil => exact ⟨[], rfl, rfl, fun z hz => by cases hz⟩
    | cons v vs => simp [OkAll] at h
  | m + 1, vs, h => by
    cases vs with
    | nil => simp [List.replicate_succ, OkAll] at h
    | cons v vs =>
      rw [List.replicate_succ] at h
      obtain ⟨⟨n, rfl, hn⟩, h2⟩ := h
      obtain ⟨l, h3, rfl, h5⟩ := ints_of_ok m vs h2
      exact ⟨n :: l, by simp [h3], rfl, fun z hz => by
        rcases List.mem_cons.1 hz with rfl | hz
        · exact hn
        · exact h5 z hz⟩
end Go.Proofs.Ytcfipimhpeblbaa
