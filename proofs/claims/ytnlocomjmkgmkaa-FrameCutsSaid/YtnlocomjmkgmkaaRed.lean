/- Slices of what is no number: read one level at a time. -/
import Derived.Test.YtnlocomjmkgmkaaMem
import Derived.Test.YtnlocomjmkgmkaaCrc
import Derived.Test.YtnlocomjmkgmkaaLaw02
namespace Go.Proofs.Ytnlocomjmkgmkaa
set_option linter.unusedVariables false
open Go.ChangeShapes Go.WideShapes Go.ChangeAt Go.RowKit
/-- what is read is told of some cells. -/
def Red (P : Program) (W : World) (t : TypeId) (cs : List Value) : Prop :=
  ∃ (H : Type) (enc : TypeId × Value → H) (d : DataW H) (p : List MemPlace) (fuel : Nat), DataW.trod enc P W 0 (fun _ => true) true fuel t cs = some (d, p) ∧ (d.weights P t).all (· ≤ reachBytes) = true
section
variable {P : Program} {W : World}
theorem Arg.red {t : TypeId} {v : Value} (h : Arg P W t v) : Red P W t v.cells.toList := by
  obtain ⟨H, enc, base, d, p, _, ⟨fuel, hf⟩, hw⟩ := h
  exact ⟨H, enc, d, p, fuel, hf, hw⟩
theorem weightsAll_mem {H : Type} {e : TypeId} {d : DataW H} {x : Nat} : ∀ {l : List (DataW H)}, d ∈ l → x ∈ d.weights P e → x ∈ DataW.weightsAll P e l
  | [], h, _ => by cases h
  | y :: l, h, hx => by
    unfold DataW.weightsAll
    rcases List.mem_cons.1 h with rfl | h
    · exact List.mem_append_left _ hx
    · exact List.mem_append_right _ (weightsAll_mem h hx)
/-- a slice of elements of one cell. -/
theorem Red.slice1 {t e : TypeId} {cs : List Value} (h : Red P W t cs) (hu : P.underlying t = some (.slice e)) (hc : P.cellsOf e = 1) :
    ∃ a n c, cs = [.slice a n c] ∧ n ≤ c ∧ c ≤ maxLen ∧ n * P.bytesOf e ≤ reachBytes ∧ (n = 0 ∨ ∃ b off, a = some ⟨b, off, none⟩ ∧ b < W.heap.size ∧ ∀ i, i < n → ∃ u, W.cell? ⟨b, off + i, none⟩ = some u ∧ Red P W e [u]) := by
  obtain ⟨H, enc, d, p, fuel, hf, hw⟩ := h
  rcases Go.Deep.open_slice1 hu hc hf with ⟨rfl, _⟩ | ⟨a, len, cap, m, n, V, D, Pl, rfl, _, hl, hm, hmm, hx, hel⟩
  · exact ⟨none, 0, 0, rfl, Nat.le_refl _, by decide, by simp, Or.inl rfl⟩
  · have hmcap : m = cap := by simpa using hmm
    subst hmcap
    simp only [Prod.mk.injEq] at hx
    rw [hx.1] at hw
    have hw' := List.all_eq_true.1 hw
    have hbytes : len * P.bytesOf e ≤ reachBytes := by
      have h1 := hw' ((((List.range len).map D).length + ((List.range (m - len)).map fun j => D (len + j)).length) * P.bytesOf e) (by simp [DataW.weights, hu])
      simp only [List.length_map, List.length_range, decide_eq_true_eq] at h1
      exact Nat.le_trans (Nat.mul_le_mul_right _ (by omega)) h1
    refine ⟨some a, len, m, rfl, hl, hm, hbytes, ?_⟩
    by_cases h0 : len = 0
    · exact Or.inl h0
    · obtain ⟨b, off, s⟩ := a
      have hspot : s = none := by
        have h1 := (hel 0 (by omega)).1
        have := World.cell?_spot h1
        simpa [Addr.add] using this
      subst hspot
      have h1 := (hel 0 (by omega)).1
      rw [add_plain] at h1
      refine Or.inr ⟨b, off, rfl, block_lt_of_cell h1, fun i hi => ?_⟩
      obtain ⟨h2, h3⟩ := hel i (by omega)
      rw [add_plain] at h2
      refine ⟨V i, h2, H, enc, D i, Pl i, n, h3, List.all_eq_true.2 fun x hx' => hw' x ?_⟩
      simp only [DataW.weights, hu]
      exact List.mem_cons_of_mem _ (List.mem_append_left _ (weightsAll_mem (List.mem_map.2 ⟨i, List.mem_range.2 hi, rfl⟩) hx'))
theorem Red.int {t : TypeId} {u : Value} {k : IntKind} (h : Red P W t [u]) (hu : P.underlying t = some (.int k)) : ∃ n, u = .int k n ∧ (Lit.int k n).wf = true := by
  obtain ⟨H, enc, d, p, fuel, hf, _⟩ := h
  have := flat_ok 1 fuel t [some k] [u] _ (by simp [flat, hu]) hf
  exact this.1
end
theorem byte_of {u : Value} {n : Int} (h : u = .int .u8 n) (hw : (Lit.int .u8 n).wf = true) : ∃ b : UInt8, u = .int .u8 (b.toNat : Int) := by
  obtain ⟨bs, hb⟩ := bytes_of_ok 1 [u] rfl (fun i hi => by
    obtain rfl : i = 0 := by omega
    exact ⟨⟨n, h, hw⟩, trivial⟩)
  match bs, hb with
  | [b], hb => exact ⟨b, by simpa [bcells] using hb⟩
/-- octets, wherever they are met. -/
theorem Red.bytes {W : World} {cs : List Value} (h : Red Try.prog W 22 cs) : ∃ a n c bs, cs = [.slice a n c] ∧ n ≤ c ∧ c ≤ 9223372036854775807 ∧ n ≤ reachBytes ∧ bs.length = n ∧ Sl W a n 1 (bcells bs) := by
  obtain ⟨a, n, c, rfl, h1, h2, h3, h4⟩ := h.slice1 Try.underlying22 (by kernel_rfl)
  rw [show Try.prog.bytesOf 5 = 1 by kernel_rfl, Nat.mul_one] at h3
  have h2' : c ≤ 9223372036854775807 := by simpa [maxLen] using h2
  rcases h4 with rfl | ⟨b, off, rfl, hb, hel⟩
  · exact ⟨a, 0, c, [], rfl, h1, h2', h3, rfl, rfl, Or.inl rfl⟩
  · have hall : ∀ i, i < n → ∃ x : UInt8, W.cell? ⟨b, off + i, none⟩ = some (.int .u8 (x.toNat : Int)) := by
      intro i hi
      obtain ⟨u, hu, hr⟩ := hel i hi
      obtain ⟨m, hm, hw⟩ := hr.int Try.underlying5
      obtain ⟨x, hx⟩ := byte_of hm hw
      exact ⟨x, by rw [hu, hx]⟩
    obtain ⟨g, hg⟩ := Go.Deep.choose_lt (α := UInt8) (p := fun i x => W.cell? ⟨b, off + i, none⟩ = some (.int .u8 (x.toNat : Int))) hall
    refine ⟨_, n, c, (List.range n).map g, rfl, h1, h2', h3, by simp, by simp [bcells], Or.inr ⟨b, off, rfl, hb, fun j hj => ?_⟩⟩
    rw [hg j (by omega)]
    simp [bcells, List.getD_eq_getElem?_getD, show j < n by omega]
/-- parts that came in. -/
theorem Arg.parts {W : World} {v : Value} (h : Arg Try.prog W 34 v) : ∃ a m c ps, v = .slice a m c ∧ m ≤ c ∧ c ≤ 9223372036854775807 ∧ m ≤ reachBytes ∧ Parts W a m ps ∧ ∀ i, i < m → ∃ ai ni ci, W.cell? ⟨(a.getD ⟨0, 0, none⟩).block, (a.getD ⟨0, 0, none⟩).off + i, none⟩ = some (.slice ai ni ci) ∧ ni ≤ ci ∧ ci ≤ 9223372036854775807 := by
  have hv : ∃ a0 n0 c0, v = .slice a0 n0 c0 := by
    obtain ⟨H, enc, base, d, p, ho, _, _⟩ := h
    exact okWide_slice Try.underlying34 ho
  obtain ⟨a0, n0, c0, rfl⟩ := hv
  obtain ⟨a, n, c, he, h1, h2, h3, h4⟩ := h.red.slice1 Try.underlying34 (by kernel_rfl)
  simp [Value.cells] at he
  obtain ⟨rfl, rfl, rfl⟩ := he
  rw [show Try.prog.bytesOf 22 = 24 by kernel_rfl] at h3
  have h2' : c0 ≤ 9223372036854775807 := by simpa [maxLen] using h2
  have hr : reachBytes ≤ 140737488355328 := by decide
  rcases h4 with rfl | ⟨b, off, rfl, hb, hel⟩
  · exact ⟨a0, 0, c0, [], rfl, h1, h2', by omega, ⟨rfl, Or.inl rfl⟩, fun i hi => absurd hi (Nat.not_lt_zero _)⟩
  · have hall : ∀ i, i < n0 → ∃ q : Option Addr × Nat × Nat × List UInt8, W.cell? ⟨b, off + i, none⟩ = some (.slice q.1 q.2.1 q.2.2.1) ∧ q.2.1 ≤ q.2.2.1 ∧ q.2.2.1 ≤ 9223372036854775807 ∧ q.2.1 ≤ reachBytes ∧ Sl W q.1 q.2.1 1 (bcells q.2.2.2) := by
      intro i hi
      obtain ⟨u, hu, hr⟩ := hel i hi
      obtain ⟨ai, ni, ci, bs, he, g1, g2, g3, _, g5⟩ := hr.bytes
      injection he with he _
      exact ⟨(ai, ni, ci, bs), by rw [hu, he], g1, g2, g3, g5⟩
    obtain ⟨g, hg⟩ := Go.Deep.choose_lt (α := Option Addr × Nat × Nat × List UInt8) (p := fun i q => W.cell? ⟨b, off + i, none⟩ = some (.slice q.1 q.2.1 q.2.2.1) ∧ q.2.1 ≤ q.2.2.1 ∧ q.2.2.1 ≤ 9223372036854775807 ∧ q.2.1 ≤ reachBytes ∧ Sl W q.1 q.2.1 1 (bcells q.2.2.2)) hall
    refine ⟨_, n0, c0, (List.range n0).map fun i => (g i).2.2.2, rfl, h1, h2', by omega, ⟨by simp, Or.inr ⟨b, off, rfl, hb, fun i hi => ?_⟩⟩, fun i hi => ?_⟩
    · obtain ⟨g1, g2, g3, g4, g5⟩ := hg i hi
      refine ⟨_, _, _, g1, by omega, ?_⟩
      simpa [List.getD_eq_getElem?_getD, hi] using g5
    · obtain ⟨g1, g2, g3, _⟩ := hg i hi
      exact ⟨_, _, _, g1, g2, g3⟩
end Go.Proofs.Ytnlocomjmkgmkaa
