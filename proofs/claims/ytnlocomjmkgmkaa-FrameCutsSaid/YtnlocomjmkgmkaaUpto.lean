/- What is told of an argument whose bulk is bounded: of slices, and of octets in parts. -/
import Derived.Test.YtnlocomjmkgmkaaRed
namespace Go.Proofs.Ytnlocomjmkgmkaa
set_option linter.unusedVariables false
open Go.ChangeShapes Go.WideShapes Go.ChangeAt Go.RowKit
theorem bulk_pos {H : Type} (d : DataW H) : 1 ≤ Rows.uptoBulk d := by
  rcases d with l | _ | _ | _ | _ | _ | _ | _
  · cases l <;> simp [Rows.uptoBulk]
  all_goals simp [Rows.uptoBulk]
theorem bulk_app {H : Type} : ∀ (l r : List (DataW H)), Rows.uptoBulkAll (l ++ r) = Rows.uptoBulkAll l + Rows.uptoBulkAll r
  | [], r => by simp [Rows.uptoBulkAll]
  | x :: l, r => by rw [List.cons_append, Rows.uptoBulkAll, Rows.uptoBulkAll, bulk_app l r, Nat.add_assoc]
def sumTo (f : Nat → Nat) : Nat → Nat
  | 0 => 0
  | n + 1 => sumTo f n + f n
theorem bulk_range {H : Type} (D : Nat → DataW H) : ∀ n, Rows.uptoBulkAll ((List.range n).map D) = sumTo (fun i => Rows.uptoBulk (D i)) n
  | 0 => rfl
  | n + 1 => by rw [List.range_succ, List.map_append, bulk_app, bulk_range D n]; simp [Rows.uptoBulkAll, sumTo]
theorem sumTo_le {f g : Nat → Nat} : ∀ {n}, (∀ i, i < n → f i ≤ g i) → sumTo f n ≤ sumTo g n
  | 0, _ => Nat.le_refl _
  | n + 1, h => Nat.add_le_add (sumTo_le fun i hi => h i (by omega)) (h n (by omega))
theorem sumTo_ge {f : Nat → Nat} : ∀ {n}, (∀ i, i < n → 1 ≤ f i) → n ≤ sumTo f n
  | 0, _ => Nat.le_refl _
  | n + 1, h => Nat.add_le_add (sumTo_ge fun i hi => h i (by omega)) (h n (by omega))
theorem sumTo_flat {α : Type} (g : Nat → List α) : ∀ n, ((List.range n).map g).flatten.length = sumTo (fun i => (g i).length) n
  | 0 => rfl
  | n + 1 => by rw [List.range_succ, List.map_append, List.flatten_append, List.length_append, sumTo_flat g n]; simp [sumTo]
/-- of bulk at most m. -/
def ArgUp (P : Program) (W : World) (t : TypeId) (v : Value) (m : Nat) : Prop :=
  ∃ (H : Type) (enc : TypeId × Value → H) (base : Nat) (d : DataW H) (p : List MemPlace), Value.okWide P W .any base t v ∧ DataW.Trod enc P W 0 (fun _ => true) true t v d p ∧ (d.weights P t).all (· ≤ reachBytes) = true ∧ Rows.uptoBulk d ≤ m
def RedUp (P : Program) (W : World) (t : TypeId) (cs : List Value) (m : Nat) : Prop :=
  ∃ (H : Type) (enc : TypeId × Value → H) (d : DataW H) (p : List MemPlace) (fuel : Nat), DataW.trod enc P W 0 (fun _ => true) true fuel t cs = some (d, p) ∧ (d.weights P t).all (· ≤ reachBytes) = true ∧ Rows.uptoBulk d ≤ m
section
variable {P : Program} {W : World}
theorem ArgUp.arg {t : TypeId} {v : Value} {m : Nat} (h : ArgUp P W t v m) : Arg P W t v := by
  obtain ⟨H, enc, base, d, p, h1, h2, h3, _⟩ := h
  exact ⟨H, enc, base, d, p, h1, h2, h3⟩
theorem ArgUp.red {t : TypeId} {v : Value} {m : Nat} (h : ArgUp P W t v m) : RedUp P W t v.cells.toList m := by
  obtain ⟨H, enc, base, d, p, _, ⟨fuel, hf⟩, hw, hm⟩ := h
  exact ⟨H, enc, d, p, fuel, hf, hw, hm⟩
theorem RedUp.red {t : TypeId} {cs : List Value} {m : Nat} (h : RedUp P W t cs m) : Red P W t cs := by
  obtain ⟨H, enc, d, p, fuel, hf, hw, _⟩ := h
  exact ⟨H, enc, d, p, fuel, hf, hw⟩
/-- a slice of elements of one cell, its bulk that of its elements. -/
theorem RedUp.slice1 {t e : TypeId} {cs : List Value} {m : Nat} (h : RedUp P W t cs m) (hu : P.underlying t = some (.slice e)) (hc : P.cellsOf e = 1) :
    ∃ a n c, cs = [.slice a n c] ∧ n ≤ c ∧ c ≤ maxLen ∧ n * P.bytesOf e ≤ reachBytes ∧ (a = none → c = 0) ∧ ∃ B : Nat → Nat, sumTo B n ≤ m ∧ n ≤ m ∧ (n = 0 ∨ ∃ b off, a = some ⟨b, off, none⟩ ∧ b < W.heap.size ∧ ∀ i, i < n → ∃ u, W.cell? ⟨b, off + i, none⟩ = some u ∧ RedUp P W e [u] (B i)) := by
  obtain ⟨H, enc, d, p, fuel, hf, hw, hb⟩ := h
  rcases Go.Deep.open_slice1 hu hc hf with ⟨rfl, _⟩ | ⟨a, len, cap, k, n, V, D, Pl, rfl, _, hl, hm, hmm, hx, hel⟩
  · exact ⟨none, 0, 0, rfl, Nat.le_refl _, by decide, by simp, fun _ => rfl, fun _ => 0, Nat.zero_le _, Nat.zero_le _, Or.inl rfl⟩
  · have hmcap : k = cap := by simpa using hmm
    subst hmcap
    simp only [Prod.mk.injEq] at hx
    rw [hx.1] at hw hb
    have hw' := List.all_eq_true.1 hw
    have hbytes : len * P.bytesOf e ≤ reachBytes := by
      have h1 := hw' ((((List.range len).map D).length + ((List.range (k - len)).map fun j => D (len + j)).length) * P.bytesOf e) (by simp [DataW.weights, hu])
      simp only [List.length_map, List.length_range, decide_eq_true_eq] at h1
      exact Nat.le_trans (Nat.mul_le_mul_right _ (by omega)) h1
    rw [Rows.uptoBulk, bulk_range] at hb
    have hn := sumTo_ge (f := fun i => Rows.uptoBulk (D i)) (n := len) fun i _ => bulk_pos (D i)
    refine ⟨some a, len, k, rfl, hl, hm, hbytes, (fun h => absurd h (by simp)), (fun i => Rows.uptoBulk (D i)), by omega, by omega, ?_⟩
    by_cases h0 : len = 0
    · exact Or.inl h0
    · obtain ⟨b, off, s⟩ := a
      have hspot : s = none := by
        have h1 := (hel 0 (by omega)).1
        have := World.cell?_spot h1
        simpa [Addr.add] using this
      subst hspot
      have h1 := (hel 0 (by omega)).1
      rw [add_plain] at h1
      refine Or.inr ⟨b, off, rfl, block_lt_of_cell h1, fun i hi => ?_⟩
      obtain ⟨h2, h3⟩ := hel i (by omega)
      rw [add_plain] at h2
      refine ⟨V i, h2, H, enc, D i, Pl i, n, h3, List.all_eq_true.2 fun x hx' => hw' x ?_, Nat.le_refl _⟩
      simp only [DataW.weights, hu]
      exact List.mem_cons_of_mem _ (List.mem_append_left _ (weightsAll_mem (List.mem_map.2 ⟨i, List.mem_range.2 hi, rfl⟩) hx'))
end
theorem RedUp.bytes {W : World} {cs : List Value} {m : Nat} (h : RedUp Try.prog W 22 cs m) : ∃ a n c bs, cs = [.slice a n c] ∧ n ≤ c ∧ c ≤ 9223372036854775807 ∧ n ≤ reachBytes ∧ n ≤ m ∧ (a = none → c = 0) ∧ bs.length = n ∧ Sl W a n 1 (bcells bs) := by
  obtain ⟨a, n, c, bs, rfl, h1, h2, h3, h4, h5⟩ := h.red.bytes
  obtain ⟨a', n', c', he, _, _, _, hnil, B, _, hm, _⟩ := h.slice1 Try.underlying22 (by kernel_rfl)
  simp only [List.cons.injEq, Value.slice.injEq, and_true] at he
  obtain ⟨e1, e2, e3⟩ := he
  subst e1 e2 e3
  exact ⟨a, n, c, bs, rfl, h1, h2, h3, hm, hnil, h4, h5⟩
/-- octets of bounded bulk. -/
theorem ArgUp.bytes {W : World} {v : Value} {m : Nat} (h : ArgUp Try.prog W 22 v m) : ∃ a n c bs, v = .slice a n c ∧ n ≤ c ∧ c ≤ 9223372036854775807 ∧ n ≤ m ∧ (a = none → c = 0) ∧ bs.length = n ∧ Sl W a n 1 (bcells bs) := by
  have hv : ∃ a0 n0 c0, v = .slice a0 n0 c0 := by
    obtain ⟨H, enc, base, d, p, ho, _, _⟩ := h
    exact okWide_slice Try.underlying22 ho
  obtain ⟨a0, n0, c0, rfl⟩ := hv
  obtain ⟨a, n, c, bs, he, h1, h2, _, h3, h6, h4, h5⟩ := h.red.bytes
  simp [Value.cells] at he
  obtain ⟨rfl, rfl, rfl⟩ := he
  exact ⟨a0, n0, c0, bs, rfl, h1, h2, h3, h6, h4, h5⟩
/-- parts of bounded bulk. -/
theorem ArgUp.parts {W : World} {v : Value} {M : Nat} (h : ArgUp Try.prog W 34 v M) : ∃ a m c ps, v = .slice a m c ∧ m ≤ c ∧ c ≤ 9223372036854775807 ∧ m ≤ M ∧ ps.flatten.length ≤ M ∧ Parts W a m ps ∧ ∀ i, i < m → ∀ b off ai ni ci, a = some ⟨b, off, none⟩ → W.cell? ⟨b, off + i, none⟩ = some (.slice ai ni ci) → ai = none → ci = 0 := by
  have hv : ∃ a0 n0 c0, v = .slice a0 n0 c0 := by
    obtain ⟨H, enc, base, d, p, ho, _, _⟩ := h
    exact okWide_slice Try.underlying34 ho
  obtain ⟨a0, n0, c0, rfl⟩ := hv
  obtain ⟨a, n, c, he, h1, h2, h3, hnil, B, hB, hn, h4⟩ := h.red.slice1 Try.underlying34 (by kernel_rfl)
  simp [Value.cells] at he
  obtain ⟨rfl, rfl, rfl⟩ := he
  have h2' : c0 ≤ 9223372036854775807 := by simpa [maxLen] using h2
  have hr : reachBytes ≤ 140737488355328 := by decide
  rcases h4 with rfl | ⟨b, off, rfl, hb, hel⟩
  · exact ⟨a0, 0, c0, [], rfl, h1, h2', hn, Nat.zero_le _, ⟨rfl, Or.inl rfl⟩, fun i hi => absurd hi (Nat.not_lt_zero _)⟩
  · have hall : ∀ i, i < n0 → ∃ q : Option Addr × Nat × Nat × List UInt8, W.cell? ⟨b, off + i, none⟩ = some (.slice q.1 q.2.1 q.2.2.1) ∧ q.2.1 ≤ reachBytes ∧ q.2.2.2.length ≤ B i ∧ (q.1 = none → q.2.2.1 = 0) ∧ Sl W q.1 q.2.1 1 (bcells q.2.2.2) := by
      intro i hi
      obtain ⟨u, hu, hr⟩ := hel i hi
      obtain ⟨ai, ni, ci, bs, he, g1, g2, g3, g4, g7, g5, g6⟩ := hr.bytes
      injection he with he _
      exact ⟨(ai, ni, ci, bs), by rw [hu, he], g3, by rw [g5]; exact g4, g7, g6⟩
    obtain ⟨g, hg⟩ := Go.Deep.choose_lt (α := Option Addr × Nat × Nat × List UInt8) (p := fun i q => W.cell? ⟨b, off + i, none⟩ = some (.slice q.1 q.2.1 q.2.2.1) ∧ q.2.1 ≤ reachBytes ∧ q.2.2.2.length ≤ B i ∧ (q.1 = none → q.2.2.1 = 0) ∧ Sl W q.1 q.2.1 1 (bcells q.2.2.2)) hall
    refine ⟨_, n0, c0, (List.range n0).map fun i => (g i).2.2.2, rfl, h1, h2', hn, ?_, ⟨by simp, Or.inr ⟨b, off, rfl, hb, fun i hi => ?_⟩⟩, fun i hi b' off' ai ni ci ha hc hai => ?_⟩
    · rw [sumTo_flat]
      exact Nat.le_trans (sumTo_le fun i hi => (hg i hi).2.2.1) hB
    · obtain ⟨g1, g2, g3, g4, g5⟩ := hg i hi
      refine ⟨_, _, _, g1, by omega, ?_⟩
      simpa [List.getD_eq_getElem?_getD, hi] using g5
    · obtain ⟨g1, g2, g3, g4, g5⟩ := hg i hi
      simp only [Option.some.injEq, Addr.mk.injEq, and_true] at ha
      obtain ⟨rfl, rfl⟩ := ha
      rw [g1] at hc
      simp only [Option.some.injEq, Value.slice.injEq] at hc
      obtain ⟨e1, e2, e3⟩ := hc
      rw [← e3]
      exact g4 (e1.trans hai)
end Go.Proofs.Ytnlocomjmkgmkaa
