/- Vectors tell, over what comes in. -/
import Derived.Test.YtmgjbgingjiimaaLaw08b
import Derived.Test.YtmgjbgingjiimaaLaw08c
import Derived.Test.YtmgjbgingjiimaaRd
namespace Go.Proofs.Ytmgjbgingjiimaa
set_option linter.unusedVariables false
open Go.ChangeShapes Go.WideShapes Go.ChangeAt Go.RowKit
theorem fits_alls {l : List Int} (h : ∀ z ∈ l, (Lit.int .i64 z).wf = true) : ∀ k, fits (l.getD k 0) = true := fun k => by
  by_cases hk : k < l.length
  · rw [List.getD_eq_getElem?_getD, List.getElem?_eq_getElem hk]
    exact fits_wf (h _ (List.getElem_mem hk))
  · rw [List.getD_eq_getElem?_getD, List.getElem?_eq_none (by omega)]; rfl
theorem all_ints : ∀ {xs : List Value}, (∀ u ∈ xs, ∃ z, u = .int .i64 z ∧ (Lit.int .i64 z).wf = true) → ∃ L : List Int, xs = ints L ∧ ∀ z ∈ L, (Lit.int .i64 z).wf = true
  | [], _ => ⟨[], rfl, fun z hz => by cases hz⟩
  | x :: xs, h => by
    obtain ⟨z, rfl, hz⟩ := h x List.mem_cons_self
    obtain ⟨L, rfl, hL⟩ := all_ints (xs := xs) fun u hu => h u (List.mem_cons_of_mem _ hu)
    exact ⟨z :: L, rfl, fun y hy => by
      rcases List.mem_cons.1 hy with rfl | hy
      · exact hz
      · exact hL y hy⟩
theorem elems_ints {n sz : Nat} {xs : List Value} (hl : xs.length = n * sz) (hs : 0 < sz) (h : ∀ i, i < n → OkAll (List.replicate sz (some .i64)) ((xs.drop (i * sz)).take sz)) : ∃ L : List Int, xs = ints L ∧ ∀ z ∈ L, (Lit.int .i64 z).wf = true := by
  refine all_ints fun u hu => ?_
  obtain ⟨j, hj, rfl⟩ := List.getElem_of_mem hu
  have hi : j / sz < n := Nat.div_lt_of_lt_mul (by rw [Nat.mul_comm]; omega)
  have h5 : j / sz * sz + j % sz = j := by rw [Nat.mul_comm]; exact Nat.div_add_mod _ _
  have hm := Nat.mod_lt j hs
  have : ((xs.drop (j / sz * sz)).take sz)[j % sz]? = some xs[j] := by
    rw [List.getElem?_take_of_lt hm, List.getElem?_drop, h5, List.getElem?_eq_getElem hj]
  obtain ⟨k, hk1, hk⟩ := (h _ hi).get this
  rw [List.getElem?_replicate, if_pos hm] at hk1
  obtain rfl := Option.some.inj hk1
  exact hk
theorem Arg.chgs {w : World} {v : Value} (h : Arg Try.prog w 52 v) : ∃ a n c L, v = .slice a n c ∧ n ≤ c ∧ c ≤ maxLen ∧ Sl w a n 9 (ints L) ∧ ∀ k, fits (L.getD k 0) = true := by
  obtain ⟨a, n, c, xs, rfl, h1, h2, h3, h4, h5⟩ := h.flat_slice Try.underlying52 flat_chg (by kernel_rfl) (by decide)
  obtain ⟨L, rfl, hL⟩ := elems_ints h4.1 (by decide) h5
  exact ⟨a, n, c, L, rfl, h1, h2, h4, fits_alls hL⟩
theorem Arg.id {w : World} {v : Value} (h : Arg Try.prog w 55 v) : ∃ p q, v = .agg #[.int .i64 p, .int .i64 q] := by
  obtain ⟨cs, rfl, h2⟩ := h.flat_struct Try.underlying55 flat_id
  obtain ⟨l, h3, h4, h5⟩ := ints_of_ok 2 _ h2
  match l, h3, h4 with
  | [p, q], _, h4 => exact ⟨p, q, by rw [show cs = cs.toList.toArray by simp, h4]; rfl⟩
theorem few_fits {L : List Int} {m : Nat} (hf : ∀ k, fits (L.getD k 0) = true) (k : Nat) : fits ((L.take m).getD k 0) = true := take_get (hf k)
theorem tells_law (v0 v1 v2 v3 : Value) (w : World) (h0 : Arg Try.prog w 52 v0) (h1 : Arg Try.prog w 53 v1) (h2 : Arg Try.prog w 55 v2) (h3 : Arg Try.prog w 3 v3) : Calls Try.prog 9 #[v0, v1, v2, v3] w fun e w' => e = .returned (.bool true) ∧ Below w.heap.size w w' := by
  obtain ⟨a, n, c, L, rfl, hnc, hc, hs, hf⟩ := h0.chgs
  obtain ⟨v, hv, rfl, fv⟩ := h1.vec4
  obtain ⟨p, q, rfl⟩ := h2.id
  obtain ⟨r, rfl, _⟩ := h3.int Try.underlying3
  exact tells_walk (L.take (min n 40 * 9)) v a (min n 40) n c p q r w (Lib.hid hv) (hs.few (Nat.min_le_left _ _)) rfl hnc (few_fits hf) fv
end Go.Proofs.Ytmgjbgingjiimaa
