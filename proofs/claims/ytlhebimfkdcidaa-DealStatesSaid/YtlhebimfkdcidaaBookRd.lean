/- A booking that came in. -/
import Derived.Test.YtlhebimfkdcidaaBook
import Derived.Test.YtlhebimfkdcidaaRd
import Derived.Test.YtlhebimfkdcidaaRow
namespace Go.Proofs.Ytlhebimfkdcidaa
set_option linter.unusedVariables false
open Go.ChangeShapes Go.WideShapes Go.ChangeAt Go.RowKit
theorem flat_arr8 : flat Try.prog 2 22 = some (List.replicate 8 (some .i64)) := by kernel_rfl
def orderKinds : List (Option IntKind) := List.replicate 7 (some .i64)
theorem flat_order : flat Try.prog 3 29 = some orderKinds := by kernel_rfl
theorem fits_all {l : List Int} (h : ∀ z ∈ l, (Lit.int .i64 z).wf = true) : ∀ k, fits (l.getD k 0) = true := fun k => by
  by_cases hk : k < l.length
  · rw [List.getD_eq_getElem?_getD, List.getElem?_eq_getElem hk]
    exact fits_wf (h _ (List.getElem_mem hk))
  · rw [List.getD_eq_getElem?_getD, List.getElem?_eq_none (by omega)]; rfl
/-- what is told of a booking. -/
structure BookIn (w : World) (s p u : List Int) (a : Option Addr) (n c : Nat) (xs : List Value) : Prop where
  l8 : L8 s p u
  fs : ∀ k, fits (s.getD k 0) = true
  fp : ∀ k, fits (p.getD k 0) = true
  fu : ∀ k, fits (u.getD k 0) = true
  sl : Sl w a n 7 xs
  one : ∀ x ∈ xs, x.oneCell' = true
  bytes : n * 56 ≤ 140737488351232
  nc : n ≤ c
  cm : c ≤ 9223372036854775807
  ok : ∀ i, i < n → OkAll orderKinds ((xs.drop (i * 7)).take 7)
theorem Arg.book {w : World} {v : Value} (h : Arg Try.prog w 25 v) : ∃ s p u a n c xs, v = .agg (bkc s p u (.slice a n c)).toArray ∧ BookIn w s p u a n c xs := by
  obtain ⟨cs, rfl, hr⟩ := h.shape_struct Try.underlying25
  have hl := hr.len Try.underlying25
  rw [show Try.prog.cellsOf 25 = 25 by kernel_rfl] at hl
  have r0 := hr.at_ Try.underlying25 0 22 0 8 rfl (by kernel_rfl)
  have r1 := hr.at_ Try.underlying25 1 22 8 8 rfl (by kernel_rfl)
  have r2 := hr.at_ Try.underlying25 2 22 16 8 rfl (by kernel_rfl)
  have r3 := hr.at_ Try.underlying25 3 23 24 1 rfl (by kernel_rfl)
  obtain ⟨s, hs, es, ws⟩ := ints_of_ok 8 _ (r0.isFlat flat_arr8)
  obtain ⟨p, hp, ep, wp⟩ := ints_of_ok 8 _ (r1.isFlat flat_arr8)
  obtain ⟨u, hu, eu, wu⟩ := ints_of_ok 8 _ (r2.isFlat flat_arr8)
  obtain ⟨a, n, c, xs, eo, h1, h2, h3, h4, h5⟩ := r3.flat_slice Try.underlying23 flat_order (by kernel_rfl) (by decide)
  have hcs : cs = bkc s p u (.slice a n c) := by
    have e : cs = (cs.drop 0).take 8 ++ (cs.drop 8).take 8 ++ (cs.drop 16).take 8 ++ (cs.drop 24).take 1 := by
      have a1 : cs.drop 24 = (cs.drop 24).take 1 := (List.take_of_length_le (by simp; omega)).symm
      rw [← a1, show cs.drop 24 = (cs.drop 16).drop 8 by rw [List.drop_drop], List.append_assoc, List.take_append_drop, show cs.drop 16 = (cs.drop 8).drop 8 by rw [List.drop_drop], List.append_assoc, List.take_append_drop, List.drop_zero, List.take_append_drop]
    rw [e, es, ep, eu, eo]
    rfl
  refine ⟨s, p, u, a, n, c, xs, by rw [hcs], ⟨⟨hs, hp, hu⟩, fits_all ws, fits_all wp, fits_all wu, h4, elems_one h4.1 (by decide) h5, ?_, h1, by simpa [maxLen] using h2, h5⟩⟩
  have : Try.prog.bytesOf 29 = 56 := by kernel_rfl
  rw [this] at h3
  exact Nat.le_trans h3 (by decide)
end Go.Proofs.Ytlhebimfkdcidaa
