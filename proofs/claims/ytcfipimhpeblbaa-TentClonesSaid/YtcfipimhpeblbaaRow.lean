/- What a slice of integers that came in reads as; numbers that fit. -/
import Derived.Test.YtcfipimhpeblbaaMath
import Derived.WalkKit
import Derived.ProofKit
import Derived.OpenShut
import Derived.Below
namespace Go.Proofs.Ytcfipimhpeblbaa
set_option linter.unusedVariables false
set_option linter.unusedSimpArgs false
open Go.ChangeShapes Go.WideShapes Go.ChangeAt Go.RowKit
theorem fits_wf {n : Int} (h : (Lit.int .i64 n).wf = true) : fits n = true := by
  simp only [Lit.wf, IntKind.min, IntKind.max, IntKind.signed, IntKind.bits, Bool.and_eq_true, decide_eq_true_eq, if_true] at h
  rw [fits_iff]; omega
/-- what is told of a slice of integers that came in. -/
def RowIn (k : IntKind) (w : World) (a : Option Addr) (len cap : Nat) (zs : List Int) : Prop :=
  (a = none ∧ len = 0 ∧ cap = 0 ∧ zs = []) ∨
  ∃ x, a = some x ∧ len ≤ cap ∧ cap ≤ maxLen ∧ zs.length = cap ∧ (∀ i, i < zs.length → w.cell? (x.add i) = some (.int k (zs.getD i 0))) ∧ ∀ n ∈ zs, (Lit.int k n).wf = true
/-- its elements: either there are none, or they lie one by one in a block that was there. -/
theorem RowIn.elems {k : IntKind} {w : World} {a : Option Addr} {len cap : Nat} {zs : List Int} (h : RowIn k w a len cap zs) :
    len = 0 ∨ ∃ b off, a = some ⟨b, off, none⟩ ∧ (zs.take len).length = len ∧ 0 < len ∧ len ≤ maxLen ∧ b < w.heap.size ∧
      (∀ i, i < (zs.take len).length → w.cell? ⟨b, off + i, none⟩ = some (.int k ((zs.take len).getD i 0))) ∧ ∀ n ∈ zs.take len, (Lit.int k n).wf = true := by
  rcases h with ⟨_, h, _, _⟩ | ⟨x, rfl, hl, hm, hz, hc, hw⟩
  · exact Or.inl h
  · by_cases h0 : len = 0
    · exact Or.inl h0
    · have hlen : (zs.take len).length = len := by rw [List.length_take]; omega
      obtain ⟨b, off, rfl, hcell⟩ := ints_at hc (by omega)
      refine Or.inr ⟨b, off, rfl, hlen, by omega, by omega, ?_, ?_, fun n hn => hw n (List.mem_of_mem_take hn)⟩
      · have h1 := hcell 0 (by omega)
        apply Decidable.byContradiction
        intro hb
        have : w.heap[b]? = none := by rw [Array.getElem?_eq_none]; omega
        simp [World.cell?, this] at h1
      · intro i hi
        rw [hlen] at hi
        rw [hcell i (by omega)]
        simp [List.getD_eq_getElem?_getD, hi]
end Go.Proofs.Ytcfipimhpeblbaa
