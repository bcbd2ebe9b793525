/- Two changes, sorted: stamp.Sorted. -/
import Derived.Test.YtcfipimhpeblbaaStm6
import Derived.Deep.DeepCutAuto
import Derived.Maps.AppendAt
import Derived.Test.YtcfipimhpeblbaaRow
import Derived.Test.YtcfipimhpeblbaaOps
import Derived.RegionTactic
import Derived.BigRegion
import Derived.ChangeAlike
namespace Go.Proofs.Ytcfipimhpeblbaa
set_option linter.unusedVariables false
set_option linter.unusedSimpArgs false
open Go.ChangeShapes Go.WideShapes Go.ChangeAt Go.RowKit
theorem own_blkS {w : World} {B n sz : Nat} {e : TypeId} {v : Value} {xs : List Value} (h : w.ownsRow B e sz v n xs) : ∃ a c, v = .slice a n c ∧ n ≤ c ∧ c ≤ maxLen ∧ xs.length = n * sz ∧ (n = 0 ∧ a = none ∨ ∃ g spare, a = some ⟨g, 0, none⟩ ∧ B ≤ g ∧ Blk w g (xs ++ spare) e ∧ (xs ++ spare).length = c * sz) := by
  obtain ⟨h1, h2⟩ := h
  rcases h2 with ⟨rfl, rfl⟩ | ⟨g, cap, cur, rfl, hB, hh, hn, hc, hcs_, hx⟩
  · exact ⟨none, 0, rfl, Nat.le_refl _, Nat.zero_le _, h1, Or.inl ⟨rfl, rfl⟩⟩
  · refine ⟨_, cap, rfl, hn, hc, h1, Or.inr ⟨g, cur.toList.drop (n * sz), rfl, hB, ?_, by rw [← hx, List.take_append_drop, Array.length_toList, hcs_]⟩⟩
    unfold Blk
    rw [hh, ← hx, List.take_append_drop, Array.toArray_toList]
end Go.Proofs.Ytcfipimhpeblbaa
