/- What is known, over what comes in. -/
import Derived.Test.YtmgjbgingjiimaaLaw08d
import Derived.Test.YtmgjbgingjiimaaLaw08k
namespace Go.Proofs.Ytmgjbgingjiimaa
set_option linter.unusedVariables false
open Go.ChangeShapes Go.WideShapes Go.ChangeAt Go.RowKit
theorem Arg.nil {P : Program} {W : World} {t e : TypeId} {a : Option Addr} {n c : Nat} (h : Arg P W t (.slice a n c)) (hu : P.underlying t = some (.slice e)) : a = none → c = 0 := by
  obtain ⟨H, enc, base, d, p, ho, ⟨fuel, hf⟩, hw⟩ := h
  rcases Go.Deep.open_slice hu hf with ⟨hcs, hx⟩ | ⟨a', len', cap', m, n, D, Pl, hcs, _⟩
  · simp [Value.cells] at hcs
    exact fun _ => hcs.2.2
  · simp [Value.cells] at hcs
    rintro rfl
    exact absurd hcs.1 (by simp)
theorem knows_law (v0 v1 : Value) (w : World) (h0 : Arg Try.prog w 52 v0) (h1 : Arg Try.prog w 52 v1) : Calls Try.prog 11 #[v0, v1] w fun e w' => e = .returned (.bool true) ∧ Below w.heap.size w w' := by
  obtain ⟨a, n, c, L, rfl, hnc, hc, hs, hf⟩ := h0.chgs
  obtain ⟨a2, n2, c2, M, rfl, hnc2, hc2, hs2, hf2⟩ := h1.chgs
  exact knows_walk (L.take (min n 40 * 9)) (M.take (min n2 40 * 9)) a a2 n (min n 40) c n2 (min n2 40) c2 w (hs.few (Nat.min_le_left _ _)) (hs2.few (Nat.min_le_left _ _)) rfl rfl hnc hnc2 (h0.nil Try.underlying52) (h1.nil Try.underlying52) (few_fits hf) (few_fits hf2)
end Go.Proofs.Ytmgjbgingjiimaa
