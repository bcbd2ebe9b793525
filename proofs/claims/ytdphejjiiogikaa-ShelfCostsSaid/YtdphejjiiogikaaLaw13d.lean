/- The laws of shelf: what things cost. -/
import Derived.Test.YtdphejjiiogikaaLaw13c
import Derived.Deep.QuietTactic
import Derived.BigQuiet
import Derived.Lib.SmallJoins
namespace Go.Proofs.Ytdphejjiiogikaa
set_option linter.unusedVariables false
set_option linter.unusedSimpArgs false
open Go.ChangeShapes Go.WideShapes Go.ChangeAt Go.RowKit
theorem costs_walk (v0 v1 v2 : Value) (w : World) (h0 : Arg Try.prog w 25 v0) (h1 : Arg Try.prog w 3 v1) (h2 : Arg Try.prog w 2 v2) :
    Calls Try.prog 4 #[v0, v1, v2] w fun e w' => e = .returned (.bool true) ∧ Below w.heap.size w w' := by
  obtain ⟨s, p, u, a, n, c, xs, rfl, hbk⟩ := h0.book
  obtain ⟨i, rfl, hi⟩ := h1.int Try.underlying3
  obtain ⟨m, rfl, hm⟩ := h2.int Try.underlying2
  by_cases hr : 0 ≤ i ∧ i < 8 ∧ 0 ≤ m ∧ m ≤ 1099511627776
  · obtain ⟨k, rfl⟩ : ∃ k : Nat, i = k := ⟨i.toNat, by omega⟩
    obtain ⟨hi0, hi8, hm0, hm1⟩ := hr
    have hk : k < 8 := by omega
    have hfx := hbk.fp k
    by_cases hm30 : m ≤ 1073741824
    · by_cases hf : fits (p.getD k 0 * m) = true
      · by_cases ho : p.getD k 0 * m ≤ 1099511627776
        · rcases Int.lt_or_le 0 m with hmp | hmp
          · exact costs_ok_a s p u a n c xs k m _ _ w hbk hk hm0 hm1 rfl hfx rfl hf ho hmp hm30
          · obtain rfl : m = 0 := by omega
            exact costs_zero s p u a n c xs k _ w hbk hk hm0 hm1 rfl hfx (Int.mul_zero _) rfl (by decide) hm30
        · exact costs_over1_a s p u a n c xs k m _ _ w hbk hk hm0 hm1 rfl hfx rfl hf (by omega) (pos_m (x := p.getD k 0) hm0 (by omega)) hm30
      · exact costs_over2_a s p u a n c xs k m _ _ w hbk hk hm0 hm1 rfl hfx rfl (by simpa using hf) hm30
    · by_cases hf : fits (p.getD k 0 * m) = true
      · by_cases ho : p.getD k 0 * m ≤ 1099511627776
        · exact costs_ok_b s p u a n c xs k m _ _ w hbk hk hm0 hm1 rfl hfx rfl hf ho (by omega) (by omega)
        · exact costs_over1_b s p u a n c xs k m _ _ w hbk hk hm0 hm1 rfl hfx rfl hf (by omega) (by omega) (by omega)
      · exact costs_over2_b s p u a n c xs k m _ _ w hbk hk hm0 hm1 rfl hfx rfl (by simpa using hf) (by omega)
  · by_cases q0 : 0 ≤ i
    · by_cases q1 : i < 8
      · by_cases q2 : 0 ≤ m
        · exact costs_bad1 s p u a n c xs i m w hbk hr q0 q1 q2 (by omega)
        · exact costs_bad2 s p u a n c xs i m w hbk hr q0 q1 (by omega)
      · exact costs_bad3 s p u a n c xs i m w hbk hr q0 (by omega)
    · exact costs_bad4 s p u a n c xs i m w hbk hr (by omega)
end Go.Proofs.Ytdphejjiiogikaa
