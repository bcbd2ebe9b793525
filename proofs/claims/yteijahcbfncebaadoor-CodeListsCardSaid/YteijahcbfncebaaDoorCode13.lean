/- The statement of answers' octets, for any arguments. -/
import Derived.Test.YteijahcbfncebaaDoorCode12
import Derived.Test.YteijahcbfncebaaDoorRd
import Derived.Test.YteijahcbfncebaaDoorLaw02
import Derived.RegionTactic
import Derived.BigRegion
import Derived.ChangeAlike
namespace Go.Proofs.YteijahcbfncebaaDoor
set_option linter.unusedVariables false
set_option linter.unusedSimpArgs false
open Go.ChangeShapes Go.WideShapes Go.ChangeAt Go.RowKit
/-- an answer, as it comes in. -/
theorem Arg.answer {W : World} {v : Value} (h : Arg Tryd.prog W 49 v) : ∃ x n m : Int, v = .agg #[.int .i64 x, .int .i64 n, .int .i64 m] ∧ fits x = true ∧ fits n = true ∧ fits m = true := by
  obtain ⟨u, hu⟩ : ∃ u, Tryd.prog.underlying 49 = some (.struct u) := ⟨_, Tryd.underlying49⟩
  obtain ⟨cs, rfl, hok⟩ := h.flat_struct (f := 5) (ks := List.replicate 3 (some IntKind.i64)) hu (by kernel_rfl)
  have hl := hok.len
  rcases cs with ⟨cs⟩
  match cs, hl, hok with
  | [a, b, c], _, hok =>
    obtain ⟨ha, hb, hc, _⟩ := hok
    obtain ⟨x, rfl, hx⟩ := ha
    obtain ⟨n, rfl, hn⟩ := hb
    obtain ⟨m, rfl, hm⟩ := hc
    exact ⟨x, n, m, rfl, fits_wf hx, fits_wf hn, fits_wf hm⟩
theorem tells_walk (v0 v1 : Value) (w : World) (hL : laidMet Tryd.prog Rows.codeTellsRow.laid w) (h0 : Arg Tryd.prog w 49 v0) (h1 : Arg Tryd.prog w 30 v1) :
    Calls Tryd.prog 6 #[v0, v1] w fun e w' => e = .returned (.bool true) ∧ Below w.heap.size w w' := by
  have hT : TabF w := tabF_of hL
  obtain ⟨x, n, m, rfl, hfx⟩ := h0.answer
  obtain ⟨a1, n1, c1, bs, rfl, hn1, hc1, _, hbl, hsl⟩ := h1.bytes
  by_cases h6 : n1 = 6
  · subst h6
    rcases hv : inB (wrap64 (tkN (tkS (bs, true) 1) 4 : Int)) 0 2147483647 with _ | _
    · rcases hx : (inB x 0 255 && inB m 0 255 && inB n 0 2147483647) with _ | _
      · exact tells_no_bad x n m a1 c1 w bs hv hx hfx hT hsl
      · simp only [Bool.and_eq_true] at hx
        exact tells_no_ok x n m a1 c1 w bs hv hx.1.1 hx.1.2 hx.2 hfx hT hsl
    · obtain ⟨z1, z2, z3, rfl, hz1, hz3, hz2⟩ := ans_dec hbl hv
      have hfz : fits z1 = true ∧ fits z2 = true ∧ fits z3 = true := by
        have q1 := inB_iff.1 hz1
        have q2 := inB_iff.1 hz2
        have q3 := inB_iff.1 hz3
        refine ⟨?_, ?_, ?_⟩ <;> (unfold fits; simp; omega)
      rcases hx : (inB x 0 255 && inB m 0 255 && inB n 0 2147483647) with _ | _
      · exact tells_yes_bad x n m a1 c1 w z1 z2 z3 hz1 hz3 hz2 hfz hx hfx hT hsl
      · simp only [Bool.and_eq_true] at hx
        exact tells_yes_ok x n m a1 c1 w z1 z2 z3 hz1 hz3 hz2 hfz hx.1.1 hx.1.2 hx.2 hfx hT hsl
  · rcases hx : (inB x 0 255 && inB m 0 255 && inB n 0 2147483647) with _ | _
    · exact tells_len_bad x n m a1 c1 w n1 bs h6 (by omega) hx hfx hT hsl
    · simp only [Bool.and_eq_true] at hx
      exact tells_len_ok x n m a1 c1 w n1 bs h6 (by omega) hx.1.1 hx.1.2 hx.2 hfx hT hsl
end Go.Proofs.YteijahcbfncebaaDoor
