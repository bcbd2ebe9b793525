/- Scripts: each call answers as a list. -/
import Derived.Test.YtcfipimhpeblbaaTen13
import Derived.Test.YtcfipimhpeblbaaTen3
import Derived.Deep.DeepCutAuto
import Derived.Maps.AppendAt
import Derived.Test.YtcfipimhpeblbaaRow
import Derived.Test.YtcfipimhpeblbaaOps
import Derived.RegionTactic
import Derived.BigRegion
import Derived.ChangeAlike
namespace Go.Proofs.Ytcfipimhpeblbaa
set_option linter.unusedVariables false
set_option linter.unusedSimpArgs false
open Go.ChangeShapes Go.WideShapes Go.ChangeAt Go.RowKit
theorem few18_any (a : Option Addr) (n c : Nat) (w : World) (hn : n ≤ c) : Calls Try.prog 8 #[.slice a n c] w fun e w' => e = .returned (.slice a (min n 50) c) ∧ w' = w := by
  go_enter Try.func8, Try.ntmps8
  by_cases h : 50 < n
  · have h' : (50 : Int) < n := by omega
    have hc : 50 ≤ c := by omega
    rw [show min n 50 = 50 by omega]
    go_wp2_with fail
    go_ret
    exact ⟨rfl, rfl⟩
  · have h' : (n : Int) ≤ 50 := by omega
    rw [show min n 50 = n by omega]
    go_wp2_with fail
    go_ret
    exact ⟨rfl, rfl⟩
theorem flatOp : flat Try.prog 5 50 = some (List.replicate 12 (some .i64)) := by kernel_rfl
theorem Arg.ops18 {w : World} {v : Value} (h : Arg Try.prog w 22 v) : ∃ a n c L, v = .slice a n c ∧ n ≤ c ∧ Sl w a n 12 (ints L) ∧ ∀ z ∈ L, fits z = true := by
  obtain ⟨a, n, c, L, h1, h2, _, h4, h5⟩ := h.rowsG Try.underlying22 flatOp (by kernel_rfl) (by decide)
  exact ⟨a, n, c, L, h1, h2, h4, h5⟩
set_option maxRecDepth 100000 in
set_option maxHeartbeats 4000000 in
theorem truns_law (v0 : Value) (w : World) (h0 : Arg Try.prog w 22 v0) : Calls Try.prog 3 #[v0] w fun e w' => e = .returned (.bool true) ∧ Below w.heap.size w w' := by
  obtain ⟨a, n, c, L, rfl, hnc, hs, hf⟩ := h0.ops18
  have AL := Lib.hid (alive18 w)
  have HS := Lib.hid hs
  have HF := Lib.hid (fun z (hz : z ∈ L.take (min n 50 * 12)) => hf z (List.mem_of_mem_take hz))
  clear hs hf h0
  go_enter Try.func3, Try.ntmps3
  go_wp2_with fail
  refine AL.out.mono ?_
  rintro e w1 ⟨rfl, hb1⟩
  have HB1 := Lib.hid hb1
  have HS1 := Lib.hid (HS.out.keep hb1)
  clear hb1 AL HS
  go_upto_region 3 with fail
  have T1 : Tn (w1.alloc (.cells #[.slice none 0 0] 29)) w1.heap.size none 0 0 [] := ⟨Blk.new w1 #[.slice none 0 0] 29, ⟨rfl, Or.inl rfl⟩, fun _ => rfl, Nat.le_refl _⟩
  have S1 : Hid (St (w1.alloc (.cells #[.slice none 0 0] 29)) w1.heap.size none 0 0 none 0 []) := Lib.hid ⟨T1, ⟨rfl, Or.inl rfl⟩, fun _ => rfl, Nat.le_refl _, Or.inl rfl⟩
  have hal := (Below.refl w1.heap.size w1).alloc (Nat.le_refl _) (.cells #[.slice none 0 0] 29)
  have HL2 := Lib.hid ((HS1.out.keep hal).fewG (Nat.min_le_left n 50))
  have HGL : Hid (min n 50 = 0 ∨ ∀ ad, a = some ad → ad.block ≠ w1.heap.size) := Lib.hid (by
    rcases HS1.out.2 with h0 | ⟨b, off, ha, hb, _⟩
    · exact Or.inl (by omega)
    · exact Or.inr (fun ad e => by rw [ha] at e; cases e; simp only; omega))
  have HB2 := Lib.hid (HB1.out.trans (hal.mono HB1.out.size))
  have HGB := Lib.hid HB1.out.size
  have RU := Lib.hid (run_any (cl := c) S1.out (Lib.hid (by intro k; simp [fits])) (by omega) HL2 HGL HF (by omega))
  have FW := Lib.hid (fun w' => few18_any a n c w' hnc)
  clear T1 hal HS1 HB1 S1 HL2 HGL
  go_wp2_with fail
  generalize hg : w1.heap.size = g at *
  clear hg
  generalize w1.alloc (.cells #[.slice none 0 0] 29) = w2 at *
  refine (FW.out w2).mono ?_
  rintro e w3 ⟨rfl, rfl⟩
  go_wp2_with fail
  refine RU.out.mono ?_
  rintro e w4 ⟨a', n', c', ma', mc', L', rfl, _, _, _, ho⟩
  have HB4 := Lib.hid (HB2.out.trans (ho.toBelow (fun k hk => by rw [hk]; exact HGB.out) HB2.out.size))
  clear ho
  go_wp2_with fail
  go_ret
  exact ⟨rfl, HB4.out⟩
end Go.Proofs.Ytcfipimhpeblbaa
