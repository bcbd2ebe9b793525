/- A step of a script, whatever it is. -/
import Derived.Test.YtcfipimhpeblbaaTen11
import Derived.Deep.DeepCutAuto
import Derived.Maps.AppendAt
import Derived.Test.YtcfipimhpeblbaaRow
import Derived.Test.YtcfipimhpeblbaaOps
import Derived.RegionTactic
import Derived.BigRegion
import Derived.ChangeAlike
namespace Go.Proofs.Ytcfipimhpeblbaa
set_option linter.unusedVariables false
set_option linter.unusedSimpArgs false
open Go.ChangeShapes Go.WideShapes Go.ChangeAt Go.RowKit
set_option maxRecDepth 100000 in
set_option maxHeartbeats 8000000 in
theorem step_free {w : World} {g n c mc : Nat} {a ma : Option Addr} {L : List Int} (x0 x1 x2 x3 x4 x5 x6 x7 x8 x9 x10 x11 : Int) (S : St w g a n c ma mc L) (hf : Hid (∀ k, fits (L.getD k 0) = true)) (hx : ∀ z ∈ [x0, x1, x2, x3, x4, x5, x6, x7, x8, x9, x10, x11], fits z = true) (hn : n ≤ 900) (h0 : (x0 == 1) = false) (h2 : (x0 == 2) = false) :
    Calls Try.prog 19 #[.pointer (some ⟨g, 0, none⟩), .slice ma n mc, .agg #[.int .i64 x0, .int .i64 x1, .int .i64 x2, .int .i64 x3, .int .i64 x4, .int .i64 x5, .int .i64 x6, .int .i64 x7, .int .i64 x8, .int .i64 x9, .int .i64 x10, .int .i64 x11]] w fun e w' => StepR w g n e w' := by
  have HB := Lib.hid ((Below.refl w.heap.size w).alloc (Nat.le_refl _) (.cells #[.int .i64 x0, .int .i64 x1, .int .i64 x2, .int .i64 x3, .int .i64 x4, .int .i64 x5, .int .i64 x6, .int .i64 x7, .int .i64 x8, .int .i64 x9, .int .i64 x10, .int .i64 x11] 50))
  have X1 : Hid (Blk (w.alloc (.cells #[.int .i64 x0, .int .i64 x1, .int .i64 x2, .int .i64 x3, .int .i64 x4, .int .i64 x5, .int .i64 x6, .int .i64 x7, .int .i64 x8, .int .i64 x9, .int .i64 x10, .int .i64 x11] 50)) w.heap.size (#[.int .i64 x0, .int .i64 x1, .int .i64 x2, .int .i64 x3, .int .i64 x4, .int .i64 x5, .int .i64 x6, .int .i64 x7, .int .i64 x8, .int .i64 x9, .int .i64 x10, .int .i64 x11] : Array Value).toList 50) := Lib.hid (Blk.new w #[.int .i64 x0, .int .i64 x1, .int .i64 x2, .int .i64 x3, .int .i64 x4, .int .i64 x5, .int .i64 x6, .int .i64 x7, .int .i64 x8, .int .i64 x9, .int .i64 x10, .int .i64 x11] 50)
  have S1 := Lib.hid (S.keep HB.out)
  have NG : Hid (¬ w.heap.size = g) := Lib.hid (fun e => by have := S.t.b.lt; omega)
  have GW : Hid (g < w.heap.size) := Lib.hid S.t.b.lt
  have f1 : fits x10 = true := hx x10 (by simp)
  have f2 : fits x11 = true := hx x11 (by simp)
  obtain ⟨FV, hFV⟩ : ∃ FV, FV = freeV L x10 x11 n := ⟨_, rfl⟩
  have TF := Lib.hid (fun w' (hb : Below (w.alloc (.cells #[.int .i64 x0, .int .i64 x1, .int .i64 x2, .int .i64 x3, .int .i64 x4, .int .i64 x5, .int .i64 x6, .int .i64 x7, .int .i64 x8, .int .i64 x9, .int .i64 x10, .int .i64 x11] 50)).heap.size (w.alloc (.cells #[.int .i64 x0, .int .i64 x1, .int .i64 x2, .int .i64 x3, .int .i64 x4, .int .i64 x5, .int .i64 x6, .int .i64 x7, .int .i64 x8, .int .i64 x9, .int .i64 x10, .int .i64 x11] 50)) w') => tfree_any (Lib.hid (S1.out.t.keep hb)) x10 x11 hf f1 f2 (by omega))
  have FR := Lib.hid (fun w' (hb : Below (w.alloc (.cells #[.int .i64 x0, .int .i64 x1, .int .i64 x2, .int .i64 x3, .int .i64 x4, .int .i64 x5, .int .i64 x6, .int .i64 x7, .int .i64 x8, .int .i64 x9, .int .i64 x10, .int .i64 x11] 50)).heap.size (w.alloc (.cells #[.int .i64 x0, .int .i64 x1, .int .i64 x2, .int .i64 x3, .int .i64 x4, .int .i64 x5, .int .i64 x6, .int .i64 x7, .int .i64 x8, .int .i64 x9, .int .i64 x10, .int .i64 x11] 50)) w') => lfree_any ma n mc L x10 x11 w' (Lib.hid (S1.out.m.keep hb)) hf f1 f2 (by omega))
  rw [← hFV] at TF FR
  clear f1 f2 hx S hFV
  go_enter Try.func19, Try.ntmps19
  go_upto_region 1 with fail
  generalize hg0 : w.heap.size = g0 at *
  have HG0 := Lib.hid hg0
  generalize w.alloc (.cells #[.int .i64 x0, .int .i64 x1, .int .i64 x2, .int .i64 x3, .int .i64 x4, .int .i64 x5, .int .i64 x6, .int .i64 x7, .int .i64 x8, .int .i64 x9, .int .i64 x10, .int .i64 x11] 50) = w1 at *
  clear hg0
  have c0 : w1.cell? ⟨g0, 0, none⟩ = some (.int .i64 x0) := X1.out.cell 0
  have lx := Lib.hid X1.out.lt
  have hFF : (FV == FV) = true := by simp
  go_upto_region 11 with fail
  refine q_begin (by kernel_rfl) (by kernel_rfl) ?_
  repeat (first
    | go_big_quiet_skip
    | ((with_reducible apply q_part (xs := ints [x10, x11]) (off := 10)); (· rfl); (· rfl); (· exact Try.underlying34); (· rfl); (· exact X1.out); (· exact lx.out); (· rfl); (· exact rowIdS.2); (simp only [Act.put, List.setIfInBounds_toArray, List.set_cons_zero, List.set_cons_succ]))
    | ((with_reducible apply q_call 17 (.bool FV)); (· rfl); (· exact Nat.le_refl _); (· intro w hw; exact TF.out w hw); (· intro w; first | (go_simp; done) | (go_simp <;> rfl)); (simp only [Act.put, List.setIfInBounds_toArray, List.set_cons_zero, List.set_cons_succ]))
    | ((with_reducible apply q_call 30 (.bool FV)); (· rfl); (· exact Nat.le_refl _); (· intro w hw; exact FR.out w hw); (· intro w; first | (go_simp; done) | (go_simp <;> rfl)); (simp only [Act.put, List.setIfInBounds_toArray, List.set_cons_zero, List.set_cons_succ]))
    | (go_big_quiet_want; go_big_quiet_op; (first | go_big_quiet_on | (apply Exists.intro; refine ⟨fun _ _ => rfl, ?_⟩; go_big_quiet_on))))
  refine q_end ?_
  intro w8 hb8
  have HB8 := Lib.hid (HB.out.trans (hb8.mono (HG0.out ▸ HB.out.size)))
  have S8 := Lib.hid (S1.out.keep hb8)
  clear hb8 HB S1
  go_wp2_with fail
  go_ret2
  have hge := HG0.out
  subst hge
  exact ⟨a, n, c, ma, mc, L, by simp, S8.out, hf.out, by omega, Only.ofBelow' HB8.out⟩
theorem step_any {w : World} {g n c mc : Nat} {a ma : Option Addr} {L : List Int} (x0 x1 x2 x3 x4 x5 x6 x7 x8 x9 x10 x11 : Int) (S : St w g a n c ma mc L) (hf : Hid (∀ k, fits (L.getD k 0) = true)) (hx : ∀ z ∈ [x0, x1, x2, x3, x4, x5, x6, x7, x8, x9, x10, x11], fits z = true) (hn : n ≤ 900) :
    Calls Try.prog 19 #[.pointer (some ⟨g, 0, none⟩), .slice ma n mc, .agg #[.int .i64 x0, .int .i64 x1, .int .i64 x2, .int .i64 x3, .int .i64 x4, .int .i64 x5, .int .i64 x6, .int .i64 x7, .int .i64 x8, .int .i64 x9, .int .i64 x10, .int .i64 x11]] w fun e w' => StepR w g n e w' := by
  by_cases h1 : x0 = 1
  · exact step_put x0 x1 x2 x3 x4 x5 x6 x7 x8 x9 x10 x11 S hf hx hn h1
  · by_cases h2 : x0 = 2
    · cases hfr : freeV L x10 x11 n with
      | false => exact step_no x0 x1 x2 x3 x4 x5 x6 x7 x8 x9 x10 x11 S hf hx hn h2 hfr
      | true => exact step_yes x0 x1 x2 x3 x4 x5 x6 x7 x8 x9 x10 x11 S hf hx hn h2 hfr
    · exact step_free x0 x1 x2 x3 x4 x5 x6 x7 x8 x9 x10 x11 S hf hx hn (by simpa using h1) (by simpa using h2)
end Go.Proofs.Ytcfipimhpeblbaa
