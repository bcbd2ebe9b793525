/- A step of a script that takes, or tells what is free. -/
import Derived.Test.YtcfipimhpeblbaaTen9
import Derived.Test.YtcfipimhpeblbaaTen8
import Derived.Deep.DeepCutAuto
import Derived.Maps.AppendAt
import Derived.Test.YtcfipimhpeblbaaRow
import Derived.Test.YtcfipimhpeblbaaOps
import Derived.RegionTactic
import Derived.BigRegion
import Derived.ChangeAlike
namespace Go.Proofs.Ytcfipimhpeblbaa
set_option linter.unusedVariables false
set_option linter.unusedSimpArgs false
open Go.ChangeShapes Go.WideShapes Go.ChangeAt Go.RowKit
set_option maxRecDepth 100000 in
set_option maxHeartbeats 8000000 in
theorem step_no {w : World} {g n c mc : Nat} {a ma : Option Addr} {L : List Int} (x0 x1 x2 x3 x4 x5 x6 x7 x8 x9 x10 x11 : Int) (S : St w g a n c ma mc L) (hf : Hid (∀ k, fits (L.getD k 0) = true)) (hx : ∀ z ∈ [x0, x1, x2, x3, x4, x5, x6, x7, x8, x9, x10, x11], fits z = true) (hn : n ≤ 900) (h0 : x0 = 2) (hfr : freeV L x10 x11 n = false) :
    Calls Try.prog 19 #[.pointer (some ⟨g, 0, none⟩), .slice ma n mc, .agg #[.int .i64 x0, .int .i64 x1, .int .i64 x2, .int .i64 x3, .int .i64 x4, .int .i64 x5, .int .i64 x6, .int .i64 x7, .int .i64 x8, .int .i64 x9, .int .i64 x10, .int .i64 x11]] w fun e w' => StepR w g n e w' := by
  have HB := Lib.hid ((Below.refl w.heap.size w).alloc (Nat.le_refl _) (.cells #[.int .i64 x0, .int .i64 x1, .int .i64 x2, .int .i64 x3, .int .i64 x4, .int .i64 x5, .int .i64 x6, .int .i64 x7, .int .i64 x8, .int .i64 x9, .int .i64 x10, .int .i64 x11] 50))
  have X1 : Hid (Blk (w.alloc (.cells #[.int .i64 x0, .int .i64 x1, .int .i64 x2, .int .i64 x3, .int .i64 x4, .int .i64 x5, .int .i64 x6, .int .i64 x7, .int .i64 x8, .int .i64 x9, .int .i64 x10, .int .i64 x11] 50)) w.heap.size (#[.int .i64 x0, .int .i64 x1, .int .i64 x2, .int .i64 x3, .int .i64 x4, .int .i64 x5, .int .i64 x6, .int .i64 x7, .int .i64 x8, .int .i64 x9, .int .i64 x10, .int .i64 x11] : Array Value).toList 50) := Lib.hid (Blk.new w #[.int .i64 x0, .int .i64 x1, .int .i64 x2, .int .i64 x3, .int .i64 x4, .int .i64 x5, .int .i64 x6, .int .i64 x7, .int .i64 x8, .int .i64 x9, .int .i64 x10, .int .i64 x11] 50)
  have S1 := Lib.hid (S.keep HB.out)
  have NG : Hid (¬ w.heap.size = g) := Lib.hid (fun e => by have := S.t.b.lt; omega)
  have GW : Hid (g < w.heap.size) := Lib.hid S.t.b.lt
  have f1 : fits x10 = true := hx x10 (by simp)
  have f2 : fits x11 = true := hx x11 (by simp)
  have TK := Lib.hid (ttake_no (Lib.hid S1.out.t) x10 x11 hf f1 f2 (by omega) hfr)
  have FR := Lib.hid (fun w' hs => lfree_any ma n mc L x10 x11 w' (Lib.hid hs) hf f1 f2 (by omega))
  rw [hfr] at FR
  subst h0
  clear f1 f2 hx S hfr
  go_enter Try.func19, Try.ntmps19
  go_upto_region 1 with fail
  generalize hg0 : w.heap.size = g0 at *
  have HG0 := Lib.hid hg0
  generalize w.alloc (.cells #[.int .i64 2, .int .i64 x1, .int .i64 x2, .int .i64 x3, .int .i64 x4, .int .i64 x5, .int .i64 x6, .int .i64 x7, .int .i64 x8, .int .i64 x9, .int .i64 x10, .int .i64 x11] 50) = w1 at *
  clear hg0
  have c0 : w1.cell? ⟨g0, 0, none⟩ = some (.int .i64 2) := X1.out.cell 0
  have rI := X1.out.range 10 (ints [x10, x11]) rfl
  have TI : RowT 34 (ints [x10, x11]).length := rowIdS
  go_upto_region 6 with fail
  go_wp2_with (first
    | ((with_reducible refine ld_row rI TI ?_ ?_ ?_); (· rfl); (· rfl); (simp only [Act.put, List.setIfInBounds_toArray, List.set_cons_zero, List.set_cons_succ])))
  refine TK.out.mono ?_
  rintro e w2 ⟨rfl, hb⟩
  have HB2 := Lib.hid (HB.out.trans (hb.mono (HG0.out ▸ HB.out.size)))
  have X2 := Lib.hid (X1.out.keep hb X1.out.lt)
  have S2 := Lib.hid (S1.out.keep hb)
  clear hb HB X1 S1 TK rI c0
  go_upto_region 7 with fail
  generalize hg7 : w2.heap.size = g7 at *
  have HG7 := Lib.hid (show g0 ≤ g7 from hg7 ▸ HG0.out ▸ HB2.out.size)
  have D3 : Hid (Blk (w2.alloc (.cells #[.int .i64 0, .int .i64 0, .int .i64 0, .int .i64 0, .int .i64 0, .int .i64 0, .int .i64 0, .int .i64 0, .int .i64 0] 36)) g7 (ints [0, 0, 0, 0, 0, 0, 0, 0, 0]) 36) := Lib.hid (hg7 ▸ Blk.new w2 #[.int .i64 0, .int .i64 0, .int .i64 0, .int .i64 0, .int .i64 0, .int .i64 0, .int .i64 0, .int .i64 0, .int .i64 0] 36)
  have hal := (Below.refl w2.heap.size w2).alloc (Nat.le_refl _) (.cells #[.int .i64 0, .int .i64 0, .int .i64 0, .int .i64 0, .int .i64 0, .int .i64 0, .int .i64 0, .int .i64 0, .int .i64 0] 36)
  have HB3 := Lib.hid (HB2.out.trans (hal.mono (hg7.symm ▸ HG7.out)))
  have X3 := Lib.hid (X2.out.keep hal X2.out.lt)
  have S3 := Lib.hid (S2.out.keep hal)
  generalize w2.alloc (.cells #[.int .i64 0, .int .i64 0, .int .i64 0, .int .i64 0, .int .i64 0, .int .i64 0, .int .i64 0, .int .i64 0, .int .i64 0] 36) = w3 at *
  clear hal HB2 X2 S2 hg7
  have rI := X3.out.range 10 (ints [x10, x11]) rfl
  have F3 := Lib.hid (FR.out w3 S3.out.m)
  go_wp2_with (first
    | ((with_reducible refine ld_row rI TI ?_ ?_ ?_); (· rfl); (· rfl); (simp only [Act.put, List.setIfInBounds_toArray, List.set_cons_zero, List.set_cons_succ])))
  refine F3.out.mono ?_
  rintro e w7 ⟨rfl, hb⟩
  have HB7 := Lib.hid (HB3.out.trans (hb.mono (HG0.out ▸ HB3.out.size)))
  have D7 := Lib.hid (D3.out.keep hb D3.out.lt)
  have S7 := Lib.hid (S3.out.keep hb)
  have l7 := Lib.hid D7.out.lt
  have ZE : Hid (∀ w, (binOp .eql 36 (.agg #[.int .i64 0, .int .i64 0, .int .i64 0, .int .i64 0, .int .i64 0, .int .i64 0, .int .i64 0, .int .i64 0, .int .i64 0]) (.agg #[.int .i64 0, .int .i64 0, .int .i64 0, .int .i64 0, .int .i64 0, .int .i64 0, .int .i64 0, .int .i64 0, .int .i64 0])).run Try.prog w = .ok (.bool true) w) := Lib.hid (fun w => cg_eqlS [0, 0, 0, 0, 0, 0, 0, 0, 0] rfl (fits_all _ (by decide)) w)
  clear hb rI HB3 X3 S3 D3 F3 FR
  go_upto_region 8 with fail
  refine q_begin (by kernel_rfl) (by kernel_rfl) ?_
  repeat (first
    | go_big_quiet_skip
    | ((with_reducible apply q_row); (· rfl); (· rfl); (· exact Try.underlying36); (· rfl); (· exact D7.out); (· exact l7.out); (· exact rowChg.2); (simp only [Act.put, List.setIfInBounds_toArray, List.set_cons_zero, List.set_cons_succ]))
    | ((with_reducible apply q_cmp (v := .bool true)); (· rfl); (· rfl); (· rfl); (· kernel_rfl); (· intro w; exact ZE.out w); (simp only [Act.put, List.setIfInBounds_toArray, List.set_cons_zero, List.set_cons_succ]))
    | (go_big_quiet_want; go_big_quiet_op; (first | go_big_quiet_on | (apply Exists.intro; refine ⟨fun _ _ => rfl, ?_⟩; go_big_quiet_on))))
  refine q_end ?_
  intro w8 hb8
  have HB8 := Lib.hid (HB7.out.trans (hb8.mono (HG0.out ▸ HB7.out.size)))
  have S8 := Lib.hid (S7.out.keep hb8)
  clear hb8 HB7 S7 D7
  go_wp2_with fail
  go_ret2
  have hge := HG0.out
  subst hge
  exact ⟨a, n, c, ma, mc, L, rfl, S8.out, hf.out, by omega, Only.ofBelow' HB8.out⟩
end Go.Proofs.Ytcfipimhpeblbaa
