/- A step of a script that takes what is free. -/
import Derived.Test.YtcfipimhpeblbaaTen10
import Derived.Test.YtcfipimhpeblbaaTen7
import Derived.Deep.DeepCutAuto
import Derived.Maps.AppendAt
import Derived.Test.YtcfipimhpeblbaaRow
import Derived.Test.YtcfipimhpeblbaaOps
import Derived.RegionTactic
import Derived.BigRegion
import Derived.ChangeAlike
namespace Go.Proofs.Ytcfipimhpeblbaa
set_option linter.unusedVariables false
set_option linter.unusedSimpArgs false
open Go.ChangeShapes Go.WideShapes Go.ChangeAt Go.RowKit
set_option maxRecDepth 100000 in
set_option maxHeartbeats 8000000 in
theorem step_yes {w : World} {g n c mc : Nat} {a ma : Option Addr} {L : List Int} (x0 x1 x2 x3 x4 x5 x6 x7 x8 x9 x10 x11 : Int) (S : St w g a n c ma mc L) (hf : Hid (∀ k, fits (L.getD k 0) = true)) (hx : ∀ z ∈ [x0, x1, x2, x3, x4, x5, x6, x7, x8, x9, x10, x11], fits z = true) (hn : n ≤ 900) (h0 : x0 = 2) (hfr : freeV L x10 x11 n = true) :
    Calls Try.prog 19 #[.pointer (some ⟨g, 0, none⟩), .slice ma n mc, .agg #[.int .i64 x0, .int .i64 x1, .int .i64 x2, .int .i64 x3, .int .i64 x4, .int .i64 x5, .int .i64 x6, .int .i64 x7, .int .i64 x8, .int .i64 x9, .int .i64 x10, .int .i64 x11]] w fun e w' => StepR w g n e w' := by
  obtain ⟨j, hj, hjn⟩ : ∃ j : Nat, idxC L x10 x11 n = j ∧ j < n := by
    rcases @idxC_lt L x10 x11 n with h | h
    · exfalso
      unfold freeV at hfr
      rw [h] at hfr
      simp at hfr
    · exact h
  have HB := Lib.hid ((Below.refl w.heap.size w).alloc (Nat.le_refl _) (.cells #[.int .i64 x0, .int .i64 x1, .int .i64 x2, .int .i64 x3, .int .i64 x4, .int .i64 x5, .int .i64 x6, .int .i64 x7, .int .i64 x8, .int .i64 x9, .int .i64 x10, .int .i64 x11] 50))
  have X1 : Hid (Blk (w.alloc (.cells #[.int .i64 x0, .int .i64 x1, .int .i64 x2, .int .i64 x3, .int .i64 x4, .int .i64 x5, .int .i64 x6, .int .i64 x7, .int .i64 x8, .int .i64 x9, .int .i64 x10, .int .i64 x11] 50)) w.heap.size (#[.int .i64 x0, .int .i64 x1, .int .i64 x2, .int .i64 x3, .int .i64 x4, .int .i64 x5, .int .i64 x6, .int .i64 x7, .int .i64 x8, .int .i64 x9, .int .i64 x10, .int .i64 x11] : Array Value).toList 50) := Lib.hid (Blk.new w #[.int .i64 x0, .int .i64 x1, .int .i64 x2, .int .i64 x3, .int .i64 x4, .int .i64 x5, .int .i64 x6, .int .i64 x7, .int .i64 x8, .int .i64 x9, .int .i64 x10, .int .i64 x11] 50)
  have S1 := Lib.hid (S.keep HB.out)
  have NG : Hid (¬ w.heap.size = g) := Lib.hid (fun e => by have := S.t.b.lt; omega)
  have GW : Hid (g < w.heap.size) := Lib.hid S.t.b.lt
  have f1 : fits x10 = true := hx x10 (by simp)
  have f2 : fits x11 = true := hx x11 (by simp)
  have TK := Lib.hid (ttake_yes (Lib.hid S1.out.t) x10 x11 j hf f1 f2 (by omega) hfr hj hjn)
  have FR := Lib.hid (fun w' hs => lfree_any ma n mc L x10 x11 w' (Lib.hid hs) hf f1 f2 (by omega))
  rw [hfr] at FR
  have RF0 := Lib.hid (fun w' hs => rfindS_any ma n mc L x10 x11 w' (Lib.hid hs) hf f1 f2 (by omega))
  rw [hj] at RF0
  have RW := Lib.hid (fun w' hs => rwithS_any ma n mc L (j : Int) w' (Lib.hid hs) (by omega))
  have FP := Lib.hid (withTo_fits (x := (j : Int)) (n := n) hf.out)
  have HL : L.length = n * 9 := by have := S.m.1; rwa [ints_len] at this
  have LR : Hid ((rAt 9 L j).length = 9) := Lib.hid (rAt_len HL hjn)
  have NE := Lib.hid (fun w => cg_eqlS (rAt 9 L j) LR.out (rAt_fits hf.out) w)
  have CL := Lib.hid (cntTo7_le (j : Int) n)
  have MG := Lib.hid S.mg
  subst h0
  clear f1 f2 hx S hfr hj HL
  go_enter Try.func19, Try.ntmps19
  go_upto_region 1 with fail
  generalize hg0 : w.heap.size = g0 at *
  have HG0 := Lib.hid hg0
  generalize w.alloc (.cells #[.int .i64 2, .int .i64 x1, .int .i64 x2, .int .i64 x3, .int .i64 x4, .int .i64 x5, .int .i64 x6, .int .i64 x7, .int .i64 x8, .int .i64 x9, .int .i64 x10, .int .i64 x11] 50) = w1 at *
  clear hg0
  have c0 : w1.cell? ⟨g0, 0, none⟩ = some (.int .i64 2) := X1.out.cell 0
  have rI := X1.out.range 10 (ints [x10, x11]) rfl
  have TI : RowT 34 (ints [x10, x11]).length := rowIdS
  go_upto_region 6 with fail
  go_wp2_with (first
    | ((with_reducible refine ld_row rI TI ?_ ?_ ?_); (· rfl); (· rfl); (simp only [Act.put, List.setIfInBounds_toArray, List.set_cons_zero, List.set_cons_succ])))
  refine TK.out.mono ?_
  rintro e w2 ⟨rfl, ⟨a2, c2, t2⟩, ho2⟩
  generalize hcn : cntTo7 (j : Int) n = cn at *
  have T2 := Lib.hid t2
  have HO2 := Lib.hid ((Only.ofBelow' (p := fun k => k = g) (show Below w.heap.size w w1 from HG0.out.symm ▸ HB.out)).trans ho2)
  have X2 := Lib.hid (X1.out.only ho2 NG.out)
  have M2 := Lib.hid (slOnly S1.out.m MG.out ho2)
  clear t2 ho2 HB X1 S1 TK rI c0 MG
  have TX : Hid (RowT 36 (ints (rAt 9 L j)).length) := Lib.hid (by rw [ints_len, LR.out]; exact rowChg)
  have EX : Hid (((ints (rAt 9 L j)).drop 0).take (ints (rAt 9 L j)).length = ints (rAt 9 L j)) := Lib.hid (by simp)
  have OX : Hid (∀ u ∈ ints (rAt 9 L j), u.oneCell' = true) := Lib.hid fun u hu => ints_one hu
  have hlx : (#[.int .i64 0, .int .i64 0, .int .i64 0, .int .i64 0, .int .i64 0, .int .i64 0, .int .i64 0, .int .i64 0, .int .i64 0] : Array Value).size = (ints (rAt 9 L j)).length := by rw [ints_len, LR.out]; rfl
  generalize hX : ints (rAt 9 L j) = X at *
  have HX := Lib.hid hX
  have TO := TX.out
  go_upto_region 7 with (first
    | ((with_reducible refine st_row_new (old := #[.int .i64 0, .int .i64 0, .int .i64 0, .int .i64 0, .int .i64 0, .int .i64 0, .int .i64 0, .int .i64 0, .int .i64 0]) TO OX.out ?_ ?_ hlx ?_); (· rfl); (· rfl); (simp only [Act.put, List.setIfInBounds_toArray, List.set_cons_zero, List.set_cons_succ])))
  generalize hg7 : w2.heap.size = g7 at *
  have HG7 := Lib.hid (show g < g7 from hg7 ▸ T2.out.b.lt)
  have D3 : Hid (Blk (w2.alloc (.cells X.toArray 36)) g7 X 36) := Lib.hid (hg7 ▸ Blk.new w2 X.toArray 36)
  have hal := (Below.refl w2.heap.size w2).alloc (Nat.le_refl _) (.cells X.toArray 36)
  have HO3 := Lib.hid (HO2.out.trans (Only.ofBelow' hal))
  have X3 := Lib.hid (X2.out.keep hal X2.out.lt)
  have T3 := Lib.hid (T2.out.keep hal)
  have M3 := Lib.hid (M2.out.keep hal)
  generalize w2.alloc (.cells X.toArray 36) = w3 at *
  clear hal HO2 X2 T2 M2 hg7 hX
  have rI := X3.out.range 10 (ints [x10, x11]) rfl
  have F3 := Lib.hid (FR.out w3 M3.out)
  go_wp2_with (first
    | ((with_reducible refine ld_row rI TI ?_ ?_ ?_); (· rfl); (· rfl); (simp only [Act.put, List.setIfInBounds_toArray, List.set_cons_zero, List.set_cons_succ])))
  refine F3.out.mono ?_
  rintro e w5 ⟨rfl, hb⟩
  have HO5 := Lib.hid (HO3.out.trans (Only.ofBelow' hb))
  have D5 := Lib.hid (D3.out.keep hb D3.out.lt)
  have X5 := Lib.hid (X3.out.keep hb X3.out.lt)
  have T5 := Lib.hid (T3.out.keep hb)
  have M5 := Lib.hid (M3.out.keep hb)
  clear hb rI HO3 X3 T3 M3 D3 F3 FR
  go_upto_region 9 with fail
  have rI := X5.out.range 10 (ints [x10, x11]) rfl
  have F5 := Lib.hid (RF0.out w5 M5.out)
  go_wp2_with (first
    | ((with_reducible refine ld_row rI TI ?_ ?_ ?_); (· rfl); (· rfl); (simp only [Act.put, List.setIfInBounds_toArray, List.set_cons_zero, List.set_cons_succ])))
  refine F5.out.mono ?_
  rintro e w7 ⟨rfl, hb⟩
  have HO7 := Lib.hid (HO5.out.trans (Only.ofBelow' hb))
  have D7 := Lib.hid (D5.out.keep hb D5.out.lt)
  have X7 := Lib.hid (X5.out.keep hb X5.out.lt)
  have T7 := Lib.hid (T5.out.keep hb)
  have M7 := Lib.hid (M5.out.keep hb)
  clear hb rI HO5 X5 T5 M5 D5 F5 RF0
  have WC := Lib.hid (fun w' (hb : Below w7.heap.size w7 w') => RW.out w' (M7.out.keep hb))
  obtain ⟨b, off, rfl, hlc, hra⟩ := rAt_at M7.out hjn
  rw [HX.out] at hra
  have hj0 : (0 : Int) ≤ j := by omega
  have hjI : (j : Int) < n := by omega
  clear RW HX LR
  go_upto_region 10 with fail
  refine held_begin (fun w' => Below w7.heap.size w7 w') 14 [false, false, false, false, false, false, false, false, false, false, false, false, false, false] (by kernel_rfl) rfl (by rfl) ?_
  have hHeld : Below w7.heap.size w7 w7.drew := (Below.refl _ _).drew
  refine held_take (v := ?_) 0 61 [true, false, false, false, false, false, false, false, false, false, false, false, false, false] rfl (by rfl) (by rfl) (by kernel_rfl) (by kernel_rfl) (by kernel_rfl) (by rfl) (fun _ _ _ h => h) ?_ hHeld ?_
  rotate_left
  · intro w hSw; go_simp <;> with_reducible rfl
  simp only [Act.put, List.setIfInBounds_toArray, List.set_cons_zero, List.set_cons_succ]
  refine held_take (v := ?_) 1 62 [true, true, false, false, false, false, false, false, false, false, false, false, false, false] rfl (by rfl) (by rfl) (by kernel_rfl) (by kernel_rfl) (by kernel_rfl) (by rfl) (fun _ _ _ h => h) ?_ hHeld ?_
  rotate_left
  · intro w hSw; go_simp <;> with_reducible rfl
  simp only [Act.put, List.setIfInBounds_toArray, List.set_cons_zero, List.set_cons_succ]
  refine held_take (v := ?_) 3 64 [true, true, false, true, false, false, false, false, false, false, false, false, false, false] rfl (by rfl) (by rfl) (by kernel_rfl) (by kernel_rfl) (by kernel_rfl) (by rfl) (fun _ _ _ h => h) ?_ hHeld ?_
  rotate_left
  · intro w hSw; go_simp <;> with_reducible rfl
  simp only [Act.put, List.setIfInBounds_toArray, List.set_cons_zero, List.set_cons_succ]
  refine held_call 2 63 [true, true, true, true, false, false, false, false, false, false, false, false, false, false] (by kernel_rfl) rfl (by rfl) (by rfl) (by rfl) (by go_simp) ((WC.out _ hHeld).mono ?_)
  rintro e w8 ⟨v8, rfl, hown8, hb8⟩
  obtain ⟨a8, c8, rfl, hs8, hz8, hn8, hf8⟩ := own_slF hown8
  refine ⟨_, rfl, hHeld.trans (hb8.mono hHeld.size), fun hHeld => ?_⟩
  simp only [Act.put, List.setIfInBounds_toArray, List.set_cons_zero, List.set_cons_succ]
  refine held_take (v := ?_) 4 65 [true, true, true, true, true, false, false, false, false, false, false, false, false, false] rfl (by rfl) (by rfl) (by kernel_rfl) (by kernel_rfl) (by kernel_rfl) (by rfl) (fun _ _ _ h => h) ?_ hHeld ?_
  rotate_left
  · intro w hSw; go_simp <;> with_reducible rfl
  simp only [Act.put, List.setIfInBounds_toArray, List.set_cons_zero, List.set_cons_succ]
  refine held_take (v := .agg X.toArray) 5 66 [true, true, true, true, true, true, false, false, false, false, false, false, false, false] rfl (by rfl) (by rfl) (by kernel_rfl) (by kernel_rfl) (by kernel_rfl) (by rfl) (fun _ _ _ h => h) (fun w' h => run_op_load rfl rfl ((D7.out.keep h D7.out.lt).range 0 X EX.out) Try.underlying36 rfl TX.out.2) hHeld ?_
  simp only [Act.put, List.setIfInBounds_toArray, List.set_cons_zero, List.set_cons_succ]
  refine held_take (v := ?_) 6 67 [true, true, true, true, true, true, true, false, false, false, false, false, false, false] rfl (by rfl) (by rfl) (by kernel_rfl) (by kernel_rfl) (by kernel_rfl) (by rfl) (fun _ _ _ h => h) ?_ hHeld ?_
  rotate_left
  · intro w hSw; go_simp <;> with_reducible rfl
  simp only [Act.put, List.setIfInBounds_toArray, List.set_cons_zero, List.set_cons_succ]
  refine held_take (v := ?_) 7 68 [true, true, true, true, true, true, true, true, false, false, false, false, false, false] rfl (by rfl) (by rfl) (by kernel_rfl) (by kernel_rfl) (by kernel_rfl) (by rfl) (fun _ _ _ h => h) ?_ hHeld ?_
  rotate_left
  · intro w hSw; go_simp <;> with_reducible rfl
  simp only [Act.put, List.setIfInBounds_toArray, List.set_cons_zero, List.set_cons_succ]
  refine held_take (v := .pointer (some ⟨b, off + j * 9, none⟩)) 8 69 [true, true, true, true, true, true, true, true, true, false, false, false, false, false] rfl (by rfl) (by rfl) (by kernel_rfl) (by kernel_rfl) (by kernel_rfl) (by rfl) (fun _ _ _ h => h) (fun w' h => by first | (go_simp; done) | (go_simp; omega) | (go_simp <;> rfl)) hHeld ?_
  simp only [Act.put, List.setIfInBounds_toArray, List.set_cons_zero, List.set_cons_succ]
  refine held_take (v := .agg X.toArray) 9 70 [true, true, true, true, true, true, true, true, true, true, false, false, false, false] rfl (by rfl) (by rfl) (by kernel_rfl) (by kernel_rfl) (by kernel_rfl) (by rfl) (fun _ _ _ h => h) (fun w' h => run_op_load rfl rfl (range_keepG hra h hlc) Try.underlying36 rfl TX.out.2) hHeld ?_
  simp only [Act.put, List.setIfInBounds_toArray, List.set_cons_zero, List.set_cons_succ]
  refine held_take (v := .bool true) 10 71 [true, true, true, true, true, true, true, true, true, true, true, false, false, false] rfl (by rfl) (by rfl) (by kernel_rfl) (by kernel_rfl) (by kernel_rfl) (by rfl) (fun _ _ _ h => h) (fun w' h => run_op_cmp rfl rfl rfl egCgS (NE.out w')) hHeld ?_
  simp only [Act.put, List.setIfInBounds_toArray, List.set_cons_zero, List.set_cons_succ]
  refine held_take (v := ?_) 11 72 [true, true, true, true, true, true, true, true, true, true, true, true, false, false] rfl (by rfl) (by rfl) (by kernel_rfl) (by kernel_rfl) (by kernel_rfl) (by rfl) (fun _ _ _ h => h) ?_ hHeld ?_
  rotate_left
  · intro w hSw; go_simp <;> with_reducible rfl
  simp only [Act.put, List.setIfInBounds_toArray, List.set_cons_zero, List.set_cons_succ]
  refine held_take (v := ?_) 12 6 [true, true, true, true, true, true, true, true, true, true, true, true, true, false] rfl (by rfl) (by rfl) (by kernel_rfl) (by kernel_rfl) (by kernel_rfl) (by rfl) (fun _ _ _ h => h) ?_ hHeld ?_
  rotate_left
  · intro w hSw; go_simp <;> with_reducible rfl
  simp only [Act.put, List.setIfInBounds_toArray, List.set_cons_zero, List.set_cons_succ]
  refine held_take (v := ?_) 13 7 [true, true, true, true, true, true, true, true, true, true, true, true, true, true] rfl (by rfl) (by rfl) (by kernel_rfl) (by kernel_rfl) (by kernel_rfl) (by rfl) (fun _ _ _ h => h) ?_ hHeld ?_
  rotate_left
  · intro w hSw; go_simp <;> with_reducible rfl
  simp only [Act.put, List.setIfInBounds_toArray, List.set_cons_zero, List.set_cons_succ]
  refine held_done (by kernel_rfl) ?_
  have HM : cn = 0 ∨ ∀ ad, a8 = some ad → ad.block ≠ g := hf8.imp id (fun h ad e => by
    have h1 := h ad e
    have h2 := T7.out.b.lt
    have h3 : w7.drew.heap.size = w7.heap.size := rfl
    omega)
  have ST : Hid (St w8 g a2 cn c2 a8 c8 (withTo L j n)) := Lib.hid ⟨T7.out.keep hHeld, hs8, hz8, hn8, HM⟩
  have HO9 := Lib.hid (HO7.out.trans (Only.ofBelow' hHeld))
  clear hHeld hs8 hz8 hn8 hf8 HM hown8 hb8 WC D7 X7 T7 M7 HO7
  go_wp2_with fail
  go_ret2
  exact ⟨a2, cn, c2, a8, c8, _, rfl, ST.out, FP.out, by have := CL.out; omega, HO9.out⟩
end Go.Proofs.Ytcfipimhpeblbaa
