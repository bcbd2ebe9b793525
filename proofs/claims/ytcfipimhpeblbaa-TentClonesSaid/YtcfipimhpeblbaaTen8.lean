/- Free, by the page. -/
import Derived.Test.YtcfipimhpeblbaaTen7
import Derived.Test.YtcfipimhpeblbaaQt
import Derived.Deep.DeepCutAuto
import Derived.Maps.AppendAt
import Derived.Test.YtcfipimhpeblbaaRow
import Derived.Test.YtcfipimhpeblbaaOps
import Derived.RegionTactic
import Derived.BigRegion
import Derived.ChangeAlike
namespace Go.Proofs.Ytcfipimhpeblbaa
set_option linter.unusedVariables false
set_option linter.unusedSimpArgs false
open Go.ChangeShapes Go.WideShapes Go.ChangeAt Go.RowKit
theorem q_cellF {P : Program} {ops : Array Oper} {rest : List Oper} {a : Act} {Q : Act → Prop} {B : Nat} {w0 : World} {d t g j : Nat} {v : Value} {ty ty' : TypeId} {td : TypeDesc} {ps : String} {af : Array Edge} {gd : Option (Nat × Bool)} (hx : a.eval (.tmp t) = .pointer (some ⟨g, j, none⟩))
    (hc : w0.cell? ⟨g, j, none⟩ = some v) (hlt : g < B) (hu : P.underlying ty = some td) (hd : td.isRow = false) (hw : Region.wanted ⟨some d, .load ty (.tmp t), ty', ps, af, gd⟩ (yielded ops a.tmps) = true)
    (h : wpQuiet P ops (Below B w0) Q rest (a.put (some d) v)) : wpQuiet P ops (Below B w0) Q (⟨some d, .load ty (.tmp t), ty', ps, af, gd⟩ :: rest) a :=
  q_run hw (fun w hw' => run_op_one rfl hx hu hd ((hw'.cell (p := ⟨g, j, none⟩) hlt).trans hc)) h
set_option maxRecDepth 100000 in
set_option maxHeartbeats 4000000 in
theorem lfree_any (a : Option Addr) (n c : Nat) (L : List Int) (r q : Int) (w : World) (HS : Hid (Sl w a n 9 (ints L))) (hf : Hid (∀ k, fits (L.getD k 0) = true)) (hr : fits r = true) (hq : fits q = true) (hn : n ≤ 1000) :
    Calls Try.prog 30 #[.slice a n c, .agg #[.int .i64 r, .int .i64 q]] w fun e w' => e = .returned (.bool (freeV L r q n)) ∧ Below w.heap.size w w' := by
  have HB := Lib.hid ((Below.refl w.heap.size w).alloc (Nat.le_refl _) (.cells #[.int .i64 r, .int .i64 q] 34))
  have A : Hid (Blk (w.alloc (.cells #[.int .i64 r, .int .i64 q] 34)) w.heap.size (ints [r, q]) 34) := Lib.hid (Blk.new w #[.int .i64 r, .int .i64 q] 34)
  have ST := Lib.hid (fun i => @idxP_step (hitF L r q) i)
  have HT := Lib.hid (fun i (h : idxP (hitF L r q) i = -1) (hb : hitF L r q i = true) => idxP_hit h hb n)
  have HL : Hid (L.length = n * 9) := Lib.hid (by have := HS.out.1; rwa [ints_len] at this)
  have FD := Lib.hid (fun w' hs => rfindS_any a n c L r q w' (Lib.hid hs) hf hr hq hn)
  obtain ⟨RV, hRV⟩ : ∃ RV, RV = freeV L r q n := ⟨_, rfl⟩
  rw [← hRV]
  unfold freeV at hRV
  have HRV := Lib.hid hRV
  clear hr hq hRV
  go_enter Try.func30, Try.ntmps30
  go_upto_region 2 with fail
  generalize hg0 : w.heap.size = g0 at *
  have HG0 := Lib.hid hg0
  have HS1 := Lib.hid (HS.out.keep (hg0.symm ▸ HB.out))
  generalize w.alloc (.cells #[.int .i64 r, .int .i64 q] 34) = w1 at *
  clear hg0
  go_loopg [5] n (fun q' s5 wr => ∃ i : Nat, q' + i = n ∧ s5 = .int .i64 i ∧ Hid (Below w1.heap.size w1 wr) ∧ Hid (idxP (hitF L r q) i = -1))
  case atStart => exact ⟨0, rfl, rfl, Lib.hid (Below.refl _ _), Lib.hid rfl⟩
  case round =>
    obtain ⟨i, hqi, rfl, hbr, hpre⟩ := hrel
    by_cases hi : i < n
    · obtain ⟨b, off, rfl, hb, hra⟩ := rAt_at (HS1.out.keep hbr.out) hi
      have LR := rAt_len HL.out hi
      have x0 : Hid (wr.cell? ⟨b, off + i * 9, none⟩ = some (.int .i64 (L.getD (i * 9) 0))) := Lib.hid (hra 0 _ (by rw [ints_get _ _ (by omega), rAt_get (by decide)]; rfl))
      have x1 : Hid (wr.cell? ⟨b, off + i * 9 + 1, none⟩ = some (.int .i64 (L.getD (i * 9 + 1) 0))) := Lib.hid (hra 1 _ (by rw [ints_get _ _ (by omega), rAt_get (by decide)]))
      have A2 := A.out.keep hbr.out A.out.lt
      have y0 : Hid (wr.cell? ⟨g0, 0, none⟩ = some (.int .i64 r)) := Lib.hid (A2.cell 0)
      have y1 : Hid (wr.cell? ⟨g0, 1, none⟩ = some (.int .i64 q)) := Lib.hid (A2.cell 1)
      have lb := Lib.hid hb
      have lg := Lib.hid A2.lt
      have hi0 : (0 : Int) ≤ i := by omega
      have hin : (i : Int) < n := by omega
      have hs := Lib.hid (ST.out i hpre.out)
      have ht := Lib.hid (HT.out i hpre.out)
      have HV : Hid (hitF L r q i = decide (L.getD (i * 9) 0 = r ∧ L.getD (i * 9 + 1) 0 < q)) := Lib.hid rfl
      generalize L.getD (i * 9) 0 = x at *
      generalize L.getD (i * 9 + 1) 0 = y at *
      clear hra LR A2 hb
      go_upto_region 4 with fail
      by_cases h : x = r
      · have hxb : (x == r) = true := by simpa using h
        by_cases h2 : y < q
        · have HR2 := Lib.hid (ht.out (by rw [HV.out]; exact decide_eq_true ⟨h, h2⟩) hi)
          clear h
          refine q_begin (by kernel_rfl) (by kernel_rfl) ?_
          repeat (first
            | go_big_quiet_skip
            | ((with_reducible apply q_cellF); (· rfl); (· exact x0.out); (· exact lb.out); (· exact Try.underlying3); (· rfl); (· rfl); (simp only [Act.put, List.setIfInBounds_toArray, List.set_cons_zero, List.set_cons_succ]))
            | ((with_reducible apply q_cellF); (· rfl); (· exact x1.out); (· exact lb.out); (· exact Try.underlying3); (· rfl); (· rfl); (simp only [Act.put, List.setIfInBounds_toArray, List.set_cons_zero, List.set_cons_succ]))
            | ((with_reducible apply q_cellF); (· rfl); (· exact y0.out); (· exact lg.out); (· exact Try.underlying3); (· rfl); (· rfl); (simp only [Act.put, List.setIfInBounds_toArray, List.set_cons_zero, List.set_cons_succ]))
            | ((with_reducible apply q_cellF); (· rfl); (· exact y1.out); (· exact lg.out); (· exact Try.underlying3); (· rfl); (· rfl); (simp only [Act.put, List.setIfInBounds_toArray, List.set_cons_zero, List.set_cons_succ]))
            | (go_big_quiet_want; go_big_quiet_op; (first | go_big_quiet_on | (apply Exists.intro; refine ⟨fun _ _ => rfl, ?_⟩; go_big_quiet_on))))
          refine q_end ?_
          intro w3 hb3
          have HB3 := Lib.hid (HB.out.trans ((hbr.out.trans (hb3.mono hbr.out.size)).mono (HG0.out ▸ HB.out.size)))
          have E := Lib.hid (show RV = false by rw [HRV.out, HR2.out, decide_eq_true (by omega : (0 : Int) ≤ (i : Int))]; simp)
          clear hb3 hs ht hbr
          go_wp2_with fail
          go_ret
          have hge := HG0.out
          subst hge
          exact ⟨by rw [E.out]; rfl, HB3.out⟩
        · have hp2 := Lib.hid (hs.out (by rw [HV.out]; exact decide_eq_false fun hh => h2 hh.2))
          clear h
          refine q_begin (by kernel_rfl) (by kernel_rfl) ?_
          repeat (first
            | go_big_quiet_skip
            | ((with_reducible apply q_cellF); (· rfl); (· exact x0.out); (· exact lb.out); (· exact Try.underlying3); (· rfl); (· rfl); (simp only [Act.put, List.setIfInBounds_toArray, List.set_cons_zero, List.set_cons_succ]))
            | ((with_reducible apply q_cellF); (· rfl); (· exact x1.out); (· exact lb.out); (· exact Try.underlying3); (· rfl); (· rfl); (simp only [Act.put, List.setIfInBounds_toArray, List.set_cons_zero, List.set_cons_succ]))
            | ((with_reducible apply q_cellF); (· rfl); (· exact y0.out); (· exact lg.out); (· exact Try.underlying3); (· rfl); (· rfl); (simp only [Act.put, List.setIfInBounds_toArray, List.set_cons_zero, List.set_cons_succ]))
            | ((with_reducible apply q_cellF); (· rfl); (· exact y1.out); (· exact lg.out); (· exact Try.underlying3); (· rfl); (· rfl); (simp only [Act.put, List.setIfInBounds_toArray, List.set_cons_zero, List.set_cons_succ]))
            | (go_big_quiet_want; go_big_quiet_op; (first | go_big_quiet_on | (apply Exists.intro; refine ⟨fun _ _ => rfl, ?_⟩; go_big_quiet_on))))
          refine q_end ?_
          intro w3 hb3
          have hbr2 := Lib.hid (hbr.out.trans (hb3.mono hbr.out.size))
          clear hb3 hs ht hbr
          go_wp2_with fail
          go_roundg (gk - 1)
          case measure => omega
          case rel => exact ⟨i + 1, by omega, by go_num, hbr2, hp2⟩
      · have hxb : (x == r) = false := by simpa using h
        have hp2 := Lib.hid (hs.out (by rw [HV.out]; exact decide_eq_false fun hh => h hh.1))
        clear h
        refine q_begin (by kernel_rfl) (by kernel_rfl) ?_
        repeat (first
          | go_big_quiet_skip
          | ((with_reducible apply q_cellF); (· rfl); (· exact x0.out); (· exact lb.out); (· exact Try.underlying3); (· rfl); (· rfl); (simp only [Act.put, List.setIfInBounds_toArray, List.set_cons_zero, List.set_cons_succ]))
          | ((with_reducible apply q_cellF); (· rfl); (· exact x1.out); (· exact lb.out); (· exact Try.underlying3); (· rfl); (· rfl); (simp only [Act.put, List.setIfInBounds_toArray, List.set_cons_zero, List.set_cons_succ]))
          | ((with_reducible apply q_cellF); (· rfl); (· exact y0.out); (· exact lg.out); (· exact Try.underlying3); (· rfl); (· rfl); (simp only [Act.put, List.setIfInBounds_toArray, List.set_cons_zero, List.set_cons_succ]))
          | ((with_reducible apply q_cellF); (· rfl); (· exact y1.out); (· exact lg.out); (· exact Try.underlying3); (· rfl); (· rfl); (simp only [Act.put, List.setIfInBounds_toArray, List.set_cons_zero, List.set_cons_succ]))
          | (go_big_quiet_want; go_big_quiet_op; (first | go_big_quiet_on | (apply Exists.intro; refine ⟨fun _ _ => rfl, ?_⟩; go_big_quiet_on))))
        refine q_end ?_
        intro w3 hb3
        have hbr2 := Lib.hid (hbr.out.trans (hb3.mono hbr.out.size))
        clear hb3 hs ht hbr
        go_wp2_with fail
        go_roundg (gk - 1)
        case measure => omega
        case rel => exact ⟨i + 1, by omega, by go_num, hbr2, hp2⟩
    · have hin : ¬ (i : Int) < n := by omega
      have hie : i = n := by omega
      subst hie
      have E := Lib.hid (show RV = decide (0 ≤ idxC L r q i) by rw [HRV.out, hpre.out]; simp)
      have rI := (A.out.keep hbr.out A.out.lt).range 0 (ints [r, q]) rfl
      have TI : RowT 34 (ints [r, q]).length := rowIdS
      have F2 := Lib.hid (FD.out wr (HS1.out.keep hbr.out))
      generalize idxC L r q i = ix at *
      go_wp2_with (first
        | ((with_reducible refine ld_row rI TI ?_ ?_ ?_); (· rfl); (· rfl); (simp only [Act.put, List.setIfInBounds_toArray, List.set_cons_zero, List.set_cons_succ])))
      refine F2.out.mono ?_
      rintro e w4 ⟨rfl, hb4⟩
      have HB4 := Lib.hid (HB.out.trans ((hbr.out.trans (hb4.mono hbr.out.size)).mono (HG0.out ▸ HB.out.size)))
      clear hb4
      go_wp2_with fail
      go_ret
      have hge := HG0.out
      subst hge
      exact ⟨by rw [E.out]; rfl, HB4.out⟩
end Go.Proofs.Ytcfipimhpeblbaa
