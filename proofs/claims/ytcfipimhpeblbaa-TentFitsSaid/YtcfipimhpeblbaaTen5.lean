/- Whether any change fits behind what is known: as the page says. -/
import Derived.Test.YtcfipimhpeblbaaTen4
import Derived.Deep.DeepCutAuto
import Derived.Maps.AppendAt
import Derived.Test.YtcfipimhpeblbaaRow
import Derived.Test.YtcfipimhpeblbaaOps
import Derived.RegionTactic
import Derived.BigRegion
import Derived.ChangeAlike
namespace Go.Proofs.Ytcfipimhpeblbaa
set_option linter.unusedVariables false
set_option linter.unusedSimpArgs false
open Go.ChangeShapes Go.WideShapes Go.ChangeAt Go.RowKit
set_option maxRecDepth 100000 in
set_option maxHeartbeats 8000000 in
theorem fits18 (kv tv : List Int) (r q t k1 a1 b1 n1 r1 s1 : Int) (w : World) (hkv : Hid (kv.length = 4)) (htv : Hid (tv.length = 4)) (fk : ∀ k, fits (kv.getD k 0) = true) (hr : fits r = true) (hq : fits q = true) :
    Calls Try.prog 4 #[.agg (ints kv).toArray, .agg (ints tv).toArray, .agg #[.int .i64 r, .int .i64 q, .int .i64 t, .int .i64 k1, .int .i64 a1, .int .i64 b1, .int .i64 n1, .int .i64 r1, .int .i64 s1]] w fun e w' => e = .returned (.bool true) ∧ Below w.heap.size w w' := by
  have HB := Lib.hid ((((Below.refl w.heap.size w).alloc (Nat.le_refl _) (.cells (ints kv).toArray 32)).alloc (by simp) (.cells (ints tv).toArray 32)).alloc (by simp; omega) (.cells #[.int .i64 r, .int .i64 q, .int .i64 t, .int .i64 k1, .int .i64 a1, .int .i64 b1, .int .i64 n1, .int .i64 r1, .int .i64 s1] 36))
  have HKV : Hid (Blk (((w.alloc (.cells (ints kv).toArray 32)).alloc (.cells (ints tv).toArray 32)).alloc (.cells #[.int .i64 r, .int .i64 q, .int .i64 t, .int .i64 k1, .int .i64 a1, .int .i64 b1, .int .i64 n1, .int .i64 r1, .int .i64 s1] 36)) w.heap.size (ints kv) 32) := Lib.hid (((show Blk (w.alloc (.cells (ints kv).toArray 32)) w.heap.size (ints kv) 32 from Blk.new w (ints kv).toArray 32).alloc _).alloc _)
  have HTV : Hid (Blk (((w.alloc (.cells (ints kv).toArray 32)).alloc (.cells (ints tv).toArray 32)).alloc (.cells #[.int .i64 r, .int .i64 q, .int .i64 t, .int .i64 k1, .int .i64 a1, .int .i64 b1, .int .i64 n1, .int .i64 r1, .int .i64 s1] 36)) (w.heap.size + 1) (ints tv) 32) := Lib.hid ((show Blk ((w.alloc (.cells (ints kv).toArray 32)).alloc (.cells (ints tv).toArray 32)) (w.heap.size + 1) (ints tv) 32 from by have := Blk.new (w.alloc (.cells (ints kv).toArray 32)) (ints tv).toArray 32; simpa using this).alloc _)
  have HCV : Hid (Blk (((w.alloc (.cells (ints kv).toArray 32)).alloc (.cells (ints tv).toArray 32)).alloc (.cells #[.int .i64 r, .int .i64 q, .int .i64 t, .int .i64 k1, .int .i64 a1, .int .i64 b1, .int .i64 n1, .int .i64 r1, .int .i64 s1] 36)) (w.heap.size + 1 + 1) (#[.int .i64 r, .int .i64 q, .int .i64 t, .int .i64 k1, .int .i64 a1, .int .i64 b1, .int .i64 n1, .int .i64 r1, .int .i64 s1] : Array Value).toList 36) := Lib.hid (by have := Blk.new ((w.alloc (.cells (ints kv).toArray 32)).alloc (.cells (ints tv).toArray 32)) #[.int .i64 r, .int .i64 q, .int .i64 t, .int .i64 k1, .int .i64 a1, .int .i64 b1, .int .i64 n1, .int .i64 r1, .int .i64 s1] 36; simpa using this)
  have HAL := Lib.hid (fun w => alive18 w)
  have FT := Lib.hid (fun w => fits18_any kv tv r q t k1 a1 b1 n1 r1 s1 w hkv htv fk hr hq)
  have CM : Hid (∀ w, Calls Try.prog 9 #[.agg (ints [r, q]).toArray] w fun e w' => e = .returned (.bool (mayId r q)) ∧ Below w.heap.size w w') := Lib.hid (fun w => rmay_any r q w)
  have EK : Hid (((ints kv).drop 0).take (ints kv).length = ints kv) := Lib.hid (by simp)
  have ET : Hid (((ints tv).drop 0).take (ints tv).length = ints tv) := Lib.hid (by simp)
  have TK : Hid (RowT 32 (ints kv).length) := Lib.hid (by rw [ints_len, hkv.out]; exact ⟨⟨_, Try.underlying32, rfl⟩, vec_size⟩)
  have TT2H : Hid (RowT 32 (ints tv).length) := Lib.hid (by rw [ints_len, htv.out]; exact ⟨⟨_, Try.underlying32, rfl⟩, vec_size⟩)
  have TI : RowT 34 (ints [r, q]).length := rowIdS
  have FNO := Lib.hid (@fit_no kv tv r q t)
  have FYES : Hid ((mayId r q = true ∧ kv.getD r.toNat 0 < 65535 ∧ q = kv.getD r.toNat 0 + 1 ∧ 1 ≤ t ∧ t ≤ 1073741824 ∧ tv.getD r.toNat 0 < t) → fitV kv tv r q t = true) := Lib.hid (fun h => decide_eq_true h)
  have fz := (fits_iff _).1 (fk r.toNat)
  have FZ := Lib.hid fz
  clear fk hr hq fz
  generalize fitV kv tv r q t = RV at *
  obtain ⟨m, hm⟩ : ∃ m, m = mayId r q := ⟨_, rfl⟩
  rw [← hm] at CM
  have HM := Lib.hid hm
  clear hm
  go_enter Try.func4, Try.ntmps4
  go_upto_region 1 with fail
  generalize hg0 : w.heap.size = g0 at *
  have HG0 := Lib.hid hg0
  generalize (((w.alloc (.cells (ints kv).toArray 32)).alloc (.cells (ints tv).toArray 32)).alloc (.cells #[.int .i64 r, .int .i64 q, .int .i64 t, .int .i64 k1, .int .i64 a1, .int .i64 b1, .int .i64 n1, .int .i64 r1, .int .i64 s1] 36)) = w1 at *
  clear hg0
  have AL1 := Lib.hid (HAL.out w1)
  go_wp2_with fail
  refine AL1.out.mono ?_
  rintro e w2 ⟨rfl, hb⟩
  have HB1 := Lib.hid (HB.out.trans (hb.mono (HG0.out ▸ HB.out.size)))
  have K1 := Lib.hid (HKV.out.keep hb HKV.out.lt)
  have T1 := Lib.hid (HTV.out.keep hb HTV.out.lt)
  have C1 := Lib.hid (HCV.out.keep hb HCV.out.lt)
  clear hb HB HKV HTV HCV AL1 HAL
  have rI := C1.out.range 0 (ints [r, q]) rfl
  go_wp2_with (first
    | ((with_reducible refine ld_row rI TI ?_ ?_ ?_); (· rfl); (· rfl); (simp only [Act.put, List.setIfInBounds_toArray, List.set_cons_zero, List.set_cons_succ])))
  refine (CM.out _).mono ?_
  rintro e w3 ⟨rfl, hb⟩
  have HB2 := Lib.hid (HB1.out.trans (hb.mono (HG0.out ▸ HB1.out.size)))
  have K2 := Lib.hid (K1.out.keep hb K1.out.lt)
  have T2 := Lib.hid (T1.out.keep hb T1.out.lt)
  have C2 := Lib.hid (C1.out.keep hb C1.out.lt)
  clear hb HB1 K1 T1 C1 rI CM
  have l1 := Lib.hid K2.out.lt
  have l2 := Lib.hid T2.out.lt
  have l3 := Lib.hid C2.out.lt
  generalize w3 = w2 at *
  cases m
  · have E : RV = false := FNO.out (fun h => by rw [← HM.out] at h; cases h.1)
    rw [E] at FT
    clear E
    have rK := K2.out.range 0 (ints kv) EK.out
    have rT := T2.out.range 0 (ints tv) ET.out
    have rC := C2.out.range 0 (#[.int .i64 r, .int .i64 q, .int .i64 t, .int .i64 k1, .int .i64 a1, .int .i64 b1, .int .i64 n1, .int .i64 r1, .int .i64 s1] : Array Value).toList rfl
    have TK2 := TK.out
    have TT2 := TT2H.out
    have TC2 : RowT 36 (#[.int .i64 r, .int .i64 q, .int .i64 t, .int .i64 k1, .int .i64 a1, .int .i64 b1, .int .i64 n1, .int .i64 r1, .int .i64 s1] : Array Value).toList.length := rowChg
    go_wp2_with (first
      | ((with_reducible refine ld_row rK TK2 ?_ ?_ ?_); (· rfl); (· rfl); (simp only [Act.put, List.setIfInBounds_toArray, List.set_cons_zero, List.set_cons_succ]))
      | ((with_reducible refine ld_row rT TT2 ?_ ?_ ?_); (· rfl); (· rfl); (simp only [Act.put, List.setIfInBounds_toArray, List.set_cons_zero, List.set_cons_succ]))
      | ((with_reducible refine ld_row rC TC2 ?_ ?_ ?_); (· rfl); (· rfl); (simp only [Act.put, List.setIfInBounds_toArray, List.set_cons_zero, List.set_cons_succ])))
    refine (FT.out _).mono ?_
    rintro e w4 ⟨rfl, hb4⟩
    have HB4 := HB2.out.trans (hb4.mono (HG0.out ▸ HB2.out.size))
    go_wp2_with fail
    go_ret
    have hge := HG0.out
    subst hge
    exact ⟨rfl, HB4⟩
  · obtain ⟨h1, h2, h3, h4⟩ := (mayId_iff r q).1 HM.out.symm
    have hr0 : 0 ≤ r := h1
    have hr4 : r < 4 := h2
    have hkz : Hid ((ints kv)[r.toNat]? = some (.int .i64 (kv.getD r.toNat 0))) := Lib.hid (ints_get _ _ (by have := hkv.out; omega))
    have hky : Hid ((ints tv)[r.toNat]? = some (.int .i64 (tv.getD r.toNat 0))) := Lib.hid (ints_get _ _ (by have := htv.out; omega))
    have FY := Lib.hid (fun h => FYES.out ⟨HM.out.symm, h⟩)
    generalize kv.getD r.toNat 0 = z at *
    generalize tv.getD r.toNat 0 = y at *
    have hz0 : -9223372036854775808 ≤ z := FZ.out.1
    clear h1 h2 h3 h4 FYES
    go_upto_region 5 with fail
    by_cases c1x : z < 65535
    · by_cases c2x : q = z + 1
      · have hb2 : (q == z + 1) = true := by simpa using c2x
        by_cases c3x : 1 ≤ t
        · by_cases c4x : t ≤ 1073741824
          · by_cases c5x : y < t
            · have E : RV = true := FY.out ⟨c1x, c2x, c3x, c4x, c5x⟩
              clear c2x
              rw [E] at FT
              clear E
              refine q_begin (by kernel_rfl) (by kernel_rfl) ?_
              repeat (first
                | go_big_quiet_skip
                | ((with_reducible apply q_int); (· rfl); (· rfl); (· exact Try.underlying3); (· exact C2.out); (· exact l3.out); (· rfl); (simp only [Act.put, List.setIfInBounds_toArray, List.set_cons_zero, List.set_cons_succ]))
                | ((with_reducible apply q_int); (· rfl); (· rfl); (· exact Try.underlying3); (· exact K2.out); (· exact l1.out); (· exact hkz.out); (simp only [Act.put, List.setIfInBounds_toArray, List.set_cons_zero, List.set_cons_succ]))
                | ((with_reducible apply q_int); (· rfl); (· rfl); (· exact Try.underlying3); (· exact T2.out); (· exact l2.out); (· exact hky.out); (simp only [Act.put, List.setIfInBounds_toArray, List.set_cons_zero, List.set_cons_succ]))
                | (go_big_quiet_want; go_big_quiet_op; (first | go_big_quiet_on | (apply Exists.intro; refine ⟨fun _ _ => rfl, ?_⟩; go_big_quiet_on))))
              refine q_end ?_
              intro w3 hb
              have HB3 := Lib.hid (HB2.out.trans (hb.mono (HG0.out ▸ HB2.out.size)))
              have K3 := Lib.hid (K2.out.keep hb K2.out.lt)
              have T3 := Lib.hid (T2.out.keep hb T2.out.lt)
              have C3 := Lib.hid (C2.out.keep hb C2.out.lt)
              clear hb
              have rK := K3.out.range 0 (ints kv) EK.out
              have rT := T3.out.range 0 (ints tv) ET.out
              have rC := C3.out.range 0 (#[.int .i64 r, .int .i64 q, .int .i64 t, .int .i64 k1, .int .i64 a1, .int .i64 b1, .int .i64 n1, .int .i64 r1, .int .i64 s1] : Array Value).toList rfl
              have TK2 := TK.out
              have TT2 := TT2H.out
              have TC2 : RowT 36 (#[.int .i64 r, .int .i64 q, .int .i64 t, .int .i64 k1, .int .i64 a1, .int .i64 b1, .int .i64 n1, .int .i64 r1, .int .i64 s1] : Array Value).toList.length := rowChg
              go_wp2_with (first
                | ((with_reducible refine ld_row rK TK2 ?_ ?_ ?_); (· rfl); (· rfl); (simp only [Act.put, List.setIfInBounds_toArray, List.set_cons_zero, List.set_cons_succ]))
                | ((with_reducible refine ld_row rT TT2 ?_ ?_ ?_); (· rfl); (· rfl); (simp only [Act.put, List.setIfInBounds_toArray, List.set_cons_zero, List.set_cons_succ]))
                | ((with_reducible refine ld_row rC TC2 ?_ ?_ ?_); (· rfl); (· rfl); (simp only [Act.put, List.setIfInBounds_toArray, List.set_cons_zero, List.set_cons_succ])))
              refine (FT.out _).mono ?_
              rintro e w4 ⟨rfl, hb4⟩
              have HB4 := HB3.out.trans (hb4.mono (HG0.out ▸ HB3.out.size))
              go_wp2_with fail
              go_ret
              have hge := HG0.out
              subst hge
              exact ⟨rfl, HB4⟩
            · have E : RV = false := FNO.out (fun h => c5x h.2.2.2.2.2)
              clear c2x
              rw [E] at FT
              clear E
              refine q_begin (by kernel_rfl) (by kernel_rfl) ?_
              repeat (first
                | go_big_quiet_skip
                | ((with_reducible apply q_int); (· rfl); (· rfl); (· exact Try.underlying3); (· exact C2.out); (· exact l3.out); (· rfl); (simp only [Act.put, List.setIfInBounds_toArray, List.set_cons_zero, List.set_cons_succ]))
                | ((with_reducible apply q_int); (· rfl); (· rfl); (· exact Try.underlying3); (· exact K2.out); (· exact l1.out); (· exact hkz.out); (simp only [Act.put, List.setIfInBounds_toArray, List.set_cons_zero, List.set_cons_succ]))
                | ((with_reducible apply q_int); (· rfl); (· rfl); (· exact Try.underlying3); (· exact T2.out); (· exact l2.out); (· exact hky.out); (simp only [Act.put, List.setIfInBounds_toArray, List.set_cons_zero, List.set_cons_succ]))
                | (go_big_quiet_want; go_big_quiet_op; (first | go_big_quiet_on | (apply Exists.intro; refine ⟨fun _ _ => rfl, ?_⟩; go_big_quiet_on))))
              refine q_end ?_
              intro w3 hb
              have HB3 := Lib.hid (HB2.out.trans (hb.mono (HG0.out ▸ HB2.out.size)))
              have K3 := Lib.hid (K2.out.keep hb K2.out.lt)
              have T3 := Lib.hid (T2.out.keep hb T2.out.lt)
              have C3 := Lib.hid (C2.out.keep hb C2.out.lt)
              clear hb
              have rK := K3.out.range 0 (ints kv) EK.out
              have rT := T3.out.range 0 (ints tv) ET.out
              have rC := C3.out.range 0 (#[.int .i64 r, .int .i64 q, .int .i64 t, .int .i64 k1, .int .i64 a1, .int .i64 b1, .int .i64 n1, .int .i64 r1, .int .i64 s1] : Array Value).toList rfl
              have TK2 := TK.out
              have TT2 := TT2H.out
              have TC2 : RowT 36 (#[.int .i64 r, .int .i64 q, .int .i64 t, .int .i64 k1, .int .i64 a1, .int .i64 b1, .int .i64 n1, .int .i64 r1, .int .i64 s1] : Array Value).toList.length := rowChg
              go_wp2_with (first
                | ((with_reducible refine ld_row rK TK2 ?_ ?_ ?_); (· rfl); (· rfl); (simp only [Act.put, List.setIfInBounds_toArray, List.set_cons_zero, List.set_cons_succ]))
                | ((with_reducible refine ld_row rT TT2 ?_ ?_ ?_); (· rfl); (· rfl); (simp only [Act.put, List.setIfInBounds_toArray, List.set_cons_zero, List.set_cons_succ]))
                | ((with_reducible refine ld_row rC TC2 ?_ ?_ ?_); (· rfl); (· rfl); (simp only [Act.put, List.setIfInBounds_toArray, List.set_cons_zero, List.set_cons_succ])))
              refine (FT.out _).mono ?_
              rintro e w4 ⟨rfl, hb4⟩
              have HB4 := HB3.out.trans (hb4.mono (HG0.out ▸ HB3.out.size))
              go_wp2_with fail
              go_ret
              have hge := HG0.out
              subst hge
              exact ⟨rfl, HB4⟩
          · have E : RV = false := FNO.out (fun h => c4x h.2.2.2.2.1)
            clear c2x
            rw [E] at FT
            clear E
            refine q_begin (by kernel_rfl) (by kernel_rfl) ?_
            repeat (first
              | go_big_quiet_skip
              | ((with_reducible apply q_int); (· rfl); (· rfl); (· exact Try.underlying3); (· exact C2.out); (· exact l3.out); (· rfl); (simp only [Act.put, List.setIfInBounds_toArray, List.set_cons_zero, List.set_cons_succ]))
              | ((with_reducible apply q_int); (· rfl); (· rfl); (· exact Try.underlying3); (· exact K2.out); (· exact l1.out); (· exact hkz.out); (simp only [Act.put, List.setIfInBounds_toArray, List.set_cons_zero, List.set_cons_succ]))
              | ((with_reducible apply q_int); (· rfl); (· rfl); (· exact Try.underlying3); (· exact T2.out); (· exact l2.out); (· exact hky.out); (simp only [Act.put, List.setIfInBounds_toArray, List.set_cons_zero, List.set_cons_succ]))
              | (go_big_quiet_want; go_big_quiet_op; (first | go_big_quiet_on | (apply Exists.intro; refine ⟨fun _ _ => rfl, ?_⟩; go_big_quiet_on))))
            refine q_end ?_
            intro w3 hb
            have HB3 := Lib.hid (HB2.out.trans (hb.mono (HG0.out ▸ HB2.out.size)))
            have K3 := Lib.hid (K2.out.keep hb K2.out.lt)
            have T3 := Lib.hid (T2.out.keep hb T2.out.lt)
            have C3 := Lib.hid (C2.out.keep hb C2.out.lt)
            clear hb
            have rK := K3.out.range 0 (ints kv) EK.out
            have rT := T3.out.range 0 (ints tv) ET.out
            have rC := C3.out.range 0 (#[.int .i64 r, .int .i64 q, .int .i64 t, .int .i64 k1, .int .i64 a1, .int .i64 b1, .int .i64 n1, .int .i64 r1, .int .i64 s1] : Array Value).toList rfl
            have TK2 := TK.out
            have TT2 := TT2H.out
            have TC2 : RowT 36 (#[.int .i64 r, .int .i64 q, .int .i64 t, .int .i64 k1, .int .i64 a1, .int .i64 b1, .int .i64 n1, .int .i64 r1, .int .i64 s1] : Array Value).toList.length := rowChg
            go_wp2_with (first
              | ((with_reducible refine ld_row rK TK2 ?_ ?_ ?_); (· rfl); (· rfl); (simp only [Act.put, List.setIfInBounds_toArray, List.set_cons_zero, List.set_cons_succ]))
              | ((with_reducible refine ld_row rT TT2 ?_ ?_ ?_); (· rfl); (· rfl); (simp only [Act.put, List.setIfInBounds_toArray, List.set_cons_zero, List.set_cons_succ]))
              | ((with_reducible refine ld_row rC TC2 ?_ ?_ ?_); (· rfl); (· rfl); (simp only [Act.put, List.setIfInBounds_toArray, List.set_cons_zero, List.set_cons_succ])))
            refine (FT.out _).mono ?_
            rintro e w4 ⟨rfl, hb4⟩
            have HB4 := HB3.out.trans (hb4.mono (HG0.out ▸ HB3.out.size))
            go_wp2_with fail
            go_ret
            have hge := HG0.out
            subst hge
            exact ⟨rfl, HB4⟩
        · have E : RV = false := FNO.out (fun h => c3x h.2.2.2.1)
          clear c2x
          rw [E] at FT
          clear E
          refine q_begin (by kernel_rfl) (by kernel_rfl) ?_
          repeat (first
            | go_big_quiet_skip
            | ((with_reducible apply q_int); (· rfl); (· rfl); (· exact Try.underlying3); (· exact C2.out); (· exact l3.out); (· rfl); (simp only [Act.put, List.setIfInBounds_toArray, List.set_cons_zero, List.set_cons_succ]))
            | ((with_reducible apply q_int); (· rfl); (· rfl); (· exact Try.underlying3); (· exact K2.out); (· exact l1.out); (· exact hkz.out); (simp only [Act.put, List.setIfInBounds_toArray, List.set_cons_zero, List.set_cons_succ]))
            | ((with_reducible apply q_int); (· rfl); (· rfl); (· exact Try.underlying3); (· exact T2.out); (· exact l2.out); (· exact hky.out); (simp only [Act.put, List.setIfInBounds_toArray, List.set_cons_zero, List.set_cons_succ]))
            | (go_big_quiet_want; go_big_quiet_op; (first | go_big_quiet_on | (apply Exists.intro; refine ⟨fun _ _ => rfl, ?_⟩; go_big_quiet_on))))
          refine q_end ?_
          intro w3 hb
          have HB3 := Lib.hid (HB2.out.trans (hb.mono (HG0.out ▸ HB2.out.size)))
          have K3 := Lib.hid (K2.out.keep hb K2.out.lt)
          have T3 := Lib.hid (T2.out.keep hb T2.out.lt)
          have C3 := Lib.hid (C2.out.keep hb C2.out.lt)
          clear hb
          have rK := K3.out.range 0 (ints kv) EK.out
          have rT := T3.out.range 0 (ints tv) ET.out
          have rC := C3.out.range 0 (#[.int .i64 r, .int .i64 q, .int .i64 t, .int .i64 k1, .int .i64 a1, .int .i64 b1, .int .i64 n1, .int .i64 r1, .int .i64 s1] : Array Value).toList rfl
          have TK2 := TK.out
          have TT2 := TT2H.out
          have TC2 : RowT 36 (#[.int .i64 r, .int .i64 q, .int .i64 t, .int .i64 k1, .int .i64 a1, .int .i64 b1, .int .i64 n1, .int .i64 r1, .int .i64 s1] : Array Value).toList.length := rowChg
          go_wp2_with (first
            | ((with_reducible refine ld_row rK TK2 ?_ ?_ ?_); (· rfl); (· rfl); (simp only [Act.put, List.setIfInBounds_toArray, List.set_cons_zero, List.set_cons_succ]))
            | ((with_reducible refine ld_row rT TT2 ?_ ?_ ?_); (· rfl); (· rfl); (simp only [Act.put, List.setIfInBounds_toArray, List.set_cons_zero, List.set_cons_succ]))
            | ((with_reducible refine ld_row rC TC2 ?_ ?_ ?_); (· rfl); (· rfl); (simp only [Act.put, List.setIfInBounds_toArray, List.set_cons_zero, List.set_cons_succ])))
          refine (FT.out _).mono ?_
          rintro e w4 ⟨rfl, hb4⟩
          have HB4 := HB3.out.trans (hb4.mono (HG0.out ▸ HB3.out.size))
          go_wp2_with fail
          go_ret
          have hge := HG0.out
          subst hge
          exact ⟨rfl, HB4⟩
      · have hb2 : (q == z + 1) = false := by simpa using c2x
        have E : RV = false := FNO.out (fun h => c2x h.2.2.1)
        clear c2x
        rw [E] at FT
        clear E
        refine q_begin (by kernel_rfl) (by kernel_rfl) ?_
        repeat (first
          | go_big_quiet_skip
          | ((with_reducible apply q_int); (· rfl); (· rfl); (· exact Try.underlying3); (· exact C2.out); (· exact l3.out); (· rfl); (simp only [Act.put, List.setIfInBounds_toArray, List.set_cons_zero, List.set_cons_succ]))
          | ((with_reducible apply q_int); (· rfl); (· rfl); (· exact Try.underlying3); (· exact K2.out); (· exact l1.out); (· exact hkz.out); (simp only [Act.put, List.setIfInBounds_toArray, List.set_cons_zero, List.set_cons_succ]))
          | ((with_reducible apply q_int); (· rfl); (· rfl); (· exact Try.underlying3); (· exact T2.out); (· exact l2.out); (· exact hky.out); (simp only [Act.put, List.setIfInBounds_toArray, List.set_cons_zero, List.set_cons_succ]))
          | (go_big_quiet_want; go_big_quiet_op; (first | go_big_quiet_on | (apply Exists.intro; refine ⟨fun _ _ => rfl, ?_⟩; go_big_quiet_on))))
        refine q_end ?_
        intro w3 hb
        have HB3 := Lib.hid (HB2.out.trans (hb.mono (HG0.out ▸ HB2.out.size)))
        have K3 := Lib.hid (K2.out.keep hb K2.out.lt)
        have T3 := Lib.hid (T2.out.keep hb T2.out.lt)
        have C3 := Lib.hid (C2.out.keep hb C2.out.lt)
        clear hb
        have rK := K3.out.range 0 (ints kv) EK.out
        have rT := T3.out.range 0 (ints tv) ET.out
        have rC := C3.out.range 0 (#[.int .i64 r, .int .i64 q, .int .i64 t, .int .i64 k1, .int .i64 a1, .int .i64 b1, .int .i64 n1, .int .i64 r1, .int .i64 s1] : Array Value).toList rfl
        have TK2 := TK.out
        have TT2 := TT2H.out
        have TC2 : RowT 36 (#[.int .i64 r, .int .i64 q, .int .i64 t, .int .i64 k1, .int .i64 a1, .int .i64 b1, .int .i64 n1, .int .i64 r1, .int .i64 s1] : Array Value).toList.length := rowChg
        go_wp2_with (first
          | ((with_reducible refine ld_row rK TK2 ?_ ?_ ?_); (· rfl); (· rfl); (simp only [Act.put, List.setIfInBounds_toArray, List.set_cons_zero, List.set_cons_succ]))
          | ((with_reducible refine ld_row rT TT2 ?_ ?_ ?_); (· rfl); (· rfl); (simp only [Act.put, List.setIfInBounds_toArray, List.set_cons_zero, List.set_cons_succ]))
          | ((with_reducible refine ld_row rC TC2 ?_ ?_ ?_); (· rfl); (· rfl); (simp only [Act.put, List.setIfInBounds_toArray, List.set_cons_zero, List.set_cons_succ])))
        refine (FT.out _).mono ?_
        rintro e w4 ⟨rfl, hb4⟩
        have HB4 := HB3.out.trans (hb4.mono (HG0.out ▸ HB3.out.size))
        go_wp2_with fail
        go_ret
        have hge := HG0.out
        subst hge
        exact ⟨rfl, HB4⟩
    · have E : RV = false := FNO.out (fun h => c1x h.2.1)
      rw [E] at FT
      clear E
      refine q_begin (by kernel_rfl) (by kernel_rfl) ?_
      repeat (first
        | go_big_quiet_skip
        | ((with_reducible apply q_int); (· rfl); (· rfl); (· exact Try.underlying3); (· exact C2.out); (· exact l3.out); (· rfl); (simp only [Act.put, List.setIfInBounds_toArray, List.set_cons_zero, List.set_cons_succ]))
        | ((with_reducible apply q_int); (· rfl); (· rfl); (· exact Try.underlying3); (· exact K2.out); (· exact l1.out); (· exact hkz.out); (simp only [Act.put, List.setIfInBounds_toArray, List.set_cons_zero, List.set_cons_succ]))
        | ((with_reducible apply q_int); (· rfl); (· rfl); (· exact Try.underlying3); (· exact T2.out); (· exact l2.out); (· exact hky.out); (simp only [Act.put, List.setIfInBounds_toArray, List.set_cons_zero, List.set_cons_succ]))
        | (go_big_quiet_want; go_big_quiet_op; (first | go_big_quiet_on | (apply Exists.intro; refine ⟨fun _ _ => rfl, ?_⟩; go_big_quiet_on))))
      refine q_end ?_
      intro w3 hb
      have HB3 := Lib.hid (HB2.out.trans (hb.mono (HG0.out ▸ HB2.out.size)))
      have K3 := Lib.hid (K2.out.keep hb K2.out.lt)
      have T3 := Lib.hid (T2.out.keep hb T2.out.lt)
      have C3 := Lib.hid (C2.out.keep hb C2.out.lt)
      clear hb
      have rK := K3.out.range 0 (ints kv) EK.out
      have rT := T3.out.range 0 (ints tv) ET.out
      have rC := C3.out.range 0 (#[.int .i64 r, .int .i64 q, .int .i64 t, .int .i64 k1, .int .i64 a1, .int .i64 b1, .int .i64 n1, .int .i64 r1, .int .i64 s1] : Array Value).toList rfl
      have TK2 := TK.out
      have TT2 := TT2H.out
      have TC2 : RowT 36 (#[.int .i64 r, .int .i64 q, .int .i64 t, .int .i64 k1, .int .i64 a1, .int .i64 b1, .int .i64 n1, .int .i64 r1, .int .i64 s1] : Array Value).toList.length := rowChg
      go_wp2_with (first
        | ((with_reducible refine ld_row rK TK2 ?_ ?_ ?_); (· rfl); (· rfl); (simp only [Act.put, List.setIfInBounds_toArray, List.set_cons_zero, List.set_cons_succ]))
        | ((with_reducible refine ld_row rT TT2 ?_ ?_ ?_); (· rfl); (· rfl); (simp only [Act.put, List.setIfInBounds_toArray, List.set_cons_zero, List.set_cons_succ]))
        | ((with_reducible refine ld_row rC TC2 ?_ ?_ ?_); (· rfl); (· rfl); (simp only [Act.put, List.setIfInBounds_toArray, List.set_cons_zero, List.set_cons_succ])))
      refine (FT.out _).mono ?_
      rintro e w4 ⟨rfl, hb4⟩
      have HB4 := HB3.out.trans (hb4.mono (HG0.out ▸ HB3.out.size))
      go_wp2_with fail
      go_ret
      have hge := HG0.out
      subst hge
      exact ⟨rfl, HB4⟩
theorem vec_of {w : World} {v : Value} (h : Arg Try.prog w 32 v) : ∃ l : List Int, v = .agg (ints l).toArray ∧ l.length = 4 ∧ ∀ k, fits (l.getD k 0) = true := by
  obtain ⟨cs, rfl, k1⟩ := h.flat_array Try.underlying32 (show flat Try.prog 4 32 = some (List.replicate 4 (some .i64)) by kernel_rfl)
  have hE : ∃ l : List Int, cs.toList = ints l ∧ ∀ z ∈ l, (Lit.int .i64 z).wf = true := by
    refine all_intsG fun u hu => ?_
    obtain ⟨j, hj, rfl⟩ := List.getElem_of_mem hu
    obtain ⟨k, hk1, hk⟩ := k1.get (List.getElem?_eq_getElem hj)
    rw [List.getElem?_replicate] at hk1
    split at hk1
    · obtain rfl := Option.some.inj hk1
      exact hk
    · cases hk1
  obtain ⟨l, e, h⟩ := hE
  have hl := k1.len
  rw [e, ints_len, List.length_replicate] at hl
  refine ⟨l, ?_, hl, fun k => ?_⟩
  · rw [← e, Array.toArray_toList]
  · rw [List.getD_eq_getElem?_getD]
    cases hk : l[k]? with
    | none => rfl
    | some z => exact fits_wf (h z (List.mem_of_getElem? hk))
theorem chg_of18 {vs : List Value} (h : OkAll (List.replicate 9 (some .i64)) vs) : ∃ r q t k1 a1 b1 n1 r1 s1, vs = (#[.int .i64 r, .int .i64 q, .int .i64 t, .int .i64 k1, .int .i64 a1, .int .i64 b1, .int .i64 n1, .int .i64 r1, .int .i64 s1] : Array Value).toList ∧ fits r = true ∧ fits q = true := by
  have hl := h.len
  match vs, hl, h with
  | [x0, x1, x2, x3, x4, x5, x6, x7, x8], _, h =>
    obtain ⟨⟨r, rfl, f1⟩, ⟨q, rfl, f2⟩, ⟨t, rfl, f3⟩, ⟨k1, rfl, f4⟩, ⟨a1, rfl, f5⟩, ⟨b1, rfl, f6⟩, ⟨n1, rfl, f7⟩, ⟨r1, rfl, f8⟩, ⟨s1, rfl, f9⟩, _⟩ := h
    exact ⟨r, q, t, k1, a1, b1, n1, r1, s1, rfl, fits_wf f1, fits_wf f2⟩
theorem fits18_law (v0 v1 v2 : Value) (w : World) (h0 : Arg Try.prog w 32 v0) (h1 : Arg Try.prog w 32 v1) (h2 : Arg Try.prog w 36 v2) : Calls Try.prog 4 #[v0, v1, v2] w fun e w' => e = .returned (.bool true) ∧ Below w.heap.size w w' := by
  obtain ⟨kv, rfl, lk, fk⟩ := vec_of h0
  obtain ⟨tv, rfl, lt, _⟩ := vec_of h1
  obtain ⟨cs, rfl, k2⟩ := h2.flat_struct Try.underlying36 flatCgS
  obtain ⟨r, q, t, k1, a1, b1, n1, r1, s1, hcs, f1, f2⟩ := chg_of18 k2
  have e : cs = cs.toList.toArray := (Array.toArray_toList).symm
  rw [hcs] at e
  subst e
  exact fits18 kv tv r q t k1 a1 b1 n1 r1 s1 w (Lib.hid lk) (Lib.hid lt) fk f1 f2
end Go.Proofs.Ytcfipimhpeblbaa
