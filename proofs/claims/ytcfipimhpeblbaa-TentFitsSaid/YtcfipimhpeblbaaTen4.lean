/- Tent.Fits. -/
import Derived.Test.YtcfipimhpeblbaaTen3
import Derived.Test.YtcfipimhpeblbaaVec2
import Derived.Test.YtcfipimhpeblbaaChg
import Derived.Test.YtcfipimhpeblbaaQt
import Derived.Test.YtcfipimhpeblbaaRd
import Derived.Deep.DeepCutAuto
import Derived.Maps.AppendAt
import Derived.Test.YtcfipimhpeblbaaRow
import Derived.Test.YtcfipimhpeblbaaOps
import Derived.RegionTactic
import Derived.BigRegion
import Derived.ChangeAlike
namespace Go.Proofs.Ytcfipimhpeblbaa
set_option linter.unusedVariables false
set_option linter.unusedSimpArgs false
open Go.ChangeShapes Go.WideShapes Go.ChangeAt Go.RowKit
def fitV (kv tv : List Int) (r q t : Int) : Bool := decide (mayId r q = true ∧ kv.getD r.toNat 0 < 65535 ∧ q = kv.getD r.toNat 0 + 1 ∧ 1 ≤ t ∧ t ≤ 1073741824 ∧ tv.getD r.toNat 0 < t)
theorem fit_no {kv tv : List Int} {r q t : Int} (h : ¬ (mayId r q = true ∧ kv.getD r.toNat 0 < 65535 ∧ q = kv.getD r.toNat 0 + 1 ∧ 1 ≤ t ∧ t ≤ 1073741824 ∧ tv.getD r.toNat 0 < t)) : fitV kv tv r q t = false := decide_eq_false h
theorem next_iff {kv : List Int} {r q : Int} (hm : mayId r q = true) : (r = nextR kv r ∧ q = nextS kv r) ↔ (kv.getD r.toNat 0 < 65535 ∧ q = kv.getD r.toNat 0 + 1) := by
  obtain ⟨h1, h2, h3, h4⟩ := (mayId_iff r q).1 hm
  have hr : isRep r = true := by simp [isRep]; omega
  unfold nextR nextS
  by_cases h : kv.getD r.toNat 0 < 65535
  · rw [if_pos ⟨hr, h⟩, if_pos ⟨hr, h⟩]
    exact ⟨fun hh => ⟨h, hh.2⟩, fun hh => ⟨rfl, hh.2⟩⟩
  · rw [if_neg (fun hh => h hh.2), if_neg (fun hh => h hh.2)]
    exact ⟨fun hh => by omega, fun hh => absurd hh.1 h⟩
set_option maxRecDepth 100000 in
set_option maxHeartbeats 8000000 in
theorem fits18_any (kv tv : List Int) (r q t k1 a1 b1 n1 r1 s1 : Int) (w : World) (hkv : Hid (kv.length = 4)) (htv : Hid (tv.length = 4)) (fk : ∀ k, fits (kv.getD k 0) = true) (hr : fits r = true) (hq : fits q = true) :
    Calls Try.prog 10 #[.agg (ints kv).toArray, .agg (ints tv).toArray, .agg #[.int .i64 r, .int .i64 q, .int .i64 t, .int .i64 k1, .int .i64 a1, .int .i64 b1, .int .i64 n1, .int .i64 r1, .int .i64 s1]] w fun e w' => e = .returned (.bool (fitV kv tv r q t)) ∧ Below w.heap.size w w' := by
  have HB := Lib.hid ((((Below.refl w.heap.size w).alloc (Nat.le_refl _) (.cells (ints kv).toArray 32)).alloc (by simp) (.cells (ints tv).toArray 32)).alloc (by simp; omega) (.cells #[.int .i64 r, .int .i64 q, .int .i64 t, .int .i64 k1, .int .i64 a1, .int .i64 b1, .int .i64 n1, .int .i64 r1, .int .i64 s1] 36))
  have HKV : Hid (Blk (((w.alloc (.cells (ints kv).toArray 32)).alloc (.cells (ints tv).toArray 32)).alloc (.cells #[.int .i64 r, .int .i64 q, .int .i64 t, .int .i64 k1, .int .i64 a1, .int .i64 b1, .int .i64 n1, .int .i64 r1, .int .i64 s1] 36)) w.heap.size (ints kv) 32) := Lib.hid (((show Blk (w.alloc (.cells (ints kv).toArray 32)) w.heap.size (ints kv) 32 from Blk.new w (ints kv).toArray 32).alloc _).alloc _)
  have HTV : Hid (Blk (((w.alloc (.cells (ints kv).toArray 32)).alloc (.cells (ints tv).toArray 32)).alloc (.cells #[.int .i64 r, .int .i64 q, .int .i64 t, .int .i64 k1, .int .i64 a1, .int .i64 b1, .int .i64 n1, .int .i64 r1, .int .i64 s1] 36)) (w.heap.size + 1) (ints tv) 32) := Lib.hid ((show Blk ((w.alloc (.cells (ints kv).toArray 32)).alloc (.cells (ints tv).toArray 32)) (w.heap.size + 1) (ints tv) 32 from by have := Blk.new (w.alloc (.cells (ints kv).toArray 32)) (ints tv).toArray 32; simpa using this).alloc _)
  have HCV : Hid (Blk (((w.alloc (.cells (ints kv).toArray 32)).alloc (.cells (ints tv).toArray 32)).alloc (.cells #[.int .i64 r, .int .i64 q, .int .i64 t, .int .i64 k1, .int .i64 a1, .int .i64 b1, .int .i64 n1, .int .i64 r1, .int .i64 s1] 36)) (w.heap.size + 1 + 1) (#[.int .i64 r, .int .i64 q, .int .i64 t, .int .i64 k1, .int .i64 a1, .int .i64 b1, .int .i64 n1, .int .i64 r1, .int .i64 s1] : Array Value).toList 36) := Lib.hid (by have := Blk.new ((w.alloc (.cells (ints kv).toArray 32)).alloc (.cells (ints tv).toArray 32)) #[.int .i64 r, .int .i64 q, .int .i64 t, .int .i64 k1, .int .i64 a1, .int .i64 b1, .int .i64 n1, .int .i64 r1, .int .i64 s1] 36; simpa using this)
  have SV : Hid ((Try.prog.info? 32).map (·.size) = some (ints kv).length) := Lib.hid (by rw [ints_len, hkv.out]; exact vec_size)
  have CM : Hid (∀ w, Calls Try.prog 20 #[.agg (ints [r, q]).toArray] w fun e w' => e = .returned (.bool (mayId r q)) ∧ Below w.heap.size w w') := Lib.hid (fun w => may_any r q w)
  have CN := Lib.hid (fun w => next_any kv r w hkv fk)
  have FN : fits (nextR kv r) = true ∧ fits (nextS kv r) = true := by
    unfold nextR nextS
    split
    · rename_i h
      have := (fits_iff _).1 (fk r.toNat)
      exact ⟨hr, (fits_iff _).2 ⟨by omega, by omega⟩⟩
    · exact ⟨rfl, rfl⟩
  have EQ0 := Lib.hid (fun w => id_eqlS hr hq FN.1 FN.2 w)
  have NI := Lib.hid (fun hm => @next_iff kv r q hm)
  obtain ⟨RV, hRV⟩ : ∃ RV, RV = fitV kv tv r q t := ⟨_, rfl⟩
  rw [← hRV]
  have HRV := Lib.hid hRV
  have FNO := Lib.hid (@fit_no kv tv r q t)
  clear FN fk hr hq hRV
  generalize nextR kv r = nr at *
  generalize nextS kv r = ns at *
  obtain ⟨m, hm⟩ : ∃ m, m = mayId r q := ⟨_, rfl⟩
  obtain ⟨e1, he1⟩ : ∃ e1, e1 = decide (r = nr ∧ q = ns) := ⟨_, rfl⟩
  have EQ : Hid (∀ w, (binOp .eql 34 (.agg (ints [r, q]).toArray) (.agg (ints [nr, ns]).toArray)).run Try.prog w = .ok (.bool e1) w) := Lib.hid (fun w => by rw [he1]; exact EQ0.out w)
  rw [← hm] at CM
  have HM := Lib.hid hm
  have HE1 := Lib.hid he1
  clear EQ0 hm he1
  have hk : Hid (True) := Lib.hid trivial
  go_enter Try.func10, Try.ntmps10
  go_upto_region 1 with fail
  generalize hg0 : w.heap.size = g0 at *
  have HG0 := Lib.hid hg0
  generalize (((w.alloc (.cells (ints kv).toArray 32)).alloc (.cells (ints tv).toArray 32)).alloc (.cells #[.int .i64 r, .int .i64 q, .int .i64 t, .int .i64 k1, .int .i64 a1, .int .i64 b1, .int .i64 n1, .int .i64 r1, .int .i64 s1] 36)) = w1 at *
  clear hg0
  have l1 := Lib.hid HKV.out.lt
  have l2 := Lib.hid HTV.out.lt
  have l3 := Lib.hid HCV.out.lt
  cases m
  · have E := Lib.hid (show RV = false by rw [HRV.out]; exact FNO.out (fun h => by rw [← HM.out] at h; cases h.1))
    refine q_begin (by kernel_rfl) (by kernel_rfl) ?_
    repeat (first
      | go_big_quiet_skip
      | ((with_reducible apply q_part (xs := ints [r, q])); (· rfl); (· rfl); (· exact Try.underlying34); (· rfl); (· exact HCV.out); (· exact l3.out); (· rfl); (· exact rowIdS.2); (simp only [Act.put, List.setIfInBounds_toArray, List.set_cons_zero, List.set_cons_succ]))
      | ((with_reducible apply q_row); (· rfl); (· rfl); (· exact Try.underlying32); (· rfl); (· exact HKV.out); (· exact l1.out); (· exact SV.out); (simp only [Act.put, List.setIfInBounds_toArray, List.set_cons_zero, List.set_cons_succ]))
      | ((with_reducible apply q_int); (· rfl); (· rfl); (· exact Try.underlying3); (· exact HCV.out); (· exact l3.out); (· rfl); (simp only [Act.put, List.setIfInBounds_toArray, List.set_cons_zero, List.set_cons_succ]))
      | ((with_reducible apply q_int); (· rfl); (· rfl); (· exact Try.underlying3); (· exact HTV.out); (· exact l2.out); (· exact hk.out); (simp only [Act.put, List.setIfInBounds_toArray, List.set_cons_zero, List.set_cons_succ]))
      | ((with_reducible apply q_call 20 (.bool false)); (· rfl); (· exact Nat.le_refl _); (· intro w _; exact CM.out w); (· intro w; go_simp); (simp only [Act.put, List.setIfInBounds_toArray, List.set_cons_zero, List.set_cons_succ]))
      | ((with_reducible apply q_call 21 (.agg #[.int .i64 nr, .int .i64 ns])); (· rfl); (· exact Nat.le_refl _); (· intro w _; exact CN.out w); (· intro w; go_simp); (simp only [Act.put, List.setIfInBounds_toArray, List.set_cons_zero, List.set_cons_succ]))
      | ((with_reducible apply q_cmp (v := .bool true)); (· rfl); (· rfl); (· rfl); (· kernel_rfl); (· intro w; exact EQ.out w); (simp only [Act.put, List.setIfInBounds_toArray, List.set_cons_zero, List.set_cons_succ]))
      | (go_big_quiet_want; go_big_quiet_op; (first | go_big_quiet_on | (apply Exists.intro; refine ⟨fun _ _ => rfl, ?_⟩; go_big_quiet_on))))
    refine q_end ?_
    intro w3 hb
    have HB3 := HB.out.trans (hb.mono (HG0.out ▸ HB.out.size))
    go_wp2_with fail
    go_ret
    have hge := HG0.out
    subst hge
    exact ⟨by rw [E.out]; rfl, HB3⟩
  · have NI2 := Lib.hid (NI.out HM.out.symm)
    obtain ⟨h1, h2, h3, h4⟩ := (mayId_iff r q).1 HM.out.symm
    have hr0 : 0 ≤ r := h1
    have hr4 : r < 4 := h2
    cases e1
    · have E := Lib.hid (show RV = false by
        rw [HRV.out]
        refine FNO.out (fun h => ?_)
        have := decide_eq_true (NI2.out.2 ⟨h.2.1, h.2.2.1⟩)
        rw [← HE1.out] at this
        cases this)
      clear h1 h2 h3 h4
      refine q_begin (by kernel_rfl) (by kernel_rfl) ?_
      repeat (first
        | go_big_quiet_skip
        | ((with_reducible apply q_part (xs := ints [r, q])); (· rfl); (· rfl); (· exact Try.underlying34); (· rfl); (· exact HCV.out); (· exact l3.out); (· rfl); (· exact rowIdS.2); (simp only [Act.put, List.setIfInBounds_toArray, List.set_cons_zero, List.set_cons_succ]))
        | ((with_reducible apply q_row); (· rfl); (· rfl); (· exact Try.underlying32); (· rfl); (· exact HKV.out); (· exact l1.out); (· exact SV.out); (simp only [Act.put, List.setIfInBounds_toArray, List.set_cons_zero, List.set_cons_succ]))
        | ((with_reducible apply q_int); (· rfl); (· rfl); (· exact Try.underlying3); (· exact HCV.out); (· exact l3.out); (· rfl); (simp only [Act.put, List.setIfInBounds_toArray, List.set_cons_zero, List.set_cons_succ]))
        | ((with_reducible apply q_int); (· rfl); (· rfl); (· exact Try.underlying3); (· exact HTV.out); (· exact l2.out); (· exact hk.out); (simp only [Act.put, List.setIfInBounds_toArray, List.set_cons_zero, List.set_cons_succ]))
        | ((with_reducible apply q_call 20 (.bool true)); (· rfl); (· exact Nat.le_refl _); (· intro w _; exact CM.out w); (· intro w; go_simp); (simp only [Act.put, List.setIfInBounds_toArray, List.set_cons_zero, List.set_cons_succ]))
        | ((with_reducible apply q_call 21 (.agg #[.int .i64 nr, .int .i64 ns])); (· rfl); (· exact Nat.le_refl _); (· intro w _; exact CN.out w); (· intro w; go_simp); (simp only [Act.put, List.setIfInBounds_toArray, List.set_cons_zero, List.set_cons_succ]))
        | ((with_reducible apply q_cmp (v := .bool false)); (· rfl); (· rfl); (· rfl); (· kernel_rfl); (· intro w; exact EQ.out w); (simp only [Act.put, List.setIfInBounds_toArray, List.set_cons_zero, List.set_cons_succ]))
        | (go_big_quiet_want; go_big_quiet_op; (first | go_big_quiet_on | (apply Exists.intro; refine ⟨fun _ _ => rfl, ?_⟩; go_big_quiet_on))))
      refine q_end ?_
      intro w3 hb
      have HB3 := HB.out.trans (hb.mono (HG0.out ▸ HB.out.size))
      go_wp2_with fail
      go_ret
      have hge := HG0.out
      subst hge
      exact ⟨by rw [E.out]; rfl, HB3⟩
    · have HKQ := Lib.hid (NI2.out.1 (of_decide_eq_true HE1.out.symm))
      by_cases ht1 : 1 ≤ t
      · by_cases ht2 : t ≤ 1073741824
        · have hk : Hid ((ints tv)[r.toNat]? = some (.int .i64 (tv.getD r.toNat 0))) := Lib.hid (ints_get _ _ (by have := htv.out; omega))
          by_cases ht3 : tv.getD r.toNat 0 < t
          · have E := Lib.hid (show RV = true by rw [HRV.out]; exact decide_eq_true ⟨HM.out.symm, HKQ.out.1, HKQ.out.2, ht1, ht2, ht3⟩)
            generalize tv.getD r.toNat 0 = z at *
            clear h1 h2 h3 h4
            refine q_begin (by kernel_rfl) (by kernel_rfl) ?_
            repeat (first
              | go_big_quiet_skip
              | ((with_reducible apply q_part (xs := ints [r, q])); (· rfl); (· rfl); (· exact Try.underlying34); (· rfl); (· exact HCV.out); (· exact l3.out); (· rfl); (· exact rowIdS.2); (simp only [Act.put, List.setIfInBounds_toArray, List.set_cons_zero, List.set_cons_succ]))
              | ((with_reducible apply q_row); (· rfl); (· rfl); (· exact Try.underlying32); (· rfl); (· exact HKV.out); (· exact l1.out); (· exact SV.out); (simp only [Act.put, List.setIfInBounds_toArray, List.set_cons_zero, List.set_cons_succ]))
              | ((with_reducible apply q_int); (· rfl); (· rfl); (· exact Try.underlying3); (· exact HCV.out); (· exact l3.out); (· rfl); (simp only [Act.put, List.setIfInBounds_toArray, List.set_cons_zero, List.set_cons_succ]))
              | ((with_reducible apply q_int); (· rfl); (· rfl); (· exact Try.underlying3); (· exact HTV.out); (· exact l2.out); (· exact hk.out); (simp only [Act.put, List.setIfInBounds_toArray, List.set_cons_zero, List.set_cons_succ]))
              | ((with_reducible apply q_call 20 (.bool true)); (· rfl); (· exact Nat.le_refl _); (· intro w _; exact CM.out w); (· intro w; go_simp); (simp only [Act.put, List.setIfInBounds_toArray, List.set_cons_zero, List.set_cons_succ]))
              | ((with_reducible apply q_call 21 (.agg #[.int .i64 nr, .int .i64 ns])); (· rfl); (· exact Nat.le_refl _); (· intro w _; exact CN.out w); (· intro w; go_simp); (simp only [Act.put, List.setIfInBounds_toArray, List.set_cons_zero, List.set_cons_succ]))
              | ((with_reducible apply q_cmp (v := .bool true)); (· rfl); (· rfl); (· rfl); (· kernel_rfl); (· intro w; exact EQ.out w); (simp only [Act.put, List.setIfInBounds_toArray, List.set_cons_zero, List.set_cons_succ]))
              | (go_big_quiet_want; go_big_quiet_op; (first | go_big_quiet_on | (apply Exists.intro; refine ⟨fun _ _ => rfl, ?_⟩; go_big_quiet_on))))
            refine q_end ?_
            intro w3 hb
            have HB3 := HB.out.trans (hb.mono (HG0.out ▸ HB.out.size))
            go_wp2_with fail
            go_ret
            have hge := HG0.out
            subst hge
            exact ⟨by rw [E.out]; rfl, HB3⟩
          · have E := Lib.hid (show RV = false by rw [HRV.out]; exact FNO.out (fun h => ht3 h.2.2.2.2.2))
            generalize tv.getD r.toNat 0 = z at *
            clear h1 h2 h3 h4
            refine q_begin (by kernel_rfl) (by kernel_rfl) ?_
            repeat (first
              | go_big_quiet_skip
              | ((with_reducible apply q_part (xs := ints [r, q])); (· rfl); (· rfl); (· exact Try.underlying34); (· rfl); (· exact HCV.out); (· exact l3.out); (· rfl); (· exact rowIdS.2); (simp only [Act.put, List.setIfInBounds_toArray, List.set_cons_zero, List.set_cons_succ]))
              | ((with_reducible apply q_row); (· rfl); (· rfl); (· exact Try.underlying32); (· rfl); (· exact HKV.out); (· exact l1.out); (· exact SV.out); (simp only [Act.put, List.setIfInBounds_toArray, List.set_cons_zero, List.set_cons_succ]))
              | ((with_reducible apply q_int); (· rfl); (· rfl); (· exact Try.underlying3); (· exact HCV.out); (· exact l3.out); (· rfl); (simp only [Act.put, List.setIfInBounds_toArray, List.set_cons_zero, List.set_cons_succ]))
              | ((with_reducible apply q_int); (· rfl); (· rfl); (· exact Try.underlying3); (· exact HTV.out); (· exact l2.out); (· exact hk.out); (simp only [Act.put, List.setIfInBounds_toArray, List.set_cons_zero, List.set_cons_succ]))
              | ((with_reducible apply q_call 20 (.bool true)); (· rfl); (· exact Nat.le_refl _); (· intro w _; exact CM.out w); (· intro w; go_simp); (simp only [Act.put, List.setIfInBounds_toArray, List.set_cons_zero, List.set_cons_succ]))
              | ((with_reducible apply q_call 21 (.agg #[.int .i64 nr, .int .i64 ns])); (· rfl); (· exact Nat.le_refl _); (· intro w _; exact CN.out w); (· intro w; go_simp); (simp only [Act.put, List.setIfInBounds_toArray, List.set_cons_zero, List.set_cons_succ]))
              | ((with_reducible apply q_cmp (v := .bool true)); (· rfl); (· rfl); (· rfl); (· kernel_rfl); (· intro w; exact EQ.out w); (simp only [Act.put, List.setIfInBounds_toArray, List.set_cons_zero, List.set_cons_succ]))
              | (go_big_quiet_want; go_big_quiet_op; (first | go_big_quiet_on | (apply Exists.intro; refine ⟨fun _ _ => rfl, ?_⟩; go_big_quiet_on))))
            refine q_end ?_
            intro w3 hb
            have HB3 := HB.out.trans (hb.mono (HG0.out ▸ HB.out.size))
            go_wp2_with fail
            go_ret
            have hge := HG0.out
            subst hge
            exact ⟨by rw [E.out]; rfl, HB3⟩
        · have E := Lib.hid (show RV = false by rw [HRV.out]; exact FNO.out (fun h => ht2 h.2.2.2.2.1))
          clear h1 h2 h3 h4
          refine q_begin (by kernel_rfl) (by kernel_rfl) ?_
          repeat (first
            | go_big_quiet_skip
            | ((with_reducible apply q_part (xs := ints [r, q])); (· rfl); (· rfl); (· exact Try.underlying34); (· rfl); (· exact HCV.out); (· exact l3.out); (· rfl); (· exact rowIdS.2); (simp only [Act.put, List.setIfInBounds_toArray, List.set_cons_zero, List.set_cons_succ]))
            | ((with_reducible apply q_row); (· rfl); (· rfl); (· exact Try.underlying32); (· rfl); (· exact HKV.out); (· exact l1.out); (· exact SV.out); (simp only [Act.put, List.setIfInBounds_toArray, List.set_cons_zero, List.set_cons_succ]))
            | ((with_reducible apply q_int); (· rfl); (· rfl); (· exact Try.underlying3); (· exact HCV.out); (· exact l3.out); (· rfl); (simp only [Act.put, List.setIfInBounds_toArray, List.set_cons_zero, List.set_cons_succ]))
            | ((with_reducible apply q_int); (· rfl); (· rfl); (· exact Try.underlying3); (· exact HTV.out); (· exact l2.out); (· exact hk.out); (simp only [Act.put, List.setIfInBounds_toArray, List.set_cons_zero, List.set_cons_succ]))
            | ((with_reducible apply q_call 20 (.bool true)); (· rfl); (· exact Nat.le_refl _); (· intro w _; exact CM.out w); (· intro w; go_simp); (simp only [Act.put, List.setIfInBounds_toArray, List.set_cons_zero, List.set_cons_succ]))
            | ((with_reducible apply q_call 21 (.agg #[.int .i64 nr, .int .i64 ns])); (· rfl); (· exact Nat.le_refl _); (· intro w _; exact CN.out w); (· intro w; go_simp); (simp only [Act.put, List.setIfInBounds_toArray, List.set_cons_zero, List.set_cons_succ]))
            | ((with_reducible apply q_cmp (v := .bool true)); (· rfl); (· rfl); (· rfl); (· kernel_rfl); (· intro w; exact EQ.out w); (simp only [Act.put, List.setIfInBounds_toArray, List.set_cons_zero, List.set_cons_succ]))
            | (go_big_quiet_want; go_big_quiet_op; (first | go_big_quiet_on | (apply Exists.intro; refine ⟨fun _ _ => rfl, ?_⟩; go_big_quiet_on))))
          refine q_end ?_
          intro w3 hb
          have HB3 := HB.out.trans (hb.mono (HG0.out ▸ HB.out.size))
          go_wp2_with fail
          go_ret
          have hge := HG0.out
          subst hge
          exact ⟨by rw [E.out]; rfl, HB3⟩
      · have E := Lib.hid (show RV = false by rw [HRV.out]; exact FNO.out (fun h => ht1 h.2.2.2.1))
        clear h1 h2 h3 h4
        refine q_begin (by kernel_rfl) (by kernel_rfl) ?_
        repeat (first
          | go_big_quiet_skip
          | ((with_reducible apply q_part (xs := ints [r, q])); (· rfl); (· rfl); (· exact Try.underlying34); (· rfl); (· exact HCV.out); (· exact l3.out); (· rfl); (· exact rowIdS.2); (simp only [Act.put, List.setIfInBounds_toArray, List.set_cons_zero, List.set_cons_succ]))
          | ((with_reducible apply q_row); (· rfl); (· rfl); (· exact Try.underlying32); (· rfl); (· exact HKV.out); (· exact l1.out); (· exact SV.out); (simp only [Act.put, List.setIfInBounds_toArray, List.set_cons_zero, List.set_cons_succ]))
          | ((with_reducible apply q_int); (· rfl); (· rfl); (· exact Try.underlying3); (· exact HCV.out); (· exact l3.out); (· rfl); (simp only [Act.put, List.setIfInBounds_toArray, List.set_cons_zero, List.set_cons_succ]))
          | ((with_reducible apply q_int); (· rfl); (· rfl); (· exact Try.underlying3); (· exact HTV.out); (· exact l2.out); (· exact hk.out); (simp only [Act.put, List.setIfInBounds_toArray, List.set_cons_zero, List.set_cons_succ]))
          | ((with_reducible apply q_call 20 (.bool true)); (· rfl); (· exact Nat.le_refl _); (· intro w _; exact CM.out w); (· intro w; go_simp); (simp only [Act.put, List.setIfInBounds_toArray, List.set_cons_zero, List.set_cons_succ]))
          | ((with_reducible apply q_call 21 (.agg #[.int .i64 nr, .int .i64 ns])); (· rfl); (· exact Nat.le_refl _); (· intro w _; exact CN.out w); (· intro w; go_simp); (simp only [Act.put, List.setIfInBounds_toArray, List.set_cons_zero, List.set_cons_succ]))
          | ((with_reducible apply q_cmp (v := .bool true)); (· rfl); (· rfl); (· rfl); (· kernel_rfl); (· intro w; exact EQ.out w); (simp only [Act.put, List.setIfInBounds_toArray, List.set_cons_zero, List.set_cons_succ]))
          | (go_big_quiet_want; go_big_quiet_op; (first | go_big_quiet_on | (apply Exists.intro; refine ⟨fun _ _ => rfl, ?_⟩; go_big_quiet_on))))
        refine q_end ?_
        intro w3 hb
        have HB3 := HB.out.trans (hb.mono (HG0.out ▸ HB.out.size))
        go_wp2_with fail
        go_ret
        have hge := HG0.out
        subst hge
        exact ⟨by rw [E.out]; rfl, HB3⟩
end Go.Proofs.Ytcfipimhpeblbaa
