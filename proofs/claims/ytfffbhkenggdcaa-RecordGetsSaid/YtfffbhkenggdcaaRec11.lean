/- Put of a record. -/
import Derived.Test.YtfffbhkenggdcaaRec10
import Derived.Test.YtfffbhkenggdcaaChg4
import Derived.Test.YtfffbhkenggdcaaRow
import Derived.Test.YtfffbhkenggdcaaOps
import Derived.Test.YtfffbhkenggdcaaEq
import Derived.Test.YtfffbhkenggdcaaChgOps
import Derived.RegionTactic
import Derived.BigRegion
import Derived.ChangeAlike
namespace Go.Proofs.Ytfffbhkenggdcaa
set_option linter.unusedVariables false
set_option linter.unusedSimpArgs false
open Go.ChangeShapes Go.WideShapes Go.ChangeAt Go.RowKit
set_option maxRecDepth 100000 in
set_option maxHeartbeats 4000000 in
theorem rput_no {X : List Value} {code : Int} (HV : Hid (X.length = 17 ∧ ∀ u ∈ X, u.oneCell' = true)) (hc : code ≠ 0) (HC : Hid (∀ w, Calls Try.prog 14 #[.agg (X).toArray] w fun e w' => e = .returned (.int .i64 code) ∧ Below w.heap.size w w')) (w : World) :
    Calls Try.prog 8 #[.agg X.toArray] w fun e w' => e = .returned (.tuple #[.slice none 0 0, .int .i64 code]) ∧ Below w.heap.size w w' := by
  have AX := Lib.hid (Blk.new w (X).toArray 31)
  have HB := Lib.hid ((Below.refl w.heap.size w).alloc (Nat.le_refl _) (.cells (X).toArray 31))
  have hL : Hid ((X).length = 17 ∧ ∀ u ∈ X, u.oneCell' = true) := HV
  clear hL
  have hc' : ¬ code = 0 := hc
  clear hc
  go_enter Try.func8, Try.ntmps8
  go_upto_region 1 with fail
  generalize w.alloc (.cells X.toArray 31) = W at *
  have rx : W.rangeAt w.heap.size 0 X := AX.out.range 0 _ (by simp)
  go_wp2_with (first
    | ((with_reducible apply rc_load); (· rfl); (· (first | assumption)); (· assumption); (simp only [Act.put, List.setIfInBounds_toArray, List.set_cons_zero, List.set_cons_succ])))
  refine (HC.out _).mono ?_
  rintro e w2 ⟨rfl, hb⟩
  have HB2 := Lib.hid (HB.out.trans (hb.mono HB.out.size))
  have AX2 := Lib.hid (AX.out.keep hb AX.out.lt)
  clear hb HB rx AX HC
  go_wp2_with fail
  go_ret2
  exact ⟨rfl, HB2.out⟩
set_option maxRecDepth 100000 in
set_option maxHeartbeats 4000000 in
theorem rput_M (i1 i2 : Int) (HC : Hid (∀ w, Calls Try.prog 14 #[.agg (rec17 2 0 0 0 0 0 0 0 0 0 i1 i2 0 0 0 false 0).toArray] w fun e w' => e = .returned (.int .i64 0) ∧ Below w.heap.size w w')) (w : World) :
    Calls Try.prog 8 #[.agg (rec17 2 0 0 0 0 0 0 0 0 0 i1 i2 0 0 0 false 0).toArray] w fun e w' => ∃ a' c', e = .returned (.tuple #[.slice a' 4 c', .int .i64 0]) ∧ Sl w' a' 4 1 (bcells (2 :: idOcts i1 i2)) ∧ Below w.heap.size w w' := by
  obtain ⟨i0, hi, hz0, hz1, hz2⟩ := info_parts u8_info
  have HV := rec17_ok 2 0 0 0 0 0 0 0 0 0 i1 i2 0 0 0 false 0
  have AX := Lib.hid (Blk.new w (rec17 2 0 0 0 0 0 0 0 0 0 i1 i2 0 0 0 false 0).toArray 31)
  have HB := Lib.hid ((Below.refl w.heap.size w).alloc (Nat.le_refl _) (.cells (rec17 2 0 0 0 0 0 0 0 0 0 i1 i2 0 0 0 false 0).toArray 31))
  have hL : Hid ((rec17 2 0 0 0 0 0 0 0 0 0 i1 i2 0 0 0 false 0).length = 17 ∧ ∀ u ∈ rec17 2 0 0 0 0 0 0 0 0 0 i1 i2 0 0 0 false 0, u.oneCell' = true) := HV
  have X0 : Hid ((rec17 2 0 0 0 0 0 0 0 0 0 i1 i2 0 0 0 false 0)[0]? = some (.int .i64 2)) := Lib.hid rfl
  have XF : Hid (((rec17 2 0 0 0 0 0 0 0 0 0 i1 i2 0 0 0 false 0).drop 10).take (ints [i1, i2]).length = ints [i1, i2]) := Lib.hid rfl
  generalize rec17 2 0 0 0 0 0 0 0 0 0 i1 i2 0 0 0 false 0 = X at *
  go_enter Try.func8, Try.ntmps8
  go_upto_region 1 with fail
  generalize w.alloc (.cells X.toArray 31) = W at *
  have rx : W.rangeAt w.heap.size 0 X := AX.out.range 0 _ (by simp)
  go_wp2_with (first
    | ((with_reducible apply rc_load); (· rfl); (· (first | assumption)); (· assumption); (simp only [Act.put, List.setIfInBounds_toArray, List.set_cons_zero, List.set_cons_succ])))
  refine (HC.out _).mono ?_
  rintro e w2 ⟨rfl, hb⟩
  have HB2 := Lib.hid (HB.out.trans (hb.mono HB.out.size))
  have AX2 := Lib.hid (AX.out.keep hb AX.out.lt)
  clear hb HB rx AX HC
  have c0 : w2.cell? ⟨w.heap.size, 0, none⟩ = some (.int .i64 2) := (AX2.out.cell 0).trans X0.out
  have HL : Hid (Sl (w2.alloc (.cells #[.int .u8 2] 5)) (some ⟨w2.heap.size, 0, none⟩) 1 1 (bcells [2])) := Lib.hid (one_sl w2 2)
  have AX3 := Lib.hid (AX2.out.alloc (.cells #[.int .u8 2] 5))
  have HB3 := Lib.hid (HB2.out.alloc HB2.out.size (.cells #[.int .u8 2] 5))
  have hz3 : w2.heap.size < (w2.alloc (.cells #[.int .u8 2] 5)).heap.size := by simp
  go_upto_region 5 with fail
  generalize hW3 : w2.alloc (.cells #[.int .u8 2] 5) = W3 at *
  generalize hg3 : w2.heap.size = g3 at *
  clear hW3 hg3 HB2 AX2 c0
  have c3 : W3.cell? ⟨w.heap.size, 0, none⟩ = some (.int .i64 2) := (AX3.out.cell 0).trans X0.out
  have rf : W3.rangeAt w.heap.size 10 (ints [i1, i2]) := AX3.out.range 10 _ XF.out
  have idl : Hid ((ints [i1, i2]).length = 2) := Lib.hid rfl
  have idv : [i1, i2].length = 2 := rfl
  go_wp2_with (first
    | ((with_reducible apply id_load (x := [i1, i2])); (· rfl); (· exact rf); (· first | assumption | exact Lib.hid rfl); (simp only [Act.put, List.setIfInBounds_toArray, List.set_cons_zero, List.set_cons_succ])))
  refine (putid_any (some ⟨g3, 0, none⟩) 1 1 [2] i1 i2 _ HL.out (by decide)).mono ?_
  rintro e w5 ⟨v, rfl, ho, hb⟩
  obtain ⟨a5, c5, rfl, _, _, hs⟩ := Sl.own ho
  have HS := Lib.hid hs
  have HB5 := Lib.hid (HB3.out.trans (hb.mono HB3.out.size))
  clear ho hb hs rf
  go_wp2_with fail
  go_ret2
  exact ⟨a5, c5, rfl, HS.out, HB5.out⟩
set_option maxRecDepth 100000 in
set_option maxHeartbeats 4000000 in
theorem rput_A (k1 k2 ko : Int) (ku : Bool) (HC : Hid (∀ w, Calls Try.prog 14 #[.agg (rec17 4 0 0 0 0 0 0 0 0 0 0 0 k1 k2 ko ku 0).toArray] w fun e w' => e = .returned (.int .i64 0) ∧ Below w.heap.size w w')) (w : World) :
    Calls Try.prog 8 #[.agg (rec17 4 0 0 0 0 0 0 0 0 0 0 0 k1 k2 ko ku 0).toArray] w fun e w' => ∃ a' c', e = .returned (.tuple #[.slice a' 6 c', .int .i64 0]) ∧ Sl w' a' 6 1 (bcells (4 :: keyOcts k1 k2 ko ku)) ∧ Below w.heap.size w w' := by
  obtain ⟨i0, hi, hz0, hz1, hz2⟩ := info_parts u8_info
  have HV := rec17_ok 4 0 0 0 0 0 0 0 0 0 0 0 k1 k2 ko ku 0
  have AX := Lib.hid (Blk.new w (rec17 4 0 0 0 0 0 0 0 0 0 0 0 k1 k2 ko ku 0).toArray 31)
  have HB := Lib.hid ((Below.refl w.heap.size w).alloc (Nat.le_refl _) (.cells (rec17 4 0 0 0 0 0 0 0 0 0 0 0 k1 k2 ko ku 0).toArray 31))
  have hL : Hid ((rec17 4 0 0 0 0 0 0 0 0 0 0 0 k1 k2 ko ku 0).length = 17 ∧ ∀ u ∈ rec17 4 0 0 0 0 0 0 0 0 0 0 0 k1 k2 ko ku 0, u.oneCell' = true) := HV
  have X0 : Hid ((rec17 4 0 0 0 0 0 0 0 0 0 0 0 k1 k2 ko ku 0)[0]? = some (.int .i64 4)) := Lib.hid rfl
  have XF : Hid (((rec17 4 0 0 0 0 0 0 0 0 0 0 0 k1 k2 ko ku 0).drop 12).take (key4 k1 k2 ko ku).length = (key4 k1 k2 ko ku)) := Lib.hid rfl
  generalize rec17 4 0 0 0 0 0 0 0 0 0 0 0 k1 k2 ko ku 0 = X at *
  go_enter Try.func8, Try.ntmps8
  go_upto_region 1 with fail
  generalize w.alloc (.cells X.toArray 31) = W at *
  have rx : W.rangeAt w.heap.size 0 X := AX.out.range 0 _ (by simp)
  go_wp2_with (first
    | ((with_reducible apply rc_load); (· rfl); (· (first | assumption)); (· assumption); (simp only [Act.put, List.setIfInBounds_toArray, List.set_cons_zero, List.set_cons_succ])))
  refine (HC.out _).mono ?_
  rintro e w2 ⟨rfl, hb⟩
  have HB2 := Lib.hid (HB.out.trans (hb.mono HB.out.size))
  have AX2 := Lib.hid (AX.out.keep hb AX.out.lt)
  clear hb HB rx AX HC
  have c0 : w2.cell? ⟨w.heap.size, 0, none⟩ = some (.int .i64 4) := (AX2.out.cell 0).trans X0.out
  have HL : Hid (Sl (w2.alloc (.cells #[.int .u8 4] 5)) (some ⟨w2.heap.size, 0, none⟩) 1 1 (bcells [4])) := Lib.hid (one_sl w2 4)
  have AX3 := Lib.hid (AX2.out.alloc (.cells #[.int .u8 4] 5))
  have HB3 := Lib.hid (HB2.out.alloc HB2.out.size (.cells #[.int .u8 4] 5))
  have hz3 : w2.heap.size < (w2.alloc (.cells #[.int .u8 4] 5)).heap.size := by simp
  go_upto_region 5 with fail
  generalize hW3 : w2.alloc (.cells #[.int .u8 4] 5) = W3 at *
  generalize hg3 : w2.heap.size = g3 at *
  clear hW3 hg3 HB2 AX2 c0
  have c3 : W3.cell? ⟨w.heap.size, 0, none⟩ = some (.int .i64 4) := (AX3.out.cell 0).trans X0.out
  have rf : W3.rangeAt w.heap.size 12 (key4 k1 k2 ko ku) := AX3.out.range 12 _ XF.out
  go_wp2_with (first
    | ((with_reducible apply ky_load (x := key4 k1 k2 ko ku)); (· rfl); (· exact rf); (· exact key4_ok k1 k2 ko ku); (simp only [Act.put, List.setIfInBounds_toArray, List.set_cons_zero, List.set_cons_succ])))
  refine (putkey_any (some ⟨g3, 0, none⟩) 1 1 [4] k1 k2 ko ku _ HL.out (by decide)).mono ?_
  rintro e w5 ⟨v, rfl, ho, hb⟩
  obtain ⟨a5, c5, rfl, _, _, hs⟩ := Sl.own ho
  have HS := Lib.hid hs
  have HB5 := Lib.hid (HB3.out.trans (hb.mono HB3.out.size))
  clear ho hb hs rf
  go_wp2_with fail
  go_ret2
  exact ⟨a5, c5, rfl, HS.out, HB5.out⟩
set_option maxRecDepth 100000 in
set_option maxHeartbeats 4000000 in
theorem rput_T (k1 k2 ko : Int) (ku : Bool) (now : Int) (HC : Hid (∀ w, Calls Try.prog 14 #[.agg (rec17 3 0 0 0 0 0 0 0 0 0 0 0 k1 k2 ko ku now).toArray] w fun e w' => e = .returned (.int .i64 0) ∧ Below w.heap.size w w')) (w : World) :
    Calls Try.prog 8 #[.agg (rec17 3 0 0 0 0 0 0 0 0 0 0 0 k1 k2 ko ku now).toArray] w fun e w' => ∃ a' c', e = .returned (.tuple #[.slice a' 10 c', .int .i64 0]) ∧ Sl w' a' 10 1 (bcells ((3 :: keyOcts k1 k2 ko ku) ++ beOf (u64 now) 4)) ∧ Below w.heap.size w w' := by
  obtain ⟨i0, hi, hz0, hz1, hz2⟩ := info_parts u8_info
  have HV := rec17_ok 3 0 0 0 0 0 0 0 0 0 0 0 k1 k2 ko ku now
  have AX := Lib.hid (Blk.new w (rec17 3 0 0 0 0 0 0 0 0 0 0 0 k1 k2 ko ku now).toArray 31)
  have HB := Lib.hid ((Below.refl w.heap.size w).alloc (Nat.le_refl _) (.cells (rec17 3 0 0 0 0 0 0 0 0 0 0 0 k1 k2 ko ku now).toArray 31))
  have hL : Hid ((rec17 3 0 0 0 0 0 0 0 0 0 0 0 k1 k2 ko ku now).length = 17 ∧ ∀ u ∈ rec17 3 0 0 0 0 0 0 0 0 0 0 0 k1 k2 ko ku now, u.oneCell' = true) := HV
  have X0 : Hid ((rec17 3 0 0 0 0 0 0 0 0 0 0 0 k1 k2 ko ku now)[0]? = some (.int .i64 3)) := Lib.hid rfl
  have XF : Hid (((rec17 3 0 0 0 0 0 0 0 0 0 0 0 k1 k2 ko ku now).drop 12).take (key4 k1 k2 ko ku).length = (key4 k1 k2 ko ku)) := Lib.hid rfl
  have XN : Hid ((rec17 3 0 0 0 0 0 0 0 0 0 0 0 k1 k2 ko ku now)[16]? = some (.int .i64 now)) := Lib.hid rfl
  generalize rec17 3 0 0 0 0 0 0 0 0 0 0 0 k1 k2 ko ku now = X at *
  go_enter Try.func8, Try.ntmps8
  go_upto_region 1 with fail
  generalize w.alloc (.cells X.toArray 31) = W at *
  have rx : W.rangeAt w.heap.size 0 X := AX.out.range 0 _ (by simp)
  go_wp2_with (first
    | ((with_reducible apply rc_load); (· rfl); (· (first | assumption)); (· assumption); (simp only [Act.put, List.setIfInBounds_toArray, List.set_cons_zero, List.set_cons_succ])))
  refine (HC.out _).mono ?_
  rintro e w2 ⟨rfl, hb⟩
  have HB2 := Lib.hid (HB.out.trans (hb.mono HB.out.size))
  have AX2 := Lib.hid (AX.out.keep hb AX.out.lt)
  clear hb HB rx AX HC
  have c0 : w2.cell? ⟨w.heap.size, 0, none⟩ = some (.int .i64 3) := (AX2.out.cell 0).trans X0.out
  have HL : Hid (Sl (w2.alloc (.cells #[.int .u8 3] 5)) (some ⟨w2.heap.size, 0, none⟩) 1 1 (bcells [3])) := Lib.hid (one_sl w2 3)
  have AX3 := Lib.hid (AX2.out.alloc (.cells #[.int .u8 3] 5))
  have HB3 := Lib.hid (HB2.out.alloc HB2.out.size (.cells #[.int .u8 3] 5))
  have hz3 : w2.heap.size < (w2.alloc (.cells #[.int .u8 3] 5)).heap.size := by simp
  go_upto_region 5 with fail
  generalize hW3 : w2.alloc (.cells #[.int .u8 3] 5) = W3 at *
  generalize hg3 : w2.heap.size = g3 at *
  clear hW3 hg3 HB2 AX2 c0
  have c3 : W3.cell? ⟨w.heap.size, 0, none⟩ = some (.int .i64 3) := (AX3.out.cell 0).trans X0.out
  have HSZ : Hid (w.heap.size < W3.heap.size) := Lib.hid AX3.out.lt
  have HW1 := Lib.hid (u64_wrap now)
  have M1 := Lib.hid (u64_lt now)
  go_upto_region 12 with fail
  refine held_begin (fun w' => Below W3.heap.size W3 w') 10 [false, false, false, false, false, false, false, false, false, false] (by kernel_rfl) rfl (by rfl) ?_
  have hHeld : Below W3.heap.size W3 W3.drew := ⟨rfl, rfl, rfl, Nat.le_refl _, fun _ _ => rfl⟩
  refine held_take (v := ?_) 0 38 [true, false, false, false, false, false, false, false, false, false] rfl (by rfl) (by rfl) (by kernel_rfl) (by kernel_rfl) (by kernel_rfl) (by rfl) (fun _ _ _ h => h) ?_ hHeld ?_
  rotate_left
  · intro w hSw; go_simp <;> with_reducible rfl
  simp only [Act.put, List.setIfInBounds_toArray, List.set_cons_zero, List.set_cons_succ]
  refine held_take (v := ?_) 1 39 [true, true, false, false, false, false, false, false, false, false] rfl (by rfl) (by rfl) (by kernel_rfl) (by kernel_rfl) (by kernel_rfl) (by rfl) (fun _ _ _ h => h) ?_ hHeld ?_
  rotate_left
  · intro w hSw; go_simp <;> with_reducible rfl
  simp only [Act.put, List.setIfInBounds_toArray, List.set_cons_zero, List.set_cons_succ]
  refine held_take (v := .agg #[.int .i64 k1, .int .i64 k2, .int .i64 ko, .bool ku]) 2 40 [true, true, true, false, false, false, false, false, false, false] rfl (by rfl) (by rfl) (by kernel_rfl) (by kernel_rfl) (by kernel_rfl) (by rfl) (fun _ _ _ h => h) (fun w' h => run_op_load rfl rfl (((AX3.out.keep h AX3.out.lt)).range 12 (key4 k1 k2 ko ku) XF.out) Try.underlying29 rfl (by kernel_rfl)) hHeld ?_
  simp only [Act.put, List.setIfInBounds_toArray, List.set_cons_zero, List.set_cons_succ]
  refine held_take (v := ?_) 4 42 [true, true, true, false, true, false, false, false, false, false] rfl (by rfl) (by rfl) (by kernel_rfl) (by kernel_rfl) (by kernel_rfl) (by rfl) (fun _ _ _ h => h) ?_ hHeld ?_
  rotate_left
  · intro w hSw; go_simp <;> with_reducible rfl
  simp only [Act.put, List.setIfInBounds_toArray, List.set_cons_zero, List.set_cons_succ]
  refine held_take (v := .int .i64 now) 5 43 [true, true, true, false, true, true, false, false, false, false] rfl (by rfl) (by rfl) (by kernel_rfl) (by kernel_rfl) (by kernel_rfl) (by rfl) (fun _ _ _ h => h) (fun w' h => run_op_one rfl rfl Try.underlying3 rfl (((AX3.out.keep h AX3.out.lt).cell 16).trans XN.out)) hHeld ?_
  simp only [Act.put, List.setIfInBounds_toArray, List.set_cons_zero, List.set_cons_succ]
  refine held_take (v := ?_) 6 44 [true, true, true, false, true, true, true, false, false, false] rfl (by rfl) (by rfl) (by kernel_rfl) (by kernel_rfl) (by kernel_rfl) (by rfl) (fun _ _ _ h => h) ?_ hHeld ?_
  rotate_left
  · intro w hSw; go_simp <;> with_reducible rfl
  simp only [Act.put, List.setIfInBounds_toArray, List.set_cons_zero, List.set_cons_succ]
  rw [HW1.out]
  have P1 := putkey_any (some ⟨g3, 0, none⟩) 1 1 [3] k1 k2 ko ku _ (HL.out.keep hHeld) (by decide)
  refine held_call 3 41 [true, true, true, true, true, true, true, false, false, false] (by kernel_rfl) rfl (by rfl) (by rfl) (by rfl) (by go_simp) ((P1).mono ?_)
  rintro e w5 ⟨v5, rfl, ho5, hb5⟩
  refine ⟨_, rfl, hHeld.trans (hb5.mono hHeld.size), fun hHeld => ?_⟩
  simp only [Act.put, List.setIfInBounds_toArray, List.set_cons_zero, List.set_cons_succ]
  clear P1
  obtain ⟨a5, c5, rfl, _, _, hs5⟩ := Sl.own ho5
  have P2 := put_ok a5 6 c5 _ (u64 now) 4 _ hs5 (fun u hu => bcells_one hu) (by decide) (by decide) (by decide) M1.out
  rw [show (((4 : Nat) : Int)) = 4 from rfl] at P2
  refine held_call 7 45 [true, true, true, true, true, true, true, true, false, false] (by kernel_rfl) rfl (by rfl) (by rfl) (by rfl) (by go_simp) ((P2).mono ?_)
  rintro e w6 ⟨v6, rfl, ho6, hb6⟩
  refine ⟨_, rfl, hHeld.trans (hb6.mono hHeld.size), fun hHeld => ?_⟩
  simp only [Act.put, List.setIfInBounds_toArray, List.set_cons_zero, List.set_cons_succ]
  clear P2
  refine held_take (v := ?_) 8 2 [true, true, true, true, true, true, true, true, true, false] rfl (by rfl) (by rfl) (by kernel_rfl) (by kernel_rfl) (by kernel_rfl) (by rfl) (fun _ _ _ h => h) ?_ hHeld ?_
  rotate_left
  · intro w hSw; go_simp <;> with_reducible rfl
  simp only [Act.put, List.setIfInBounds_toArray, List.set_cons_zero, List.set_cons_succ]
  refine held_take (v := ?_) 9 3 [true, true, true, true, true, true, true, true, true, true] rfl (by rfl) (by rfl) (by kernel_rfl) (by kernel_rfl) (by kernel_rfl) (by rfl) (fun _ _ _ h => h) ?_ hHeld ?_
  rotate_left
  · intro w hSw; go_simp <;> with_reducible rfl
  simp only [Act.put, List.setIfInBounds_toArray, List.set_cons_zero, List.set_cons_succ]
  refine held_done (by kernel_rfl) ?_
  rw [← bcells_add] at ho6
  obtain ⟨a6, c6, rfl, _, _, hs6⟩ := Sl.own ho6
  have HS := Lib.hid hs6
  have HB5 := Lib.hid (HB3.out.trans (hHeld.mono (Nat.le_of_lt (Nat.lt_of_lt_of_le HSZ.out (Nat.le_refl _)))))
  clear hHeld hb5 hb6 ho5 ho6 hs5 hs6
  go_wp2_with fail
  go_ret2
  exact ⟨a6, c6, rfl, HS.out, HB5.out⟩
set_option maxRecDepth 100000 in
set_option maxHeartbeats 4000000 in
theorem rput_C (r s t k a b n p q : Int) (HC : Hid (∀ w, Calls Try.prog 14 #[.agg (rec17 1 r s t k a b n p q 0 0 0 0 0 false 0).toArray] w fun e w' => e = .returned (.int .i64 0) ∧ Below w.heap.size w w')) (w : World) (hm : mayChg r s t k a b p q = true) :
    Calls Try.prog 8 #[.agg (rec17 1 r s t k a b n p q 0 0 0 0 0 false 0).toArray] w fun e w' => ∃ a' c', e = .returned (.tuple #[.slice a' 23 c', .int .i64 0]) ∧ Sl w' a' 23 1 (bcells (1 :: encOf r s t k a b n p q)) ∧ Below w.heap.size w w' := by
  obtain ⟨i0, hi, hz0, hz1, hz2⟩ := info_parts u8_info
  have HV := rec17_ok 1 r s t k a b n p q 0 0 0 0 0 false 0
  have AX := Lib.hid (Blk.new w (rec17 1 r s t k a b n p q 0 0 0 0 0 false 0).toArray 31)
  have HB := Lib.hid ((Below.refl w.heap.size w).alloc (Nat.le_refl _) (.cells (rec17 1 r s t k a b n p q 0 0 0 0 0 false 0).toArray 31))
  have hL : Hid ((rec17 1 r s t k a b n p q 0 0 0 0 0 false 0).length = 17 ∧ ∀ u ∈ rec17 1 r s t k a b n p q 0 0 0 0 0 false 0, u.oneCell' = true) := HV
  have X0 : Hid ((rec17 1 r s t k a b n p q 0 0 0 0 0 false 0)[0]? = some (.int .i64 1)) := Lib.hid rfl
  have XF : Hid (((rec17 1 r s t k a b n p q 0 0 0 0 0 false 0).drop 1).take (ints [r, s, t, k, a, b, n, p, q]).length = (ints [r, s, t, k, a, b, n, p, q])) := Lib.hid rfl
  have CP := Lib.hid (fun w => cput_yes r s t k a b n p q w hm)
  clear hm
  generalize rec17 1 r s t k a b n p q 0 0 0 0 0 false 0 = X at *
  go_enter Try.func8, Try.ntmps8
  go_upto_region 1 with fail
  generalize w.alloc (.cells X.toArray 31) = W at *
  have rx : W.rangeAt w.heap.size 0 X := AX.out.range 0 _ (by simp)
  go_wp2_with (first
    | ((with_reducible apply rc_load); (· rfl); (· (first | assumption)); (· assumption); (simp only [Act.put, List.setIfInBounds_toArray, List.set_cons_zero, List.set_cons_succ])))
  refine (HC.out _).mono ?_
  rintro e w2 ⟨rfl, hb⟩
  have HB2 := Lib.hid (HB.out.trans (hb.mono HB.out.size))
  have AX2 := Lib.hid (AX.out.keep hb AX.out.lt)
  clear hb HB rx AX HC
  have c0 : w2.cell? ⟨w.heap.size, 0, none⟩ = some (.int .i64 1) := (AX2.out.cell 0).trans X0.out
  have HOW : Hid ((w2.alloc (.cells #[.int .u8 1] 5)).ownsRow w.heap.size 5 1 (.slice (some ⟨w2.heap.size, 0, none⟩) 1 1) 1 (bcells [1])) := Lib.hid (own_base (World.ownsRow_lit w2 #[.int .u8 1] 1 (Nat.le_refl _) (by simp [maxLen]) rfl) HB2.out.size)
  have HL : Hid (Sl (w2.alloc (.cells #[.int .u8 1] 5)) (some ⟨w2.heap.size, 0, none⟩) 1 1 (bcells [1])) := Lib.hid (one_sl w2 1)
  have AX3 := Lib.hid (AX2.out.alloc (.cells #[.int .u8 1] 5))
  have HB3 := Lib.hid (HB2.out.alloc HB2.out.size (.cells #[.int .u8 1] 5))
  have hz3 : w2.heap.size < (w2.alloc (.cells #[.int .u8 1] 5)).heap.size := by simp
  go_upto_region 5 with fail
  generalize hW3 : w2.alloc (.cells #[.int .u8 1] 5) = W3 at *
  generalize hg3 : w2.heap.size = g3 at *
  clear hW3 hg3 HB2 AX2 c0
  have c3 : W3.cell? ⟨w.heap.size, 0, none⟩ = some (.int .i64 1) := (AX3.out.cell 0).trans X0.out
  have rf : W3.rangeAt w.heap.size 1 (ints [r, s, t, k, a, b, n, p, q]) := AX3.out.range 1 _ XF.out
  have HO : Hid (W3.ownsRow w.heap.size 5 1 (.slice (some ⟨g3, 0, none⟩) 1 1) 1 (bcells [1])) := HOW
  go_wp2_with (first
    | ((with_reducible apply cg_load (x := [r, s, t, k, a, b, n, p, q])); (· rfl); (· exact rf); (· exact Lib.hid rfl); (simp only [Act.put, List.setIfInBounds_toArray, List.set_cons_zero, List.set_cons_succ])))
  refine (CP.out _).mono ?_
  rintro e w5 ⟨a5, c5, rfl, hs, hb⟩
  have HO5 := Lib.hid (own_stay HO.out hb)
  have HS5 := Lib.hid hs
  have HB5 := Lib.hid (HB3.out.trans (hb.mono HB3.out.size))
  have hnl : a5 = none → c5 = 0 := by
    rintro rfl
    have := hs.nil_.1
    cases this
  have hq5 := HB5.out.size
  clear hb hs rf CP HO HB3
  go_wp2_with (first
    | (at_builtin; refine app_any _ _ 22 5 i0 (.int .u8 0) 1 1 Try.underlying22 hi hz0 hz1 hz2 rfl (by decide) rfl rfl rfl HO5.out rfl HS5.out hnl (fun u hu => bcells_one hu) ?c1 ?c2 hq5 ?_))
  case c1 => simp only [maxLen]; omega
  case c2 => omega
  intro v6 w6 ho hb
  rw [← bcells_add] at ho
  obtain ⟨a6, c6, rfl, _, _, hs⟩ := Sl.own ho
  have HS := Lib.hid hs
  have HB6 := Lib.hid (HB5.out.trans hb)
  clear ho hb hs
  go_wp2_with fail
  go_ret2
  exact ⟨a6, c6, rfl, HS.out, HB6.out⟩
end Go.Proofs.Ytfffbhkenggdcaa
