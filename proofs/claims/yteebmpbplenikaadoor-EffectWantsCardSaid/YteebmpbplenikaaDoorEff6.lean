/- The reference's GetEffect. -/
import Derived.Test.YteebmpbplenikaaDoorEnt6
import Derived.Test.YteebmpbplenikaaDoorChg7
import Derived.Test.YteebmpbplenikaaDoorHeld
import Derived.Deep.DeepCutAuto
import Derived.StillTailTactics
import Derived.Test.YteebmpbplenikaaDoorRow
import Derived.Test.YteebmpbplenikaaDoorOps
import Derived.RegionTactic
import Derived.BigRegion
import Derived.ChangeAlike
namespace Go.Proofs.YteebmpbplenikaaDoor
set_option linter.unusedVariables false
set_option linter.unusedSimpArgs false
open Go.ChangeShapes Go.WideShapes Go.ChangeAt Go.RowKit
theorem sub_atm {w : World} {bb off c i k m : Nat} {bs : List UInt8} (h : Sl w (some ⟨bb, off, none⟩) m 1 (bcells bs)) (hk : i + k ≤ m) (hc : m ≤ c) (hi : i < m) : Sl w (some ⟨bb, off + i, none⟩) k 1 (bcells ((bs.drop i).take k)) := by
  have := h.sub (c := c) hk hc
  unfold restOf at this
  rw [if_neg (by omega)] at this
  simpa [add_plain] using this
set_option maxRecDepth 100000 in
set_option maxHeartbeats 8000000 in
theorem rgete_main (a : Option Addr) (c : Nat) (bs : List UInt8) (w : World) (h : Sl w a 13 1 (bcells bs)) (hc : 13 ≤ c) (hcm : c ≤ 9223372036854775807) (code : Int) (hm : effCode (fld bs 0 1) (fld bs 1 1) (fld bs 10 1) (fld bs 11 2) = code) :
    Calls Tryd.prog 13 #[.slice a 13 c] w fun e w' => e = .returned (.tuple #[.agg (ints (effOf bs)).toArray, .bool (decide (code = 0))]) ∧ Below w.heap.size w w' := by
  have HO : Hid (effOf bs = if code = 0 then [fld bs 0 1, fld bs 1 1, fld bs 2 8, fld bs 10 1, fld bs 11 2] else [0, 0, 0, 0, 0]) := Lib.hid (by unfold effOf; rw [hm])
  have M : Hid (∀ w, Calls Tryd.prog 7 #[.agg (ints [fld bs 0 1, fld bs 1 1, fld bs 2 8, fld bs 10 1, fld bs 11 2]).toArray] w fun e w' => e = .returned (.int .i64 code) ∧ Below w.heap.size w w') := Lib.hid (fun w => by have := emay_any (fld bs 0 1) (fld bs 1 1) (fld bs 2 8) (fld bs 10 1) (fld bs 11 2) w; rwa [hm] at this)
  have HWR := Lib.hid (show [fld bs 0 1, fld bs 1 1, fld bs 2 8, fld bs 10 1, fld bs 11 2] = [IntKind.i64.wrap ((bs.getD 0 0).toNat : Int), IntKind.i64.wrap ((bs.getD 1 0).toNat : Int), IntKind.i64.wrap (numOf ((bs.drop 2).take 8) : Int), IntKind.i64.wrap ((bs.getD 10 0).toNat : Int), IntKind.i64.wrap (numOf ((bs.drop 11).take 2) : Int)] by
    have hbl0 : bs.length = 13 := sl_one h
    rw [wrap_oct bs 0 (by omega), wrap_oct bs 1 (by omega), wrap_oct bs 10 (by omega)]
    simp only [i64_wrap64]
    rfl)
  clear hm
  have hbl : bs.length = 13 := sl_one h
  obtain ⟨_, bb, off, rfl, hb, hcell⟩ := h.byte (by omega)
  have HCL := Lib.hid hcell
  have HS := Lib.hid h
  clear hbl hcell h
  go_enter Tryd.func13, Tryd.ntmps13
  have HB1 := Lib.hid (((Below.refl w.heap.size w).alloc (Nat.le_refl _) (.cells #[.int .i64 0, .int .i64 0, .int .i64 0, .int .i64 0, .int .i64 0] 25)).drew)
  have BW := Lib.hid (Blk.new w #[.int .i64 0, .int .i64 0, .int .i64 0, .int .i64 0, .int .i64 0] 25)
  go_upto_region 3 with fail
  have hWz : (w.alloc (.cells #[.int .i64 0, .int .i64 0, .int .i64 0, .int .i64 0, .int .i64 0] 25)).heap.size = w.heap.size + 1 := by simp
  generalize (w.alloc (.cells #[.int .i64 0, .int .i64 0, .int .i64 0, .int .i64 0, .int .i64 0] 25)) = W at *
  have HCL2 := Lib.hid (fun i (hi : i < 13) w' (hb' : Below w.heap.size w w') => show w'.cell? ⟨bb, off + i, none⟩ = some (.int .u8 ((bs.getD i 0).toNat : Int)) from (hb'.cell (p := ⟨bb, off + i, none⟩) hb).trans (HCL.out i hi))
  have HL0 := Lib.hid (fun w' (hb' : Below w.heap.size w w') => show w'.cell? ⟨bb, off, none⟩ = some (.int .u8 ((bs.getD 0 0).toNat : Int)) from HCL2.out 0 (by decide) w' hb')
  have HL1 := Lib.hid (HCL2.out 1 (by decide))
  have HL10 := Lib.hid (HCL2.out 10 (by decide))
  have HSL := Lib.hid (fun i k (hk : i + k ≤ 13) (hi : i < 13) w' (hb' : Below w.heap.size w w') => (sub_atm HS.out (i := i) (k := k) hk hc hi).keep hb')
  have HG2 := Lib.hid (fun w' (hb' : Below w.heap.size w w') => rget_any (some ⟨bb, off + 2, none⟩) 8 (c - 2) ((bs.drop 2).take 8) w' (HSL.out 2 8 (by decide) (by decide) w' hb') (by decide))
  have HG11 := Lib.hid (fun w' (hb' : Below w.heap.size w w') => rget_any (some ⟨bb, off + 11, none⟩) 2 (c - 11) ((bs.drop 11).take 2) w' (HSL.out 11 2 (by decide) (by decide) w' hb') (by decide))
  clear HSL
  generalize hm2 : numOf ((bs.drop 2).take 8) = m2 at *
  generalize hm11 : numOf ((bs.drop 11).take 2) = m11 at *
  have HM := Lib.hid (And.intro hm2 hm11)
  clear hm2 hm11
  generalize hx0 : (bs.getD 0 0).toNat = x0 at *
  generalize hx1 : (bs.getD 1 0).toNat = x1 at *
  generalize hx10 : (bs.getD 10 0).toNat = x10 at *
  have HX := Lib.hid (And.intro hx0 (And.intro hx1 hx10))
  clear hx0 hx1 hx10 HCL2 HCL HS
  have hc2 : ¬ c = 2 := by omega
  have hc11 : ¬ c = 11 := by omega
  have d10 : (10 : Int) ≤ c := by omega
  have d13 : (13 : Int) ≤ c := by omega
  go_cut [4] (fun s4 wx => s4 = .pointer (some ⟨w.heap.size + 1, 0, none⟩) ∧ wx = (World.drew W).alloc (.cells #[.int .i64 (IntKind.i64.wrap x0), .int .i64 (IntKind.i64.wrap x1), .int .i64 (IntKind.i64.wrap m2), .int .i64 (IntKind.i64.wrap x10), .int .i64 (IntKind.i64.wrap m11)] 25))
  case first =>
    refine held_begin (fun w' => Below w.heap.size w w') 24 [false, false, false, false, false, false, false, false, false, false, false, false, false, false, false, false, false, false, false, false, false, false, false, false] (by kernel_rfl) rfl (by rfl) ?_
    have hHeld : Below w.heap.size w W.drew := HB1.out
    refine held_take (v := ?_) 0 9 [true, false, false, false, false, false, false, false, false, false, false, false, false, false, false, false, false, false, false, false, false, false, false, false] rfl (by rfl) (by rfl) (by kernel_rfl) (by kernel_rfl) (by kernel_rfl) (by rfl) (fun _ _ _ h => h) ?_ hHeld ?_
    rotate_left
    · intro w hSw; go_simp <;> with_reducible rfl
    simp only [Act.put, List.setIfInBounds_toArray, List.set_cons_zero, List.set_cons_succ]
    refine held_take (v := ?_) 1 10 [true, true, false, false, false, false, false, false, false, false, false, false, false, false, false, false, false, false, false, false, false, false, false, false] rfl (by rfl) (by rfl) (by kernel_rfl) (by kernel_rfl) (by kernel_rfl) (by rfl) (fun _ _ _ h => h) ?_ hHeld ?_
    rotate_left
    · intro w hSw; go_simp <;> with_reducible rfl
    simp only [Act.put, List.setIfInBounds_toArray, List.set_cons_zero, List.set_cons_succ]
    refine held_take (v := .int .u8 x0) 2 11 [true, true, true, false, false, false, false, false, false, false, false, false, false, false, false, false, false, false, false, false, false, false, false, false] rfl (by rfl) (by rfl) (by kernel_rfl) (by kernel_rfl) (by kernel_rfl) (by rfl) (fun _ _ _ h => h) (fun w' h => by have k := HL0.out w' h; go_simp) hHeld ?_
    simp only [Act.put, List.setIfInBounds_toArray, List.set_cons_zero, List.set_cons_succ]
    refine held_take (v := ?_) 3 12 [true, true, true, true, false, false, false, false, false, false, false, false, false, false, false, false, false, false, false, false, false, false, false, false] rfl (by rfl) (by rfl) (by kernel_rfl) (by kernel_rfl) (by kernel_rfl) (by rfl) (fun _ _ _ h => h) ?_ hHeld ?_
    rotate_left
    · intro w hSw; go_simp <;> with_reducible rfl
    simp only [Act.put, List.setIfInBounds_toArray, List.set_cons_zero, List.set_cons_succ]
    refine held_take (v := ?_) 4 13 [true, true, true, true, true, false, false, false, false, false, false, false, false, false, false, false, false, false, false, false, false, false, false, false] rfl (by rfl) (by rfl) (by kernel_rfl) (by kernel_rfl) (by kernel_rfl) (by rfl) (fun _ _ _ h => h) ?_ hHeld ?_
    rotate_left
    · intro w hSw; go_simp <;> with_reducible rfl
    simp only [Act.put, List.setIfInBounds_toArray, List.set_cons_zero, List.set_cons_succ]
    refine held_take (v := ?_) 5 14 [true, true, true, true, true, true, false, false, false, false, false, false, false, false, false, false, false, false, false, false, false, false, false, false] rfl (by rfl) (by rfl) (by kernel_rfl) (by kernel_rfl) (by kernel_rfl) (by rfl) (fun _ _ _ h => h) ?_ hHeld ?_
    rotate_left
    · intro w hSw; go_simp <;> with_reducible rfl
    simp only [Act.put, List.setIfInBounds_toArray, List.set_cons_zero, List.set_cons_succ]
    refine held_take (v := .int .u8 x1) 6 15 [true, true, true, true, true, true, true, false, false, false, false, false, false, false, false, false, false, false, false, false, false, false, false, false] rfl (by rfl) (by rfl) (by kernel_rfl) (by kernel_rfl) (by kernel_rfl) (by rfl) (fun _ _ _ h => h) (fun w' h => by have k := HL1.out w' h; go_simp) hHeld ?_
    simp only [Act.put, List.setIfInBounds_toArray, List.set_cons_zero, List.set_cons_succ]
    refine held_take (v := ?_) 7 16 [true, true, true, true, true, true, true, true, false, false, false, false, false, false, false, false, false, false, false, false, false, false, false, false] rfl (by rfl) (by rfl) (by kernel_rfl) (by kernel_rfl) (by kernel_rfl) (by rfl) (fun _ _ _ h => h) ?_ hHeld ?_
    rotate_left
    · intro w hSw; go_simp <;> with_reducible rfl
    simp only [Act.put, List.setIfInBounds_toArray, List.set_cons_zero, List.set_cons_succ]
    refine held_take (v := ?_) 8 17 [true, true, true, true, true, true, true, true, true, false, false, false, false, false, false, false, false, false, false, false, false, false, false, false] rfl (by rfl) (by rfl) (by kernel_rfl) (by kernel_rfl) (by kernel_rfl) (by rfl) (fun _ _ _ h => h) ?_ hHeld ?_
    rotate_left
    · intro w hSw; go_simp <;> with_reducible rfl
    simp only [Act.put, List.setIfInBounds_toArray, List.set_cons_zero, List.set_cons_succ]
    refine held_take (v := ?_) 9 18 [true, true, true, true, true, true, true, true, true, true, false, false, false, false, false, false, false, false, false, false, false, false, false, false] rfl (by rfl) (by rfl) (by kernel_rfl) (by kernel_rfl) (by kernel_rfl) (by rfl) (fun _ _ _ h => h) ?_ hHeld ?_
    rotate_left
    · intro w hSw; go_simp <;> with_reducible rfl
    simp only [Act.put, List.setIfInBounds_toArray, List.set_cons_zero, List.set_cons_succ]
    refine held_take (v := ?_) 12 21 [true, true, true, true, true, true, true, true, true, true, false, false, true, false, false, false, false, false, false, false, false, false, false, false] rfl (by rfl) (by rfl) (by kernel_rfl) (by kernel_rfl) (by kernel_rfl) (by rfl) (fun _ _ _ h => h) ?_ hHeld ?_
    rotate_left
    · intro w hSw; go_simp <;> with_reducible rfl
    simp only [Act.put, List.setIfInBounds_toArray, List.set_cons_zero, List.set_cons_succ]
    refine held_take (v := ?_) 13 22 [true, true, true, true, true, true, true, true, true, true, false, false, true, true, false, false, false, false, false, false, false, false, false, false] rfl (by rfl) (by rfl) (by kernel_rfl) (by kernel_rfl) (by kernel_rfl) (by rfl) (fun _ _ _ h => h) ?_ hHeld ?_
    rotate_left
    · intro w hSw; go_simp <;> with_reducible rfl
    simp only [Act.put, List.setIfInBounds_toArray, List.set_cons_zero, List.set_cons_succ]
    refine held_take (v := .int .u8 x10) 14 23 [true, true, true, true, true, true, true, true, true, true, false, false, true, true, true, false, false, false, false, false, false, false, false, false] rfl (by rfl) (by rfl) (by kernel_rfl) (by kernel_rfl) (by kernel_rfl) (by rfl) (fun _ _ _ h => h) (fun w' h => by have k := HL10.out w' h; go_simp) hHeld ?_
    simp only [Act.put, List.setIfInBounds_toArray, List.set_cons_zero, List.set_cons_succ]
    refine held_take (v := ?_) 15 24 [true, true, true, true, true, true, true, true, true, true, false, false, true, true, true, true, false, false, false, false, false, false, false, false] rfl (by rfl) (by rfl) (by kernel_rfl) (by kernel_rfl) (by kernel_rfl) (by rfl) (fun _ _ _ h => h) ?_ hHeld ?_
    rotate_left
    · intro w hSw; go_simp <;> with_reducible rfl
    simp only [Act.put, List.setIfInBounds_toArray, List.set_cons_zero, List.set_cons_succ]
    refine held_take (v := ?_) 16 25 [true, true, true, true, true, true, true, true, true, true, false, false, true, true, true, true, true, false, false, false, false, false, false, false] rfl (by rfl) (by rfl) (by kernel_rfl) (by kernel_rfl) (by kernel_rfl) (by rfl) (fun _ _ _ h => h) ?_ hHeld ?_
    rotate_left
    · intro w hSw; go_simp <;> with_reducible rfl
    simp only [Act.put, List.setIfInBounds_toArray, List.set_cons_zero, List.set_cons_succ]
    refine held_take (v := ?_) 17 26 [true, true, true, true, true, true, true, true, true, true, false, false, true, true, true, true, true, true, false, false, false, false, false, false] rfl (by rfl) (by rfl) (by kernel_rfl) (by kernel_rfl) (by kernel_rfl) (by rfl) (fun _ _ _ h => h) ?_ hHeld ?_
    rotate_left
    · intro w hSw; go_simp <;> with_reducible rfl
    simp only [Act.put, List.setIfInBounds_toArray, List.set_cons_zero, List.set_cons_succ]
    refine held_two 10 22 (by kernel_rfl) ?_ ?_
    · refine op_call 19 [true, true, true, true, true, true, true, true, true, true, true, false, true, true, true, true, true, true, false, false, false, false, false, false] rfl (by rfl) (by rfl) (by rfl) (by go_simp) ((HG2.out _ hHeld).mono ?_)
      rintro e w' ⟨rfl, rfl⟩
      refine ⟨_, rfl, hHeld, fun hHeld => ?_⟩
      simp only [Act.put, List.setIfInBounds_toArray, List.set_cons_zero, List.set_cons_succ]
      refine held_take (v := (.int .i64 (IntKind.i64.wrap m2))) 11 20 [true, true, true, true, true, true, true, true, true, true, true, true, true, true, true, true, true, true, false, false, false, false, false, false] rfl (by rfl) (by rfl) (by kernel_rfl) (by kernel_rfl) (by kernel_rfl) (by rfl) (fun _ _ _ h => h) (fun w' h => by go_simp <;> rfl) hHeld ?_
      simp only [Act.put, List.setIfInBounds_toArray, List.set_cons_zero, List.set_cons_succ]
      refine held_two 18 22 (by kernel_rfl) ?_ ?_
      · refine op_call 27 [true, true, true, true, true, true, true, true, true, true, true, true, true, true, true, true, true, true, true, false, false, false, false, false] rfl (by rfl) (by rfl) (by rfl) (by go_simp) ((HG11.out _ hHeld).mono ?_)
        rintro e w' ⟨rfl, rfl⟩
        refine ⟨_, rfl, hHeld, fun hHeld => ?_⟩
        simp only [Act.put, List.setIfInBounds_toArray, List.set_cons_zero, List.set_cons_succ]
        refine held_take (v := (.int .i64 (IntKind.i64.wrap m11))) 19 28 [true, true, true, true, true, true, true, true, true, true, true, true, true, true, true, true, true, true, true, true, false, false, false, false] rfl (by rfl) (by rfl) (by kernel_rfl) (by kernel_rfl) (by kernel_rfl) (by rfl) (fun _ _ _ h => h) (fun w' h => by go_simp <;> rfl) hHeld ?_
        simp only [Act.put, List.setIfInBounds_toArray, List.set_cons_zero, List.set_cons_succ]
        refine held_take (v := ?_) 20 29 [true, true, true, true, true, true, true, true, true, true, true, true, true, true, true, true, true, true, true, true, true, false, false, false] rfl (by rfl) (by rfl) (by kernel_rfl) (by kernel_rfl) (by kernel_rfl) (by rfl) (fun _ _ _ h => h) ?_ hHeld ?_
        rotate_left
        · intro w hSw; go_simp <;> with_reducible rfl
        simp only [Act.put, List.setIfInBounds_toArray, List.set_cons_zero, List.set_cons_succ]
        refine held_take (v := ?_) 21 30 [true, true, true, true, true, true, true, true, true, true, true, true, true, true, true, true, true, true, true, true, true, true, false, false] rfl (by rfl) (by rfl) (by kernel_rfl) (by kernel_rfl) (by kernel_rfl) (by rfl) (fun _ _ _ h => h) ?_ hHeld ?_
        rotate_left
        · intro w hSw; go_simp <;> with_reducible rfl
        simp only [Act.put, List.setIfInBounds_toArray, List.set_cons_zero, List.set_cons_succ]
        refine held_one 22 (by kernel_rfl) ?_
        refine op_value (v := .pointer (some ⟨W.heap.size, 0, none⟩)) 4 [true, true, true, true, true, true, true, true, true, true, true, true, true, true, true, true, true, true, true, true, true, true, true, false] rfl (by rfl) (by rfl) (by rfl) (by go_simp <;> rfl) (hHeld.alloc hHeld.size (.cells #[.int .i64 0, .int .i64 0, .int .i64 0, .int .i64 0, .int .i64 0] 25)) fun hHeld => ?_
        simp only [Act.put, List.setIfInBounds_toArray, List.set_cons_zero, List.set_cons_succ]
        refine held_one 23 (by kernel_rfl) ?_
        refine op_skip [true, true, true, true, true, true, true, true, true, true, true, true, true, true, true, true, true, true, true, true, true, true, true, true] rfl (by rfl) (by rfl) (by rfl) (run_op_store_new rfl rfl rfl (by kernel_rfl) rfl (by simp [Value.oneCell'])) ((HB1.out.alloc HB1.out.size _)) fun hHeld => ?_
        refine held_done (by kernel_rfl) ?_
        go_wp2_with fail
        go_meet
        exact ⟨rfl, rfl⟩
      · refine op_value (v := .pointer (some ⟨W.heap.size, 0, none⟩)) 4 [true, true, true, true, true, true, true, true, true, true, true, true, true, true, true, true, true, true, false, false, false, false, true, false] rfl (by rfl) (by rfl) (by rfl) (by go_simp <;> rfl) (hHeld.alloc hHeld.size (.cells #[.int .i64 0, .int .i64 0, .int .i64 0, .int .i64 0, .int .i64 0] 25)) fun hHeld => ?_
        simp only [Act.put, List.setIfInBounds_toArray, List.set_cons_zero, List.set_cons_succ]
        refine held_one 18 (by kernel_rfl) ?_
        refine op_call 27 [true, true, true, true, true, true, true, true, true, true, true, true, true, true, true, true, true, true, true, false, false, false, true, false] rfl (by rfl) (by rfl) (by rfl) (by go_simp) ((HG11.out _ hHeld).mono ?_)
        rintro e w' ⟨rfl, rfl⟩
        refine ⟨_, rfl, hHeld, fun hHeld => ?_⟩
        simp only [Act.put, List.setIfInBounds_toArray, List.set_cons_zero, List.set_cons_succ]
        refine held_take (v := (.int .i64 (IntKind.i64.wrap m11))) 19 28 [true, true, true, true, true, true, true, true, true, true, true, true, true, true, true, true, true, true, true, true, false, false, true, false] rfl (by rfl) (by rfl) (by kernel_rfl) (by kernel_rfl) (by kernel_rfl) (by rfl) (fun _ _ _ h => h) (fun w' h => by go_simp <;> rfl) hHeld ?_
        simp only [Act.put, List.setIfInBounds_toArray, List.set_cons_zero, List.set_cons_succ]
        refine held_take (v := ?_) 20 29 [true, true, true, true, true, true, true, true, true, true, true, true, true, true, true, true, true, true, true, true, true, false, true, false] rfl (by rfl) (by rfl) (by kernel_rfl) (by kernel_rfl) (by kernel_rfl) (by rfl) (fun _ _ _ h => h) ?_ hHeld ?_
        rotate_left
        · intro w hSw; go_simp <;> with_reducible rfl
        simp only [Act.put, List.setIfInBounds_toArray, List.set_cons_zero, List.set_cons_succ]
        refine held_take (v := ?_) 21 30 [true, true, true, true, true, true, true, true, true, true, true, true, true, true, true, true, true, true, true, true, true, true, true, false] rfl (by rfl) (by rfl) (by kernel_rfl) (by kernel_rfl) (by kernel_rfl) (by rfl) (fun _ _ _ h => h) ?_ hHeld ?_
        rotate_left
        · intro w hSw; go_simp <;> with_reducible rfl
        simp only [Act.put, List.setIfInBounds_toArray, List.set_cons_zero, List.set_cons_succ]
        refine held_one 23 (by kernel_rfl) ?_
        refine op_skip [true, true, true, true, true, true, true, true, true, true, true, true, true, true, true, true, true, true, true, true, true, true, true, true] rfl (by rfl) (by rfl) (by rfl) (run_op_store_new rfl rfl rfl (by kernel_rfl) rfl (by simp [Value.oneCell'])) ((HB1.out.alloc HB1.out.size _)) fun hHeld => ?_
        refine held_done (by kernel_rfl) ?_
        go_wp2_with fail
        go_meet
        exact ⟨rfl, rfl⟩
    · refine op_value (v := .pointer (some ⟨W.heap.size, 0, none⟩)) 4 [true, true, true, true, true, true, true, true, true, true, false, false, true, true, true, true, true, true, false, false, false, false, true, false] rfl (by rfl) (by rfl) (by rfl) (by go_simp <;> rfl) (hHeld.alloc hHeld.size (.cells #[.int .i64 0, .int .i64 0, .int .i64 0, .int .i64 0, .int .i64 0] 25)) fun hHeld => ?_
      simp only [Act.put, List.setIfInBounds_toArray, List.set_cons_zero, List.set_cons_succ]
      refine held_one 10 (by kernel_rfl) ?_
      refine op_call 19 [true, true, true, true, true, true, true, true, true, true, true, false, true, true, true, true, true, true, false, false, false, false, true, false] rfl (by rfl) (by rfl) (by rfl) (by go_simp) ((HG2.out _ hHeld).mono ?_)
      rintro e w' ⟨rfl, rfl⟩
      refine ⟨_, rfl, hHeld, fun hHeld => ?_⟩
      simp only [Act.put, List.setIfInBounds_toArray, List.set_cons_zero, List.set_cons_succ]
      refine held_take (v := (.int .i64 (IntKind.i64.wrap m2))) 11 20 [true, true, true, true, true, true, true, true, true, true, true, true, true, true, true, true, true, true, false, false, false, false, true, false] rfl (by rfl) (by rfl) (by kernel_rfl) (by kernel_rfl) (by kernel_rfl) (by rfl) (fun _ _ _ h => h) (fun w' h => by go_simp <;> rfl) hHeld ?_
      simp only [Act.put, List.setIfInBounds_toArray, List.set_cons_zero, List.set_cons_succ]
      refine held_one 18 (by kernel_rfl) ?_
      refine op_call 27 [true, true, true, true, true, true, true, true, true, true, true, true, true, true, true, true, true, true, true, false, false, false, true, false] rfl (by rfl) (by rfl) (by rfl) (by go_simp) ((HG11.out _ hHeld).mono ?_)
      rintro e w' ⟨rfl, rfl⟩
      refine ⟨_, rfl, hHeld, fun hHeld => ?_⟩
      simp only [Act.put, List.setIfInBounds_toArray, List.set_cons_zero, List.set_cons_succ]
      refine held_take (v := (.int .i64 (IntKind.i64.wrap m11))) 19 28 [true, true, true, true, true, true, true, true, true, true, true, true, true, true, true, true, true, true, true, true, false, false, true, false] rfl (by rfl) (by rfl) (by kernel_rfl) (by kernel_rfl) (by kernel_rfl) (by rfl) (fun _ _ _ h => h) (fun w' h => by go_simp <;> rfl) hHeld ?_
      simp only [Act.put, List.setIfInBounds_toArray, List.set_cons_zero, List.set_cons_succ]
      refine held_take (v := ?_) 20 29 [true, true, true, true, true, true, true, true, true, true, true, true, true, true, true, true, true, true, true, true, true, false, true, false] rfl (by rfl) (by rfl) (by kernel_rfl) (by kernel_rfl) (by kernel_rfl) (by rfl) (fun _ _ _ h => h) ?_ hHeld ?_
      rotate_left
      · intro w hSw; go_simp <;> with_reducible rfl
      simp only [Act.put, List.setIfInBounds_toArray, List.set_cons_zero, List.set_cons_succ]
      refine held_take (v := ?_) 21 30 [true, true, true, true, true, true, true, true, true, true, true, true, true, true, true, true, true, true, true, true, true, true, true, false] rfl (by rfl) (by rfl) (by kernel_rfl) (by kernel_rfl) (by kernel_rfl) (by rfl) (fun _ _ _ h => h) ?_ hHeld ?_
      rotate_left
      · intro w hSw; go_simp <;> with_reducible rfl
      simp only [Act.put, List.setIfInBounds_toArray, List.set_cons_zero, List.set_cons_succ]
      refine held_one 23 (by kernel_rfl) ?_
      refine op_skip [true, true, true, true, true, true, true, true, true, true, true, true, true, true, true, true, true, true, true, true, true, true, true, true] rfl (by rfl) (by rfl) (by rfl) (run_op_store_new rfl rfl rfl (by kernel_rfl) rfl (by simp [Value.oneCell'])) ((HB1.out.alloc HB1.out.size _)) fun hHeld => ?_
      refine held_done (by kernel_rfl) ?_
      go_wp2_with fail
      go_meet
      exact ⟨rfl, rfl⟩
  case rest =>
    obtain ⟨rfl, rfl⟩ := hcut
    have AX : Hid (Blk ((World.drew W).alloc (.cells #[.int .i64 (IntKind.i64.wrap x0), .int .i64 (IntKind.i64.wrap x1), .int .i64 (IntKind.i64.wrap m2), .int .i64 (IntKind.i64.wrap x10), .int .i64 (IntKind.i64.wrap m11)] 25)) (World.drew W).heap.size (ints [IntKind.i64.wrap (x0 : Int), IntKind.i64.wrap (x1 : Int), IntKind.i64.wrap (m2 : Int), IntKind.i64.wrap (x10 : Int), IntKind.i64.wrap (m11 : Int)]) 25) := Lib.hid (Blk.new (World.drew W) #[.int .i64 (IntKind.i64.wrap x0), .int .i64 (IntKind.i64.wrap x1), .int .i64 (IntKind.i64.wrap m2), .int .i64 (IntKind.i64.wrap x10), .int .i64 (IntKind.i64.wrap m11)] 25)
    have hgx : (World.drew W).heap.size = w.heap.size + 1 := hWz
    rw [hgx] at AX
    have AZ : Hid (Blk ((World.drew W).alloc (.cells #[.int .i64 (IntKind.i64.wrap x0), .int .i64 (IntKind.i64.wrap x1), .int .i64 (IntKind.i64.wrap m2), .int .i64 (IntKind.i64.wrap x10), .int .i64 (IntKind.i64.wrap m11)] 25)) w.heap.size (ints [0, 0, 0, 0, 0]) 25) := Lib.hid (BW.out.drew.alloc _)
    have HBX : Hid (Below w.heap.size w ((World.drew W).alloc (.cells #[.int .i64 (IntKind.i64.wrap x0), .int .i64 (IntKind.i64.wrap x1), .int .i64 (IntKind.i64.wrap m2), .int .i64 (IntKind.i64.wrap x10), .int .i64 (IntKind.i64.wrap m11)] 25))) := Lib.hid (HB1.out.alloc HB1.out.size _)
    have h5 : Hid (([IntKind.i64.wrap (x0 : Int), IntKind.i64.wrap (x1 : Int), IntKind.i64.wrap (m2 : Int), IntKind.i64.wrap (x10 : Int), IntKind.i64.wrap (m11 : Int)] : List Int).length = 5) := Lib.hid rfl
    generalize (World.drew W).alloc (.cells #[.int .i64 (IntKind.i64.wrap x0), .int .i64 (IntKind.i64.wrap x1), .int .i64 (IntKind.i64.wrap m2), .int .i64 (IntKind.i64.wrap x10), .int .i64 (IntKind.i64.wrap m11)] 25) = wy at *
    generalize [IntKind.i64.wrap (x0 : Int), IntKind.i64.wrap (x1 : Int), IntKind.i64.wrap (m2 : Int), IntKind.i64.wrap (x10 : Int), IntKind.i64.wrap (m11 : Int)] = X at *
    have rx : wy.rangeAt (w.heap.size + 1) 0 (ints X) := AX.out.ef h5
    rw [HWR.out] at M
    go_wp2_with (first
      | ((with_reducible apply ef_load); (· rfl); (· (first | assumption)); (· assumption); (simp only [Act.put, List.setIfInBounds_toArray, List.set_cons_zero, List.set_cons_succ])))
    refine (M.out _).mono ?_
    rintro e w4 ⟨rfl, hb4⟩
    have HB4 := Lib.hid (HBX.out.trans (hb4.mono HBX.out.size))
    have AX4 := Lib.hid (AX.out.keep hb4 AX.out.lt)
    have AZ4 := Lib.hid (AZ.out.keep hb4 AZ.out.lt)
    have rx4 : w4.rangeAt (w.heap.size + 1) 0 (ints X) := AX4.out.ef h5
    clear hb4 rx AX AZ HBX M
    by_cases hcd : code = 0
    · have HO2 : Hid (effOf bs = X) := Lib.hid (by rw [HO.out, if_pos hcd, HWR.out])
      have HCD := Lib.hid hcd
      subst hcd
      go_wp2_with (first
        | ((with_reducible apply ef_load); (· rfl); (· (first | assumption)); (· assumption); (simp only [Act.put, List.setIfInBounds_toArray, List.set_cons_zero, List.set_cons_succ]))
        | ((with_reducible apply ef_store); (· rfl); (· rfl); (· assumption); (· first | rfl | assumption); (· assumption); (simp only [Act.put, List.setIfInBounds_toArray, List.set_cons_zero, List.set_cons_succ])))
      have C5 := AZ4.out.setAll (ints X) (by rw [ints_len, h5.out]; rfl)
      refine ret_cell_tmp (p := 2) (q := 3) rfl rfl rfl C5 Tryd.underlying25 rfl (by rw [ef_size, ints_len, h5.out]) rfl ⟨by rw [HO2.out]; rfl, below_sets (Nat.le_refl _) _ _ _ HB4.out⟩
    · have HO2 : Hid (effOf bs = [0, 0, 0, 0, 0]) := Lib.hid (by rw [HO.out, if_neg hcd])
      have HD : Hid (decide (code = 0) = false) := Lib.hid (decide_eq_false hcd)
      have C5 := Lib.hid (AZ4.out.setAll (ints [0, 0, 0, 0, 0]) rfl)
      have HBZ := Lib.hid (below_sets (Nat.le_refl _) (ints [0, 0, 0, 0, 0]) 0 _ HB4.out)
      go_wp2_with (first
        | ((with_reducible apply ef_store0); (· rfl); (· rfl); (· exact AZ4.out); (· rfl); (simp only [Act.put, List.setIfInBounds_toArray, List.set_cons_zero, List.set_cons_succ]); (generalize w4.setCells w.heap.size 0 (ints [0, 0, 0, 0, 0]) = WW at *)))
      refine ret_cell_tmp (p := 2) (q := 3) rfl rfl rfl C5.out Tryd.underlying25 rfl (by rw [ef_size]; rfl) rfl ⟨by rw [HO2.out, HD.out]; rfl, HBZ.out⟩
end Go.Proofs.YteebmpbplenikaaDoor
