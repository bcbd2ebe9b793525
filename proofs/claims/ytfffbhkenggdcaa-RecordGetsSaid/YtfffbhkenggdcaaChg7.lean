/- The reference's Get of a change. -/
import Derived.Test.YtfffbhkenggdcaaChg5
import Derived.Test.YtfffbhkenggdcaaLaw02
import Derived.Test.YtfffbhkenggdcaaHeld
import Derived.Deep.DeepCutAuto
import Derived.StillTailTactics
import Derived.Lib.SmallJoins
import Derived.BigQuiet
import Derived.Deep.QuietTactic
import Derived.Test.YtfffbhkenggdcaaOct
import Derived.Test.YtfffbhkenggdcaaApp
import Derived.Test.YtfffbhkenggdcaaRow
import Derived.Test.YtfffbhkenggdcaaOps
import Derived.RegionTactic
import Derived.BigRegion
import Derived.ChangeAlike
namespace Go.Proofs.Ytfffbhkenggdcaa
set_option linter.unusedVariables false
set_option linter.unusedSimpArgs false
open Go.ChangeShapes Go.WideShapes Go.ChangeAt Go.RowKit
theorem i64_wrap64 (x : Int) : IntKind.i64.wrap x = wrap64 x := (IntKind.wrap_i64 x).trans (by unfold wrap64; rfl)
theorem fld_one (bs : List UInt8) (i : Nat) (h : i < bs.length) : ((bs.getD i 0).toNat : Int) = fld bs i 1 := by
  have hx : (bs.getD i 0).toNat < 256 := UInt8.toNat_lt _
  unfold fld
  rw [show (bs.drop i).take 1 = [bs.getD i 0] by
    rw [List.drop_eq_getElem_cons h, List.take_succ_cons, List.take_zero, List.getD_eq_getElem?_getD, List.getElem?_eq_getElem h]; rfl]
  rw [s64_small (by simp only [numOf, List.foldl_cons, List.foldl_nil]; omega)]
  simp [numOf]
theorem wrap_oct (bs : List UInt8) (i : Nat) (h : i < bs.length) : fld bs i 1 = IntKind.i64.wrap ((bs.getD i 0).toNat : Int) := by
  have hx : (bs.getD i 0).toNat < 256 := UInt8.toNat_lt _
  rw [← fld_one bs i h, i64_wrap64]
  unfold wrap64
  omega
theorem sub_at {w : World} {bb off c i k : Nat} {bs : List UInt8} (h : Sl w (some ⟨bb, off, none⟩) 22 1 (bcells bs)) (hk : i + k ≤ 22) (hc : 22 ≤ c) (hi : i < 22 := by decide) : Sl w (some ⟨bb, off + i, none⟩) k 1 (bcells ((bs.drop i).take k)) := by
  have := h.sub (c := c) hk hc
  unfold restOf at this
  rw [if_neg (by omega)] at this
  simpa [add_plain] using this
set_option maxRecDepth 100000 in
set_option maxHeartbeats 8000000 in
theorem rgetc_main (a : Option Addr) (c : Nat) (bs : List UInt8) (v : Bool) (w : World) (h : Sl w a 22 1 (bcells bs)) (hc : 22 ≤ c) (hcm : c ≤ 9223372036854775807) (h21 : (bs.getD 21 0).toNat = 67) (hm : mayChg (fld bs 0 1) (fld bs 1 2) (fld bs 3 4) (fld bs 7 1) (fld bs 8 1) (fld bs 9 1) (fld bs 18 1) (fld bs 19 2) = v) :
    Calls Try.prog 18 #[.slice a 22 c] w fun e w' => (v = true → e = .returned (.tuple #[.agg (ints [fld bs 0 1, fld bs 1 2, fld bs 3 4, fld bs 7 1, fld bs 8 1, fld bs 9 1, fld bs 10 8, fld bs 18 1, fld bs 19 2]).toArray, .bool true])) ∧ (v = false → e = .returned (.tuple #[.agg #[.int .i64 0, .int .i64 0, .int .i64 0, .int .i64 0, .int .i64 0, .int .i64 0, .int .i64 0, .int .i64 0, .int .i64 0], .bool false])) ∧ Below w.heap.size w w' := by
  have M : Hid (∀ w, Calls Try.prog 33 #[.agg (ints [fld bs 0 1, fld bs 1 2, fld bs 3 4, fld bs 7 1, fld bs 8 1, fld bs 9 1, fld bs 10 8, fld bs 18 1, fld bs 19 2]).toArray] w fun e w' => e = .returned (.bool v) ∧ Below w.heap.size w w') := Lib.hid (fun w => by have := rmayc_any (fld bs 0 1) (fld bs 1 2) (fld bs 3 4) (fld bs 7 1) (fld bs 8 1) (fld bs 9 1) (fld bs 10 8) (fld bs 18 1) (fld bs 19 2) w; rwa [hm] at this)
  have HWR := Lib.hid (show [fld bs 0 1, fld bs 1 2, fld bs 3 4, fld bs 7 1, fld bs 8 1, fld bs 9 1, fld bs 10 8, fld bs 18 1, fld bs 19 2] = [IntKind.i64.wrap ((bs.getD 0 0).toNat : Int), IntKind.i64.wrap (numOf ((bs.drop 1).take 2) : Int), IntKind.i64.wrap (numOf ((bs.drop 3).take 4) : Int), IntKind.i64.wrap ((bs.getD 7 0).toNat : Int), IntKind.i64.wrap ((bs.getD 8 0).toNat : Int), IntKind.i64.wrap ((bs.getD 9 0).toNat : Int), IntKind.i64.wrap (numOf ((bs.drop 10).take 8) : Int), IntKind.i64.wrap ((bs.getD 18 0).toNat : Int), IntKind.i64.wrap (numOf ((bs.drop 19).take 2) : Int)] by
    have hbl0 : bs.length = 22 := sl_one h
    rw [wrap_oct bs 0 (by omega), wrap_oct bs 7 (by omega), wrap_oct bs 8 (by omega), wrap_oct bs 9 (by omega), wrap_oct bs 18 (by omega)]
    simp only [i64_wrap64]
    rfl)
  clear hm
  have hbl : bs.length = 22 := sl_one h
  obtain ⟨_, bb, off, rfl, hb, hcell⟩ := h.byte (by omega)
  have b21 : w.cell? ⟨bb, off + 21, none⟩ = some (.int .u8 67) := by have := hcell 21 (by omega); rw [h21] at this; exact this
  have HBL := Lib.hid hbl
  have HCL := Lib.hid hcell
  have HS := Lib.hid h
  clear hbl h21 hcell h
  go_enter Try.func18, Try.ntmps18
  have HB1 := Lib.hid (((Below.refl w.heap.size w).alloc (Nat.le_refl _) (.cells #[.int .i64 0, .int .i64 0, .int .i64 0, .int .i64 0, .int .i64 0, .int .i64 0, .int .i64 0, .int .i64 0, .int .i64 0] 27)).drew)
  have BW := Lib.hid (Blk.new w #[.int .i64 0, .int .i64 0, .int .i64 0, .int .i64 0, .int .i64 0, .int .i64 0, .int .i64 0, .int .i64 0, .int .i64 0] 27)
  go_upto_region 3 with fail
  have hWz : (w.alloc (.cells #[.int .i64 0, .int .i64 0, .int .i64 0, .int .i64 0, .int .i64 0, .int .i64 0, .int .i64 0, .int .i64 0, .int .i64 0] 27)).heap.size = w.heap.size + 1 := by simp
  generalize (w.alloc (.cells #[.int .i64 0, .int .i64 0, .int .i64 0, .int .i64 0, .int .i64 0, .int .i64 0, .int .i64 0, .int .i64 0, .int .i64 0] 27)) = W at *
  have HCL2 := Lib.hid (fun i (hi : i < 22) w' (hb' : Below w.heap.size w w') => show w'.cell? ⟨bb, off + i, none⟩ = some (.int .u8 ((bs.getD i 0).toNat : Int)) from (hb'.cell (p := ⟨bb, off + i, none⟩) hb).trans (HCL.out i hi))
  have HL0 := Lib.hid (fun w' (hb' : Below w.heap.size w w') => show w'.cell? ⟨bb, off, none⟩ = some (.int .u8 ((bs.getD 0 0).toNat : Int)) from HCL2.out 0 (by decide) w' hb')
  have HL7 := Lib.hid (HCL2.out 7 (by decide))
  have HL8 := Lib.hid (HCL2.out 8 (by decide))
  have HL9 := Lib.hid (HCL2.out 9 (by decide))
  have HL18 := Lib.hid (HCL2.out 18 (by decide))
  have HSL := Lib.hid (fun i k (hk : i + k ≤ 22) (hi : i < 22) w' (hb' : Below w.heap.size w w') => (sub_at HS.out (i := i) (k := k) hk hc hi).keep hb')
  have HG1 := Lib.hid (fun w' (hb' : Below w.heap.size w w') => rget_any (some ⟨bb, off + 1, none⟩) 2 (c - 1) ((bs.drop 1).take 2) w' (HSL.out 1 2 (by decide) (by decide) w' hb') (by decide))
  have HG3 := Lib.hid (fun w' (hb' : Below w.heap.size w w') => rget_any (some ⟨bb, off + 3, none⟩) 4 (c - 3) ((bs.drop 3).take 4) w' (HSL.out 3 4 (by decide) (by decide) w' hb') (by decide))
  have HG10 := Lib.hid (fun w' (hb' : Below w.heap.size w w') => rget_any (some ⟨bb, off + 10, none⟩) 8 (c - 10) ((bs.drop 10).take 8) w' (HSL.out 10 8 (by decide) (by decide) w' hb') (by decide))
  have HG19 := Lib.hid (fun w' (hb' : Below w.heap.size w w') => rget_any (some ⟨bb, off + 19, none⟩) 2 (c - 19) ((bs.drop 19).take 2) w' (HSL.out 19 2 (by decide) (by decide) w' hb') (by decide))
  clear HSL
  generalize hm1 : numOf ((bs.drop 1).take 2) = m1 at *
  generalize hm3 : numOf ((bs.drop 3).take 4) = m3 at *
  generalize hm10 : numOf ((bs.drop 10).take 8) = m10 at *
  generalize hm19 : numOf ((bs.drop 19).take 2) = m19 at *
  have HM := Lib.hid (And.intro hm1 (And.intro hm3 (And.intro hm10 hm19)))
  clear hm1 hm3 hm10 hm19
  generalize hx0 : (bs.getD 0 0).toNat = x0 at *
  generalize hx7 : (bs.getD 7 0).toNat = x7 at *
  generalize hx8 : (bs.getD 8 0).toNat = x8 at *
  generalize hx9 : (bs.getD 9 0).toNat = x9 at *
  generalize hx18 : (bs.getD 18 0).toNat = x18 at *
  have HX := Lib.hid (And.intro hx0 (And.intro hx7 (And.intro hx8 (And.intro hx9 hx18))))
  clear hx0 hx7 hx8 hx9 hx18 HCL2 HCL HS
  have hc1 : ¬ c = 1 := by omega
  have hc3 : ¬ c = 3 := by omega
  have hc10 : ¬ c = 10 := by omega
  have hc19 : ¬ c = 19 := by omega
  have d3 : (3 : Int) ≤ c := by omega
  have d7 : (7 : Int) ≤ c := by omega
  have d18 : (18 : Int) ≤ c := by omega
  have d21 : (21 : Int) ≤ c := by omega
  go_cut [4] (fun s4 wx => s4 = .pointer (some ⟨w.heap.size + 1, 0, none⟩) ∧ wx = (World.drew W).alloc (.cells #[.int .i64 (IntKind.i64.wrap x0), .int .i64 (IntKind.i64.wrap m1), .int .i64 (IntKind.i64.wrap m3), .int .i64 (IntKind.i64.wrap x7), .int .i64 (IntKind.i64.wrap x8), .int .i64 (IntKind.i64.wrap x9), .int .i64 (IntKind.i64.wrap m10), .int .i64 (IntKind.i64.wrap x18), .int .i64 (IntKind.i64.wrap m19)] 27))
  case first =>
    refine held_begin (fun w' => Below w.heap.size w w') 41 [false, false, false, false, false, false, false, false, false, false, false, false, false, false, false, false, false, false, false, false, false, false, false, false, false, false, false, false, false, false, false, false, false, false, false, false, false, false, false, false, false] (by kernel_rfl) rfl (by rfl) ?_
    have hHeld : Below w.heap.size w W.drew := HB1.out
    refine held_take (v := ?_) 0 15 [true, false, false, false, false, false, false, false, false, false, false, false, false, false, false, false, false, false, false, false, false, false, false, false, false, false, false, false, false, false, false, false, false, false, false, false, false, false, false, false, false] rfl (by rfl) (by rfl) (by kernel_rfl) (by kernel_rfl) (by kernel_rfl) (by rfl) (fun _ _ _ h => h) ?_ hHeld ?_
    rotate_left
    · intro w hSw; go_simp <;> with_reducible rfl
    simp only [Act.put, List.setIfInBounds_toArray, List.set_cons_zero, List.set_cons_succ]
    refine held_take (v := ?_) 1 16 [true, true, false, false, false, false, false, false, false, false, false, false, false, false, false, false, false, false, false, false, false, false, false, false, false, false, false, false, false, false, false, false, false, false, false, false, false, false, false, false, false] rfl (by rfl) (by rfl) (by kernel_rfl) (by kernel_rfl) (by kernel_rfl) (by rfl) (fun _ _ _ h => h) ?_ hHeld ?_
    rotate_left
    · intro w hSw; go_simp <;> with_reducible rfl
    simp only [Act.put, List.setIfInBounds_toArray, List.set_cons_zero, List.set_cons_succ]
    refine held_take (v := .int .u8 x0) 2 17 [true, true, true, false, false, false, false, false, false, false, false, false, false, false, false, false, false, false, false, false, false, false, false, false, false, false, false, false, false, false, false, false, false, false, false, false, false, false, false, false, false] rfl (by rfl) (by rfl) (by kernel_rfl) (by kernel_rfl) (by kernel_rfl) (by rfl) (fun _ _ _ h => h) (fun w' h => by have k := HL0.out w' h; go_simp) hHeld ?_
    simp only [Act.put, List.setIfInBounds_toArray, List.set_cons_zero, List.set_cons_succ]
    refine held_take (v := ?_) 3 18 [true, true, true, true, false, false, false, false, false, false, false, false, false, false, false, false, false, false, false, false, false, false, false, false, false, false, false, false, false, false, false, false, false, false, false, false, false, false, false, false, false] rfl (by rfl) (by rfl) (by kernel_rfl) (by kernel_rfl) (by kernel_rfl) (by rfl) (fun _ _ _ h => h) ?_ hHeld ?_
    rotate_left
    · intro w hSw; go_simp <;> with_reducible rfl
    simp only [Act.put, List.setIfInBounds_toArray, List.set_cons_zero, List.set_cons_succ]
    refine held_take (v := ?_) 4 19 [true, true, true, true, true, false, false, false, false, false, false, false, false, false, false, false, false, false, false, false, false, false, false, false, false, false, false, false, false, false, false, false, false, false, false, false, false, false, false, false, false] rfl (by rfl) (by rfl) (by kernel_rfl) (by kernel_rfl) (by kernel_rfl) (by rfl) (fun _ _ _ h => h) ?_ hHeld ?_
    rotate_left
    · intro w hSw; go_simp <;> with_reducible rfl
    simp only [Act.put, List.setIfInBounds_toArray, List.set_cons_zero, List.set_cons_succ]
    refine held_take (v := ?_) 5 20 [true, true, true, true, true, true, false, false, false, false, false, false, false, false, false, false, false, false, false, false, false, false, false, false, false, false, false, false, false, false, false, false, false, false, false, false, false, false, false, false, false] rfl (by rfl) (by rfl) (by kernel_rfl) (by kernel_rfl) (by kernel_rfl) (by rfl) (fun _ _ _ h => h) ?_ hHeld ?_
    rotate_left
    · intro w hSw; go_simp <;> with_reducible rfl
    simp only [Act.put, List.setIfInBounds_toArray, List.set_cons_zero, List.set_cons_succ]
    refine held_take (v := ?_) 9 24 [true, true, true, true, true, true, false, false, false, true, false, false, false, false, false, false, false, false, false, false, false, false, false, false, false, false, false, false, false, false, false, false, false, false, false, false, false, false, false, false, false] rfl (by rfl) (by rfl) (by kernel_rfl) (by kernel_rfl) (by kernel_rfl) (by rfl) (fun _ _ _ h => h) ?_ hHeld ?_
    rotate_left
    · intro w hSw; go_simp <;> with_reducible rfl
    simp only [Act.put, List.setIfInBounds_toArray, List.set_cons_zero, List.set_cons_succ]
    refine held_take (v := ?_) 10 25 [true, true, true, true, true, true, false, false, false, true, true, false, false, false, false, false, false, false, false, false, false, false, false, false, false, false, false, false, false, false, false, false, false, false, false, false, false, false, false, false, false] rfl (by rfl) (by rfl) (by kernel_rfl) (by kernel_rfl) (by kernel_rfl) (by rfl) (fun _ _ _ h => h) ?_ hHeld ?_
    rotate_left
    · intro w hSw; go_simp <;> with_reducible rfl
    simp only [Act.put, List.setIfInBounds_toArray, List.set_cons_zero, List.set_cons_succ]
    refine held_take (v := ?_) 13 28 [true, true, true, true, true, true, false, false, false, true, true, false, false, true, false, false, false, false, false, false, false, false, false, false, false, false, false, false, false, false, false, false, false, false, false, false, false, false, false, false, false] rfl (by rfl) (by rfl) (by kernel_rfl) (by kernel_rfl) (by kernel_rfl) (by rfl) (fun _ _ _ h => h) ?_ hHeld ?_
    rotate_left
    · intro w hSw; go_simp <;> with_reducible rfl
    simp only [Act.put, List.setIfInBounds_toArray, List.set_cons_zero, List.set_cons_succ]
    refine held_take (v := ?_) 14 29 [true, true, true, true, true, true, false, false, false, true, true, false, false, true, true, false, false, false, false, false, false, false, false, false, false, false, false, false, false, false, false, false, false, false, false, false, false, false, false, false, false] rfl (by rfl) (by rfl) (by kernel_rfl) (by kernel_rfl) (by kernel_rfl) (by rfl) (fun _ _ _ h => h) ?_ hHeld ?_
    rotate_left
    · intro w hSw; go_simp <;> with_reducible rfl
    simp only [Act.put, List.setIfInBounds_toArray, List.set_cons_zero, List.set_cons_succ]
    refine held_take (v := .int .u8 x7) 15 30 [true, true, true, true, true, true, false, false, false, true, true, false, false, true, true, true, false, false, false, false, false, false, false, false, false, false, false, false, false, false, false, false, false, false, false, false, false, false, false, false, false] rfl (by rfl) (by rfl) (by kernel_rfl) (by kernel_rfl) (by kernel_rfl) (by rfl) (fun _ _ _ h => h) (fun w' h => by have k := HL7.out w' h; go_simp) hHeld ?_
    simp only [Act.put, List.setIfInBounds_toArray, List.set_cons_zero, List.set_cons_succ]
    refine held_take (v := ?_) 16 31 [true, true, true, true, true, true, false, false, false, true, true, false, false, true, true, true, true, false, false, false, false, false, false, false, false, false, false, false, false, false, false, false, false, false, false, false, false, false, false, false, false] rfl (by rfl) (by rfl) (by kernel_rfl) (by kernel_rfl) (by kernel_rfl) (by rfl) (fun _ _ _ h => h) ?_ hHeld ?_
    rotate_left
    · intro w hSw; go_simp <;> with_reducible rfl
    simp only [Act.put, List.setIfInBounds_toArray, List.set_cons_zero, List.set_cons_succ]
    refine held_take (v := ?_) 17 32 [true, true, true, true, true, true, false, false, false, true, true, false, false, true, true, true, true, true, false, false, false, false, false, false, false, false, false, false, false, false, false, false, false, false, false, false, false, false, false, false, false] rfl (by rfl) (by rfl) (by kernel_rfl) (by kernel_rfl) (by kernel_rfl) (by rfl) (fun _ _ _ h => h) ?_ hHeld ?_
    rotate_left
    · intro w hSw; go_simp <;> with_reducible rfl
    simp only [Act.put, List.setIfInBounds_toArray, List.set_cons_zero, List.set_cons_succ]
    refine held_take (v := ?_) 18 33 [true, true, true, true, true, true, false, false, false, true, true, false, false, true, true, true, true, true, true, false, false, false, false, false, false, false, false, false, false, false, false, false, false, false, false, false, false, false, false, false, false] rfl (by rfl) (by rfl) (by kernel_rfl) (by kernel_rfl) (by kernel_rfl) (by rfl) (fun _ _ _ h => h) ?_ hHeld ?_
    rotate_left
    · intro w hSw; go_simp <;> with_reducible rfl
    simp only [Act.put, List.setIfInBounds_toArray, List.set_cons_zero, List.set_cons_succ]
    refine held_take (v := .int .u8 x8) 19 34 [true, true, true, true, true, true, false, false, false, true, true, false, false, true, true, true, true, true, true, true, false, false, false, false, false, false, false, false, false, false, false, false, false, false, false, false, false, false, false, false, false] rfl (by rfl) (by rfl) (by kernel_rfl) (by kernel_rfl) (by kernel_rfl) (by rfl) (fun _ _ _ h => h) (fun w' h => by have k := HL8.out w' h; go_simp) hHeld ?_
    simp only [Act.put, List.setIfInBounds_toArray, List.set_cons_zero, List.set_cons_succ]
    refine held_take (v := ?_) 20 35 [true, true, true, true, true, true, false, false, false, true, true, false, false, true, true, true, true, true, true, true, true, false, false, false, false, false, false, false, false, false, false, false, false, false, false, false, false, false, false, false, false] rfl (by rfl) (by rfl) (by kernel_rfl) (by kernel_rfl) (by kernel_rfl) (by rfl) (fun _ _ _ h => h) ?_ hHeld ?_
    rotate_left
    · intro w hSw; go_simp <;> with_reducible rfl
    simp only [Act.put, List.setIfInBounds_toArray, List.set_cons_zero, List.set_cons_succ]
    refine held_take (v := ?_) 21 36 [true, true, true, true, true, true, false, false, false, true, true, false, false, true, true, true, true, true, true, true, true, true, false, false, false, false, false, false, false, false, false, false, false, false, false, false, false, false, false, false, false] rfl (by rfl) (by rfl) (by kernel_rfl) (by kernel_rfl) (by kernel_rfl) (by rfl) (fun _ _ _ h => h) ?_ hHeld ?_
    rotate_left
    · intro w hSw; go_simp <;> with_reducible rfl
    simp only [Act.put, List.setIfInBounds_toArray, List.set_cons_zero, List.set_cons_succ]
    refine held_take (v := ?_) 22 37 [true, true, true, true, true, true, false, false, false, true, true, false, false, true, true, true, true, true, true, true, true, true, true, false, false, false, false, false, false, false, false, false, false, false, false, false, false, false, false, false, false] rfl (by rfl) (by rfl) (by kernel_rfl) (by kernel_rfl) (by kernel_rfl) (by rfl) (fun _ _ _ h => h) ?_ hHeld ?_
    rotate_left
    · intro w hSw; go_simp <;> with_reducible rfl
    simp only [Act.put, List.setIfInBounds_toArray, List.set_cons_zero, List.set_cons_succ]
    refine held_take (v := .int .u8 x9) 23 38 [true, true, true, true, true, true, false, false, false, true, true, false, false, true, true, true, true, true, true, true, true, true, true, true, false, false, false, false, false, false, false, false, false, false, false, false, false, false, false, false, false] rfl (by rfl) (by rfl) (by kernel_rfl) (by kernel_rfl) (by kernel_rfl) (by rfl) (fun _ _ _ h => h) (fun w' h => by have k := HL9.out w' h; go_simp) hHeld ?_
    simp only [Act.put, List.setIfInBounds_toArray, List.set_cons_zero, List.set_cons_succ]
    refine held_take (v := ?_) 24 39 [true, true, true, true, true, true, false, false, false, true, true, false, false, true, true, true, true, true, true, true, true, true, true, true, true, false, false, false, false, false, false, false, false, false, false, false, false, false, false, false, false] rfl (by rfl) (by rfl) (by kernel_rfl) (by kernel_rfl) (by kernel_rfl) (by rfl) (fun _ _ _ h => h) ?_ hHeld ?_
    rotate_left
    · intro w hSw; go_simp <;> with_reducible rfl
    simp only [Act.put, List.setIfInBounds_toArray, List.set_cons_zero, List.set_cons_succ]
    refine held_take (v := ?_) 25 40 [true, true, true, true, true, true, false, false, false, true, true, false, false, true, true, true, true, true, true, true, true, true, true, true, true, true, false, false, false, false, false, false, false, false, false, false, false, false, false, false, false] rfl (by rfl) (by rfl) (by kernel_rfl) (by kernel_rfl) (by kernel_rfl) (by rfl) (fun _ _ _ h => h) ?_ hHeld ?_
    rotate_left
    · intro w hSw; go_simp <;> with_reducible rfl
    simp only [Act.put, List.setIfInBounds_toArray, List.set_cons_zero, List.set_cons_succ]
    refine held_take (v := ?_) 26 41 [true, true, true, true, true, true, false, false, false, true, true, false, false, true, true, true, true, true, true, true, true, true, true, true, true, true, true, false, false, false, false, false, false, false, false, false, false, false, false, false, false] rfl (by rfl) (by rfl) (by kernel_rfl) (by kernel_rfl) (by kernel_rfl) (by rfl) (fun _ _ _ h => h) ?_ hHeld ?_
    rotate_left
    · intro w hSw; go_simp <;> with_reducible rfl
    simp only [Act.put, List.setIfInBounds_toArray, List.set_cons_zero, List.set_cons_succ]
    refine held_take (v := ?_) 29 44 [true, true, true, true, true, true, false, false, false, true, true, false, false, true, true, true, true, true, true, true, true, true, true, true, true, true, true, false, false, true, false, false, false, false, false, false, false, false, false, false, false] rfl (by rfl) (by rfl) (by kernel_rfl) (by kernel_rfl) (by kernel_rfl) (by rfl) (fun _ _ _ h => h) ?_ hHeld ?_
    rotate_left
    · intro w hSw; go_simp <;> with_reducible rfl
    simp only [Act.put, List.setIfInBounds_toArray, List.set_cons_zero, List.set_cons_succ]
    refine held_take (v := ?_) 30 45 [true, true, true, true, true, true, false, false, false, true, true, false, false, true, true, true, true, true, true, true, true, true, true, true, true, true, true, false, false, true, true, false, false, false, false, false, false, false, false, false, false] rfl (by rfl) (by rfl) (by kernel_rfl) (by kernel_rfl) (by kernel_rfl) (by rfl) (fun _ _ _ h => h) ?_ hHeld ?_
    rotate_left
    · intro w hSw; go_simp <;> with_reducible rfl
    simp only [Act.put, List.setIfInBounds_toArray, List.set_cons_zero, List.set_cons_succ]
    refine held_take (v := .int .u8 x18) 31 46 [true, true, true, true, true, true, false, false, false, true, true, false, false, true, true, true, true, true, true, true, true, true, true, true, true, true, true, false, false, true, true, true, false, false, false, false, false, false, false, false, false] rfl (by rfl) (by rfl) (by kernel_rfl) (by kernel_rfl) (by kernel_rfl) (by rfl) (fun _ _ _ h => h) (fun w' h => by have k := HL18.out w' h; go_simp) hHeld ?_
    simp only [Act.put, List.setIfInBounds_toArray, List.set_cons_zero, List.set_cons_succ]
    refine held_take (v := ?_) 32 47 [true, true, true, true, true, true, false, false, false, true, true, false, false, true, true, true, true, true, true, true, true, true, true, true, true, true, true, false, false, true, true, true, true, false, false, false, false, false, false, false, false] rfl (by rfl) (by rfl) (by kernel_rfl) (by kernel_rfl) (by kernel_rfl) (by rfl) (fun _ _ _ h => h) ?_ hHeld ?_
    rotate_left
    · intro w hSw; go_simp <;> with_reducible rfl
    simp only [Act.put, List.setIfInBounds_toArray, List.set_cons_zero, List.set_cons_succ]
    refine held_take (v := ?_) 33 48 [true, true, true, true, true, true, false, false, false, true, true, false, false, true, true, true, true, true, true, true, true, true, true, true, true, true, true, false, false, true, true, true, true, true, false, false, false, false, false, false, false] rfl (by rfl) (by rfl) (by kernel_rfl) (by kernel_rfl) (by kernel_rfl) (by rfl) (fun _ _ _ h => h) ?_ hHeld ?_
    rotate_left
    · intro w hSw; go_simp <;> with_reducible rfl
    simp only [Act.put, List.setIfInBounds_toArray, List.set_cons_zero, List.set_cons_succ]
    refine held_take (v := ?_) 34 49 [true, true, true, true, true, true, false, false, false, true, true, false, false, true, true, true, true, true, true, true, true, true, true, true, true, true, true, false, false, true, true, true, true, true, true, false, false, false, false, false, false] rfl (by rfl) (by rfl) (by kernel_rfl) (by kernel_rfl) (by kernel_rfl) (by rfl) (fun _ _ _ h => h) ?_ hHeld ?_
    rotate_left
    · intro w hSw; go_simp <;> with_reducible rfl
    simp only [Act.put, List.setIfInBounds_toArray, List.set_cons_zero, List.set_cons_succ]
    refine held_two 6 39 (by kernel_rfl) ?_ ?_
    · refine op_call 21 [true, true, true, true, true, true, true, false, false, true, true, false, false, true, true, true, true, true, true, true, true, true, true, true, true, true, true, false, false, true, true, true, true, true, true, false, false, false, false, false, false] rfl (by rfl) (by rfl) (by rfl) (by go_simp) ((HG1.out _ hHeld).mono ?_)
      rintro e w' ⟨rfl, rfl⟩
      refine ⟨_, rfl, hHeld, fun hHeld => ?_⟩
      simp only [Act.put, List.setIfInBounds_toArray, List.set_cons_zero, List.set_cons_succ]
      refine held_take (v := (.int .i64 (IntKind.i64.wrap m1))) 7 22 [true, true, true, true, true, true, true, true, false, true, true, false, false, true, true, true, true, true, true, true, true, true, true, true, true, true, true, false, false, true, true, true, true, true, true, false, false, false, false, false, false] rfl (by rfl) (by rfl) (by kernel_rfl) (by kernel_rfl) (by kernel_rfl) (by rfl) (fun _ _ _ h => h) (fun w' h => by go_simp <;> rfl) hHeld ?_
      simp only [Act.put, List.setIfInBounds_toArray, List.set_cons_zero, List.set_cons_succ]
      refine held_take (v := ?_) 8 23 [true, true, true, true, true, true, true, true, true, true, true, false, false, true, true, true, true, true, true, true, true, true, true, true, true, true, true, false, false, true, true, true, true, true, true, false, false, false, false, false, false] rfl (by rfl) (by rfl) (by kernel_rfl) (by kernel_rfl) (by kernel_rfl) (by rfl) (fun _ _ _ h => h) ?_ hHeld ?_
      rotate_left
      · intro w hSw; go_simp <;> with_reducible rfl
      simp only [Act.put, List.setIfInBounds_toArray, List.set_cons_zero, List.set_cons_succ]
      refine held_two 11 39 (by kernel_rfl) ?_ ?_
      · refine op_call 26 [true, true, true, true, true, true, true, true, true, true, true, true, false, true, true, true, true, true, true, true, true, true, true, true, true, true, true, false, false, true, true, true, true, true, true, false, false, false, false, false, false] rfl (by rfl) (by rfl) (by rfl) (by go_simp) ((HG3.out _ hHeld).mono ?_)
        rintro e w' ⟨rfl, rfl⟩
        refine ⟨_, rfl, hHeld, fun hHeld => ?_⟩
        simp only [Act.put, List.setIfInBounds_toArray, List.set_cons_zero, List.set_cons_succ]
        refine held_take (v := (.int .i64 (IntKind.i64.wrap m3))) 12 27 [true, true, true, true, true, true, true, true, true, true, true, true, true, true, true, true, true, true, true, true, true, true, true, true, true, true, true, false, false, true, true, true, true, true, true, false, false, false, false, false, false] rfl (by rfl) (by rfl) (by kernel_rfl) (by kernel_rfl) (by kernel_rfl) (by rfl) (fun _ _ _ h => h) (fun w' h => by go_simp <;> rfl) hHeld ?_
        simp only [Act.put, List.setIfInBounds_toArray, List.set_cons_zero, List.set_cons_succ]
        refine held_two 27 39 (by kernel_rfl) ?_ ?_
        · refine op_call 42 [true, true, true, true, true, true, true, true, true, true, true, true, true, true, true, true, true, true, true, true, true, true, true, true, true, true, true, true, false, true, true, true, true, true, true, false, false, false, false, false, false] rfl (by rfl) (by rfl) (by rfl) (by go_simp) ((HG10.out _ hHeld).mono ?_)
          rintro e w' ⟨rfl, rfl⟩
          refine ⟨_, rfl, hHeld, fun hHeld => ?_⟩
          simp only [Act.put, List.setIfInBounds_toArray, List.set_cons_zero, List.set_cons_succ]
          refine held_take (v := (.int .i64 (IntKind.i64.wrap m10))) 28 43 [true, true, true, true, true, true, true, true, true, true, true, true, true, true, true, true, true, true, true, true, true, true, true, true, true, true, true, true, true, true, true, true, true, true, true, false, false, false, false, false, false] rfl (by rfl) (by rfl) (by kernel_rfl) (by kernel_rfl) (by kernel_rfl) (by rfl) (fun _ _ _ h => h) (fun w' h => by go_simp <;> rfl) hHeld ?_
          simp only [Act.put, List.setIfInBounds_toArray, List.set_cons_zero, List.set_cons_succ]
          refine held_two 35 39 (by kernel_rfl) ?_ ?_
          · refine op_call 50 [true, true, true, true, true, true, true, true, true, true, true, true, true, true, true, true, true, true, true, true, true, true, true, true, true, true, true, true, true, true, true, true, true, true, true, true, false, false, false, false, false] rfl (by rfl) (by rfl) (by rfl) (by go_simp) ((HG19.out _ hHeld).mono ?_)
            rintro e w' ⟨rfl, rfl⟩
            refine ⟨_, rfl, hHeld, fun hHeld => ?_⟩
            simp only [Act.put, List.setIfInBounds_toArray, List.set_cons_zero, List.set_cons_succ]
            refine held_take (v := (.int .i64 (IntKind.i64.wrap m19))) 36 51 [true, true, true, true, true, true, true, true, true, true, true, true, true, true, true, true, true, true, true, true, true, true, true, true, true, true, true, true, true, true, true, true, true, true, true, true, true, false, false, false, false] rfl (by rfl) (by rfl) (by kernel_rfl) (by kernel_rfl) (by kernel_rfl) (by rfl) (fun _ _ _ h => h) (fun w' h => by go_simp <;> rfl) hHeld ?_
            simp only [Act.put, List.setIfInBounds_toArray, List.set_cons_zero, List.set_cons_succ]
            refine held_take (v := ?_) 37 52 [true, true, true, true, true, true, true, true, true, true, true, true, true, true, true, true, true, true, true, true, true, true, true, true, true, true, true, true, true, true, true, true, true, true, true, true, true, true, false, false, false] rfl (by rfl) (by rfl) (by kernel_rfl) (by kernel_rfl) (by kernel_rfl) (by rfl) (fun _ _ _ h => h) ?_ hHeld ?_
            rotate_left
            · intro w hSw; go_simp <;> with_reducible rfl
            simp only [Act.put, List.setIfInBounds_toArray, List.set_cons_zero, List.set_cons_succ]
            refine held_take (v := ?_) 38 53 [true, true, true, true, true, true, true, true, true, true, true, true, true, true, true, true, true, true, true, true, true, true, true, true, true, true, true, true, true, true, true, true, true, true, true, true, true, true, true, false, false] rfl (by rfl) (by rfl) (by kernel_rfl) (by kernel_rfl) (by kernel_rfl) (by rfl) (fun _ _ _ h => h) ?_ hHeld ?_
            rotate_left
            · intro w hSw; go_simp <;> with_reducible rfl
            simp only [Act.put, List.setIfInBounds_toArray, List.set_cons_zero, List.set_cons_succ]
            refine held_one 39 (by kernel_rfl) ?_
            refine op_value (v := .pointer (some ⟨W.heap.size, 0, none⟩)) 4 [true, true, true, true, true, true, true, true, true, true, true, true, true, true, true, true, true, true, true, true, true, true, true, true, true, true, true, true, true, true, true, true, true, true, true, true, true, true, true, true, false] rfl (by rfl) (by rfl) (by rfl) (by go_simp <;> rfl) (hHeld.alloc hHeld.size (.cells #[.int .i64 0, .int .i64 0, .int .i64 0, .int .i64 0, .int .i64 0, .int .i64 0, .int .i64 0, .int .i64 0, .int .i64 0] 27)) fun hHeld => ?_
            simp only [Act.put, List.setIfInBounds_toArray, List.set_cons_zero, List.set_cons_succ]
            refine held_one 40 (by kernel_rfl) ?_
            refine op_skip [true, true, true, true, true, true, true, true, true, true, true, true, true, true, true, true, true, true, true, true, true, true, true, true, true, true, true, true, true, true, true, true, true, true, true, true, true, true, true, true, true] rfl (by rfl) (by rfl) (by rfl) (run_op_store_new rfl rfl rfl (by kernel_rfl) rfl (by simp [Value.oneCell'])) ((HB1.out.alloc HB1.out.size _)) fun hHeld => ?_
            refine held_done (by kernel_rfl) ?_
            go_wp2_with fail
            go_meet
            exact ⟨rfl, rfl⟩
          · refine op_value (v := .pointer (some ⟨W.heap.size, 0, none⟩)) 4 [true, true, true, true, true, true, true, true, true, true, true, true, true, true, true, true, true, true, true, true, true, true, true, true, true, true, true, true, true, true, true, true, true, true, true, false, false, false, false, true, false] rfl (by rfl) (by rfl) (by rfl) (by go_simp <;> rfl) (hHeld.alloc hHeld.size (.cells #[.int .i64 0, .int .i64 0, .int .i64 0, .int .i64 0, .int .i64 0, .int .i64 0, .int .i64 0, .int .i64 0, .int .i64 0] 27)) fun hHeld => ?_
            simp only [Act.put, List.setIfInBounds_toArray, List.set_cons_zero, List.set_cons_succ]
            refine held_one 35 (by kernel_rfl) ?_
            refine op_call 50 [true, true, true, true, true, true, true, true, true, true, true, true, true, true, true, true, true, true, true, true, true, true, true, true, true, true, true, true, true, true, true, true, true, true, true, true, false, false, false, true, false] rfl (by rfl) (by rfl) (by rfl) (by go_simp) ((HG19.out _ hHeld).mono ?_)
            rintro e w' ⟨rfl, rfl⟩
            refine ⟨_, rfl, hHeld, fun hHeld => ?_⟩
            simp only [Act.put, List.setIfInBounds_toArray, List.set_cons_zero, List.set_cons_succ]
            refine held_take (v := (.int .i64 (IntKind.i64.wrap m19))) 36 51 [true, true, true, true, true, true, true, true, true, true, true, true, true, true, true, true, true, true, true, true, true, true, true, true, true, true, true, true, true, true, true, true, true, true, true, true, true, false, false, true, false] rfl (by rfl) (by rfl) (by kernel_rfl) (by kernel_rfl) (by kernel_rfl) (by rfl) (fun _ _ _ h => h) (fun w' h => by go_simp <;> rfl) hHeld ?_
            simp only [Act.put, List.setIfInBounds_toArray, List.set_cons_zero, List.set_cons_succ]
            refine held_take (v := ?_) 37 52 [true, true, true, true, true, true, true, true, true, true, true, true, true, true, true, true, true, true, true, true, true, true, true, true, true, true, true, true, true, true, true, true, true, true, true, true, true, true, false, true, false] rfl (by rfl) (by rfl) (by kernel_rfl) (by kernel_rfl) (by kernel_rfl) (by rfl) (fun _ _ _ h => h) ?_ hHeld ?_
            rotate_left
            · intro w hSw; go_simp <;> with_reducible rfl
            simp only [Act.put, List.setIfInBounds_toArray, List.set_cons_zero, List.set_cons_succ]
            refine held_take (v := ?_) 38 53 [true, true, true, true, true, true, true, true, true, true, true, true, true, true, true, true, true, true, true, true, true, true, true, true, true, true, true, true, true, true, true, true, true, true, true, true, true, true, true, true, false] rfl (by rfl) (by rfl) (by kernel_rfl) (by kernel_rfl) (by kernel_rfl) (by rfl) (fun _ _ _ h => h) ?_ hHeld ?_
            rotate_left
            · intro w hSw; go_simp <;> with_reducible rfl
            simp only [Act.put, List.setIfInBounds_toArray, List.set_cons_zero, List.set_cons_succ]
            refine held_one 40 (by kernel_rfl) ?_
            refine op_skip [true, true, true, true, true, true, true, true, true, true, true, true, true, true, true, true, true, true, true, true, true, true, true, true, true, true, true, true, true, true, true, true, true, true, true, true, true, true, true, true, true] rfl (by rfl) (by rfl) (by rfl) (run_op_store_new rfl rfl rfl (by kernel_rfl) rfl (by simp [Value.oneCell'])) ((HB1.out.alloc HB1.out.size _)) fun hHeld => ?_
            refine held_done (by kernel_rfl) ?_
            go_wp2_with fail
            go_meet
            exact ⟨rfl, rfl⟩
        · refine op_value (v := .pointer (some ⟨W.heap.size, 0, none⟩)) 4 [true, true, true, true, true, true, true, true, true, true, true, true, true, true, true, true, true, true, true, true, true, true, true, true, true, true, true, false, false, true, true, true, true, true, true, false, false, false, false, true, false] rfl (by rfl) (by rfl) (by rfl) (by go_simp <;> rfl) (hHeld.alloc hHeld.size (.cells #[.int .i64 0, .int .i64 0, .int .i64 0, .int .i64 0, .int .i64 0, .int .i64 0, .int .i64 0, .int .i64 0, .int .i64 0] 27)) fun hHeld => ?_
          simp only [Act.put, List.setIfInBounds_toArray, List.set_cons_zero, List.set_cons_succ]
          refine held_one 27 (by kernel_rfl) ?_
          refine op_call 42 [true, true, true, true, true, true, true, true, true, true, true, true, true, true, true, true, true, true, true, true, true, true, true, true, true, true, true, true, false, true, true, true, true, true, true, false, false, false, false, true, false] rfl (by rfl) (by rfl) (by rfl) (by go_simp) ((HG10.out _ hHeld).mono ?_)
          rintro e w' ⟨rfl, rfl⟩
          refine ⟨_, rfl, hHeld, fun hHeld => ?_⟩
          simp only [Act.put, List.setIfInBounds_toArray, List.set_cons_zero, List.set_cons_succ]
          refine held_take (v := (.int .i64 (IntKind.i64.wrap m10))) 28 43 [true, true, true, true, true, true, true, true, true, true, true, true, true, true, true, true, true, true, true, true, true, true, true, true, true, true, true, true, true, true, true, true, true, true, true, false, false, false, false, true, false] rfl (by rfl) (by rfl) (by kernel_rfl) (by kernel_rfl) (by kernel_rfl) (by rfl) (fun _ _ _ h => h) (fun w' h => by go_simp <;> rfl) hHeld ?_
          simp only [Act.put, List.setIfInBounds_toArray, List.set_cons_zero, List.set_cons_succ]
          refine held_one 35 (by kernel_rfl) ?_
          refine op_call 50 [true, true, true, true, true, true, true, true, true, true, true, true, true, true, true, true, true, true, true, true, true, true, true, true, true, true, true, true, true, true, true, true, true, true, true, true, false, false, false, true, false] rfl (by rfl) (by rfl) (by rfl) (by go_simp) ((HG19.out _ hHeld).mono ?_)
          rintro e w' ⟨rfl, rfl⟩
          refine ⟨_, rfl, hHeld, fun hHeld => ?_⟩
          simp only [Act.put, List.setIfInBounds_toArray, List.set_cons_zero, List.set_cons_succ]
          refine held_take (v := (.int .i64 (IntKind.i64.wrap m19))) 36 51 [true, true, true, true, true, true, true, true, true, true, true, true, true, true, true, true, true, true, true, true, true, true, true, true, true, true, true, true, true, true, true, true, true, true, true, true, true, false, false, true, false] rfl (by rfl) (by rfl) (by kernel_rfl) (by kernel_rfl) (by kernel_rfl) (by rfl) (fun _ _ _ h => h) (fun w' h => by go_simp <;> rfl) hHeld ?_
          simp only [Act.put, List.setIfInBounds_toArray, List.set_cons_zero, List.set_cons_succ]
          refine held_take (v := ?_) 37 52 [true, true, true, true, true, true, true, true, true, true, true, true, true, true, true, true, true, true, true, true, true, true, true, true, true, true, true, true, true, true, true, true, true, true, true, true, true, true, false, true, false] rfl (by rfl) (by rfl) (by kernel_rfl) (by kernel_rfl) (by kernel_rfl) (by rfl) (fun _ _ _ h => h) ?_ hHeld ?_
          rotate_left
          · intro w hSw; go_simp <;> with_reducible rfl
          simp only [Act.put, List.setIfInBounds_toArray, List.set_cons_zero, List.set_cons_succ]
          refine held_take (v := ?_) 38 53 [true, true, true, true, true, true, true, true, true, true, true, true, true, true, true, true, true, true, true, true, true, true, true, true, true, true, true, true, true, true, true, true, true, true, true, true, true, true, true, true, false] rfl (by rfl) (by rfl) (by kernel_rfl) (by kernel_rfl) (by kernel_rfl) (by rfl) (fun _ _ _ h => h) ?_ hHeld ?_
          rotate_left
          · intro w hSw; go_simp <;> with_reducible rfl
          simp only [Act.put, List.setIfInBounds_toArray, List.set_cons_zero, List.set_cons_succ]
          refine held_one 40 (by kernel_rfl) ?_
          refine op_skip [true, true, true, true, true, true, true, true, true, true, true, true, true, true, true, true, true, true, true, true, true, true, true, true, true, true, true, true, true, true, true, true, true, true, true, true, true, true, true, true, true] rfl (by rfl) (by rfl) (by rfl) (run_op_store_new rfl rfl rfl (by kernel_rfl) rfl (by simp [Value.oneCell'])) ((HB1.out.alloc HB1.out.size _)) fun hHeld => ?_
          refine held_done (by kernel_rfl) ?_
          go_wp2_with fail
          go_meet
          exact ⟨rfl, rfl⟩
      · refine op_value (v := .pointer (some ⟨W.heap.size, 0, none⟩)) 4 [true, true, true, true, true, true, true, true, true, true, true, false, false, true, true, true, true, true, true, true, true, true, true, true, true, true, true, false, false, true, true, true, true, true, true, false, false, false, false, true, false] rfl (by rfl) (by rfl) (by rfl) (by go_simp <;> rfl) (hHeld.alloc hHeld.size (.cells #[.int .i64 0, .int .i64 0, .int .i64 0, .int .i64 0, .int .i64 0, .int .i64 0, .int .i64 0, .int .i64 0, .int .i64 0] 27)) fun hHeld => ?_
        simp only [Act.put, List.setIfInBounds_toArray, List.set_cons_zero, List.set_cons_succ]
        refine held_one 11 (by kernel_rfl) ?_
        refine op_call 26 [true, true, true, true, true, true, true, true, true, true, true, true, false, true, true, true, true, true, true, true, true, true, true, true, true, true, true, false, false, true, true, true, true, true, true, false, false, false, false, true, false] rfl (by rfl) (by rfl) (by rfl) (by go_simp) ((HG3.out _ hHeld).mono ?_)
        rintro e w' ⟨rfl, rfl⟩
        refine ⟨_, rfl, hHeld, fun hHeld => ?_⟩
        simp only [Act.put, List.setIfInBounds_toArray, List.set_cons_zero, List.set_cons_succ]
        refine held_take (v := (.int .i64 (IntKind.i64.wrap m3))) 12 27 [true, true, true, true, true, true, true, true, true, true, true, true, true, true, true, true, true, true, true, true, true, true, true, true, true, true, true, false, false, true, true, true, true, true, true, false, false, false, false, true, false] rfl (by rfl) (by rfl) (by kernel_rfl) (by kernel_rfl) (by kernel_rfl) (by rfl) (fun _ _ _ h => h) (fun w' h => by go_simp <;> rfl) hHeld ?_
        simp only [Act.put, List.setIfInBounds_toArray, List.set_cons_zero, List.set_cons_succ]
        refine held_one 27 (by kernel_rfl) ?_
        refine op_call 42 [true, true, true, true, true, true, true, true, true, true, true, true, true, true, true, true, true, true, true, true, true, true, true, true, true, true, true, true, false, true, true, true, true, true, true, false, false, false, false, true, false] rfl (by rfl) (by rfl) (by rfl) (by go_simp) ((HG10.out _ hHeld).mono ?_)
        rintro e w' ⟨rfl, rfl⟩
        refine ⟨_, rfl, hHeld, fun hHeld => ?_⟩
        simp only [Act.put, List.setIfInBounds_toArray, List.set_cons_zero, List.set_cons_succ]
        refine held_take (v := (.int .i64 (IntKind.i64.wrap m10))) 28 43 [true, true, true, true, true, true, true, true, true, true, true, true, true, true, true, true, true, true, true, true, true, true, true, true, true, true, true, true, true, true, true, true, true, true, true, false, false, false, false, true, false] rfl (by rfl) (by rfl) (by kernel_rfl) (by kernel_rfl) (by kernel_rfl) (by rfl) (fun _ _ _ h => h) (fun w' h => by go_simp <;> rfl) hHeld ?_
        simp only [Act.put, List.setIfInBounds_toArray, List.set_cons_zero, List.set_cons_succ]
        refine held_one 35 (by kernel_rfl) ?_
        refine op_call 50 [true, true, true, true, true, true, true, true, true, true, true, true, true, true, true, true, true, true, true, true, true, true, true, true, true, true, true, true, true, true, true, true, true, true, true, true, false, false, false, true, false] rfl (by rfl) (by rfl) (by rfl) (by go_simp) ((HG19.out _ hHeld).mono ?_)
        rintro e w' ⟨rfl, rfl⟩
        refine ⟨_, rfl, hHeld, fun hHeld => ?_⟩
        simp only [Act.put, List.setIfInBounds_toArray, List.set_cons_zero, List.set_cons_succ]
        refine held_take (v := (.int .i64 (IntKind.i64.wrap m19))) 36 51 [true, true, true, true, true, true, true, true, true, true, true, true, true, true, true, true, true, true, true, true, true, true, true, true, true, true, true, true, true, true, true, true, true, true, true, true, true, false, false, true, false] rfl (by rfl) (by rfl) (by kernel_rfl) (by kernel_rfl) (by kernel_rfl) (by rfl) (fun _ _ _ h => h) (fun w' h => by go_simp <;> rfl) hHeld ?_
        simp only [Act.put, List.setIfInBounds_toArray, List.set_cons_zero, List.set_cons_succ]
        refine held_take (v := ?_) 37 52 [true, true, true, true, true, true, true, true, true, true, true, true, true, true, true, true, true, true, true, true, true, true, true, true, true, true, true, true, true, true, true, true, true, true, true, true, true, true, false, true, false] rfl (by rfl) (by rfl) (by kernel_rfl) (by kernel_rfl) (by kernel_rfl) (by rfl) (fun _ _ _ h => h) ?_ hHeld ?_
        rotate_left
        · intro w hSw; go_simp <;> with_reducible rfl
        simp only [Act.put, List.setIfInBounds_toArray, List.set_cons_zero, List.set_cons_succ]
        refine held_take (v := ?_) 38 53 [true, true, true, true, true, true, true, true, true, true, true, true, true, true, true, true, true, true, true, true, true, true, true, true, true, true, true, true, true, true, true, true, true, true, true, true, true, true, true, true, false] rfl (by rfl) (by rfl) (by kernel_rfl) (by kernel_rfl) (by kernel_rfl) (by rfl) (fun _ _ _ h => h) ?_ hHeld ?_
        rotate_left
        · intro w hSw; go_simp <;> with_reducible rfl
        simp only [Act.put, List.setIfInBounds_toArray, List.set_cons_zero, List.set_cons_succ]
        refine held_one 40 (by kernel_rfl) ?_
        refine op_skip [true, true, true, true, true, true, true, true, true, true, true, true, true, true, true, true, true, true, true, true, true, true, true, true, true, true, true, true, true, true, true, true, true, true, true, true, true, true, true, true, true] rfl (by rfl) (by rfl) (by rfl) (run_op_store_new rfl rfl rfl (by kernel_rfl) rfl (by simp [Value.oneCell'])) ((HB1.out.alloc HB1.out.size _)) fun hHeld => ?_
        refine held_done (by kernel_rfl) ?_
        go_wp2_with fail
        go_meet
        exact ⟨rfl, rfl⟩
    · refine op_value (v := .pointer (some ⟨W.heap.size, 0, none⟩)) 4 [true, true, true, true, true, true, false, false, false, true, true, false, false, true, true, true, true, true, true, true, true, true, true, true, true, true, true, false, false, true, true, true, true, true, true, false, false, false, false, true, false] rfl (by rfl) (by rfl) (by rfl) (by go_simp <;> rfl) (hHeld.alloc hHeld.size (.cells #[.int .i64 0, .int .i64 0, .int .i64 0, .int .i64 0, .int .i64 0, .int .i64 0, .int .i64 0, .int .i64 0, .int .i64 0] 27)) fun hHeld => ?_
      simp only [Act.put, List.setIfInBounds_toArray, List.set_cons_zero, List.set_cons_succ]
      refine held_one 6 (by kernel_rfl) ?_
      refine op_call 21 [true, true, true, true, true, true, true, false, false, true, true, false, false, true, true, true, true, true, true, true, true, true, true, true, true, true, true, false, false, true, true, true, true, true, true, false, false, false, false, true, false] rfl (by rfl) (by rfl) (by rfl) (by go_simp) ((HG1.out _ hHeld).mono ?_)
      rintro e w' ⟨rfl, rfl⟩
      refine ⟨_, rfl, hHeld, fun hHeld => ?_⟩
      simp only [Act.put, List.setIfInBounds_toArray, List.set_cons_zero, List.set_cons_succ]
      refine held_take (v := (.int .i64 (IntKind.i64.wrap m1))) 7 22 [true, true, true, true, true, true, true, true, false, true, true, false, false, true, true, true, true, true, true, true, true, true, true, true, true, true, true, false, false, true, true, true, true, true, true, false, false, false, false, true, false] rfl (by rfl) (by rfl) (by kernel_rfl) (by kernel_rfl) (by kernel_rfl) (by rfl) (fun _ _ _ h => h) (fun w' h => by go_simp <;> rfl) hHeld ?_
      simp only [Act.put, List.setIfInBounds_toArray, List.set_cons_zero, List.set_cons_succ]
      refine held_take (v := ?_) 8 23 [true, true, true, true, true, true, true, true, true, true, true, false, false, true, true, true, true, true, true, true, true, true, true, true, true, true, true, false, false, true, true, true, true, true, true, false, false, false, false, true, false] rfl (by rfl) (by rfl) (by kernel_rfl) (by kernel_rfl) (by kernel_rfl) (by rfl) (fun _ _ _ h => h) ?_ hHeld ?_
      rotate_left
      · intro w hSw; go_simp <;> with_reducible rfl
      simp only [Act.put, List.setIfInBounds_toArray, List.set_cons_zero, List.set_cons_succ]
      refine held_one 11 (by kernel_rfl) ?_
      refine op_call 26 [true, true, true, true, true, true, true, true, true, true, true, true, false, true, true, true, true, true, true, true, true, true, true, true, true, true, true, false, false, true, true, true, true, true, true, false, false, false, false, true, false] rfl (by rfl) (by rfl) (by rfl) (by go_simp) ((HG3.out _ hHeld).mono ?_)
      rintro e w' ⟨rfl, rfl⟩
      refine ⟨_, rfl, hHeld, fun hHeld => ?_⟩
      simp only [Act.put, List.setIfInBounds_toArray, List.set_cons_zero, List.set_cons_succ]
      refine held_take (v := (.int .i64 (IntKind.i64.wrap m3))) 12 27 [true, true, true, true, true, true, true, true, true, true, true, true, true, true, true, true, true, true, true, true, true, true, true, true, true, true, true, false, false, true, true, true, true, true, true, false, false, false, false, true, false] rfl (by rfl) (by rfl) (by kernel_rfl) (by kernel_rfl) (by kernel_rfl) (by rfl) (fun _ _ _ h => h) (fun w' h => by go_simp <;> rfl) hHeld ?_
      simp only [Act.put, List.setIfInBounds_toArray, List.set_cons_zero, List.set_cons_succ]
      refine held_one 27 (by kernel_rfl) ?_
      refine op_call 42 [true, true, true, true, true, true, true, true, true, true, true, true, true, true, true, true, true, true, true, true, true, true, true, true, true, true, true, true, false, true, true, true, true, true, true, false, false, false, false, true, false] rfl (by rfl) (by rfl) (by rfl) (by go_simp) ((HG10.out _ hHeld).mono ?_)
      rintro e w' ⟨rfl, rfl⟩
      refine ⟨_, rfl, hHeld, fun hHeld => ?_⟩
      simp only [Act.put, List.setIfInBounds_toArray, List.set_cons_zero, List.set_cons_succ]
      refine held_take (v := (.int .i64 (IntKind.i64.wrap m10))) 28 43 [true, true, true, true, true, true, true, true, true, true, true, true, true, true, true, true, true, true, true, true, true, true, true, true, true, true, true, true, true, true, true, true, true, true, true, false, false, false, false, true, false] rfl (by rfl) (by rfl) (by kernel_rfl) (by kernel_rfl) (by kernel_rfl) (by rfl) (fun _ _ _ h => h) (fun w' h => by go_simp <;> rfl) hHeld ?_
      simp only [Act.put, List.setIfInBounds_toArray, List.set_cons_zero, List.set_cons_succ]
      refine held_one 35 (by kernel_rfl) ?_
      refine op_call 50 [true, true, true, true, true, true, true, true, true, true, true, true, true, true, true, true, true, true, true, true, true, true, true, true, true, true, true, true, true, true, true, true, true, true, true, true, false, false, false, true, false] rfl (by rfl) (by rfl) (by rfl) (by go_simp) ((HG19.out _ hHeld).mono ?_)
      rintro e w' ⟨rfl, rfl⟩
      refine ⟨_, rfl, hHeld, fun hHeld => ?_⟩
      simp only [Act.put, List.setIfInBounds_toArray, List.set_cons_zero, List.set_cons_succ]
      refine held_take (v := (.int .i64 (IntKind.i64.wrap m19))) 36 51 [true, true, true, true, true, true, true, true, true, true, true, true, true, true, true, true, true, true, true, true, true, true, true, true, true, true, true, true, true, true, true, true, true, true, true, true, true, false, false, true, false] rfl (by rfl) (by rfl) (by kernel_rfl) (by kernel_rfl) (by kernel_rfl) (by rfl) (fun _ _ _ h => h) (fun w' h => by go_simp <;> rfl) hHeld ?_
      simp only [Act.put, List.setIfInBounds_toArray, List.set_cons_zero, List.set_cons_succ]
      refine held_take (v := ?_) 37 52 [true, true, true, true, true, true, true, true, true, true, true, true, true, true, true, true, true, true, true, true, true, true, true, true, true, true, true, true, true, true, true, true, true, true, true, true, true, true, false, true, false] rfl (by rfl) (by rfl) (by kernel_rfl) (by kernel_rfl) (by kernel_rfl) (by rfl) (fun _ _ _ h => h) ?_ hHeld ?_
      rotate_left
      · intro w hSw; go_simp <;> with_reducible rfl
      simp only [Act.put, List.setIfInBounds_toArray, List.set_cons_zero, List.set_cons_succ]
      refine held_take (v := ?_) 38 53 [true, true, true, true, true, true, true, true, true, true, true, true, true, true, true, true, true, true, true, true, true, true, true, true, true, true, true, true, true, true, true, true, true, true, true, true, true, true, true, true, false] rfl (by rfl) (by rfl) (by kernel_rfl) (by kernel_rfl) (by kernel_rfl) (by rfl) (fun _ _ _ h => h) ?_ hHeld ?_
      rotate_left
      · intro w hSw; go_simp <;> with_reducible rfl
      simp only [Act.put, List.setIfInBounds_toArray, List.set_cons_zero, List.set_cons_succ]
      refine held_one 40 (by kernel_rfl) ?_
      refine op_skip [true, true, true, true, true, true, true, true, true, true, true, true, true, true, true, true, true, true, true, true, true, true, true, true, true, true, true, true, true, true, true, true, true, true, true, true, true, true, true, true, true] rfl (by rfl) (by rfl) (by rfl) (run_op_store_new rfl rfl rfl (by kernel_rfl) rfl (by simp [Value.oneCell'])) ((HB1.out.alloc HB1.out.size _)) fun hHeld => ?_
      refine held_done (by kernel_rfl) ?_
      go_wp2_with fail
      go_meet
      exact ⟨rfl, rfl⟩
  case rest =>
    obtain ⟨rfl, rfl⟩ := hcut
    have AX : Hid (Blk ((World.drew W).alloc (.cells #[.int .i64 (IntKind.i64.wrap x0), .int .i64 (IntKind.i64.wrap m1), .int .i64 (IntKind.i64.wrap m3), .int .i64 (IntKind.i64.wrap x7), .int .i64 (IntKind.i64.wrap x8), .int .i64 (IntKind.i64.wrap x9), .int .i64 (IntKind.i64.wrap m10), .int .i64 (IntKind.i64.wrap x18), .int .i64 (IntKind.i64.wrap m19)] 27)) (World.drew W).heap.size (ints [IntKind.i64.wrap (x0 : Int), IntKind.i64.wrap (m1 : Int), IntKind.i64.wrap (m3 : Int), IntKind.i64.wrap (x7 : Int), IntKind.i64.wrap (x8 : Int), IntKind.i64.wrap (x9 : Int), IntKind.i64.wrap (m10 : Int), IntKind.i64.wrap (x18 : Int), IntKind.i64.wrap (m19 : Int)]) 27) := Lib.hid (Blk.new (World.drew W) #[.int .i64 (IntKind.i64.wrap x0), .int .i64 (IntKind.i64.wrap m1), .int .i64 (IntKind.i64.wrap m3), .int .i64 (IntKind.i64.wrap x7), .int .i64 (IntKind.i64.wrap x8), .int .i64 (IntKind.i64.wrap x9), .int .i64 (IntKind.i64.wrap m10), .int .i64 (IntKind.i64.wrap x18), .int .i64 (IntKind.i64.wrap m19)] 27)
    have hgx : (World.drew W).heap.size = w.heap.size + 1 := hWz
    rw [hgx] at AX
    have AZ : Hid (Blk ((World.drew W).alloc (.cells #[.int .i64 (IntKind.i64.wrap x0), .int .i64 (IntKind.i64.wrap m1), .int .i64 (IntKind.i64.wrap m3), .int .i64 (IntKind.i64.wrap x7), .int .i64 (IntKind.i64.wrap x8), .int .i64 (IntKind.i64.wrap x9), .int .i64 (IntKind.i64.wrap m10), .int .i64 (IntKind.i64.wrap x18), .int .i64 (IntKind.i64.wrap m19)] 27)) w.heap.size (ints [0, 0, 0, 0, 0, 0, 0, 0, 0]) 27) := Lib.hid (BW.out.drew.alloc _)
    have HBX : Hid (Below w.heap.size w ((World.drew W).alloc (.cells #[.int .i64 (IntKind.i64.wrap x0), .int .i64 (IntKind.i64.wrap m1), .int .i64 (IntKind.i64.wrap m3), .int .i64 (IntKind.i64.wrap x7), .int .i64 (IntKind.i64.wrap x8), .int .i64 (IntKind.i64.wrap x9), .int .i64 (IntKind.i64.wrap m10), .int .i64 (IntKind.i64.wrap x18), .int .i64 (IntKind.i64.wrap m19)] 27))) := Lib.hid (HB1.out.alloc HB1.out.size _)
    have h9 : Hid (([IntKind.i64.wrap (x0 : Int), IntKind.i64.wrap (m1 : Int), IntKind.i64.wrap (m3 : Int), IntKind.i64.wrap (x7 : Int), IntKind.i64.wrap (x8 : Int), IntKind.i64.wrap (x9 : Int), IntKind.i64.wrap (m10 : Int), IntKind.i64.wrap (x18 : Int), IntKind.i64.wrap (m19 : Int)] : List Int).length = 9) := Lib.hid rfl
    generalize (World.drew W).alloc (.cells #[.int .i64 (IntKind.i64.wrap x0), .int .i64 (IntKind.i64.wrap m1), .int .i64 (IntKind.i64.wrap m3), .int .i64 (IntKind.i64.wrap x7), .int .i64 (IntKind.i64.wrap x8), .int .i64 (IntKind.i64.wrap x9), .int .i64 (IntKind.i64.wrap m10), .int .i64 (IntKind.i64.wrap x18), .int .i64 (IntKind.i64.wrap m19)] 27) = wy at *
    generalize [IntKind.i64.wrap (x0 : Int), IntKind.i64.wrap (m1 : Int), IntKind.i64.wrap (m3 : Int), IntKind.i64.wrap (x7 : Int), IntKind.i64.wrap (x8 : Int), IntKind.i64.wrap (x9 : Int), IntKind.i64.wrap (m10 : Int), IntKind.i64.wrap (x18 : Int), IntKind.i64.wrap (m19 : Int)] = X at *
    have rx : wy.rangeAt (w.heap.size + 1) 0 (ints X) := Blk.cg AX.out h9
    rw [HWR.out] at M
    go_wp2_with (first
      | ((with_reducible apply cg_load); (· rfl); (· (first | assumption)); (· assumption); (simp only [Act.put, List.setIfInBounds_toArray, List.set_cons_zero, List.set_cons_succ])))
    refine (M.out _).mono ?_
    rintro e w4 ⟨rfl, hb4⟩
    have HB4 := Lib.hid (HBX.out.trans (hb4.mono HBX.out.size))
    have AX4 := Lib.hid (AX.out.keep hb4 AX.out.lt)
    have AZ4 := Lib.hid (AZ.out.keep hb4 AZ.out.lt)
    have rx4 : w4.rangeAt (w.heap.size + 1) 0 (ints X) := Blk.cg AX4.out h9
    clear hb4 rx AX AZ HBX M
    cases v
    · have C5 := Lib.hid (AZ4.out.setAll (ints [0, 0, 0, 0, 0, 0, 0, 0, 0]) rfl)
      have HBZ := Lib.hid (below_sets (Nat.le_refl _) (ints [0, 0, 0, 0, 0, 0, 0, 0, 0]) 0 _ HB4.out)
      go_wp2_with (first
        | ((with_reducible apply cg_store0); (· rfl); (· rfl); (· exact AZ4.out); (· rfl); (simp only [Act.put, List.setIfInBounds_toArray, List.set_cons_zero, List.set_cons_succ]); (generalize w4.setCells w.heap.size 0 (ints [0, 0, 0, 0, 0, 0, 0, 0, 0]) = WW at *)))
      refine ret_cell_tmp (p := 2) (q := 3) rfl rfl rfl C5.out Try.underlying27 rfl (by rw [cg_size]; rfl) rfl ⟨rfl, HBZ.out⟩
    · go_wp2_with (first
        | ((with_reducible apply cg_load); (· rfl); (· (first | assumption)); (· assumption); (simp only [Act.put, List.setIfInBounds_toArray, List.set_cons_zero, List.set_cons_succ]))
        | ((with_reducible apply cg_store); (· rfl); (· rfl); (· assumption); (· first | rfl | assumption); (· assumption); (simp only [Act.put, List.setIfInBounds_toArray, List.set_cons_zero, List.set_cons_succ])))
      have C5 := AZ4.out.setAll (ints X) (by rw [ints_len, h9.out]; rfl)
      refine ret_cell_tmp (p := 2) (q := 3) rfl rfl rfl C5 Try.underlying27 rfl (by rw [cg_size, ints_len, h9.out]) rfl ⟨by rw [HWR.out]; rfl, below_sets (Nat.le_refl _) _ _ _ HB4.out⟩
set_option maxRecDepth 100000 in
set_option maxHeartbeats 4000000 in
theorem rgetc_len (a : Option Addr) (n c : Nat) (w : World) (hn : n ≠ 22) :
    Calls Try.prog 18 #[.slice a n c] w fun e w' => e = .returned (.tuple #[.agg #[.int .i64 0, .int .i64 0, .int .i64 0, .int .i64 0, .int .i64 0, .int .i64 0, .int .i64 0, .int .i64 0, .int .i64 0], .bool false]) ∧ Below w.heap.size w w' := by
  have HB := Lib.hid ((Below.refl w.heap.size w).alloc (Nat.le_refl _) (.cells #[.int .i64 0, .int .i64 0, .int .i64 0, .int .i64 0, .int .i64 0, .int .i64 0, .int .i64 0, .int .i64 0, .int .i64 0] 27))
  have AZ := Lib.hid (Blk.new w #[.int .i64 0, .int .i64 0, .int .i64 0, .int .i64 0, .int .i64 0, .int .i64 0, .int .i64 0, .int .i64 0, .int .i64 0] 27)
  have hn' : ¬ (n : Int) = 22 := by omega
  clear hn
  go_enter Try.func18, Try.ntmps18
  go_upto_region 1 with fail
  generalize w.alloc (.cells #[.int .i64 0, .int .i64 0, .int .i64 0, .int .i64 0, .int .i64 0, .int .i64 0, .int .i64 0, .int .i64 0, .int .i64 0] 27) = W at *
  go_upto_region 2 with fail
  have C5 := Lib.hid (AZ.out.setAll (ints [0, 0, 0, 0, 0, 0, 0, 0, 0]) rfl)
  have HBZ := Lib.hid (below_sets (Nat.le_refl _) (ints [0, 0, 0, 0, 0, 0, 0, 0, 0]) 0 _ HB.out)
  go_wp2_with (first
    | ((with_reducible apply cg_store0); (· rfl); (· rfl); (· exact AZ.out); (· rfl); (simp only [Act.put, List.setIfInBounds_toArray, List.set_cons_zero, List.set_cons_succ]); (generalize W.setCells w.heap.size 0 (ints [0, 0, 0, 0, 0, 0, 0, 0, 0]) = WW at *)))
  refine ret_cell_tmp (p := 2) (q := 3) rfl rfl rfl C5.out Try.underlying27 rfl (by rw [cg_size]; rfl) rfl ⟨rfl, HBZ.out⟩
set_option maxRecDepth 100000 in
set_option maxHeartbeats 4000000 in
theorem rgetc_end (a : Option Addr) (c : Nat) (bs : List UInt8) (w : World) (h : Sl w a 22 1 (bcells bs)) (hl : (bs.getD 21 0).toNat ≠ 67) :
    Calls Try.prog 18 #[.slice a 22 c] w fun e w' => e = .returned (.tuple #[.agg #[.int .i64 0, .int .i64 0, .int .i64 0, .int .i64 0, .int .i64 0, .int .i64 0, .int .i64 0, .int .i64 0, .int .i64 0], .bool false]) ∧ Below w.heap.size w w' := by
  have HB := Lib.hid ((Below.refl w.heap.size w).alloc (Nat.le_refl _) (.cells #[.int .i64 0, .int .i64 0, .int .i64 0, .int .i64 0, .int .i64 0, .int .i64 0, .int .i64 0, .int .i64 0, .int .i64 0] 27))
  have AZ := Lib.hid (Blk.new w #[.int .i64 0, .int .i64 0, .int .i64 0, .int .i64 0, .int .i64 0, .int .i64 0, .int .i64 0, .int .i64 0, .int .i64 0] 27)
  obtain ⟨_, bb, off, rfl, hb, hcell⟩ := h.byte (by omega)
  have b21 := hcell 21 (by omega)
  generalize (bs.getD 21 0).toNat = x at *
  have hn' : ¬ (x : Int) = 67 := by omega
  have b21' := (HB.out.cell (p := ⟨bb, off + 21, none⟩) hb).trans b21
  clear hl h hcell b21
  go_enter Try.func18, Try.ntmps18
  go_upto_region 1 with fail
  generalize w.alloc (.cells #[.int .i64 0, .int .i64 0, .int .i64 0, .int .i64 0, .int .i64 0, .int .i64 0, .int .i64 0, .int .i64 0, .int .i64 0] 27) = W at *
  go_upto_region 2 with fail
  have C5 := Lib.hid (AZ.out.setAll (ints [0, 0, 0, 0, 0, 0, 0, 0, 0]) rfl)
  have HBZ := Lib.hid (below_sets (Nat.le_refl _) (ints [0, 0, 0, 0, 0, 0, 0, 0, 0]) 0 _ HB.out)
  go_wp2_with (first
    | ((with_reducible apply cg_store0); (· rfl); (· rfl); (· exact AZ.out); (· rfl); (simp only [Act.put, List.setIfInBounds_toArray, List.set_cons_zero, List.set_cons_succ]); (generalize W.setCells w.heap.size 0 (ints [0, 0, 0, 0, 0, 0, 0, 0, 0]) = WW at *)))
  refine ret_cell_tmp (p := 2) (q := 3) rfl rfl rfl C5.out Try.underlying27 rfl (by rw [cg_size]; rfl) rfl ⟨rfl, HBZ.out⟩
end Go.Proofs.Ytfffbhkenggdcaa
