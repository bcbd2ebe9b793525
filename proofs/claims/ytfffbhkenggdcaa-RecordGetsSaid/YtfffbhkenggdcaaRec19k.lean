/- The reference's Get of a record. -/
import Derived.Test.YtfffbhkenggdcaaRec19
import Derived.Test.YtfffbhkenggdcaaRow
import Derived.Test.YtfffbhkenggdcaaOps
import Derived.Test.YtfffbhkenggdcaaEq
import Derived.Test.YtfffbhkenggdcaaChgOps
import Derived.RegionTactic
import Derived.BigRegion
import Derived.ChangeAlike
namespace Go.Proofs.Ytfffbhkenggdcaa
set_option linter.unusedVariables false
set_option linter.unusedSimpArgs false
open Go.ChangeShapes Go.WideShapes Go.ChangeAt Go.RowKit
set_option maxRecDepth 100000 in
set_option maxHeartbeats 8000000 in
theorem rrgetA (a : Option Addr) (c : Nat) (bs : List UInt8) (w : World) (h : Sl w a 6 1 (bcells bs)) (hc : 6 ≤ c) (hcm : c ≤ 9223372036854775807) (h0 : (bs.getD 0 0).toNat = 4) :
    Calls Try.prog 7 #[.slice a 6 c] w fun e w' => e = .returned (.tuple #[.agg (getX (okA bs) (rec17 4 0 0 0 0 0 0 0 0 0 0 0 (fld bs 1 1) (fld bs 2 2) (fld bs 4 1) (decide ((numOf ((bs.drop 5).take 1) : Int) = 1)) 0)).toArray, .bool (okA bs)]) ∧ Below w.heap.size w w' := by
  have hbl : bs.length = 6 := sl_one h
  obtain ⟨_, bb, off, rfl, hb, hcell⟩ := h.byte (by omega)
  have AZ0 : Hid (Blk (w.alloc (.cells #[.int .i64 0, .int .i64 0, .int .i64 0, .int .i64 0, .int .i64 0, .int .i64 0, .int .i64 0, .int .i64 0, .int .i64 0, .int .i64 0, .int .i64 0, .int .i64 0, .int .i64 0, .int .i64 0, .int .i64 0, .bool false, .int .i64 0] 35)) w.heap.size [.int .i64 0, .int .i64 0, .int .i64 0, .int .i64 0, .int .i64 0, .int .i64 0, .int .i64 0, .int .i64 0, .int .i64 0, .int .i64 0, .int .i64 0, .int .i64 0, .int .i64 0, .int .i64 0, .int .i64 0, .bool false, .int .i64 0] 35) := Lib.hid (Blk.new w #[.int .i64 0, .int .i64 0, .int .i64 0, .int .i64 0, .int .i64 0, .int .i64 0, .int .i64 0, .int .i64 0, .int .i64 0, .int .i64 0, .int .i64 0, .int .i64 0, .int .i64 0, .int .i64 0, .int .i64 0, .bool false, .int .i64 0] 35)
  have HB0 := Lib.hid ((Below.refl w.heap.size w).alloc (Nat.le_refl _) (.cells #[.int .i64 0, .int .i64 0, .int .i64 0, .int .i64 0, .int .i64 0, .int .i64 0, .int .i64 0, .int .i64 0, .int .i64 0, .int .i64 0, .int .i64 0, .int .i64 0, .int .i64 0, .int .i64 0, .int .i64 0, .bool false, .int .i64 0] 35))
  have hzW : w.heap.size < (w.alloc (.cells #[.int .i64 0, .int .i64 0, .int .i64 0, .int .i64 0, .int .i64 0, .int .i64 0, .int .i64 0, .int .i64 0, .int .i64 0, .int .i64 0, .int .i64 0, .int .i64 0, .int .i64 0, .int .i64 0, .int .i64 0, .bool false, .int .i64 0] 35)).heap.size := by simp
  have HS0 := Lib.hid (h.keep HB0.out)
  have b0 : w.cell? ⟨bb, off, none⟩ = some (.int .u8 4) := by have := hcell 0 (by omega); rw [h0] at this; exact this
  have HN5 := Lib.hid (num_one (bs := bs) (i := 5) (by omega) rfl)
  have HOK0 : Hid (okA bs = (decide ((bs.getD 5 0).toNat ≤ 1) && mayKey (fld bs 1 1) (fld bs 2 2) (fld bs 4 1))) := Lib.hid (by unfold okA; rw [HN5.out, hbl]; by_cases h5 : (bs.getD 5 0).toNat ≤ 1 <;> simp [h5])
  have HC := Lib.hid fun w => rchkA (fld bs 1 1) (fld bs 2 2) (fld bs 4 1) (decide ((numOf ((bs.drop 5).take 1) : Int) = 1)) w
  have HBL := Lib.hid hbl
  have OY := Lib.hid (rec17_ok 4 0 0 0 0 0 0 0 0 0 0 0 (fld bs 1 1) (fld bs 2 2) (fld bs 4 1) (decide ((numOf ((bs.drop 5).take 1) : Int) = 1)) 0).out.2
  have TR : RowT 35 ((rec17 4 0 0 0 0 0 0 0 0 0 0 0 0 0 0 false 0)).length := rowR
  have O17 := (rec17_ok 4 0 0 0 0 0 0 0 0 0 0 0 0 0 0 false 0).out.2
  have HX5B : (bs.getD 5 0).toNat ≤ 255 := by have := (bs.getD 5 0).toNat_lt; omega
  clear h h0 hbl hcell
  go_enter Try.func7, Try.ntmps7
  go_upto_region 1 with fail
  have a0 := (World.cell?_alloc_some w ⟨bb, off, none⟩ (.cells #[.int .i64 0, .int .i64 0, .int .i64 0, .int .i64 0, .int .i64 0, .int .i64 0, .int .i64 0, .int .i64 0, .int .i64 0, .int .i64 0, .int .i64 0, .int .i64 0, .int .i64 0, .int .i64 0, .int .i64 0, .bool false, .int .i64 0] 35) (by rw [b0]; rfl)).trans b0
  clear b0
  generalize w.alloc (.cells #[.int .i64 0, .int .i64 0, .int .i64 0, .int .i64 0, .int .i64 0, .int .i64 0, .int .i64 0, .int .i64 0, .int .i64 0, .int .i64 0, .int .i64 0, .int .i64 0, .int .i64 0, .int .i64 0, .int .i64 0, .bool false, .int .i64 0] 35) = W at *
  have AX0 : Hid (Blk (W.alloc (.cells ((rec17 4 0 0 0 0 0 0 0 0 0 0 0 0 0 0 false 0)).toArray 35)) W.heap.size (rec17 4 0 0 0 0 0 0 0 0 0 0 0 0 0 0 false 0) 35) := Lib.hid (Blk.new W ((rec17 4 0 0 0 0 0 0 0 0 0 0 0 0 0 0 false 0)).toArray 35)
  have AZ1 := Lib.hid (AZ0.out.alloc (.cells ((rec17 4 0 0 0 0 0 0 0 0 0 0 0 0 0 0 false 0)).toArray 35))
  have HBW := Lib.hid ((Below.refl W.heap.size W).alloc (Nat.le_refl _) (.cells ((rec17 4 0 0 0 0 0 0 0 0 0 0 0 0 0 0 false 0)).toArray 35))
  have cx : (W.alloc (.cells ((rec17 4 0 0 0 0 0 0 0 0 0 0 0 0 0 0 false 0)).toArray 35)).cell? ⟨W.heap.size, 0, none⟩ = some (.int .i64 4) := AX0.out.cell 0
  have bw : bb < W.heap.size := Nat.lt_of_lt_of_le hb HB0.out.size
  clear AZ0
  go_upto_region 4 with (first
    | ((with_reducible refine st_row_new (cs := (rec17 4 0 0 0 0 0 0 0 0 0 0 0 0 0 0 false 0)) TR O17 ?_ ?_ ?_ ?_); (· first | rfl | simp); (· rfl); (· rfl); (simp only [Act.put, List.setIfInBounds_toArray, List.set_cons_zero, List.set_cons_succ])))
  generalize hW2 : W.alloc (.cells ((rec17 4 0 0 0 0 0 0 0 0 0 0 0 0 0 0 false 0)).toArray 35) = W2 at *
  generalize hgx : W.heap.size = gx at *
  clear hW2
  go_upto_region 11 with fail
  have HSW := HS0
  have HL1 := Lib.hid (fun w' (hb' : Below gx W w') => show w'.cell? ⟨bb, off + 1, none⟩ = some (.int .u8 ((bs.getD 1 0).toNat : Int)) from (hb'.cell (p := ⟨bb, off + 1, none⟩) bw).trans (by
    obtain ⟨_, b2, o2, e2, _, h2⟩ := HSW.out.byte (by decide)
    injection e2 with e2
    injection e2 with e3 e4
    subst e3; subst e4
    exact h2 1 (by decide)))
  have HL4 := Lib.hid (fun w' (hb' : Below gx W w') => show w'.cell? ⟨bb, off + 4, none⟩ = some (.int .u8 ((bs.getD 4 0).toNat : Int)) from (hb'.cell (p := ⟨bb, off + 4, none⟩) bw).trans (by
    obtain ⟨_, b2, o2, e2, _, h2⟩ := HSW.out.byte (by decide)
    injection e2 with e2
    injection e2 with e3 e4
    subst e3; subst e4
    exact h2 4 (by decide)))
  have HL5 := Lib.hid (fun w' (hb' : Below gx W w') => show w'.cell? ⟨bb, off + 5, none⟩ = some (.int .u8 ((bs.getD 5 0).toNat : Int)) from (hb'.cell (p := ⟨bb, off + 5, none⟩) bw).trans (by
    obtain ⟨_, b2, o2, e2, _, h2⟩ := HSW.out.byte (by decide)
    injection e2 with e2
    injection e2 with e3 e4
    subst e3; subst e4
    exact h2 5 (by decide)))
  have HG2 := Lib.hid (fun w' (hb' : Below gx W w') => rget_any (some ⟨bb, off + 2, none⟩) 2 (c - 2) ((bs.drop 2).take 2) w' ((sub_atm HSW.out (i := 2) (k := 2) (by decide) hc (by decide)).keep (by rw [hgx]; exact hb')) (by decide))
  generalize hm2 : numOf ((bs.drop 2).take 2) = m2 at *
  generalize hx1 : (bs.getD 1 0).toNat = x1 at *
  generalize hx4 : (bs.getD 4 0).toNat = x4 at *
  generalize hx5 : (bs.getD 5 0).toNat = x5 at *
  have HM2 := Lib.hid hm2
  have HX1 := Lib.hid hx1
  have HX4 := Lib.hid hx4
  clear hm2 hx1 hx4 hx5
  have hc2 : ¬ c = 2 := by omega
  have d2 : (2 : Int) ≤ c := by omega
  have d4 : (4 : Int) ≤ c := by omega
  have HBD : Hid (Below gx W W2.drew) := Lib.hid HBW.out.drew
  refine held_begin (fun w' => Below gx W w') 20 [false, false, false, false, false, false, false, false, false, false, false, false, false, false, false, false, false, false, false, false] (by kernel_rfl) rfl (by rfl) ?_
  have hHeld : Below gx W W2.drew := HBD.out
  refine held_take (v := ?_) 0 70 [true, false, false, false, false, false, false, false, false, false, false, false, false, false, false, false, false, false, false, false] rfl (by rfl) (by rfl) (by kernel_rfl) (by kernel_rfl) (by kernel_rfl) (by rfl) (fun _ _ _ h => h) ?_ hHeld ?_
  rotate_left
  · intro w hSw; go_simp <;> with_reducible rfl
  simp only [Act.put, List.setIfInBounds_toArray, List.set_cons_zero, List.set_cons_succ]
  refine held_take (v := ?_) 1 71 [true, true, false, false, false, false, false, false, false, false, false, false, false, false, false, false, false, false, false, false] rfl (by rfl) (by rfl) (by kernel_rfl) (by kernel_rfl) (by kernel_rfl) (by rfl) (fun _ _ _ h => h) ?_ hHeld ?_
  rotate_left
  · intro w hSw; go_simp <;> with_reducible rfl
  simp only [Act.put, List.setIfInBounds_toArray, List.set_cons_zero, List.set_cons_succ]
  refine held_take (v := .int .u8 x1) 2 72 [true, true, true, false, false, false, false, false, false, false, false, false, false, false, false, false, false, false, false, false] rfl (by rfl) (by rfl) (by kernel_rfl) (by kernel_rfl) (by kernel_rfl) (by rfl) (fun _ _ _ h => h) (fun w' h => by have k := HL1.out w' h; go_simp) hHeld ?_
  simp only [Act.put, List.setIfInBounds_toArray, List.set_cons_zero, List.set_cons_succ]
  refine held_take (v := ?_) 3 73 [true, true, true, true, false, false, false, false, false, false, false, false, false, false, false, false, false, false, false, false] rfl (by rfl) (by rfl) (by kernel_rfl) (by kernel_rfl) (by kernel_rfl) (by rfl) (fun _ _ _ h => h) ?_ hHeld ?_
  rotate_left
  · intro w hSw; go_simp <;> with_reducible rfl
  simp only [Act.put, List.setIfInBounds_toArray, List.set_cons_zero, List.set_cons_succ]
  refine held_take (v := ?_) 4 74 [true, true, true, true, true, false, false, false, false, false, false, false, false, false, false, false, false, false, false, false] rfl (by rfl) (by rfl) (by kernel_rfl) (by kernel_rfl) (by kernel_rfl) (by rfl) (fun _ _ _ h => h) ?_ hHeld ?_
  rotate_left
  · intro w hSw; go_simp <;> with_reducible rfl
  simp only [Act.put, List.setIfInBounds_toArray, List.set_cons_zero, List.set_cons_succ]
  refine held_take (v := ?_) 5 75 [true, true, true, true, true, true, false, false, false, false, false, false, false, false, false, false, false, false, false, false] rfl (by rfl) (by rfl) (by kernel_rfl) (by kernel_rfl) (by kernel_rfl) (by rfl) (fun _ _ _ h => h) ?_ hHeld ?_
  rotate_left
  · intro w hSw; go_simp <;> with_reducible rfl
  simp only [Act.put, List.setIfInBounds_toArray, List.set_cons_zero, List.set_cons_succ]
  refine held_take (v := ?_) 9 79 [true, true, true, true, true, true, false, false, false, true, false, false, false, false, false, false, false, false, false, false] rfl (by rfl) (by rfl) (by kernel_rfl) (by kernel_rfl) (by kernel_rfl) (by rfl) (fun _ _ _ h => h) ?_ hHeld ?_
  rotate_left
  · intro w hSw; go_simp <;> with_reducible rfl
  simp only [Act.put, List.setIfInBounds_toArray, List.set_cons_zero, List.set_cons_succ]
  refine held_take (v := ?_) 10 80 [true, true, true, true, true, true, false, false, false, true, true, false, false, false, false, false, false, false, false, false] rfl (by rfl) (by rfl) (by kernel_rfl) (by kernel_rfl) (by kernel_rfl) (by rfl) (fun _ _ _ h => h) ?_ hHeld ?_
  rotate_left
  · intro w hSw; go_simp <;> with_reducible rfl
  simp only [Act.put, List.setIfInBounds_toArray, List.set_cons_zero, List.set_cons_succ]
  refine held_take (v := .int .u8 x4) 11 81 [true, true, true, true, true, true, false, false, false, true, true, true, false, false, false, false, false, false, false, false] rfl (by rfl) (by rfl) (by kernel_rfl) (by kernel_rfl) (by kernel_rfl) (by rfl) (fun _ _ _ h => h) (fun w' h => by have k := HL4.out w' h; go_simp) hHeld ?_
  simp only [Act.put, List.setIfInBounds_toArray, List.set_cons_zero, List.set_cons_succ]
  refine held_take (v := ?_) 12 82 [true, true, true, true, true, true, false, false, false, true, true, true, true, false, false, false, false, false, false, false] rfl (by rfl) (by rfl) (by kernel_rfl) (by kernel_rfl) (by kernel_rfl) (by rfl) (fun _ _ _ h => h) ?_ hHeld ?_
  rotate_left
  · intro w hSw; go_simp <;> with_reducible rfl
  simp only [Act.put, List.setIfInBounds_toArray, List.set_cons_zero, List.set_cons_succ]
  refine held_take (v := ?_) 13 83 [true, true, true, true, true, true, false, false, false, true, true, true, true, true, false, false, false, false, false, false] rfl (by rfl) (by rfl) (by kernel_rfl) (by kernel_rfl) (by kernel_rfl) (by rfl) (fun _ _ _ h => h) ?_ hHeld ?_
  rotate_left
  · intro w hSw; go_simp <;> with_reducible rfl
  simp only [Act.put, List.setIfInBounds_toArray, List.set_cons_zero, List.set_cons_succ]
  refine held_take (v := ?_) 14 84 [true, true, true, true, true, true, false, false, false, true, true, true, true, true, true, false, false, false, false, false] rfl (by rfl) (by rfl) (by kernel_rfl) (by kernel_rfl) (by kernel_rfl) (by rfl) (fun _ _ _ h => h) ?_ hHeld ?_
  rotate_left
  · intro w hSw; go_simp <;> with_reducible rfl
  simp only [Act.put, List.setIfInBounds_toArray, List.set_cons_zero, List.set_cons_succ]
  refine held_take (v := .int .u8 x5) 15 85 [true, true, true, true, true, true, false, false, false, true, true, true, true, true, true, true, false, false, false, false] rfl (by rfl) (by rfl) (by kernel_rfl) (by kernel_rfl) (by kernel_rfl) (by rfl) (fun _ _ _ h => h) (fun w' h => by have k := HL5.out w' h; go_simp) hHeld ?_
  simp only [Act.put, List.setIfInBounds_toArray, List.set_cons_zero, List.set_cons_succ]
  refine held_take (v := ?_) 16 86 [true, true, true, true, true, true, false, false, false, true, true, true, true, true, true, true, true, false, false, false] rfl (by rfl) (by rfl) (by kernel_rfl) (by kernel_rfl) (by kernel_rfl) (by rfl) (fun _ _ _ h => h) ?_ hHeld ?_
  rotate_left
  · intro w hSw; go_simp <;> with_reducible rfl
  simp only [Act.put, List.setIfInBounds_toArray, List.set_cons_zero, List.set_cons_succ]
  refine held_call 6 76 [true, true, true, true, true, true, true, false, false, true, true, true, true, true, true, true, true, false, false, false] (by kernel_rfl) rfl (by rfl) (by rfl) (by rfl) (by go_simp) ((HG2.out _ hHeld).mono ?_)
  rintro e w' ⟨rfl, rfl⟩
  refine ⟨_, rfl, hHeld, fun hHeld => ?_⟩
  simp only [Act.put, List.setIfInBounds_toArray, List.set_cons_zero, List.set_cons_succ]
  refine held_take (v := .int .i64 (IntKind.i64.wrap m2)) 7 77 [true, true, true, true, true, true, true, true, false, true, true, true, true, true, true, true, true, false, false, false] rfl (by rfl) (by rfl) (by kernel_rfl) (by kernel_rfl) (by kernel_rfl) (by rfl) (fun _ _ _ h => h) (fun w' h => by go_simp <;> rfl) hHeld ?_
  simp only [Act.put, List.setIfInBounds_toArray, List.set_cons_zero, List.set_cons_succ]
  refine held_take (v := ?_) 8 78 [true, true, true, true, true, true, true, true, true, true, true, true, true, true, true, true, true, false, false, false] rfl (by rfl) (by rfl) (by kernel_rfl) (by kernel_rfl) (by kernel_rfl) (by rfl) (fun _ _ _ h => h) ?_ hHeld ?_
  rotate_left
  · intro w hSw; go_simp <;> with_reducible rfl
  simp only [Act.put, List.setIfInBounds_toArray, List.set_cons_zero, List.set_cons_succ]
  refine held_take (v := ?_) 17 87 [true, true, true, true, true, true, true, true, true, true, true, true, true, true, true, true, true, true, false, false] rfl (by rfl) (by rfl) (by kernel_rfl) (by kernel_rfl) (by kernel_rfl) (by rfl) (fun _ _ _ h => h) ?_ hHeld ?_
  rotate_left
  · intro w hSw; go_simp <;> with_reducible rfl
  simp only [Act.put, List.setIfInBounds_toArray, List.set_cons_zero, List.set_cons_succ]
  refine held_take (v := ?_) 18 88 [true, true, true, true, true, true, true, true, true, true, true, true, true, true, true, true, true, true, true, false] rfl (by rfl) (by rfl) (by kernel_rfl) (by kernel_rfl) (by kernel_rfl) (by rfl) (fun _ _ _ h => h) ?_ hHeld ?_
  rotate_left
  · intro w hSw; go_simp <;> with_reducible rfl
  simp only [Act.put, List.setIfInBounds_toArray, List.set_cons_zero, List.set_cons_succ]
  refine held_one 19 (by kernel_rfl) ?_
  refine op_skip [true, true, true, true, true, true, true, true, true, true, true, true, true, true, true, true, true, true, true, true] rfl (by rfl) (by rfl) (by rfl) (st_part_run (cs := [.int .i64 (IntKind.i64.wrap x1), .int .i64 (IntKind.i64.wrap m2), .int .i64 (IntKind.i64.wrap x4), .bool ((x5 : Int) == 1)]) rfl rfl rfl AX0.out.drew (by show 16 ≤ 17; decide) ky_size (by simp [Value.oneCell'])) ((below_sets (by omega) [.int .i64 (IntKind.i64.wrap x1), .int .i64 (IntKind.i64.wrap m2), .int .i64 (IntKind.i64.wrap x4), .bool ((x5 : Int) == 1)] 12 _ hHeld)) fun hHeld => ?_
  refine held_done (by kernel_rfl) ?_
  have HY0 : Hid (Blk (W2.drew.setCells gx 12 [.int .i64 (IntKind.i64.wrap x1), .int .i64 (IntKind.i64.wrap m2), .int .i64 (IntKind.i64.wrap x4), .bool ((x5 : Int) == 1)]) gx (rec17 4 0 0 0 0 0 0 0 0 0 0 0 (fld bs 1 1) (fld bs 2 2) (fld bs 4 1) (decide ((numOf ((bs.drop 5).take 1) : Int) = 1)) 0) 35) := Lib.hid (by
    have := Blk.setAt [.int .i64 (IntKind.i64.wrap x1), .int .i64 (IntKind.i64.wrap m2), .int .i64 (IntKind.i64.wrap x4), .bool ((x5 : Int) == 1)] 12 _ _ AX0.out.drew (by show 16 ≤ 17; decide)
    have e1 := oct_wrap (i := 1) (by rw [HBL.out]; decide) HX1.out
    have e2 := num_wrap HM2.out
    have e4 := oct_wrap (i := 4) (by rw [HBL.out]; decide) HX4.out
    have e5 : ((x5 : Int) == 1) = (decide ((numOf ((bs.drop 5).take 1) : Int) = 1)) := by rw [HN5.out]; rfl
    rw [e1, e2, e4, e5] at this ⊢
    exact this)
  have AZ2 : Hid (Blk (W2.drew.setCells gx 12 [.int .i64 (IntKind.i64.wrap x1), .int .i64 (IntKind.i64.wrap m2), .int .i64 (IntKind.i64.wrap x4), .bool ((x5 : Int) == 1)]) w.heap.size [.int .i64 0, .int .i64 0, .int .i64 0, .int .i64 0, .int .i64 0, .int .i64 0, .int .i64 0, .int .i64 0, .int .i64 0, .int .i64 0, .int .i64 0, .int .i64 0, .int .i64 0, .int .i64 0, .int .i64 0, .bool false, .int .i64 0] 35) := Lib.hid (Blk.sets_other (by omega) [.int .i64 (IntKind.i64.wrap x1), .int .i64 (IntKind.i64.wrap m2), .int .i64 (IntKind.i64.wrap x4), .bool ((x5 : Int) == 1)] 12 _ AZ1.out.drew)
  have HB9a := hHeld
  have HB9 : Hid (Below w.heap.size w (W2.drew.setCells gx 12 [.int .i64 (IntKind.i64.wrap x1), .int .i64 (IntKind.i64.wrap m2), .int .i64 (IntKind.i64.wrap x4), .bool ((x5 : Int) == 1)])) := Lib.hid (HB0.out.trans (hHeld.mono (by omega)))
  have k5 := HL5.out _ HB9a
  clear hHeld
  have HSX := Lib.hid (HSW.out.keep (by rw [hgx]; exact HB9a))
  clear HB9a
  generalize hw9 : (W2.drew.setCells gx 12 [.int .i64 (IntKind.i64.wrap x1), .int .i64 (IntKind.i64.wrap m2), .int .i64 (IntKind.i64.wrap x4), .bool ((x5 : Int) == 1)]) = w9 at *
  clear hw9 AX0 AZ1 HBW cx a0 HBD HL1 HL4 HL5 HG2
  have HY := HY0
  have k0 : w9.cell? ⟨gx, 0, none⟩ = some (.int .i64 4) := HY0.out.cell 0
  clear HY0
  generalize mayKey (fld bs 1 1) (fld bs 2 2) (fld bs 4 1) = v at *
  have HYL : Hid ((rec17 4 0 0 0 0 0 0 0 0 0 0 0 (fld bs 1 1) (fld bs 2 2) (fld bs 4 1) (decide ((numOf ((bs.drop 5).take 1) : Int) = 1)) 0).length = 17) := Lib.hid rfl
  have TY : RowT 35 (rec17 4 0 0 0 0 0 0 0 0 0 0 0 (fld bs 1 1) (fld bs 2 2) (fld bs 4 1) (decide ((numOf ((bs.drop 5).take 1) : Int) = 1)) 0).length := rowR
  generalize hY : rec17 4 0 0 0 0 0 0 0 0 0 0 0 (fld bs 1 1) (fld bs 2 2) (fld bs 4 1) (decide ((numOf ((bs.drop 5).take 1) : Int) = 1)) 0 = Y at *
  have HYV := Lib.hid hY
  clear hY
  have HYZ : Hid (([.int .i64 0, .int .i64 0, .int .i64 0, .int .i64 0, .int .i64 0, .int .i64 0, .int .i64 0, .int .i64 0, .int .i64 0, .int .i64 0, .int .i64 0, .int .i64 0, .int .i64 0, .int .i64 0, .int .i64 0, .bool false, .int .i64 0] : List Value).length = Y.length) := Lib.hid (by rw [HYL.out]; rfl)
  have ry : w9.rangeAt gx 0 Y := HY.out.range 0 _ (by simp)
  have TR2 : RowT 35 ((rec17 0 0 0 0 0 0 0 0 0 0 0 0 0 0 0 false 0)).length := rowR
  have OZ := (rec17_ok 0 0 0 0 0 0 0 0 0 0 0 0 0 0 0 false 0).out.2
  clear TR O17
  have TR := TR2
  have O17 := OZ
  clear TR2 OZ
  by_cases h5 : 1 < x5
  · have HOK : Hid (okA bs = false) := Lib.hid (by rw [HOK0.out, decide_eq_false (by omega)]; rfl)
    have h5' : (1 : Int) < (x5 : Int) := by omega
    have AZ := AZ2
    have HBX := HB9
    have C5 := Lib.hid (AZ.out.setAll (rec17 0 0 0 0 0 0 0 0 0 0 0 0 0 0 0 false 0) rfl)
    have HBZ := Lib.hid (below_sets (Nat.le_refl _) (rec17 0 0 0 0 0 0 0 0 0 0 0 0 0 0 0 false 0) 0 _ HBX.out)
    go_upto_region 15 with fail
    go_wp2_with (first
      | ((with_reducible refine st_row (cs := (rec17 0 0 0 0 0 0 0 0 0 0 0 0 0 0 0 false 0)) AZ.out rfl TR O17 ?_ ?_ ?_); (· rfl); (· rfl); (simp only [Act.put, List.setIfInBounds_toArray, List.set_cons_zero, List.set_cons_succ]); (generalize w9.setCells w.heap.size 0 (rec17 0 0 0 0 0 0 0 0 0 0 0 0 0 0 0 false 0) = WW at *)))
    refine ret_cell_tmp (p := 2) (q := 3) rfl rfl rfl C5.out Try.underlying35 rfl (by rw [rr_size]; rfl) rfl ⟨by rw [HOK.out]; rfl, HBZ.out⟩
  · have h5' : ¬ (1 : Int) < (x5 : Int) := by omega
    have HOK : Hid (okA bs = v) := Lib.hid (by rw [HOK0.out, decide_eq_true (by omega), Bool.true_and])
    go_upto_region 17 with fail
    go_wp2_with (first
      | ((with_reducible refine ld_row ry TY ?_ ?_ ?_); (· rfl); (· rfl); (simp only [Act.put, List.setIfInBounds_toArray, List.set_cons_zero, List.set_cons_succ])))
    refine (HC.out _).mono ?_
    rintro e w8 ⟨rfl, hb8⟩
    have AX := Lib.hid (HY.out.keep hb8 HY.out.lt)
    have AZ := Lib.hid (AZ2.out.keep hb8 AZ2.out.lt)
    have HBX := Lib.hid (HB9.out.trans (hb8.mono HB9.out.size))
    clear hb8 ry HY AZ2 HB9 HC HOK0 k0 k5
    rcases v with _ | _
    · rw [show rcode false = 4 from rfl]
      have C5 := Lib.hid (AZ.out.setAll (rec17 0 0 0 0 0 0 0 0 0 0 0 0 0 0 0 false 0) rfl)
      have HBZ := Lib.hid (below_sets (Nat.le_refl _) (rec17 0 0 0 0 0 0 0 0 0 0 0 0 0 0 0 false 0) 0 _ HBX.out)
      go_upto_region 18 with fail
      go_wp2_with (first
        | ((with_reducible refine st_row (cs := (rec17 0 0 0 0 0 0 0 0 0 0 0 0 0 0 0 false 0)) AZ.out rfl TR O17 ?_ ?_ ?_); (· rfl); (· rfl); (simp only [Act.put, List.setIfInBounds_toArray, List.set_cons_zero, List.set_cons_succ]); (generalize w8.setCells w.heap.size 0 (rec17 0 0 0 0 0 0 0 0 0 0 0 0 0 0 0 false 0) = WW at *)))
      refine ret_cell_tmp (p := 2) (q := 3) rfl rfl rfl C5.out Try.underlying35 rfl (by rw [rr_size]; rfl) rfl ⟨by rw [HOK.out]; rfl, HBZ.out⟩
    · rw [show rcode true = 0 from rfl]
      have C5 := Lib.hid (AZ.out.setAll Y (by rw [HYL.out]; rfl))
      have HBZ := Lib.hid (below_sets (Nat.le_refl _) Y 0 _ HBX.out)
      have ry : w8.rangeAt gx 0 Y := AX.out.range 0 _ (by simp)
      go_wp2_with (first
        | ((with_reducible refine ld_row ry TY ?_ ?_ ?_); (· rfl); (· rfl); (simp only [Act.put, List.setIfInBounds_toArray, List.set_cons_zero, List.set_cons_succ]))
        | ((with_reducible refine st_row (cs := Y) AZ.out HYZ.out TY OY.out ?_ ?_ ?_); (· rfl); (· rfl); (simp only [Act.put, List.setIfInBounds_toArray, List.set_cons_zero, List.set_cons_succ]); (generalize w8.setCells w.heap.size 0 Y = WW at *)))
      refine ret_cell_tmp (p := 2) (q := 3) rfl rfl rfl C5.out Try.underlying35 rfl (by rw [rr_size, HYL.out]) rfl ⟨by rw [HOK.out, HYV.out]; rfl, HBZ.out⟩
set_option maxRecDepth 100000 in
set_option maxHeartbeats 8000000 in
theorem rrgetT (a : Option Addr) (c : Nat) (bs : List UInt8) (w : World) (h : Sl w a 10 1 (bcells bs)) (hc : 10 ≤ c) (hcm : c ≤ 9223372036854775807) (h0 : (bs.getD 0 0).toNat = 3) :
    Calls Try.prog 7 #[.slice a 10 c] w fun e w' => e = .returned (.tuple #[.agg (getX (okT bs) (rec17 3 0 0 0 0 0 0 0 0 0 0 0 (fld bs 1 1) (fld bs 2 2) (fld bs 4 1) (decide ((numOf ((bs.drop 5).take 1) : Int) = 1)) (fld bs 6 4))).toArray, .bool (okT bs)]) ∧ Below w.heap.size w w' := by
  have hbl : bs.length = 10 := sl_one h
  obtain ⟨_, bb, off, rfl, hb, hcell⟩ := h.byte (by omega)
  have AZ0 : Hid (Blk (w.alloc (.cells #[.int .i64 0, .int .i64 0, .int .i64 0, .int .i64 0, .int .i64 0, .int .i64 0, .int .i64 0, .int .i64 0, .int .i64 0, .int .i64 0, .int .i64 0, .int .i64 0, .int .i64 0, .int .i64 0, .int .i64 0, .bool false, .int .i64 0] 35)) w.heap.size [.int .i64 0, .int .i64 0, .int .i64 0, .int .i64 0, .int .i64 0, .int .i64 0, .int .i64 0, .int .i64 0, .int .i64 0, .int .i64 0, .int .i64 0, .int .i64 0, .int .i64 0, .int .i64 0, .int .i64 0, .bool false, .int .i64 0] 35) := Lib.hid (Blk.new w #[.int .i64 0, .int .i64 0, .int .i64 0, .int .i64 0, .int .i64 0, .int .i64 0, .int .i64 0, .int .i64 0, .int .i64 0, .int .i64 0, .int .i64 0, .int .i64 0, .int .i64 0, .int .i64 0, .int .i64 0, .bool false, .int .i64 0] 35)
  have HB0 := Lib.hid ((Below.refl w.heap.size w).alloc (Nat.le_refl _) (.cells #[.int .i64 0, .int .i64 0, .int .i64 0, .int .i64 0, .int .i64 0, .int .i64 0, .int .i64 0, .int .i64 0, .int .i64 0, .int .i64 0, .int .i64 0, .int .i64 0, .int .i64 0, .int .i64 0, .int .i64 0, .bool false, .int .i64 0] 35))
  have hzW : w.heap.size < (w.alloc (.cells #[.int .i64 0, .int .i64 0, .int .i64 0, .int .i64 0, .int .i64 0, .int .i64 0, .int .i64 0, .int .i64 0, .int .i64 0, .int .i64 0, .int .i64 0, .int .i64 0, .int .i64 0, .int .i64 0, .int .i64 0, .bool false, .int .i64 0] 35)).heap.size := by simp
  have HS0 := Lib.hid (h.keep HB0.out)
  have b0 : w.cell? ⟨bb, off, none⟩ = some (.int .u8 3) := by have := hcell 0 (by omega); rw [h0] at this; exact this
  have HN5 := Lib.hid (num_one (bs := bs) (i := 5) (by omega) rfl)
  have HOK0 : Hid (okT bs = (decide ((bs.getD 5 0).toNat ≤ 1) && (mayKey (fld bs 1 1) (fld bs 2 2) (fld bs 4 1) && inB (fld bs 6 4) 0 1073741824))) := Lib.hid (by unfold okT; rw [HN5.out, hbl]; by_cases h5 : (bs.getD 5 0).toNat ≤ 1 <;> simp [h5])
  have HC := Lib.hid fun w => rchkT (fld bs 1 1) (fld bs 2 2) (fld bs 4 1) (decide ((numOf ((bs.drop 5).take 1) : Int) = 1)) (fld bs 6 4) w
  have HBL := Lib.hid hbl
  have OY := Lib.hid (rec17_ok 3 0 0 0 0 0 0 0 0 0 0 0 (fld bs 1 1) (fld bs 2 2) (fld bs 4 1) (decide ((numOf ((bs.drop 5).take 1) : Int) = 1)) (fld bs 6 4)).out.2
  have TR : RowT 35 ((rec17 3 0 0 0 0 0 0 0 0 0 0 0 0 0 0 false 0)).length := rowR
  have O17 := (rec17_ok 3 0 0 0 0 0 0 0 0 0 0 0 0 0 0 false 0).out.2
  have HX5B : (bs.getD 5 0).toNat ≤ 255 := by have := (bs.getD 5 0).toNat_lt; omega
  clear h h0 hbl hcell
  go_enter Try.func7, Try.ntmps7
  go_upto_region 1 with fail
  have a0 := (World.cell?_alloc_some w ⟨bb, off, none⟩ (.cells #[.int .i64 0, .int .i64 0, .int .i64 0, .int .i64 0, .int .i64 0, .int .i64 0, .int .i64 0, .int .i64 0, .int .i64 0, .int .i64 0, .int .i64 0, .int .i64 0, .int .i64 0, .int .i64 0, .int .i64 0, .bool false, .int .i64 0] 35) (by rw [b0]; rfl)).trans b0
  clear b0
  generalize w.alloc (.cells #[.int .i64 0, .int .i64 0, .int .i64 0, .int .i64 0, .int .i64 0, .int .i64 0, .int .i64 0, .int .i64 0, .int .i64 0, .int .i64 0, .int .i64 0, .int .i64 0, .int .i64 0, .int .i64 0, .int .i64 0, .bool false, .int .i64 0] 35) = W at *
  have AX0 : Hid (Blk (W.alloc (.cells ((rec17 3 0 0 0 0 0 0 0 0 0 0 0 0 0 0 false 0)).toArray 35)) W.heap.size (rec17 3 0 0 0 0 0 0 0 0 0 0 0 0 0 0 false 0) 35) := Lib.hid (Blk.new W ((rec17 3 0 0 0 0 0 0 0 0 0 0 0 0 0 0 false 0)).toArray 35)
  have AZ1 := Lib.hid (AZ0.out.alloc (.cells ((rec17 3 0 0 0 0 0 0 0 0 0 0 0 0 0 0 false 0)).toArray 35))
  have HBW := Lib.hid ((Below.refl W.heap.size W).alloc (Nat.le_refl _) (.cells ((rec17 3 0 0 0 0 0 0 0 0 0 0 0 0 0 0 false 0)).toArray 35))
  have cx : (W.alloc (.cells ((rec17 3 0 0 0 0 0 0 0 0 0 0 0 0 0 0 false 0)).toArray 35)).cell? ⟨W.heap.size, 0, none⟩ = some (.int .i64 3) := AX0.out.cell 0
  have bw : bb < W.heap.size := Nat.lt_of_lt_of_le hb HB0.out.size
  clear AZ0
  go_upto_region 4 with (first
    | ((with_reducible refine st_row_new (cs := (rec17 3 0 0 0 0 0 0 0 0 0 0 0 0 0 0 false 0)) TR O17 ?_ ?_ ?_ ?_); (· first | rfl | simp); (· rfl); (· rfl); (simp only [Act.put, List.setIfInBounds_toArray, List.set_cons_zero, List.set_cons_succ])))
  generalize hW2 : W.alloc (.cells ((rec17 3 0 0 0 0 0 0 0 0 0 0 0 0 0 0 false 0)).toArray 35) = W2 at *
  generalize hgx : W.heap.size = gx at *
  clear hW2
  go_upto_region 11 with fail
  have HSW := HS0
  have HL1 := Lib.hid (fun w' (hb' : Below gx W w') => show w'.cell? ⟨bb, off + 1, none⟩ = some (.int .u8 ((bs.getD 1 0).toNat : Int)) from (hb'.cell (p := ⟨bb, off + 1, none⟩) bw).trans (by
    obtain ⟨_, b2, o2, e2, _, h2⟩ := HSW.out.byte (by decide)
    injection e2 with e2
    injection e2 with e3 e4
    subst e3; subst e4
    exact h2 1 (by decide)))
  have HL4 := Lib.hid (fun w' (hb' : Below gx W w') => show w'.cell? ⟨bb, off + 4, none⟩ = some (.int .u8 ((bs.getD 4 0).toNat : Int)) from (hb'.cell (p := ⟨bb, off + 4, none⟩) bw).trans (by
    obtain ⟨_, b2, o2, e2, _, h2⟩ := HSW.out.byte (by decide)
    injection e2 with e2
    injection e2 with e3 e4
    subst e3; subst e4
    exact h2 4 (by decide)))
  have HL5 := Lib.hid (fun w' (hb' : Below gx W w') => show w'.cell? ⟨bb, off + 5, none⟩ = some (.int .u8 ((bs.getD 5 0).toNat : Int)) from (hb'.cell (p := ⟨bb, off + 5, none⟩) bw).trans (by
    obtain ⟨_, b2, o2, e2, _, h2⟩ := HSW.out.byte (by decide)
    injection e2 with e2
    injection e2 with e3 e4
    subst e3; subst e4
    exact h2 5 (by decide)))
  have HG2 := Lib.hid (fun w' (hb' : Below gx W w') => rget_any (some ⟨bb, off + 2, none⟩) 2 (c - 2) ((bs.drop 2).take 2) w' ((sub_atm HSW.out (i := 2) (k := 2) (by decide) hc (by decide)).keep (by rw [hgx]; exact hb')) (by decide))
  generalize hm2 : numOf ((bs.drop 2).take 2) = m2 at *
  generalize hx1 : (bs.getD 1 0).toNat = x1 at *
  generalize hx4 : (bs.getD 4 0).toNat = x4 at *
  generalize hx5 : (bs.getD 5 0).toNat = x5 at *
  have HM2 := Lib.hid hm2
  have HX1 := Lib.hid hx1
  have HX4 := Lib.hid hx4
  clear hm2 hx1 hx4 hx5
  have hc2 : ¬ c = 2 := by omega
  have d2 : (2 : Int) ≤ c := by omega
  have d4 : (4 : Int) ≤ c := by omega
  have HBD : Hid (Below gx W W2.drew) := Lib.hid HBW.out.drew
  refine held_begin (fun w' => Below gx W w') 20 [false, false, false, false, false, false, false, false, false, false, false, false, false, false, false, false, false, false, false, false] (by kernel_rfl) rfl (by rfl) ?_
  have hHeld : Below gx W W2.drew := HBD.out
  refine held_take (v := ?_) 0 70 [true, false, false, false, false, false, false, false, false, false, false, false, false, false, false, false, false, false, false, false] rfl (by rfl) (by rfl) (by kernel_rfl) (by kernel_rfl) (by kernel_rfl) (by rfl) (fun _ _ _ h => h) ?_ hHeld ?_
  rotate_left
  · intro w hSw; go_simp <;> with_reducible rfl
  simp only [Act.put, List.setIfInBounds_toArray, List.set_cons_zero, List.set_cons_succ]
  refine held_take (v := ?_) 1 71 [true, true, false, false, false, false, false, false, false, false, false, false, false, false, false, false, false, false, false, false] rfl (by rfl) (by rfl) (by kernel_rfl) (by kernel_rfl) (by kernel_rfl) (by rfl) (fun _ _ _ h => h) ?_ hHeld ?_
  rotate_left
  · intro w hSw; go_simp <;> with_reducible rfl
  simp only [Act.put, List.setIfInBounds_toArray, List.set_cons_zero, List.set_cons_succ]
  refine held_take (v := .int .u8 x1) 2 72 [true, true, true, false, false, false, false, false, false, false, false, false, false, false, false, false, false, false, false, false] rfl (by rfl) (by rfl) (by kernel_rfl) (by kernel_rfl) (by kernel_rfl) (by rfl) (fun _ _ _ h => h) (fun w' h => by have k := HL1.out w' h; go_simp) hHeld ?_
  simp only [Act.put, List.setIfInBounds_toArray, List.set_cons_zero, List.set_cons_succ]
  refine held_take (v := ?_) 3 73 [true, true, true, true, false, false, false, false, false, false, false, false, false, false, false, false, false, false, false, false] rfl (by rfl) (by rfl) (by kernel_rfl) (by kernel_rfl) (by kernel_rfl) (by rfl) (fun _ _ _ h => h) ?_ hHeld ?_
  rotate_left
  · intro w hSw; go_simp <;> with_reducible rfl
  simp only [Act.put, List.setIfInBounds_toArray, List.set_cons_zero, List.set_cons_succ]
  refine held_take (v := ?_) 4 74 [true, true, true, true, true, false, false, false, false, false, false, false, false, false, false, false, false, false, false, false] rfl (by rfl) (by rfl) (by kernel_rfl) (by kernel_rfl) (by kernel_rfl) (by rfl) (fun _ _ _ h => h) ?_ hHeld ?_
  rotate_left
  · intro w hSw; go_simp <;> with_reducible rfl
  simp only [Act.put, List.setIfInBounds_toArray, List.set_cons_zero, List.set_cons_succ]
  refine held_take (v := ?_) 5 75 [true, true, true, true, true, true, false, false, false, false, false, false, false, false, false, false, false, false, false, false] rfl (by rfl) (by rfl) (by kernel_rfl) (by kernel_rfl) (by kernel_rfl) (by rfl) (fun _ _ _ h => h) ?_ hHeld ?_
  rotate_left
  · intro w hSw; go_simp <;> with_reducible rfl
  simp only [Act.put, List.setIfInBounds_toArray, List.set_cons_zero, List.set_cons_succ]
  refine held_take (v := ?_) 9 79 [true, true, true, true, true, true, false, false, false, true, false, false, false, false, false, false, false, false, false, false] rfl (by rfl) (by rfl) (by kernel_rfl) (by kernel_rfl) (by kernel_rfl) (by rfl) (fun _ _ _ h => h) ?_ hHeld ?_
  rotate_left
  · intro w hSw; go_simp <;> with_reducible rfl
  simp only [Act.put, List.setIfInBounds_toArray, List.set_cons_zero, List.set_cons_succ]
  refine held_take (v := ?_) 10 80 [true, true, true, true, true, true, false, false, false, true, true, false, false, false, false, false, false, false, false, false] rfl (by rfl) (by rfl) (by kernel_rfl) (by kernel_rfl) (by kernel_rfl) (by rfl) (fun _ _ _ h => h) ?_ hHeld ?_
  rotate_left
  · intro w hSw; go_simp <;> with_reducible rfl
  simp only [Act.put, List.setIfInBounds_toArray, List.set_cons_zero, List.set_cons_succ]
  refine held_take (v := .int .u8 x4) 11 81 [true, true, true, true, true, true, false, false, false, true, true, true, false, false, false, false, false, false, false, false] rfl (by rfl) (by rfl) (by kernel_rfl) (by kernel_rfl) (by kernel_rfl) (by rfl) (fun _ _ _ h => h) (fun w' h => by have k := HL4.out w' h; go_simp) hHeld ?_
  simp only [Act.put, List.setIfInBounds_toArray, List.set_cons_zero, List.set_cons_succ]
  refine held_take (v := ?_) 12 82 [true, true, true, true, true, true, false, false, false, true, true, true, true, false, false, false, false, false, false, false] rfl (by rfl) (by rfl) (by kernel_rfl) (by kernel_rfl) (by kernel_rfl) (by rfl) (fun _ _ _ h => h) ?_ hHeld ?_
  rotate_left
  · intro w hSw; go_simp <;> with_reducible rfl
  simp only [Act.put, List.setIfInBounds_toArray, List.set_cons_zero, List.set_cons_succ]
  refine held_take (v := ?_) 13 83 [true, true, true, true, true, true, false, false, false, true, true, true, true, true, false, false, false, false, false, false] rfl (by rfl) (by rfl) (by kernel_rfl) (by kernel_rfl) (by kernel_rfl) (by rfl) (fun _ _ _ h => h) ?_ hHeld ?_
  rotate_left
  · intro w hSw; go_simp <;> with_reducible rfl
  simp only [Act.put, List.setIfInBounds_toArray, List.set_cons_zero, List.set_cons_succ]
  refine held_take (v := ?_) 14 84 [true, true, true, true, true, true, false, false, false, true, true, true, true, true, true, false, false, false, false, false] rfl (by rfl) (by rfl) (by kernel_rfl) (by kernel_rfl) (by kernel_rfl) (by rfl) (fun _ _ _ h => h) ?_ hHeld ?_
  rotate_left
  · intro w hSw; go_simp <;> with_reducible rfl
  simp only [Act.put, List.setIfInBounds_toArray, List.set_cons_zero, List.set_cons_succ]
  refine held_take (v := .int .u8 x5) 15 85 [true, true, true, true, true, true, false, false, false, true, true, true, true, true, true, true, false, false, false, false] rfl (by rfl) (by rfl) (by kernel_rfl) (by kernel_rfl) (by kernel_rfl) (by rfl) (fun _ _ _ h => h) (fun w' h => by have k := HL5.out w' h; go_simp) hHeld ?_
  simp only [Act.put, List.setIfInBounds_toArray, List.set_cons_zero, List.set_cons_succ]
  refine held_take (v := ?_) 16 86 [true, true, true, true, true, true, false, false, false, true, true, true, true, true, true, true, true, false, false, false] rfl (by rfl) (by rfl) (by kernel_rfl) (by kernel_rfl) (by kernel_rfl) (by rfl) (fun _ _ _ h => h) ?_ hHeld ?_
  rotate_left
  · intro w hSw; go_simp <;> with_reducible rfl
  simp only [Act.put, List.setIfInBounds_toArray, List.set_cons_zero, List.set_cons_succ]
  refine held_call 6 76 [true, true, true, true, true, true, true, false, false, true, true, true, true, true, true, true, true, false, false, false] (by kernel_rfl) rfl (by rfl) (by rfl) (by rfl) (by go_simp) ((HG2.out _ hHeld).mono ?_)
  rintro e w' ⟨rfl, rfl⟩
  refine ⟨_, rfl, hHeld, fun hHeld => ?_⟩
  simp only [Act.put, List.setIfInBounds_toArray, List.set_cons_zero, List.set_cons_succ]
  refine held_take (v := .int .i64 (IntKind.i64.wrap m2)) 7 77 [true, true, true, true, true, true, true, true, false, true, true, true, true, true, true, true, true, false, false, false] rfl (by rfl) (by rfl) (by kernel_rfl) (by kernel_rfl) (by kernel_rfl) (by rfl) (fun _ _ _ h => h) (fun w' h => by go_simp <;> rfl) hHeld ?_
  simp only [Act.put, List.setIfInBounds_toArray, List.set_cons_zero, List.set_cons_succ]
  refine held_take (v := ?_) 8 78 [true, true, true, true, true, true, true, true, true, true, true, true, true, true, true, true, true, false, false, false] rfl (by rfl) (by rfl) (by kernel_rfl) (by kernel_rfl) (by kernel_rfl) (by rfl) (fun _ _ _ h => h) ?_ hHeld ?_
  rotate_left
  · intro w hSw; go_simp <;> with_reducible rfl
  simp only [Act.put, List.setIfInBounds_toArray, List.set_cons_zero, List.set_cons_succ]
  refine held_take (v := ?_) 17 87 [true, true, true, true, true, true, true, true, true, true, true, true, true, true, true, true, true, true, false, false] rfl (by rfl) (by rfl) (by kernel_rfl) (by kernel_rfl) (by kernel_rfl) (by rfl) (fun _ _ _ h => h) ?_ hHeld ?_
  rotate_left
  · intro w hSw; go_simp <;> with_reducible rfl
  simp only [Act.put, List.setIfInBounds_toArray, List.set_cons_zero, List.set_cons_succ]
  refine held_take (v := ?_) 18 88 [true, true, true, true, true, true, true, true, true, true, true, true, true, true, true, true, true, true, true, false] rfl (by rfl) (by rfl) (by kernel_rfl) (by kernel_rfl) (by kernel_rfl) (by rfl) (fun _ _ _ h => h) ?_ hHeld ?_
  rotate_left
  · intro w hSw; go_simp <;> with_reducible rfl
  simp only [Act.put, List.setIfInBounds_toArray, List.set_cons_zero, List.set_cons_succ]
  refine held_one 19 (by kernel_rfl) ?_
  refine op_skip [true, true, true, true, true, true, true, true, true, true, true, true, true, true, true, true, true, true, true, true] rfl (by rfl) (by rfl) (by rfl) (st_part_run (cs := [.int .i64 (IntKind.i64.wrap x1), .int .i64 (IntKind.i64.wrap m2), .int .i64 (IntKind.i64.wrap x4), .bool ((x5 : Int) == 1)]) rfl rfl rfl AX0.out.drew (by show 16 ≤ 17; decide) ky_size (by simp [Value.oneCell'])) ((below_sets (by omega) [.int .i64 (IntKind.i64.wrap x1), .int .i64 (IntKind.i64.wrap m2), .int .i64 (IntKind.i64.wrap x4), .bool ((x5 : Int) == 1)] 12 _ hHeld)) fun hHeld => ?_
  refine held_done (by kernel_rfl) ?_
  have HY0 : Hid (Blk (W2.drew.setCells gx 12 [.int .i64 (IntKind.i64.wrap x1), .int .i64 (IntKind.i64.wrap m2), .int .i64 (IntKind.i64.wrap x4), .bool ((x5 : Int) == 1)]) gx (rec17 3 0 0 0 0 0 0 0 0 0 0 0 (fld bs 1 1) (fld bs 2 2) (fld bs 4 1) (decide ((numOf ((bs.drop 5).take 1) : Int) = 1)) 0) 35) := Lib.hid (by
    have := Blk.setAt [.int .i64 (IntKind.i64.wrap x1), .int .i64 (IntKind.i64.wrap m2), .int .i64 (IntKind.i64.wrap x4), .bool ((x5 : Int) == 1)] 12 _ _ AX0.out.drew (by show 16 ≤ 17; decide)
    have e1 := oct_wrap (i := 1) (by rw [HBL.out]; decide) HX1.out
    have e2 := num_wrap HM2.out
    have e4 := oct_wrap (i := 4) (by rw [HBL.out]; decide) HX4.out
    have e5 : ((x5 : Int) == 1) = (decide ((numOf ((bs.drop 5).take 1) : Int) = 1)) := by rw [HN5.out]; rfl
    rw [e1, e2, e4, e5] at this ⊢
    exact this)
  have AZ2 : Hid (Blk (W2.drew.setCells gx 12 [.int .i64 (IntKind.i64.wrap x1), .int .i64 (IntKind.i64.wrap m2), .int .i64 (IntKind.i64.wrap x4), .bool ((x5 : Int) == 1)]) w.heap.size [.int .i64 0, .int .i64 0, .int .i64 0, .int .i64 0, .int .i64 0, .int .i64 0, .int .i64 0, .int .i64 0, .int .i64 0, .int .i64 0, .int .i64 0, .int .i64 0, .int .i64 0, .int .i64 0, .int .i64 0, .bool false, .int .i64 0] 35) := Lib.hid (Blk.sets_other (by omega) [.int .i64 (IntKind.i64.wrap x1), .int .i64 (IntKind.i64.wrap m2), .int .i64 (IntKind.i64.wrap x4), .bool ((x5 : Int) == 1)] 12 _ AZ1.out.drew)
  have HB9a := hHeld
  have HB9 : Hid (Below w.heap.size w (W2.drew.setCells gx 12 [.int .i64 (IntKind.i64.wrap x1), .int .i64 (IntKind.i64.wrap m2), .int .i64 (IntKind.i64.wrap x4), .bool ((x5 : Int) == 1)])) := Lib.hid (HB0.out.trans (hHeld.mono (by omega)))
  have k5 := HL5.out _ HB9a
  clear hHeld
  have HSX := Lib.hid (HSW.out.keep (by rw [hgx]; exact HB9a))
  clear HB9a
  generalize hw9 : (W2.drew.setCells gx 12 [.int .i64 (IntKind.i64.wrap x1), .int .i64 (IntKind.i64.wrap m2), .int .i64 (IntKind.i64.wrap x4), .bool ((x5 : Int) == 1)]) = w9 at *
  clear hw9 AX0 AZ1 HBW cx a0 HBD HL1 HL4 HL5 HG2
  have k0 : w9.cell? ⟨gx, 0, none⟩ = some (.int .i64 3) := HY0.out.cell 0
  have HG6 := Lib.hid (rget_any (some ⟨bb, off + 6, none⟩) 4 (c - 6) ((bs.drop 6).take 4) w9 (sub_atm HSX.out (i := 6) (k := 4) (by decide) hc (by decide)) (by decide))
  generalize hm6 : numOf ((bs.drop 6).take 4) = m6 at *
  have HM6 := Lib.hid (show wrap64 (m6 : Int) = fld bs 6 4 by rw [← hm6]; rfl)
  have k16 : w9.cell? ⟨gx, 16, none⟩ = some (.int .i64 0) := HY0.out.cell 16
  have f16 := HY0.out.froz 16
  have hc6 : ¬ c = 6 := by omega
  have d6 : (6 : Int) ≤ c := by omega
  have d10 : (10 : Int) ≤ c := by omega
  clear hm6
  go_upto_region 13 with fail
  go_wp2_with fail
  refine HG6.out.mono ?_
  rintro e w' ⟨rfl, rfl⟩
  go_upto_region 14 with fail
  have HY : Hid (Blk (w9.setCell ⟨gx, 16, none⟩ (.int .i64 (wrap64 (m6 : Int)))) gx (rec17 3 0 0 0 0 0 0 0 0 0 0 0 (fld bs 1 1) (fld bs 2 2) (fld bs 4 1) (decide ((numOf ((bs.drop 5).take 1) : Int) = 1)) (fld bs 6 4)) 35) := Lib.hid (by
    rw [← HM6.out]
    exact HY0.out.set 16 (.int .i64 (wrap64 (m6 : Int))))
  have AZ3 := Lib.hid (AZ2.out.set_other (g' := gx) (by omega) 16 (.int .i64 (wrap64 (m6 : Int))))
  have HB9b := Lib.hid (below_set HB9.out (show w.heap.size ≤ gx by omega) 16 (.int .i64 (wrap64 (m6 : Int))))
  have k5' : (w9.setCell ⟨gx, 16, none⟩ (.int .i64 (wrap64 (m6 : Int)))).cell? ⟨bb, off + 5, none⟩ = some (.int .u8 x5) := (World.cell?_setCell_other _ _ _ _ (by intro h; have := congrArg Addr.block h; simp at this; omega)).trans k5
  generalize hwa : w9.setCell ⟨gx, 16, none⟩ (.int .i64 (wrap64 (m6 : Int))) = wa at *
  clear hwa k5 AZ2 HB9 HY0 k0 k16 f16 HG6
  have k5 := k5'
  have AZ2 := AZ3
  have HB9 := HB9b
  clear k5' AZ3 HB9b
  generalize (mayKey (fld bs 1 1) (fld bs 2 2) (fld bs 4 1) && inB (fld bs 6 4) 0 1073741824) = v at *
  have HYL : Hid ((rec17 3 0 0 0 0 0 0 0 0 0 0 0 (fld bs 1 1) (fld bs 2 2) (fld bs 4 1) (decide ((numOf ((bs.drop 5).take 1) : Int) = 1)) (fld bs 6 4)).length = 17) := Lib.hid rfl
  have TY : RowT 35 (rec17 3 0 0 0 0 0 0 0 0 0 0 0 (fld bs 1 1) (fld bs 2 2) (fld bs 4 1) (decide ((numOf ((bs.drop 5).take 1) : Int) = 1)) (fld bs 6 4)).length := rowR
  generalize hY : rec17 3 0 0 0 0 0 0 0 0 0 0 0 (fld bs 1 1) (fld bs 2 2) (fld bs 4 1) (decide ((numOf ((bs.drop 5).take 1) : Int) = 1)) (fld bs 6 4) = Y at *
  have HYV := Lib.hid hY
  clear hY
  have HYZ : Hid (([.int .i64 0, .int .i64 0, .int .i64 0, .int .i64 0, .int .i64 0, .int .i64 0, .int .i64 0, .int .i64 0, .int .i64 0, .int .i64 0, .int .i64 0, .int .i64 0, .int .i64 0, .int .i64 0, .int .i64 0, .bool false, .int .i64 0] : List Value).length = Y.length) := Lib.hid (by rw [HYL.out]; rfl)
  have ry : wa.rangeAt gx 0 Y := HY.out.range 0 _ (by simp)
  have TR2 : RowT 35 ((rec17 0 0 0 0 0 0 0 0 0 0 0 0 0 0 0 false 0)).length := rowR
  have OZ := (rec17_ok 0 0 0 0 0 0 0 0 0 0 0 0 0 0 0 false 0).out.2
  clear TR O17
  have TR := TR2
  have O17 := OZ
  clear TR2 OZ
  by_cases h5 : 1 < x5
  · have HOK : Hid (okT bs = false) := Lib.hid (by rw [HOK0.out, decide_eq_false (by omega)]; rfl)
    have h5' : (1 : Int) < (x5 : Int) := by omega
    have AZ := AZ2
    have HBX := HB9
    have C5 := Lib.hid (AZ.out.setAll (rec17 0 0 0 0 0 0 0 0 0 0 0 0 0 0 0 false 0) rfl)
    have HBZ := Lib.hid (below_sets (Nat.le_refl _) (rec17 0 0 0 0 0 0 0 0 0 0 0 0 0 0 0 false 0) 0 _ HBX.out)
    go_upto_region 15 with fail
    go_wp2_with (first
      | ((with_reducible refine st_row (cs := (rec17 0 0 0 0 0 0 0 0 0 0 0 0 0 0 0 false 0)) AZ.out rfl TR O17 ?_ ?_ ?_); (· rfl); (· rfl); (simp only [Act.put, List.setIfInBounds_toArray, List.set_cons_zero, List.set_cons_succ]); (generalize wa.setCells w.heap.size 0 (rec17 0 0 0 0 0 0 0 0 0 0 0 0 0 0 0 false 0) = WW at *)))
    refine ret_cell_tmp (p := 2) (q := 3) rfl rfl rfl C5.out Try.underlying35 rfl (by rw [rr_size]; rfl) rfl ⟨by rw [HOK.out]; rfl, HBZ.out⟩
  · have h5' : ¬ (1 : Int) < (x5 : Int) := by omega
    have HOK : Hid (okT bs = v) := Lib.hid (by rw [HOK0.out, decide_eq_true (by omega), Bool.true_and])
    go_upto_region 17 with fail
    go_wp2_with (first
      | ((with_reducible refine ld_row ry TY ?_ ?_ ?_); (· rfl); (· rfl); (simp only [Act.put, List.setIfInBounds_toArray, List.set_cons_zero, List.set_cons_succ])))
    refine (HC.out _).mono ?_
    rintro e w8 ⟨rfl, hb8⟩
    have AX := Lib.hid (HY.out.keep hb8 HY.out.lt)
    have AZ := Lib.hid (AZ2.out.keep hb8 AZ2.out.lt)
    have HBX := Lib.hid (HB9.out.trans (hb8.mono HB9.out.size))
    clear hb8 ry HY AZ2 HB9 HC HOK0 k5
    rcases v with _ | _
    · rw [show rcode false = 4 from rfl]
      have C5 := Lib.hid (AZ.out.setAll (rec17 0 0 0 0 0 0 0 0 0 0 0 0 0 0 0 false 0) rfl)
      have HBZ := Lib.hid (below_sets (Nat.le_refl _) (rec17 0 0 0 0 0 0 0 0 0 0 0 0 0 0 0 false 0) 0 _ HBX.out)
      go_upto_region 18 with fail
      go_wp2_with (first
        | ((with_reducible refine st_row (cs := (rec17 0 0 0 0 0 0 0 0 0 0 0 0 0 0 0 false 0)) AZ.out rfl TR O17 ?_ ?_ ?_); (· rfl); (· rfl); (simp only [Act.put, List.setIfInBounds_toArray, List.set_cons_zero, List.set_cons_succ]); (generalize w8.setCells w.heap.size 0 (rec17 0 0 0 0 0 0 0 0 0 0 0 0 0 0 0 false 0) = WW at *)))
      refine ret_cell_tmp (p := 2) (q := 3) rfl rfl rfl C5.out Try.underlying35 rfl (by rw [rr_size]; rfl) rfl ⟨by rw [HOK.out]; rfl, HBZ.out⟩
    · rw [show rcode true = 0 from rfl]
      have C5 := Lib.hid (AZ.out.setAll Y (by rw [HYL.out]; rfl))
      have HBZ := Lib.hid (below_sets (Nat.le_refl _) Y 0 _ HBX.out)
      have ry : w8.rangeAt gx 0 Y := AX.out.range 0 _ (by simp)
      go_wp2_with (first
        | ((with_reducible refine ld_row ry TY ?_ ?_ ?_); (· rfl); (· rfl); (simp only [Act.put, List.setIfInBounds_toArray, List.set_cons_zero, List.set_cons_succ]))
        | ((with_reducible refine st_row (cs := Y) AZ.out HYZ.out TY OY.out ?_ ?_ ?_); (· rfl); (· rfl); (simp only [Act.put, List.setIfInBounds_toArray, List.set_cons_zero, List.set_cons_succ]); (generalize w8.setCells w.heap.size 0 Y = WW at *)))
      refine ret_cell_tmp (p := 2) (q := 3) rfl rfl rfl C5.out Try.underlying35 rfl (by rw [rr_size, HYL.out]) rfl ⟨by rw [HOK.out, HYV.out]; rfl, HBZ.out⟩
end Go.Proofs.Ytfffbhkenggdcaa
