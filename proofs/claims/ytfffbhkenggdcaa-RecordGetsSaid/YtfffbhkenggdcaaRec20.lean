/- The reference's Get of a record of a change, and of none. -/
import Derived.Test.YtfffbhkenggdcaaRec19
import Derived.Test.YtfffbhkenggdcaaRow
import Derived.Test.YtfffbhkenggdcaaOps
import Derived.Test.YtfffbhkenggdcaaEq
import Derived.Test.YtfffbhkenggdcaaChgOps
import Derived.RegionTactic
import Derived.BigRegion
import Derived.ChangeAlike
namespace Go.Proofs.Ytfffbhkenggdcaa
set_option linter.unusedVariables false
set_option linter.unusedSimpArgs false
open Go.ChangeShapes Go.WideShapes Go.ChangeAt Go.RowKit
set_option maxRecDepth 100000 in
set_option maxHeartbeats 8000000 in
theorem rrgetC (a : Option Addr) (c : Nat) (bs : List UInt8) (w : World) (h : Sl w a 23 1 (bcells bs)) (hc : 23 ≤ c) (hcm : c ≤ 9223372036854775807) (h0 : (bs.getD 0 0).toNat = 1) :
    Calls Try.prog 7 #[.slice a 23 c] w fun e w' => e = .returned (.tuple #[.agg (recC (chgV (bs.drop 1))).toArray, .bool (okC bs)]) ∧ Below w.heap.size w w' := by
  have hbl : bs.length = 23 := sl_one h
  obtain ⟨_, bb, off, rfl, hb, hcell⟩ := h.byte (by omega)
  have AZ0 : Hid (Blk (w.alloc (.cells #[.int .i64 0, .int .i64 0, .int .i64 0, .int .i64 0, .int .i64 0, .int .i64 0, .int .i64 0, .int .i64 0, .int .i64 0, .int .i64 0, .int .i64 0, .int .i64 0, .int .i64 0, .int .i64 0, .int .i64 0, .bool false, .int .i64 0] 35)) w.heap.size [.int .i64 0, .int .i64 0, .int .i64 0, .int .i64 0, .int .i64 0, .int .i64 0, .int .i64 0, .int .i64 0, .int .i64 0, .int .i64 0, .int .i64 0, .int .i64 0, .int .i64 0, .int .i64 0, .int .i64 0, .bool false, .int .i64 0] 35) := Lib.hid (Blk.new w #[.int .i64 0, .int .i64 0, .int .i64 0, .int .i64 0, .int .i64 0, .int .i64 0, .int .i64 0, .int .i64 0, .int .i64 0, .int .i64 0, .int .i64 0, .int .i64 0, .int .i64 0, .int .i64 0, .int .i64 0, .bool false, .int .i64 0] 35)
  have HB0 := Lib.hid ((Below.refl w.heap.size w).alloc (Nat.le_refl _) (.cells #[.int .i64 0, .int .i64 0, .int .i64 0, .int .i64 0, .int .i64 0, .int .i64 0, .int .i64 0, .int .i64 0, .int .i64 0, .int .i64 0, .int .i64 0, .int .i64 0, .int .i64 0, .int .i64 0, .int .i64 0, .bool false, .int .i64 0] 35))
  have hzW : w.heap.size < (w.alloc (.cells #[.int .i64 0, .int .i64 0, .int .i64 0, .int .i64 0, .int .i64 0, .int .i64 0, .int .i64 0, .int .i64 0, .int .i64 0, .int .i64 0, .int .i64 0, .int .i64 0, .int .i64 0, .int .i64 0, .int .i64 0, .bool false, .int .i64 0] 35)).heap.size := by simp
  have HS0 := Lib.hid (h.keep HB0.out)
  have b0 : w.cell? ⟨bb, off, none⟩ = some (.int .u8 1) := by have := hcell 0 (by omega); rw [h0] at this; exact this
  have HSD := Lib.hid (sub_atm HS0.out (i := 1) (k := 22) (by decide) hc (by decide))
  have HTK : Hid ((bs.drop 1).take 22 = bs.drop 1) := Lib.hid (List.take_of_length_le (by rw [List.length_drop, hbl]; decide))
  have L9 := Lib.hid (chgV_len (bs.drop 1))
  have OY : Hid (∀ u ∈ recC (chgV (bs.drop 1)), u.oneCell' = true) := Lib.hid (rec17_ok 1 ((chgV (bs.drop 1)).getD 0 0) ((chgV (bs.drop 1)).getD 1 0) ((chgV (bs.drop 1)).getD 2 0) ((chgV (bs.drop 1)).getD 3 0) ((chgV (bs.drop 1)).getD 4 0) ((chgV (bs.drop 1)).getD 5 0) ((chgV (bs.drop 1)).getD 6 0) ((chgV (bs.drop 1)).getD 7 0) ((chgV (bs.drop 1)).getD 8 0) 0 0 0 0 0 false 0).out.2
  have TR : RowT 35 ((rec17 1 0 0 0 0 0 0 0 0 0 0 0 0 0 0 false 0)).length := rowR
  have O17 := (rec17_ok 1 0 0 0 0 0 0 0 0 0 0 0 0 0 0 false 0).out.2
  rw [HTK.out] at HSD
  clear h h0 hbl hcell HTK
  go_enter Try.func7, Try.ntmps7
  go_upto_region 1 with fail
  have a0 := (World.cell?_alloc_some w ⟨bb, off, none⟩ (.cells #[.int .i64 0, .int .i64 0, .int .i64 0, .int .i64 0, .int .i64 0, .int .i64 0, .int .i64 0, .int .i64 0, .int .i64 0, .int .i64 0, .int .i64 0, .int .i64 0, .int .i64 0, .int .i64 0, .int .i64 0, .bool false, .int .i64 0] 35) (by rw [b0]; rfl)).trans b0
  clear b0
  generalize w.alloc (.cells #[.int .i64 0, .int .i64 0, .int .i64 0, .int .i64 0, .int .i64 0, .int .i64 0, .int .i64 0, .int .i64 0, .int .i64 0, .int .i64 0, .int .i64 0, .int .i64 0, .int .i64 0, .int .i64 0, .int .i64 0, .bool false, .int .i64 0] 35) = W at *
  have AX0 : Hid (Blk (W.alloc (.cells ((rec17 1 0 0 0 0 0 0 0 0 0 0 0 0 0 0 false 0)).toArray 35)) W.heap.size (rec17 1 0 0 0 0 0 0 0 0 0 0 0 0 0 0 false 0) 35) := Lib.hid (Blk.new W ((rec17 1 0 0 0 0 0 0 0 0 0 0 0 0 0 0 false 0)).toArray 35)
  have AZ1 := Lib.hid (AZ0.out.alloc (.cells ((rec17 1 0 0 0 0 0 0 0 0 0 0 0 0 0 0 false 0)).toArray 35))
  have HBW := Lib.hid (HB0.out.alloc HB0.out.size (.cells ((rec17 1 0 0 0 0 0 0 0 0 0 0 0 0 0 0 false 0)).toArray 35))
  have cx : (W.alloc (.cells ((rec17 1 0 0 0 0 0 0 0 0 0 0 0 0 0 0 false 0)).toArray 35)).cell? ⟨W.heap.size, 0, none⟩ = some (.int .i64 1) := AX0.out.cell 0
  have HSE := Lib.hid (HSD.out.keep ((Below.refl W.heap.size W).alloc (Nat.le_refl _) (.cells ((rec17 1 0 0 0 0 0 0 0 0 0 0 0 0 0 0 false 0)).toArray 35)))
  clear AZ0 HSD
  go_upto_region 4 with (first
    | ((with_reducible refine st_row_new (cs := (rec17 1 0 0 0 0 0 0 0 0 0 0 0 0 0 0 false 0)) TR O17 ?_ ?_ ?_ ?_); (· first | rfl | simp); (· rfl); (· rfl); (simp only [Act.put, List.setIfInBounds_toArray, List.set_cons_zero, List.set_cons_succ])))
  generalize hW2 : W.alloc (.cells ((rec17 1 0 0 0 0 0 0 0 0 0 0 0 0 0 0 false 0)).toArray 35) = W2 at *
  generalize hgx : W.heap.size = gx at *
  clear hW2
  have hc1 : ¬ c = 1 := by omega
  have d1 : (1 : Int) ≤ c := by omega
  have G := Lib.hid (rcget_any (some ⟨bb, off + 1, none⟩) 22 (c - 1) (bs.drop 1) W2 HSE.out (by omega) (by omega))
  go_wp2_with fail
  refine G.out.mono ?_
  rintro e w3 ⟨rfl, hb3⟩
  have HOKC : Hid (okChg (bs.drop 1) = okC bs) := Lib.hid rfl
  rw [HOKC.out]
  generalize hl : chgV (bs.drop 1) = l at *
  have HLV := Lib.hid hl
  generalize hok : okC bs = ok at *
  have HOV := Lib.hid hok
  clear hok
  have hs3 := hb3.size
  have AX3 := Lib.hid ((AX0.out.keep hb3 AX0.out.lt).alloc (.cells (ints l).toArray 27))
  have AZ3 := Lib.hid ((AZ1.out.keep hb3 AZ1.out.lt).alloc (.cells (ints l).toArray 27))
  have HB3 := Lib.hid ((HBW.out.trans (hb3.mono HBW.out.size)).alloc (HBW.out.trans (hb3.mono HBW.out.size)).size (.cells (ints l).toArray 27))
  have AL3 : Hid (Blk (w3.alloc (.cells (ints l).toArray 27)) w3.heap.size (ints l) 27) := Lib.hid (Blk.new w3 (ints l).toArray 27)
  have TL : RowT 27 (ints l).length := by rw [ints_len, L9.out]; exact rowC
  have OL : Hid (∀ u ∈ ints l, u.oneCell' = true) := Lib.hid (fun u hu => ints_one hu)
  have hgl := AX0.out.lt
  clear hb3 AX0 AZ1 HBW HSE G cx a0 hl
  go_upto_region 6 with (first
    | ((with_reducible refine st_row_new (cs := ints l) TL OL.out ?_ ?_ ?_ ?_); (· first | rfl | simp); (· rfl); (· exact (ints_len l).trans L9.out |>.symm); (simp only [Act.put, List.setIfInBounds_toArray, List.set_cons_zero, List.set_cons_succ])))
  generalize hW4 : w3.alloc (.cells (ints l).toArray 27) = W4 at *
  generalize hgc : w3.heap.size = gc at *
  clear hW4
  have rl : W4.rangeAt gc 0 (ints l) := AL3.out.range 0 _ (by simp)
  have HLE := Lib.hid (ints9 L9.out)
  have HY : Hid (Blk (W4.setCells gx 1 (ints l)) gx (recC l) 35) := Lib.hid (by
    have := Blk.setAt (ints l) 1 _ _ AX3.out (by rw [ints_len, L9.out]; show 10 ≤ 17; decide)
    have e := congrArg Array.toList HLE.out
    rw [List.toList_toArray] at e
    rw [e] at this ⊢
    exact this)
  have AZ4 := Lib.hid (Blk.sets_other (g' := gx) (by omega) (ints l) 1 _ AZ3.out)
  have HB4 := Lib.hid (below_sets (show w.heap.size ≤ gx by omega) (ints l) 1 _ HB3.out)
  have HTH := Lib.hid (AX3.out.there 1 (ints l).toArray.size (by rw [List.size_toArray, ints_len, L9.out]; show 10 ≤ 17; decide))
  have OLA : Hid ((ints l).toArray.all (·.oneCell') = true) := Lib.hid (all_oneCell_toArray OL.out)
  have TLA : Hid ((Try.prog.info? 27).map (·.size) = some (ints l).toArray.size) := Lib.hid (by rw [TL.2, List.size_toArray])
  clear AX3 AZ3 HB3 AL3
  go_upto_region 7 with (first
    | ((with_reducible refine ld_row rl TL ?_ ?_ ?_); (· rfl); (· rfl); (simp only [Act.put, List.setIfInBounds_toArray, List.set_cons_zero, List.set_cons_succ]))
    | ((with_reducible refine wpList_store_mid rfl 27 _ _ rfl gx 1 (ints l).toArray ?_ ?_ HTH.out TLA.out OLA.out ?_); (· rfl); (· rfl); (rw [List.toList_toArray]); (simp only [Act.put, List.setIfInBounds_toArray, List.set_cons_zero, List.set_cons_succ])))
  generalize hw5 : W4.setCells gx 1 (ints l) = W5 at *
  clear hw5 rl
  have HYL : Hid ((recC l).length = 17) := Lib.hid rfl
  have TY : RowT 35 (recC l).length := rowR
  generalize hY : recC l = Y at *
  have HYV := Lib.hid hY
  clear hY
  have HYZ : Hid (([.int .i64 0, .int .i64 0, .int .i64 0, .int .i64 0, .int .i64 0, .int .i64 0, .int .i64 0, .int .i64 0, .int .i64 0, .int .i64 0, .int .i64 0, .int .i64 0, .int .i64 0, .int .i64 0, .int .i64 0, .bool false, .int .i64 0] : List Value).length = Y.length) := Lib.hid (by rw [HYL.out]; rfl)
  have ry : W5.rangeAt gx 0 Y := HY.out.range 0 _ (by simp)
  have C5 := Lib.hid (AZ4.out.setAll Y (by rw [HYL.out]; rfl))
  have HBZ := Lib.hid (below_sets (Nat.le_refl _) Y 0 _ HB4.out)
  go_wp2_with (first
    | ((with_reducible refine ld_row ry TY ?_ ?_ ?_); (· rfl); (· rfl); (simp only [Act.put, List.setIfInBounds_toArray, List.set_cons_zero, List.set_cons_succ]))
    | ((with_reducible refine st_row (cs := Y) AZ4.out HYZ.out TY OY.out ?_ ?_ ?_); (· rfl); (· rfl); (simp only [Act.put, List.setIfInBounds_toArray, List.set_cons_zero, List.set_cons_succ]); (generalize W5.setCells w.heap.size 0 Y = WW at *)))
  refine ret_cell_tmp (p := 2) (q := 3) rfl rfl rfl C5.out Try.underlying35 rfl (by rw [rr_size, HYL.out]) rfl ⟨by rw [HLV.out, HYV.out, HOV.out]; rfl, HBZ.out⟩
set_option maxRecDepth 100000 in
set_option maxHeartbeats 4000000 in
theorem rrgetN (a : Option Addr) (c : Nat) (w : World) :
    Calls Try.prog 7 #[.slice a 0 c] w fun e w' => e = .returned (.tuple #[.agg ((rec17 0 0 0 0 0 0 0 0 0 0 0 0 0 0 0 false 0)).toArray, .bool false]) ∧ Below w.heap.size w w' := by
  have AZ := Lib.hid (Blk.new w #[.int .i64 0, .int .i64 0, .int .i64 0, .int .i64 0, .int .i64 0, .int .i64 0, .int .i64 0, .int .i64 0, .int .i64 0, .int .i64 0, .int .i64 0, .int .i64 0, .int .i64 0, .int .i64 0, .int .i64 0, .bool false, .int .i64 0] 35)
  have HB := Lib.hid ((Below.refl w.heap.size w).alloc (Nat.le_refl _) (.cells #[.int .i64 0, .int .i64 0, .int .i64 0, .int .i64 0, .int .i64 0, .int .i64 0, .int .i64 0, .int .i64 0, .int .i64 0, .int .i64 0, .int .i64 0, .int .i64 0, .int .i64 0, .int .i64 0, .int .i64 0, .bool false, .int .i64 0] 35))
  have TR : RowT 35 ((rec17 0 0 0 0 0 0 0 0 0 0 0 0 0 0 0 false 0)).length := rowR
  have O17 := (rec17_ok 0 0 0 0 0 0 0 0 0 0 0 0 0 0 0 false 0).out.2
  go_enter Try.func7, Try.ntmps7
  go_upto_region 1 with fail
  generalize w.alloc (.cells #[.int .i64 0, .int .i64 0, .int .i64 0, .int .i64 0, .int .i64 0, .int .i64 0, .int .i64 0, .int .i64 0, .int .i64 0, .int .i64 0, .int .i64 0, .int .i64 0, .int .i64 0, .int .i64 0, .int .i64 0, .bool false, .int .i64 0] 35) = W at *
  have C5 := Lib.hid (AZ.out.setAll (rec17 0 0 0 0 0 0 0 0 0 0 0 0 0 0 0 false 0) rfl)
  have HBZ := Lib.hid (below_sets (Nat.le_refl _) (rec17 0 0 0 0 0 0 0 0 0 0 0 0 0 0 0 false 0) 0 _ HB.out)
  go_upto_region 2 with fail
  go_wp2_with (first
    | ((with_reducible refine st_row (cs := (rec17 0 0 0 0 0 0 0 0 0 0 0 0 0 0 0 false 0)) AZ.out rfl TR O17 ?_ ?_ ?_); (· rfl); (· rfl); (simp only [Act.put, List.setIfInBounds_toArray, List.set_cons_zero, List.set_cons_succ]); (generalize W.setCells w.heap.size 0 (rec17 0 0 0 0 0 0 0 0 0 0 0 0 0 0 0 false 0) = WW at *)))
  refine ret_cell_tmp (p := 2) (q := 3) rfl rfl rfl C5.out Try.underlying35 rfl (by rw [rr_size]; rfl) rfl ⟨rfl, HBZ.out⟩
set_option maxRecDepth 100000 in
set_option maxHeartbeats 8000000 in
theorem rrget1 (a : Option Addr) (n c : Nat) (bs : List UInt8) (w : World) (h : Sl w a n 1 (bcells bs)) (hn0 : 0 < n) (h0 : (bs.getD 0 0).toNat = 1) (hl : n ≠ 23) :
    Calls Try.prog 7 #[.slice a n c] w fun e w' => e = .returned (.tuple #[.agg ((rec17 0 0 0 0 0 0 0 0 0 0 0 0 0 0 0 false 0)).toArray, .bool false]) ∧ Below w.heap.size w w' := by
  obtain ⟨hbl, bb, off, rfl, hb, hcell⟩ := h.byte hn0
  have AZ0 : Hid (Blk (w.alloc (.cells #[.int .i64 0, .int .i64 0, .int .i64 0, .int .i64 0, .int .i64 0, .int .i64 0, .int .i64 0, .int .i64 0, .int .i64 0, .int .i64 0, .int .i64 0, .int .i64 0, .int .i64 0, .int .i64 0, .int .i64 0, .bool false, .int .i64 0] 35)) w.heap.size [.int .i64 0, .int .i64 0, .int .i64 0, .int .i64 0, .int .i64 0, .int .i64 0, .int .i64 0, .int .i64 0, .int .i64 0, .int .i64 0, .int .i64 0, .int .i64 0, .int .i64 0, .int .i64 0, .int .i64 0, .bool false, .int .i64 0] 35) := Lib.hid (Blk.new w #[.int .i64 0, .int .i64 0, .int .i64 0, .int .i64 0, .int .i64 0, .int .i64 0, .int .i64 0, .int .i64 0, .int .i64 0, .int .i64 0, .int .i64 0, .int .i64 0, .int .i64 0, .int .i64 0, .int .i64 0, .bool false, .int .i64 0] 35)
  have HB0 := Lib.hid ((Below.refl w.heap.size w).alloc (Nat.le_refl _) (.cells #[.int .i64 0, .int .i64 0, .int .i64 0, .int .i64 0, .int .i64 0, .int .i64 0, .int .i64 0, .int .i64 0, .int .i64 0, .int .i64 0, .int .i64 0, .int .i64 0, .int .i64 0, .int .i64 0, .int .i64 0, .bool false, .int .i64 0] 35))
  have b0 : w.cell? ⟨bb, off, none⟩ = some (.int .u8 1) := by have := hcell 0 hn0; rw [h0] at this; exact this
  have hx : (1 : Int) ≤ 255 := by have := (bs.getD 0 0).toNat_lt; omega
  have n1 : decide ((0 : Int) < (n : Int)) = true := by simp; omega
  have n2 : ((n : Int) == 0) = false := beq_eq_false_iff_ne.2 (by omega)
  have l23 : ((n : Int) == 23) = false := beq_eq_false_iff_ne.2 (by omega)
  have TR : RowT 35 ((rec17 0 0 0 0 0 0 0 0 0 0 0 0 0 0 0 false 0)).length := rowR
  have O17 := (rec17_ok 0 0 0 0 0 0 0 0 0 0 0 0 0 0 0 false 0).out.2
  have TX : RowT 35 ((rec17 1 0 0 0 0 0 0 0 0 0 0 0 0 0 0 false 0)).length := rowR
  have OX := (rec17_ok 1 0 0 0 0 0 0 0 0 0 0 0 0 0 0 false 0).out.2
  clear h h0 hbl hcell
  go_enter Try.func7, Try.ntmps7
  go_upto_region 1 with fail
  have a0 := (World.cell?_alloc_some w ⟨bb, off, none⟩ (.cells #[.int .i64 0, .int .i64 0, .int .i64 0, .int .i64 0, .int .i64 0, .int .i64 0, .int .i64 0, .int .i64 0, .int .i64 0, .int .i64 0, .int .i64 0, .int .i64 0, .int .i64 0, .int .i64 0, .int .i64 0, .bool false, .int .i64 0] 35) (by rw [b0]; rfl)).trans b0
  clear b0
  generalize w.alloc (.cells #[.int .i64 0, .int .i64 0, .int .i64 0, .int .i64 0, .int .i64 0, .int .i64 0, .int .i64 0, .int .i64 0, .int .i64 0, .int .i64 0, .int .i64 0, .int .i64 0, .int .i64 0, .int .i64 0, .int .i64 0, .bool false, .int .i64 0] 35) = W at *
  have AX0 : Hid (Blk (W.alloc (.cells ((rec17 1 0 0 0 0 0 0 0 0 0 0 0 0 0 0 false 0)).toArray 35)) W.heap.size (rec17 1 0 0 0 0 0 0 0 0 0 0 0 0 0 0 false 0) 35) := Lib.hid (Blk.new W ((rec17 1 0 0 0 0 0 0 0 0 0 0 0 0 0 0 false 0)).toArray 35)
  have AZ1 := Lib.hid (AZ0.out.alloc (.cells ((rec17 1 0 0 0 0 0 0 0 0 0 0 0 0 0 0 false 0)).toArray 35))
  have HB1 := Lib.hid (HB0.out.alloc HB0.out.size (.cells ((rec17 1 0 0 0 0 0 0 0 0 0 0 0 0 0 0 false 0)).toArray 35))
  have cx : (W.alloc (.cells ((rec17 1 0 0 0 0 0 0 0 0 0 0 0 0 0 0 false 0)).toArray 35)).cell? ⟨W.heap.size, 0, none⟩ = some (.int .i64 1) := AX0.out.cell 0
  clear AZ0 HB0
  go_upto_region 4 with (first
    | ((with_reducible refine st_row_new (cs := (rec17 1 0 0 0 0 0 0 0 0 0 0 0 0 0 0 false 0)) TX OX ?_ ?_ ?_ ?_); (· first | rfl | simp); (· rfl); (· rfl); (simp only [Act.put, List.setIfInBounds_toArray, List.set_cons_zero, List.set_cons_succ])))
  generalize hW2 : W.alloc (.cells ((rec17 1 0 0 0 0 0 0 0 0 0 0 0 0 0 0 false 0)).toArray 35) = W2 at *
  generalize hgx : W.heap.size = gx at *
  clear hW2
  have C5 := Lib.hid (AZ1.out.setAll (rec17 0 0 0 0 0 0 0 0 0 0 0 0 0 0 0 false 0) rfl)
  have HBZ := Lib.hid (below_sets (Nat.le_refl _) (rec17 0 0 0 0 0 0 0 0 0 0 0 0 0 0 0 false 0) 0 _ HB1.out)
  go_upto_region 16 with fail
  go_wp2_with (first
    | ((with_reducible refine st_row (cs := (rec17 0 0 0 0 0 0 0 0 0 0 0 0 0 0 0 false 0)) AZ1.out rfl TR O17 ?_ ?_ ?_); (· rfl); (· rfl); (simp only [Act.put, List.setIfInBounds_toArray, List.set_cons_zero, List.set_cons_succ]); (generalize W2.setCells w.heap.size 0 (rec17 0 0 0 0 0 0 0 0 0 0 0 0 0 0 0 false 0) = WW at *)))
  refine ret_cell_tmp (p := 2) (q := 3) rfl rfl rfl C5.out Try.underlying35 rfl (by rw [rr_size]; rfl) rfl ⟨rfl, HBZ.out⟩
set_option maxRecDepth 100000 in
set_option maxHeartbeats 8000000 in
theorem rrget2 (a : Option Addr) (n c : Nat) (bs : List UInt8) (w : World) (h : Sl w a n 1 (bcells bs)) (hn0 : 0 < n) (h0 : (bs.getD 0 0).toNat = 2) (hl : n ≠ 4) :
    Calls Try.prog 7 #[.slice a n c] w fun e w' => e = .returned (.tuple #[.agg ((rec17 0 0 0 0 0 0 0 0 0 0 0 0 0 0 0 false 0)).toArray, .bool false]) ∧ Below w.heap.size w w' := by
  obtain ⟨hbl, bb, off, rfl, hb, hcell⟩ := h.byte hn0
  have AZ0 : Hid (Blk (w.alloc (.cells #[.int .i64 0, .int .i64 0, .int .i64 0, .int .i64 0, .int .i64 0, .int .i64 0, .int .i64 0, .int .i64 0, .int .i64 0, .int .i64 0, .int .i64 0, .int .i64 0, .int .i64 0, .int .i64 0, .int .i64 0, .bool false, .int .i64 0] 35)) w.heap.size [.int .i64 0, .int .i64 0, .int .i64 0, .int .i64 0, .int .i64 0, .int .i64 0, .int .i64 0, .int .i64 0, .int .i64 0, .int .i64 0, .int .i64 0, .int .i64 0, .int .i64 0, .int .i64 0, .int .i64 0, .bool false, .int .i64 0] 35) := Lib.hid (Blk.new w #[.int .i64 0, .int .i64 0, .int .i64 0, .int .i64 0, .int .i64 0, .int .i64 0, .int .i64 0, .int .i64 0, .int .i64 0, .int .i64 0, .int .i64 0, .int .i64 0, .int .i64 0, .int .i64 0, .int .i64 0, .bool false, .int .i64 0] 35)
  have HB0 := Lib.hid ((Below.refl w.heap.size w).alloc (Nat.le_refl _) (.cells #[.int .i64 0, .int .i64 0, .int .i64 0, .int .i64 0, .int .i64 0, .int .i64 0, .int .i64 0, .int .i64 0, .int .i64 0, .int .i64 0, .int .i64 0, .int .i64 0, .int .i64 0, .int .i64 0, .int .i64 0, .bool false, .int .i64 0] 35))
  have b0 : w.cell? ⟨bb, off, none⟩ = some (.int .u8 2) := by have := hcell 0 hn0; rw [h0] at this; exact this
  have hx : (2 : Int) ≤ 255 := by have := (bs.getD 0 0).toNat_lt; omega
  have n1 : decide ((0 : Int) < (n : Int)) = true := by simp; omega
  have n2 : ((n : Int) == 0) = false := beq_eq_false_iff_ne.2 (by omega)
  have l4 : ((n : Int) == 4) = false := beq_eq_false_iff_ne.2 (by omega)
  have TR : RowT 35 ((rec17 0 0 0 0 0 0 0 0 0 0 0 0 0 0 0 false 0)).length := rowR
  have O17 := (rec17_ok 0 0 0 0 0 0 0 0 0 0 0 0 0 0 0 false 0).out.2
  have TX : RowT 35 ((rec17 2 0 0 0 0 0 0 0 0 0 0 0 0 0 0 false 0)).length := rowR
  have OX := (rec17_ok 2 0 0 0 0 0 0 0 0 0 0 0 0 0 0 false 0).out.2
  clear h h0 hbl hcell
  go_enter Try.func7, Try.ntmps7
  go_upto_region 1 with fail
  have a0 := (World.cell?_alloc_some w ⟨bb, off, none⟩ (.cells #[.int .i64 0, .int .i64 0, .int .i64 0, .int .i64 0, .int .i64 0, .int .i64 0, .int .i64 0, .int .i64 0, .int .i64 0, .int .i64 0, .int .i64 0, .int .i64 0, .int .i64 0, .int .i64 0, .int .i64 0, .bool false, .int .i64 0] 35) (by rw [b0]; rfl)).trans b0
  clear b0
  generalize w.alloc (.cells #[.int .i64 0, .int .i64 0, .int .i64 0, .int .i64 0, .int .i64 0, .int .i64 0, .int .i64 0, .int .i64 0, .int .i64 0, .int .i64 0, .int .i64 0, .int .i64 0, .int .i64 0, .int .i64 0, .int .i64 0, .bool false, .int .i64 0] 35) = W at *
  have AX0 : Hid (Blk (W.alloc (.cells ((rec17 2 0 0 0 0 0 0 0 0 0 0 0 0 0 0 false 0)).toArray 35)) W.heap.size (rec17 2 0 0 0 0 0 0 0 0 0 0 0 0 0 0 false 0) 35) := Lib.hid (Blk.new W ((rec17 2 0 0 0 0 0 0 0 0 0 0 0 0 0 0 false 0)).toArray 35)
  have AZ1 := Lib.hid (AZ0.out.alloc (.cells ((rec17 2 0 0 0 0 0 0 0 0 0 0 0 0 0 0 false 0)).toArray 35))
  have HB1 := Lib.hid (HB0.out.alloc HB0.out.size (.cells ((rec17 2 0 0 0 0 0 0 0 0 0 0 0 0 0 0 false 0)).toArray 35))
  have cx : (W.alloc (.cells ((rec17 2 0 0 0 0 0 0 0 0 0 0 0 0 0 0 false 0)).toArray 35)).cell? ⟨W.heap.size, 0, none⟩ = some (.int .i64 2) := AX0.out.cell 0
  clear AZ0 HB0
  go_upto_region 4 with (first
    | ((with_reducible refine st_row_new (cs := (rec17 2 0 0 0 0 0 0 0 0 0 0 0 0 0 0 false 0)) TX OX ?_ ?_ ?_ ?_); (· first | rfl | simp); (· rfl); (· rfl); (simp only [Act.put, List.setIfInBounds_toArray, List.set_cons_zero, List.set_cons_succ])))
  generalize hW2 : W.alloc (.cells ((rec17 2 0 0 0 0 0 0 0 0 0 0 0 0 0 0 false 0)).toArray 35) = W2 at *
  generalize hgx : W.heap.size = gx at *
  clear hW2
  have C5 := Lib.hid (AZ1.out.setAll (rec17 0 0 0 0 0 0 0 0 0 0 0 0 0 0 0 false 0) rfl)
  have HBZ := Lib.hid (below_sets (Nat.le_refl _) (rec17 0 0 0 0 0 0 0 0 0 0 0 0 0 0 0 false 0) 0 _ HB1.out)
  go_upto_region 16 with fail
  go_wp2_with (first
    | ((with_reducible refine st_row (cs := (rec17 0 0 0 0 0 0 0 0 0 0 0 0 0 0 0 false 0)) AZ1.out rfl TR O17 ?_ ?_ ?_); (· rfl); (· rfl); (simp only [Act.put, List.setIfInBounds_toArray, List.set_cons_zero, List.set_cons_succ]); (generalize W2.setCells w.heap.size 0 (rec17 0 0 0 0 0 0 0 0 0 0 0 0 0 0 0 false 0) = WW at *)))
  refine ret_cell_tmp (p := 2) (q := 3) rfl rfl rfl C5.out Try.underlying35 rfl (by rw [rr_size]; rfl) rfl ⟨rfl, HBZ.out⟩
set_option maxRecDepth 100000 in
set_option maxHeartbeats 8000000 in
theorem rrget3 (a : Option Addr) (n c : Nat) (bs : List UInt8) (w : World) (h : Sl w a n 1 (bcells bs)) (hn0 : 0 < n) (h0 : (bs.getD 0 0).toNat = 3) (hl : n ≠ 10) :
    Calls Try.prog 7 #[.slice a n c] w fun e w' => e = .returned (.tuple #[.agg ((rec17 0 0 0 0 0 0 0 0 0 0 0 0 0 0 0 false 0)).toArray, .bool false]) ∧ Below w.heap.size w w' := by
  obtain ⟨hbl, bb, off, rfl, hb, hcell⟩ := h.byte hn0
  have AZ0 : Hid (Blk (w.alloc (.cells #[.int .i64 0, .int .i64 0, .int .i64 0, .int .i64 0, .int .i64 0, .int .i64 0, .int .i64 0, .int .i64 0, .int .i64 0, .int .i64 0, .int .i64 0, .int .i64 0, .int .i64 0, .int .i64 0, .int .i64 0, .bool false, .int .i64 0] 35)) w.heap.size [.int .i64 0, .int .i64 0, .int .i64 0, .int .i64 0, .int .i64 0, .int .i64 0, .int .i64 0, .int .i64 0, .int .i64 0, .int .i64 0, .int .i64 0, .int .i64 0, .int .i64 0, .int .i64 0, .int .i64 0, .bool false, .int .i64 0] 35) := Lib.hid (Blk.new w #[.int .i64 0, .int .i64 0, .int .i64 0, .int .i64 0, .int .i64 0, .int .i64 0, .int .i64 0, .int .i64 0, .int .i64 0, .int .i64 0, .int .i64 0, .int .i64 0, .int .i64 0, .int .i64 0, .int .i64 0, .bool false, .int .i64 0] 35)
  have HB0 := Lib.hid ((Below.refl w.heap.size w).alloc (Nat.le_refl _) (.cells #[.int .i64 0, .int .i64 0, .int .i64 0, .int .i64 0, .int .i64 0, .int .i64 0, .int .i64 0, .int .i64 0, .int .i64 0, .int .i64 0, .int .i64 0, .int .i64 0, .int .i64 0, .int .i64 0, .int .i64 0, .bool false, .int .i64 0] 35))
  have b0 : w.cell? ⟨bb, off, none⟩ = some (.int .u8 3) := by have := hcell 0 hn0; rw [h0] at this; exact this
  have hx : (3 : Int) ≤ 255 := by have := (bs.getD 0 0).toNat_lt; omega
  have n1 : decide ((0 : Int) < (n : Int)) = true := by simp; omega
  have n2 : ((n : Int) == 0) = false := beq_eq_false_iff_ne.2 (by omega)
  have l10 : ((n : Int) == 10) = false := beq_eq_false_iff_ne.2 (by omega)
  have TR : RowT 35 ((rec17 0 0 0 0 0 0 0 0 0 0 0 0 0 0 0 false 0)).length := rowR
  have O17 := (rec17_ok 0 0 0 0 0 0 0 0 0 0 0 0 0 0 0 false 0).out.2
  have TX : RowT 35 ((rec17 3 0 0 0 0 0 0 0 0 0 0 0 0 0 0 false 0)).length := rowR
  have OX := (rec17_ok 3 0 0 0 0 0 0 0 0 0 0 0 0 0 0 false 0).out.2
  clear h h0 hbl hcell
  go_enter Try.func7, Try.ntmps7
  go_upto_region 1 with fail
  have a0 := (World.cell?_alloc_some w ⟨bb, off, none⟩ (.cells #[.int .i64 0, .int .i64 0, .int .i64 0, .int .i64 0, .int .i64 0, .int .i64 0, .int .i64 0, .int .i64 0, .int .i64 0, .int .i64 0, .int .i64 0, .int .i64 0, .int .i64 0, .int .i64 0, .int .i64 0, .bool false, .int .i64 0] 35) (by rw [b0]; rfl)).trans b0
  clear b0
  generalize w.alloc (.cells #[.int .i64 0, .int .i64 0, .int .i64 0, .int .i64 0, .int .i64 0, .int .i64 0, .int .i64 0, .int .i64 0, .int .i64 0, .int .i64 0, .int .i64 0, .int .i64 0, .int .i64 0, .int .i64 0, .int .i64 0, .bool false, .int .i64 0] 35) = W at *
  have AX0 : Hid (Blk (W.alloc (.cells ((rec17 3 0 0 0 0 0 0 0 0 0 0 0 0 0 0 false 0)).toArray 35)) W.heap.size (rec17 3 0 0 0 0 0 0 0 0 0 0 0 0 0 0 false 0) 35) := Lib.hid (Blk.new W ((rec17 3 0 0 0 0 0 0 0 0 0 0 0 0 0 0 false 0)).toArray 35)
  have AZ1 := Lib.hid (AZ0.out.alloc (.cells ((rec17 3 0 0 0 0 0 0 0 0 0 0 0 0 0 0 false 0)).toArray 35))
  have HB1 := Lib.hid (HB0.out.alloc HB0.out.size (.cells ((rec17 3 0 0 0 0 0 0 0 0 0 0 0 0 0 0 false 0)).toArray 35))
  have cx : (W.alloc (.cells ((rec17 3 0 0 0 0 0 0 0 0 0 0 0 0 0 0 false 0)).toArray 35)).cell? ⟨W.heap.size, 0, none⟩ = some (.int .i64 3) := AX0.out.cell 0
  clear AZ0 HB0
  go_upto_region 4 with (first
    | ((with_reducible refine st_row_new (cs := (rec17 3 0 0 0 0 0 0 0 0 0 0 0 0 0 0 false 0)) TX OX ?_ ?_ ?_ ?_); (· first | rfl | simp); (· rfl); (· rfl); (simp only [Act.put, List.setIfInBounds_toArray, List.set_cons_zero, List.set_cons_succ])))
  generalize hW2 : W.alloc (.cells ((rec17 3 0 0 0 0 0 0 0 0 0 0 0 0 0 0 false 0)).toArray 35) = W2 at *
  generalize hgx : W.heap.size = gx at *
  clear hW2
  have C5 := Lib.hid (AZ1.out.setAll (rec17 0 0 0 0 0 0 0 0 0 0 0 0 0 0 0 false 0) rfl)
  have HBZ := Lib.hid (below_sets (Nat.le_refl _) (rec17 0 0 0 0 0 0 0 0 0 0 0 0 0 0 0 false 0) 0 _ HB1.out)
  go_upto_region 16 with fail
  go_wp2_with (first
    | ((with_reducible refine st_row (cs := (rec17 0 0 0 0 0 0 0 0 0 0 0 0 0 0 0 false 0)) AZ1.out rfl TR O17 ?_ ?_ ?_); (· rfl); (· rfl); (simp only [Act.put, List.setIfInBounds_toArray, List.set_cons_zero, List.set_cons_succ]); (generalize W2.setCells w.heap.size 0 (rec17 0 0 0 0 0 0 0 0 0 0 0 0 0 0 0 false 0) = WW at *)))
  refine ret_cell_tmp (p := 2) (q := 3) rfl rfl rfl C5.out Try.underlying35 rfl (by rw [rr_size]; rfl) rfl ⟨rfl, HBZ.out⟩
set_option maxRecDepth 100000 in
set_option maxHeartbeats 8000000 in
theorem rrget4 (a : Option Addr) (n c : Nat) (bs : List UInt8) (w : World) (h : Sl w a n 1 (bcells bs)) (hn0 : 0 < n) (h0 : (bs.getD 0 0).toNat = 4) (hl : n ≠ 6) :
    Calls Try.prog 7 #[.slice a n c] w fun e w' => e = .returned (.tuple #[.agg ((rec17 0 0 0 0 0 0 0 0 0 0 0 0 0 0 0 false 0)).toArray, .bool false]) ∧ Below w.heap.size w w' := by
  obtain ⟨hbl, bb, off, rfl, hb, hcell⟩ := h.byte hn0
  have AZ0 : Hid (Blk (w.alloc (.cells #[.int .i64 0, .int .i64 0, .int .i64 0, .int .i64 0, .int .i64 0, .int .i64 0, .int .i64 0, .int .i64 0, .int .i64 0, .int .i64 0, .int .i64 0, .int .i64 0, .int .i64 0, .int .i64 0, .int .i64 0, .bool false, .int .i64 0] 35)) w.heap.size [.int .i64 0, .int .i64 0, .int .i64 0, .int .i64 0, .int .i64 0, .int .i64 0, .int .i64 0, .int .i64 0, .int .i64 0, .int .i64 0, .int .i64 0, .int .i64 0, .int .i64 0, .int .i64 0, .int .i64 0, .bool false, .int .i64 0] 35) := Lib.hid (Blk.new w #[.int .i64 0, .int .i64 0, .int .i64 0, .int .i64 0, .int .i64 0, .int .i64 0, .int .i64 0, .int .i64 0, .int .i64 0, .int .i64 0, .int .i64 0, .int .i64 0, .int .i64 0, .int .i64 0, .int .i64 0, .bool false, .int .i64 0] 35)
  have HB0 := Lib.hid ((Below.refl w.heap.size w).alloc (Nat.le_refl _) (.cells #[.int .i64 0, .int .i64 0, .int .i64 0, .int .i64 0, .int .i64 0, .int .i64 0, .int .i64 0, .int .i64 0, .int .i64 0, .int .i64 0, .int .i64 0, .int .i64 0, .int .i64 0, .int .i64 0, .int .i64 0, .bool false, .int .i64 0] 35))
  have b0 : w.cell? ⟨bb, off, none⟩ = some (.int .u8 4) := by have := hcell 0 hn0; rw [h0] at this; exact this
  have hx : (4 : Int) ≤ 255 := by have := (bs.getD 0 0).toNat_lt; omega
  have n1 : decide ((0 : Int) < (n : Int)) = true := by simp; omega
  have n2 : ((n : Int) == 0) = false := beq_eq_false_iff_ne.2 (by omega)
  have l6 : ((n : Int) == 6) = false := beq_eq_false_iff_ne.2 (by omega)
  have TR : RowT 35 ((rec17 0 0 0 0 0 0 0 0 0 0 0 0 0 0 0 false 0)).length := rowR
  have O17 := (rec17_ok 0 0 0 0 0 0 0 0 0 0 0 0 0 0 0 false 0).out.2
  have TX : RowT 35 ((rec17 4 0 0 0 0 0 0 0 0 0 0 0 0 0 0 false 0)).length := rowR
  have OX := (rec17_ok 4 0 0 0 0 0 0 0 0 0 0 0 0 0 0 false 0).out.2
  clear h h0 hbl hcell
  go_enter Try.func7, Try.ntmps7
  go_upto_region 1 with fail
  have a0 := (World.cell?_alloc_some w ⟨bb, off, none⟩ (.cells #[.int .i64 0, .int .i64 0, .int .i64 0, .int .i64 0, .int .i64 0, .int .i64 0, .int .i64 0, .int .i64 0, .int .i64 0, .int .i64 0, .int .i64 0, .int .i64 0, .int .i64 0, .int .i64 0, .int .i64 0, .bool false, .int .i64 0] 35) (by rw [b0]; rfl)).trans b0
  clear b0
  generalize w.alloc (.cells #[.int .i64 0, .int .i64 0, .int .i64 0, .int .i64 0, .int .i64 0, .int .i64 0, .int .i64 0, .int .i64 0, .int .i64 0, .int .i64 0, .int .i64 0, .int .i64 0, .int .i64 0, .int .i64 0, .int .i64 0, .bool false, .int .i64 0] 35) = W at *
  have AX0 : Hid (Blk (W.alloc (.cells ((rec17 4 0 0 0 0 0 0 0 0 0 0 0 0 0 0 false 0)).toArray 35)) W.heap.size (rec17 4 0 0 0 0 0 0 0 0 0 0 0 0 0 0 false 0) 35) := Lib.hid (Blk.new W ((rec17 4 0 0 0 0 0 0 0 0 0 0 0 0 0 0 false 0)).toArray 35)
  have AZ1 := Lib.hid (AZ0.out.alloc (.cells ((rec17 4 0 0 0 0 0 0 0 0 0 0 0 0 0 0 false 0)).toArray 35))
  have HB1 := Lib.hid (HB0.out.alloc HB0.out.size (.cells ((rec17 4 0 0 0 0 0 0 0 0 0 0 0 0 0 0 false 0)).toArray 35))
  have cx : (W.alloc (.cells ((rec17 4 0 0 0 0 0 0 0 0 0 0 0 0 0 0 false 0)).toArray 35)).cell? ⟨W.heap.size, 0, none⟩ = some (.int .i64 4) := AX0.out.cell 0
  clear AZ0 HB0
  go_upto_region 4 with (first
    | ((with_reducible refine st_row_new (cs := (rec17 4 0 0 0 0 0 0 0 0 0 0 0 0 0 0 false 0)) TX OX ?_ ?_ ?_ ?_); (· first | rfl | simp); (· rfl); (· rfl); (simp only [Act.put, List.setIfInBounds_toArray, List.set_cons_zero, List.set_cons_succ])))
  generalize hW2 : W.alloc (.cells ((rec17 4 0 0 0 0 0 0 0 0 0 0 0 0 0 0 false 0)).toArray 35) = W2 at *
  generalize hgx : W.heap.size = gx at *
  clear hW2
  have C5 := Lib.hid (AZ1.out.setAll (rec17 0 0 0 0 0 0 0 0 0 0 0 0 0 0 0 false 0) rfl)
  have HBZ := Lib.hid (below_sets (Nat.le_refl _) (rec17 0 0 0 0 0 0 0 0 0 0 0 0 0 0 0 false 0) 0 _ HB1.out)
  go_upto_region 16 with fail
  go_wp2_with (first
    | ((with_reducible refine st_row (cs := (rec17 0 0 0 0 0 0 0 0 0 0 0 0 0 0 0 false 0)) AZ1.out rfl TR O17 ?_ ?_ ?_); (· rfl); (· rfl); (simp only [Act.put, List.setIfInBounds_toArray, List.set_cons_zero, List.set_cons_succ]); (generalize W2.setCells w.heap.size 0 (rec17 0 0 0 0 0 0 0 0 0 0 0 0 0 0 0 false 0) = WW at *)))
  refine ret_cell_tmp (p := 2) (q := 3) rfl rfl rfl C5.out Try.underlying35 rfl (by rw [rr_size]; rfl) rfl ⟨rfl, HBZ.out⟩
set_option maxRecDepth 100000 in
set_option maxHeartbeats 8000000 in
theorem rrget5 (a : Option Addr) (n c : Nat) (bs : List UInt8) (kz : Nat) (w : World) (h : Sl w a n 1 (bcells bs)) (hn0 : 0 < n) (h0 : (bs.getD 0 0).toNat = kz) (hz : 4 < kz ∨ kz = 0) :
    Calls Try.prog 7 #[.slice a n c] w fun e w' => e = .returned (.tuple #[.agg ((rec17 0 0 0 0 0 0 0 0 0 0 0 0 0 0 0 false 0)).toArray, .bool false]) ∧ Below w.heap.size w w' := by
  obtain ⟨hbl, bb, off, rfl, hb, hcell⟩ := h.byte hn0
  have AZ0 : Hid (Blk (w.alloc (.cells #[.int .i64 0, .int .i64 0, .int .i64 0, .int .i64 0, .int .i64 0, .int .i64 0, .int .i64 0, .int .i64 0, .int .i64 0, .int .i64 0, .int .i64 0, .int .i64 0, .int .i64 0, .int .i64 0, .int .i64 0, .bool false, .int .i64 0] 35)) w.heap.size [.int .i64 0, .int .i64 0, .int .i64 0, .int .i64 0, .int .i64 0, .int .i64 0, .int .i64 0, .int .i64 0, .int .i64 0, .int .i64 0, .int .i64 0, .int .i64 0, .int .i64 0, .int .i64 0, .int .i64 0, .bool false, .int .i64 0] 35) := Lib.hid (Blk.new w #[.int .i64 0, .int .i64 0, .int .i64 0, .int .i64 0, .int .i64 0, .int .i64 0, .int .i64 0, .int .i64 0, .int .i64 0, .int .i64 0, .int .i64 0, .int .i64 0, .int .i64 0, .int .i64 0, .int .i64 0, .bool false, .int .i64 0] 35)
  have HB0 := Lib.hid ((Below.refl w.heap.size w).alloc (Nat.le_refl _) (.cells #[.int .i64 0, .int .i64 0, .int .i64 0, .int .i64 0, .int .i64 0, .int .i64 0, .int .i64 0, .int .i64 0, .int .i64 0, .int .i64 0, .int .i64 0, .int .i64 0, .int .i64 0, .int .i64 0, .int .i64 0, .bool false, .int .i64 0] 35))
  have b0 : w.cell? ⟨bb, off, none⟩ = some (.int .u8 kz) := by have := hcell 0 hn0; rw [h0] at this; exact this
  have hx : (kz : Int) ≤ 255 := by have := (bs.getD 0 0).toNat_lt; omega
  have n1 : decide ((0 : Int) < (n : Int)) = true := by simp; omega
  have n2 : ((n : Int) == 0) = false := beq_eq_false_iff_ne.2 (by omega)
  have k1 : ((kz : Int) == 1) = false := beq_eq_false_iff_ne.2 (by omega)
  have k2 : ((kz : Int) == 2) = false := beq_eq_false_iff_ne.2 (by omega)
  have k3 : ((kz : Int) == 3) = false := beq_eq_false_iff_ne.2 (by omega)
  have k4 : ((kz : Int) == 4) = false := beq_eq_false_iff_ne.2 (by omega)
  have TR : RowT 35 ((rec17 0 0 0 0 0 0 0 0 0 0 0 0 0 0 0 false 0)).length := rowR
  have O17 := (rec17_ok 0 0 0 0 0 0 0 0 0 0 0 0 0 0 0 false 0).out.2
  have TX : RowT 35 ((rec17 (kz : Int) 0 0 0 0 0 0 0 0 0 0 0 0 0 0 false 0)).length := rowR
  have OX := (rec17_ok kz 0 0 0 0 0 0 0 0 0 0 0 0 0 0 false 0).out.2
  clear h h0 hbl hcell
  go_enter Try.func7, Try.ntmps7
  go_upto_region 1 with fail
  have a0 := (World.cell?_alloc_some w ⟨bb, off, none⟩ (.cells #[.int .i64 0, .int .i64 0, .int .i64 0, .int .i64 0, .int .i64 0, .int .i64 0, .int .i64 0, .int .i64 0, .int .i64 0, .int .i64 0, .int .i64 0, .int .i64 0, .int .i64 0, .int .i64 0, .int .i64 0, .bool false, .int .i64 0] 35) (by rw [b0]; rfl)).trans b0
  clear b0
  generalize w.alloc (.cells #[.int .i64 0, .int .i64 0, .int .i64 0, .int .i64 0, .int .i64 0, .int .i64 0, .int .i64 0, .int .i64 0, .int .i64 0, .int .i64 0, .int .i64 0, .int .i64 0, .int .i64 0, .int .i64 0, .int .i64 0, .bool false, .int .i64 0] 35) = W at *
  have AX0 : Hid (Blk (W.alloc (.cells ((rec17 (kz : Int) 0 0 0 0 0 0 0 0 0 0 0 0 0 0 false 0)).toArray 35)) W.heap.size (rec17 (kz : Int) 0 0 0 0 0 0 0 0 0 0 0 0 0 0 false 0) 35) := Lib.hid (Blk.new W ((rec17 (kz : Int) 0 0 0 0 0 0 0 0 0 0 0 0 0 0 false 0)).toArray 35)
  have AZ1 := Lib.hid (AZ0.out.alloc (.cells ((rec17 (kz : Int) 0 0 0 0 0 0 0 0 0 0 0 0 0 0 false 0)).toArray 35))
  have HB1 := Lib.hid (HB0.out.alloc HB0.out.size (.cells ((rec17 (kz : Int) 0 0 0 0 0 0 0 0 0 0 0 0 0 0 false 0)).toArray 35))
  have cx : (W.alloc (.cells ((rec17 (kz : Int) 0 0 0 0 0 0 0 0 0 0 0 0 0 0 false 0)).toArray 35)).cell? ⟨W.heap.size, 0, none⟩ = some (.int .i64 kz) := AX0.out.cell 0
  clear AZ0 HB0
  go_upto_region 4 with (first
    | ((with_reducible refine st_row_new (cs := (rec17 (kz : Int) 0 0 0 0 0 0 0 0 0 0 0 0 0 0 false 0)) TX OX ?_ ?_ ?_ ?_); (· first | rfl | simp); (· rfl); (· rfl); (simp only [Act.put, List.setIfInBounds_toArray, List.set_cons_zero, List.set_cons_succ])))
  generalize hW2 : W.alloc (.cells ((rec17 (kz : Int) 0 0 0 0 0 0 0 0 0 0 0 0 0 0 false 0)).toArray 35) = W2 at *
  generalize hgx : W.heap.size = gx at *
  clear hW2
  have C5 := Lib.hid (AZ1.out.setAll (rec17 0 0 0 0 0 0 0 0 0 0 0 0 0 0 0 false 0) rfl)
  have HBZ := Lib.hid (below_sets (Nat.le_refl _) (rec17 0 0 0 0 0 0 0 0 0 0 0 0 0 0 0 false 0) 0 _ HB1.out)
  go_upto_region 16 with fail
  go_wp2_with (first
    | ((with_reducible refine st_row (cs := (rec17 0 0 0 0 0 0 0 0 0 0 0 0 0 0 0 false 0)) AZ1.out rfl TR O17 ?_ ?_ ?_); (· rfl); (· rfl); (simp only [Act.put, List.setIfInBounds_toArray, List.set_cons_zero, List.set_cons_succ]); (generalize W2.setCells w.heap.size 0 (rec17 0 0 0 0 0 0 0 0 0 0 0 0 0 0 0 false 0) = WW at *)))
  refine ret_cell_tmp (p := 2) (q := 3) rfl rfl rfl C5.out Try.underlying35 rfl (by rw [rr_size]; rfl) rfl ⟨rfl, HBZ.out⟩
end Go.Proofs.Ytfffbhkenggdcaa
