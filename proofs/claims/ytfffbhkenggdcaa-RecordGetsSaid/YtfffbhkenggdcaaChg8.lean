/- Get of a change. -/
import Derived.Test.YtfffbhkenggdcaaChg5
import Derived.Test.YtfffbhkenggdcaaOct
import Derived.Test.YtfffbhkenggdcaaApp
import Derived.Test.YtfffbhkenggdcaaRow
import Derived.Test.YtfffbhkenggdcaaOps
import Derived.RegionTactic
import Derived.BigRegion
import Derived.ChangeAlike
namespace Go.Proofs.Ytfffbhkenggdcaa
set_option linter.unusedVariables false
set_option linter.unusedSimpArgs false
open Go.ChangeShapes Go.WideShapes Go.ChangeAt Go.RowKit
set_option maxRecDepth 100000 in
set_option maxHeartbeats 4000000 in
theorem get_ok (a : Option Addr) (c : Nat) (bs : List UInt8) (w : World) (h : Sl w a 22 1 (bcells bs)) (hl : (bs.getD 21 0).toNat = 67) (hm : mayChg (fld bs 0 1) (fld bs 1 2) (fld bs 3 4) (fld bs 7 1) (fld bs 8 1) (fld bs 9 1) (fld bs 18 1) (fld bs 19 2) = true) :
    Calls Try.prog 30 #[.slice a 22 c] w fun e w' => e = .returned (.tuple #[.agg (ints [fld bs 0 1, fld bs 1 2, fld bs 3 4, fld bs 7 1, fld bs 8 1, fld bs 9 1, fld bs 10 8, fld bs 18 1, fld bs 19 2]).toArray, .int .i64 0]) ∧ Below w.heap.size w w' := by
  have hbl : bs.length = 22 := sl_one h
  obtain ⟨_, bb, off, rfl, hb, hcell⟩ := h.byte (by omega)
  have b21 : w.cell? ⟨bb, off + 21, none⟩ = some (.int .u8 67) := by have := hcell 21 (by omega); rw [hl] at this; exact this
  have HS := Lib.hid h
  have D := Lib.hid (fun w' (hb' : Below w.heap.size w w') => dec_any (some ⟨bb, off, none⟩) c bs w' (h.keep hb'))
  have E : chkChg (fld bs 0 1) (fld bs 1 2) (fld bs 3 4) (fld bs 7 1) (fld bs 8 1) (fld bs 9 1) (fld bs 18 1) (fld bs 19 2) = 0 := by unfold chkChg; rw [hm]; rfl
  have C := Lib.hid (fun w => chk_any (fld bs 0 1) (fld bs 1 2) (fld bs 3 4) (fld bs 7 1) (fld bs 8 1) (fld bs 9 1) (fld bs 10 8) (fld bs 18 1) (fld bs 19 2) w)
  rw [E] at C
  have HB := Lib.hid ((Below.refl w.heap.size w).alloc (Nat.le_refl _) (.cells #[.int .i64 0, .int .i64 0, .int .i64 0, .int .i64 0, .int .i64 0, .int .i64 0, .int .i64 0, .int .i64 0, .int .i64 0] 27))
  have AZ := Lib.hid (Blk.new w #[.int .i64 0, .int .i64 0, .int .i64 0, .int .i64 0, .int .i64 0, .int .i64 0, .int .i64 0, .int .i64 0, .int .i64 0] 27)
  clear E hm h hcell hbl hl
  go_enter Try.func30, Try.ntmps30
  go_upto_region 3 with fail
  have hz : w.heap.size < (w.alloc (.cells #[.int .i64 0, .int .i64 0, .int .i64 0, .int .i64 0, .int .i64 0, .int .i64 0, .int .i64 0, .int .i64 0, .int .i64 0] 27)).heap.size := by simp
  generalize w.alloc (.cells #[.int .i64 0, .int .i64 0, .int .i64 0, .int .i64 0, .int .i64 0, .int .i64 0, .int .i64 0, .int .i64 0, .int .i64 0] 27) = W at *
  go_wp2_with fail
  refine (D.out _ HB.out).mono ?_
  rintro e w2 ⟨rfl, hb2⟩
  have hX9 : Hid (([fld bs 0 1, fld bs 1 2, fld bs 3 4, fld bs 7 1, fld bs 8 1, fld bs 9 1, fld bs 10 8, fld bs 18 1, fld bs 19 2] : List Int).length = 9) := Lib.hid rfl
  have C9 : Hid (∀ w, Calls Try.prog 36 #[.agg (ints [fld bs 0 1, fld bs 1 2, fld bs 3 4, fld bs 7 1, fld bs 8 1, fld bs 9 1, fld bs 10 8, fld bs 18 1, fld bs 19 2]).toArray] w fun e w' => e = .returned (.int .i64 0) ∧ Below w.heap.size w w') := C
  have HB2 := Lib.hid (HB.out.trans (hb2.mono HB.out.size))
  have AZ2 := Lib.hid (AZ.out.keep hb2 hz)
  clear C D HB AZ hb2 hz
  generalize hXE : [fld bs 0 1, fld bs 1 2, fld bs 3 4, fld bs 7 1, fld bs 8 1, fld bs 9 1, fld bs 10 8, fld bs 18 1, fld bs 19 2] = X at *
  have HXE := Lib.hid hXE
  clear hXE
  have AX := Lib.hid (Blk.new w2 (ints X).toArray 27)
  have HB3 := Lib.hid (HB2.out.alloc HB2.out.size (.cells (ints X).toArray 27))
  have AZ3 := Lib.hid (AZ2.out.alloc (.cells (ints X).toArray 27))
  have hgz : w.heap.size < w2.heap.size := AZ2.out.lt
  clear HB2 AZ2
  go_upto_region 4 with (first
    | ((with_reducible apply cg_store_new); (· rfl); (· first | rfl | simp); (· rfl); (· rfl); (· assumption); (simp only [Act.put, List.setIfInBounds_toArray, List.set_cons_zero, List.set_cons_succ])))
  have hgx : w2.heap.size < (w2.alloc (.cells (ints X).toArray 27)).heap.size := by simp
  have rx : (w2.alloc (.cells (ints X).toArray 27)).rangeAt w2.heap.size 0 (ints X) := Blk.cg AX.out hX9
  generalize w2.alloc (.cells (ints X).toArray 27) = w3 at *
  generalize w2.heap.size = gx at *
  go_wp2_with (first
    | ((with_reducible apply cg_load); (· rfl); (· (first | assumption)); (· assumption); (simp only [Act.put, List.setIfInBounds_toArray, List.set_cons_zero, List.set_cons_succ])))
  refine (C9.out _).mono ?_
  rintro e w4 ⟨rfl, hb4⟩
  have HB4 := Lib.hid (HB3.out.trans (hb4.mono HB3.out.size))
  have AX4 := Lib.hid (AX.out.keep hb4 hgx)
  have AZ4 := Lib.hid (AZ3.out.keep hb4 (Nat.lt_trans hgz hgx))
  have rx4 : w4.rangeAt gx 0 (ints X) := Blk.cg AX4.out hX9
  clear rx AX AZ3 HB3 hb4 C9
  go_wp2_with (first
    | ((with_reducible apply cg_load); (· rfl); (· (first | assumption)); (· assumption); (simp only [Act.put, List.setIfInBounds_toArray, List.set_cons_zero, List.set_cons_succ]))
    | ((with_reducible apply cg_store); (· rfl); (· rfl); (· assumption); (· first | rfl | assumption); (· assumption); (simp only [Act.put, List.setIfInBounds_toArray, List.set_cons_zero, List.set_cons_succ])))
  have C5 := AZ4.out.setAll (ints X) (by rw [ints_len, hX9.out]; rfl)
  refine ret_cell_tmp (p := 2) (q := 3) rfl rfl rfl C5 Try.underlying27 rfl (by rw [cg_size, ints_len, hX9.out]) rfl ⟨by rw [← HXE.out]; rfl, below_sets (Nat.le_refl _) _ _ _ HB4.out⟩
set_option maxRecDepth 100000 in
set_option maxHeartbeats 4000000 in
theorem get_no (a : Option Addr) (c : Nat) (bs : List UInt8) (w : World) (h : Sl w a 22 1 (bcells bs)) (hl : (bs.getD 21 0).toNat = 67) (hm : mayChg (fld bs 0 1) (fld bs 1 2) (fld bs 3 4) (fld bs 7 1) (fld bs 8 1) (fld bs 9 1) (fld bs 18 1) (fld bs 19 2) = false) :
    Calls Try.prog 30 #[.slice a 22 c] w fun e w' => e = .returned (.tuple #[.agg #[.int .i64 0, .int .i64 0, .int .i64 0, .int .i64 0, .int .i64 0, .int .i64 0, .int .i64 0, .int .i64 0, .int .i64 0], .int .i64 16]) ∧ Below w.heap.size w w' := by
  have hbl : bs.length = 22 := sl_one h
  obtain ⟨_, bb, off, rfl, hb, hcell⟩ := h.byte (by omega)
  have b21 : w.cell? ⟨bb, off + 21, none⟩ = some (.int .u8 67) := by have := hcell 21 (by omega); rw [hl] at this; exact this
  have HS := Lib.hid h
  have D := Lib.hid (fun w' (hb' : Below w.heap.size w w') => dec_any (some ⟨bb, off, none⟩) c bs w' (h.keep hb'))
  have E : chkChg (fld bs 0 1) (fld bs 1 2) (fld bs 3 4) (fld bs 7 1) (fld bs 8 1) (fld bs 9 1) (fld bs 18 1) (fld bs 19 2) = 4 := by unfold chkChg; rw [hm]; rfl
  have C := Lib.hid (fun w => chk_any (fld bs 0 1) (fld bs 1 2) (fld bs 3 4) (fld bs 7 1) (fld bs 8 1) (fld bs 9 1) (fld bs 10 8) (fld bs 18 1) (fld bs 19 2) w)
  rw [E] at C
  have HB := Lib.hid ((Below.refl w.heap.size w).alloc (Nat.le_refl _) (.cells #[.int .i64 0, .int .i64 0, .int .i64 0, .int .i64 0, .int .i64 0, .int .i64 0, .int .i64 0, .int .i64 0, .int .i64 0] 27))
  have AZ := Lib.hid (Blk.new w #[.int .i64 0, .int .i64 0, .int .i64 0, .int .i64 0, .int .i64 0, .int .i64 0, .int .i64 0, .int .i64 0, .int .i64 0] 27)
  clear E hm h hcell hbl hl
  go_enter Try.func30, Try.ntmps30
  go_upto_region 3 with fail
  have hz : w.heap.size < (w.alloc (.cells #[.int .i64 0, .int .i64 0, .int .i64 0, .int .i64 0, .int .i64 0, .int .i64 0, .int .i64 0, .int .i64 0, .int .i64 0] 27)).heap.size := by simp
  generalize w.alloc (.cells #[.int .i64 0, .int .i64 0, .int .i64 0, .int .i64 0, .int .i64 0, .int .i64 0, .int .i64 0, .int .i64 0, .int .i64 0] 27) = W at *
  go_wp2_with fail
  refine (D.out _ HB.out).mono ?_
  rintro e w2 ⟨rfl, hb2⟩
  have hX9 : Hid (([fld bs 0 1, fld bs 1 2, fld bs 3 4, fld bs 7 1, fld bs 8 1, fld bs 9 1, fld bs 10 8, fld bs 18 1, fld bs 19 2] : List Int).length = 9) := Lib.hid rfl
  have C9 : Hid (∀ w, Calls Try.prog 36 #[.agg (ints [fld bs 0 1, fld bs 1 2, fld bs 3 4, fld bs 7 1, fld bs 8 1, fld bs 9 1, fld bs 10 8, fld bs 18 1, fld bs 19 2]).toArray] w fun e w' => e = .returned (.int .i64 4) ∧ Below w.heap.size w w') := C
  have HB2 := Lib.hid (HB.out.trans (hb2.mono HB.out.size))
  have AZ2 := Lib.hid (AZ.out.keep hb2 hz)
  clear C D HB AZ hb2 hz
  generalize hXE : [fld bs 0 1, fld bs 1 2, fld bs 3 4, fld bs 7 1, fld bs 8 1, fld bs 9 1, fld bs 10 8, fld bs 18 1, fld bs 19 2] = X at *
  have HXE := Lib.hid hXE
  clear hXE
  have AX := Lib.hid (Blk.new w2 (ints X).toArray 27)
  have HB3 := Lib.hid (HB2.out.alloc HB2.out.size (.cells (ints X).toArray 27))
  have AZ3 := Lib.hid (AZ2.out.alloc (.cells (ints X).toArray 27))
  have hgz : w.heap.size < w2.heap.size := AZ2.out.lt
  clear HB2 AZ2
  go_upto_region 4 with (first
    | ((with_reducible apply cg_store_new); (· rfl); (· first | rfl | simp); (· rfl); (· rfl); (· assumption); (simp only [Act.put, List.setIfInBounds_toArray, List.set_cons_zero, List.set_cons_succ])))
  have hgx : w2.heap.size < (w2.alloc (.cells (ints X).toArray 27)).heap.size := by simp
  have rx : (w2.alloc (.cells (ints X).toArray 27)).rangeAt w2.heap.size 0 (ints X) := Blk.cg AX.out hX9
  generalize w2.alloc (.cells (ints X).toArray 27) = w3 at *
  generalize w2.heap.size = gx at *
  go_wp2_with (first
    | ((with_reducible apply cg_load); (· rfl); (· (first | assumption)); (· assumption); (simp only [Act.put, List.setIfInBounds_toArray, List.set_cons_zero, List.set_cons_succ])))
  refine (C9.out _).mono ?_
  rintro e w4 ⟨rfl, hb4⟩
  have HB4 := Lib.hid (HB3.out.trans (hb4.mono HB3.out.size))
  have AX4 := Lib.hid (AX.out.keep hb4 hgx)
  have AZ4 := Lib.hid (AZ3.out.keep hb4 (Nat.lt_trans hgz hgx))
  have rx4 : w4.rangeAt gx 0 (ints X) := Blk.cg AX4.out hX9
  clear rx AX AZ3 HB3 hb4 C9
  have C5 := Lib.hid (AZ4.out.setAll (ints [0, 0, 0, 0, 0, 0, 0, 0, 0]) rfl)
  have HBZ := Lib.hid (below_sets (Nat.le_refl _) (ints [0, 0, 0, 0, 0, 0, 0, 0, 0]) 0 _ HB4.out)
  go_wp2_with (first
    | ((with_reducible apply cg_store0); (· rfl); (· rfl); (· exact AZ4.out); (· rfl); (simp only [Act.put, List.setIfInBounds_toArray, List.set_cons_zero, List.set_cons_succ]); (generalize w4.setCells w.heap.size 0 (ints [0, 0, 0, 0, 0, 0, 0, 0, 0]) = WW at *)))
  refine ret_cell_tmp (p := 2) (q := 3) rfl rfl rfl C5.out Try.underlying27 rfl (by rw [cg_size]; rfl) rfl ⟨rfl, HBZ.out⟩
set_option maxRecDepth 100000 in
set_option maxHeartbeats 4000000 in
theorem get_len (a : Option Addr) (n c : Nat) (w : World) (hn : n ≠ 22) :
    Calls Try.prog 30 #[.slice a n c] w fun e w' => e = .returned (.tuple #[.agg #[.int .i64 0, .int .i64 0, .int .i64 0, .int .i64 0, .int .i64 0, .int .i64 0, .int .i64 0, .int .i64 0, .int .i64 0], .int .i64 16]) ∧ Below w.heap.size w w' := by
  have HB := Lib.hid ((Below.refl w.heap.size w).alloc (Nat.le_refl _) (.cells #[.int .i64 0, .int .i64 0, .int .i64 0, .int .i64 0, .int .i64 0, .int .i64 0, .int .i64 0, .int .i64 0, .int .i64 0] 27))
  have AZ := Lib.hid (Blk.new w #[.int .i64 0, .int .i64 0, .int .i64 0, .int .i64 0, .int .i64 0, .int .i64 0, .int .i64 0, .int .i64 0, .int .i64 0] 27)
  have hn' : ¬ (n : Int) = 22 := by omega
  clear hn
  go_enter Try.func30, Try.ntmps30
  go_upto_region 1 with fail
  generalize w.alloc (.cells #[.int .i64 0, .int .i64 0, .int .i64 0, .int .i64 0, .int .i64 0, .int .i64 0, .int .i64 0, .int .i64 0, .int .i64 0] 27) = W at *
  go_upto_region 2 with fail
  have C5 := Lib.hid (AZ.out.setAll (ints [0, 0, 0, 0, 0, 0, 0, 0, 0]) rfl)
  have HBZ := Lib.hid (below_sets (Nat.le_refl _) (ints [0, 0, 0, 0, 0, 0, 0, 0, 0]) 0 _ HB.out)
  go_wp2_with (first
    | ((with_reducible apply cg_store0); (· rfl); (· rfl); (· exact AZ.out); (· rfl); (simp only [Act.put, List.setIfInBounds_toArray, List.set_cons_zero, List.set_cons_succ]); (generalize W.setCells w.heap.size 0 (ints [0, 0, 0, 0, 0, 0, 0, 0, 0]) = WW at *)))
  refine ret_cell_tmp (p := 2) (q := 3) rfl rfl rfl C5.out Try.underlying27 rfl (by rw [cg_size]; rfl) rfl ⟨rfl, HBZ.out⟩
set_option maxRecDepth 100000 in
set_option maxHeartbeats 4000000 in
theorem get_end (a : Option Addr) (c : Nat) (bs : List UInt8) (w : World) (h : Sl w a 22 1 (bcells bs)) (hl : (bs.getD 21 0).toNat ≠ 67) :
    Calls Try.prog 30 #[.slice a 22 c] w fun e w' => e = .returned (.tuple #[.agg #[.int .i64 0, .int .i64 0, .int .i64 0, .int .i64 0, .int .i64 0, .int .i64 0, .int .i64 0, .int .i64 0, .int .i64 0], .int .i64 16]) ∧ Below w.heap.size w w' := by
  have HB := Lib.hid ((Below.refl w.heap.size w).alloc (Nat.le_refl _) (.cells #[.int .i64 0, .int .i64 0, .int .i64 0, .int .i64 0, .int .i64 0, .int .i64 0, .int .i64 0, .int .i64 0, .int .i64 0] 27))
  have AZ := Lib.hid (Blk.new w #[.int .i64 0, .int .i64 0, .int .i64 0, .int .i64 0, .int .i64 0, .int .i64 0, .int .i64 0, .int .i64 0, .int .i64 0] 27)
  obtain ⟨_, bb, off, rfl, hb, hcell⟩ := h.byte (by omega)
  have b21 := hcell 21 (by omega)
  generalize (bs.getD 21 0).toNat = x at *
  have hn' : ¬ (x : Int) = 67 := by omega
  have b21' := (HB.out.cell (p := ⟨bb, off + 21, none⟩) hb).trans b21
  clear hl h hcell b21
  go_enter Try.func30, Try.ntmps30
  go_upto_region 1 with fail
  generalize w.alloc (.cells #[.int .i64 0, .int .i64 0, .int .i64 0, .int .i64 0, .int .i64 0, .int .i64 0, .int .i64 0, .int .i64 0, .int .i64 0] 27) = W at *
  go_upto_region 2 with fail
  have C5 := Lib.hid (AZ.out.setAll (ints [0, 0, 0, 0, 0, 0, 0, 0, 0]) rfl)
  have HBZ := Lib.hid (below_sets (Nat.le_refl _) (ints [0, 0, 0, 0, 0, 0, 0, 0, 0]) 0 _ HB.out)
  go_wp2_with (first
    | ((with_reducible apply cg_store0); (· rfl); (· rfl); (· exact AZ.out); (· rfl); (simp only [Act.put, List.setIfInBounds_toArray, List.set_cons_zero, List.set_cons_succ]); (generalize W.setCells w.heap.size 0 (ints [0, 0, 0, 0, 0, 0, 0, 0, 0]) = WW at *)))
  refine ret_cell_tmp (p := 2) (q := 3) rfl rfl rfl C5.out Try.underlying27 rfl (by rw [cg_size]; rfl) rfl ⟨rfl, HBZ.out⟩
end Go.Proofs.Ytfffbhkenggdcaa
