/- A new order, or none; the booking that the statements lean on. -/
import Derived.Test.YtlhebimfkdcidaaDeal7
import Derived.Test.YtlhebimfkdcidaaLd
import Derived.Test.YtlhebimfkdcidaaBookRd
namespace Go.Proofs.Ytlhebimfkdcidaa
set_option linter.unusedVariables false
set_option linter.unusedSimpArgs false
open Go.ChangeShapes Go.WideShapes Go.ChangeAt Go.RowKit
set_option maxRecDepth 100000 in
set_option maxHeartbeats 4000000 in
theorem new_nil (x0 x1 x2 x3 x4 x5 x6 : Int) (w : World) (hx : fits x0 = true) (hy : fits x1 = true) :
    Calls Try.prog 13 #[.agg (bkc zero8 zero8 zero8 (.slice none 0 0)).toArray, .agg #[.int .i64 x0, .int .i64 x1, .int .i64 x2, .int .i64 x3, .int .i64 x4, .int .i64 x5, .int .i64 x6]] w fun e w' => ∃ a' c', e = .returned (.tuple #[.agg (bkc zero8 zero8 zero8 (.slice a' 1 c')).toArray, .int .i64 0]) ∧ w'.ownsRow w.heap.size 29 7 (.slice a' 1 c') 1 (ints [x0, x1, x2, x3, x4, x5, x6]) ∧ Below w.heap.size w w' := by
  have A1 := ((Blk.new w (bkc zero8 zero8 zero8 (.slice none 0 0)).toArray 25).alloc (.cells #[.int .i64 x0, .int .i64 x1, .int .i64 x2, .int .i64 x3, .int .i64 x4, .int .i64 x5, .int .i64 x6] 29)).alloc (.cells #[.int .i64 0, .int .i64 0, .int .i64 0, .int .i64 0, .int .i64 0, .int .i64 0, .int .i64 0, .int .i64 0, .int .i64 0, .int .i64 0, .int .i64 0, .int .i64 0, .int .i64 0, .int .i64 0, .int .i64 0, .int .i64 0, .int .i64 0, .int .i64 0, .int .i64 0, .int .i64 0, .int .i64 0, .int .i64 0, .int .i64 0, .int .i64 0, .slice none 0 0] 25)
  have B1 : Blk (((w.alloc (.cells (bkc zero8 zero8 zero8 (.slice none 0 0)).toArray 25)).alloc (.cells #[.int .i64 x0, .int .i64 x1, .int .i64 x2, .int .i64 x3, .int .i64 x4, .int .i64 x5, .int .i64 x6] 29)).alloc (.cells #[.int .i64 0, .int .i64 0, .int .i64 0, .int .i64 0, .int .i64 0, .int .i64 0, .int .i64 0, .int .i64 0, .int .i64 0, .int .i64 0, .int .i64 0, .int .i64 0, .int .i64 0, .int .i64 0, .int .i64 0, .int .i64 0, .int .i64 0, .int .i64 0, .int .i64 0, .int .i64 0, .int .i64 0, .int .i64 0, .int .i64 0, .int .i64 0, .slice none 0 0] 25)) (w.alloc (.cells (bkc zero8 zero8 zero8 (.slice none 0 0)).toArray 25)).heap.size (ints [x0, x1, x2, x3, x4, x5, x6]) 29 := (Blk.new (w.alloc (.cells (bkc zero8 zero8 zero8 (.slice none 0 0)).toArray 25)) #[.int .i64 x0, .int .i64 x1, .int .i64 x2, .int .i64 x3, .int .i64 x4, .int .i64 x5, .int .i64 x6] 29).alloc (.cells #[.int .i64 0, .int .i64 0, .int .i64 0, .int .i64 0, .int .i64 0, .int .i64 0, .int .i64 0, .int .i64 0, .int .i64 0, .int .i64 0, .int .i64 0, .int .i64 0, .int .i64 0, .int .i64 0, .int .i64 0, .int .i64 0, .int .i64 0, .int .i64 0, .int .i64 0, .int .i64 0, .int .i64 0, .int .i64 0, .int .i64 0, .int .i64 0, .slice none 0 0] 25)
  have D1 := Blk.new ((w.alloc (.cells (bkc zero8 zero8 zero8 (.slice none 0 0)).toArray 25)).alloc (.cells #[.int .i64 x0, .int .i64 x1, .int .i64 x2, .int .i64 x3, .int .i64 x4, .int .i64 x5, .int .i64 x6] 29)) #[.int .i64 0, .int .i64 0, .int .i64 0, .int .i64 0, .int .i64 0, .int .i64 0, .int .i64 0, .int .i64 0, .int .i64 0, .int .i64 0, .int .i64 0, .int .i64 0, .int .i64 0, .int .i64 0, .int .i64 0, .int .i64 0, .int .i64 0, .int .i64 0, .int .i64 0, .int .i64 0, .int .i64 0, .int .i64 0, .int .i64 0, .int .i64 0, .slice none 0 0] 25
  rw [List.toList_toArray] at A1
  rw [show (w.alloc (.cells (bkc zero8 zero8 zero8 (.slice none 0 0)).toArray 25)).heap.size = w.heap.size + 1 by simp] at B1
  rw [show ((w.alloc (.cells (bkc zero8 zero8 zero8 (.slice none 0 0)).toArray 25)).alloc (.cells #[.int .i64 x0, .int .i64 x1, .int .i64 x2, .int .i64 x3, .int .i64 x4, .int .i64 x5, .int .i64 x6] 29)).heap.size = w.heap.size + 2 by simp] at D1
  have hb1 := (((Below.refl w.heap.size w).alloc (Nat.le_refl _) (.cells (bkc zero8 zero8 zero8 (.slice none 0 0)).toArray 25)).alloc (by simp) (.cells #[.int .i64 x0, .int .i64 x1, .int .i64 x2, .int .i64 x3, .int .i64 x4, .int .i64 x5, .int .i64 x6] 29)).alloc (by simp; omega) (.cells #[.int .i64 0, .int .i64 0, .int .i64 0, .int .i64 0, .int .i64 0, .int .i64 0, .int .i64 0, .int .i64 0, .int .i64 0, .int .i64 0, .int .i64 0, .int .i64 0, .int .i64 0, .int .i64 0, .int .i64 0, .int .i64 0, .int .i64 0, .int .i64 0, .int .i64 0, .int .i64 0, .int .i64 0, .int .i64 0, .int .i64 0, .int .i64 0, .slice none 0 0] 25)
  have CA := Lib.hid (bkc_o L8.zero (.slice none 0 0))
  have TB := rowB_of (o := .slice none 0 0) L8.zero
  have TI : RowT 27 (ints [x0, x1]).length := rowI
  have TO2 : RowT 29 ([.int .i64 x0, .int .i64 x1, .int .i64 x2, .int .i64 x3, .int .i64 x4, .int .i64 x5, .int .i64 x6] : List Value).length := rowO
  have IXC := Lib.hid (fun w' => index_any zero8 zero8 zero8 none 0 0 [] x0 x1 w' (Lib.hid L8.zero) (Lib.hid ⟨rfl, Or.inl rfl⟩) (Lib.hid fun k => rfl) (by decide) hx hy)
  have PC := Lib.hid (fun w' => put_nil x0 x1 x2 x3 x4 x5 x6 w' hx hy)
  have XI : Hid (((ints [x0, x1, x2, x3, x4, x5, x6]).drop 0).take (ints [x0, x1]).length = ints [x0, x1]) := Lib.hid rfl
  generalize (bkc zero8 zero8 zero8 (.slice none 0 0)) = X at *
  clear hx hy
  go_enter Try.func13, Try.ntmps13
  go_upto_region 1 with fail
  generalize (((w.alloc (.cells X.toArray 25)).alloc (.cells #[.int .i64 x0, .int .i64 x1, .int .i64 x2, .int .i64 x3, .int .i64 x4, .int .i64 x5, .int .i64 x6] 29)).alloc (.cells #[.int .i64 0, .int .i64 0, .int .i64 0, .int .i64 0, .int .i64 0, .int .i64 0, .int .i64 0, .int .i64 0, .int .i64 0, .int .i64 0, .int .i64 0, .int .i64 0, .int .i64 0, .int .i64 0, .int .i64 0, .int .i64 0, .int .i64 0, .int .i64 0, .int .i64 0, .int .i64 0, .int .i64 0, .int .i64 0, .int .i64 0, .int .i64 0, .slice none 0 0] 25)) = W at *
  have rb : W.rangeAt w.heap.size 0 X := A1.range 0 _ (by simp)
  have ri : W.rangeAt (w.heap.size + 1) 0 (ints [x0, x1]) := B1.range 0 _ XI.out
  have HA := Lib.hid A1
  have HB1 := Lib.hid B1
  have HD1 := Lib.hid D1
  have HB := Lib.hid hb1
  clear A1 B1 D1 hb1
  go_wp2_with (first
    | ((with_reducible refine ld_row rb TB ?_ ?_ ?_); (· rfl); (· rfl); (simp only [Act.put, List.setIfInBounds_toArray, List.set_cons_zero, List.set_cons_succ]))
    | ((with_reducible refine ld_row ri TI ?_ ?_ ?_); (· rfl); (· rfl); (simp only [Act.put, List.setIfInBounds_toArray, List.set_cons_zero, List.set_cons_succ])))
  refine (IXC.out _).mono ?_
  rintro e w4 ⟨rfl, hb4⟩
  rw [show idxTo [] x0 x1 0 = -1 from rfl]
  have HB4 := Lib.hid (HB.out.trans (hb4.mono HB.out.size))
  have A4 := Lib.hid (HA.out.keep hb4 HA.out.lt)
  have B4 := Lib.hid (HB1.out.keep hb4 HB1.out.lt)
  have D4 := Lib.hid (HD1.out.keep hb4 HD1.out.lt)
  have ca := (A4.out.cell 24).trans CA.out
  clear hb4 rb ri HA HB1 HD1 HB IXC
  have rb : w4.rangeAt w.heap.size 0 X := A4.out.range 0 _ (by simp)
  have ro : w4.rangeAt (w.heap.size + 1) 0 [.int .i64 x0, .int .i64 x1, .int .i64 x2, .int .i64 x3, .int .i64 x4, .int .i64 x5, .int .i64 x6] := B4.out.range 0 _ rfl
  go_wp2_with (first
    | ((with_reducible refine ld_row rb TB ?_ ?_ ?_); (· rfl); (· rfl); (simp only [Act.put, List.setIfInBounds_toArray, List.set_cons_zero, List.set_cons_succ]))
    | ((with_reducible refine ld_row ro TO2 ?_ ?_ ?_); (· rfl); (· rfl); (simp only [Act.put, List.setIfInBounds_toArray, List.set_cons_zero, List.set_cons_succ])))
  refine (PC.out _).mono ?_
  rintro e w5 ⟨a7, c7, rfl, hs7, hb7⟩
  have D5 := Lib.hid (D4.out.keep hb7 D4.out.lt)
  have HB5 := Lib.hid (HB4.out.trans (hb7.mono HB4.out.size))
  have HS5 := Lib.hid hs7
  clear hb7 hs7 rb ro ca A4 B4 PC
  have TY := rowB_of (o := .slice a7 1 c7) L8.zero
  have OY := Lib.hid (bkc_one_sl (s := zero8) (p := zero8) (u := zero8) a7 1 c7)
  have LY := Lib.hid (bkc_len L8.zero (o := .slice a7 1 c7))
  generalize hY : bkc zero8 zero8 zero8 (.slice a7 1 c7) = Y at *
  have HY := Lib.hid hY
  clear hY
  have LO : Hid (([.int .i64 0, .int .i64 0, .int .i64 0, .int .i64 0, .int .i64 0, .int .i64 0, .int .i64 0, .int .i64 0, .int .i64 0, .int .i64 0, .int .i64 0, .int .i64 0, .int .i64 0, .int .i64 0, .int .i64 0, .int .i64 0, .int .i64 0, .int .i64 0, .int .i64 0, .int .i64 0, .int .i64 0, .int .i64 0, .int .i64 0, .int .i64 0, .slice none 0 0] : List Value).length = Y.length) := Lib.hid (by rw [LY.out]; rfl)
  have C5 := Lib.hid (D5.out.setAll Y LO.out.symm)
  have HBZ := Lib.hid (below_sets (show w.heap.size ≤ w.heap.size + 2 by omega) Y 0 _ HB5.out)
  have HSZ := Lib.hid (own_sets (show w.heap.size + 2 < w4.heap.size from D4.out.lt) Y 0 HS5.out)
  go_wp2_with (first
    | ((with_reducible refine st_row (cs := Y) D5.out LO.out TY OY.out ?_ ?_ ?_); (· rfl); (· rfl); (simp only [Act.put, List.setIfInBounds_toArray, List.set_cons_zero, List.set_cons_succ]); (generalize w5.setCells (w.heap.size + 2) 0 Y = WW at *)))
  refine ret_cell_tmp (p := 4) (q := 5) rfl rfl rfl C5.out Try.underlying25 rfl (by rw [TY.2]) rfl ⟨a7, c7, by rw [HY.out]; rfl, own_base HSZ.out HB4.out.size, HBZ.out⟩
set_option maxRecDepth 100000 in
set_option maxHeartbeats 4000000 in
theorem new_has (s p u : List Int) (a : Option Addr) (n c : Nat) (L : List Int) (x0 x1 x2 x3 x4 x5 x6 : Int) (w : World) (h8 : Hid (L8 s p u)) (HS : Hid (Sl w a n 7 (ints L))) (hf : Hid (∀ k, fits (L.getD k 0) = true)) (hn : n * 56 ≤ 140737488355328) (hx : fits x0 = true) (hy : fits x1 = true) (hk : 0 ≤ idxTo L x0 x1 n) :
    Calls Try.prog 13 #[.agg (bkc s p u (.slice a n c)).toArray, .agg #[.int .i64 x0, .int .i64 x1, .int .i64 x2, .int .i64 x3, .int .i64 x4, .int .i64 x5, .int .i64 x6]] w fun e w' => e = .returned (.tuple #[.agg (bkc zero8 zero8 zero8 (.slice none 0 0)).toArray, .int .i64 9]) ∧ Below w.heap.size w w' := by
  have A1 := ((Blk.new w (bkc s p u (.slice a n c)).toArray 25).alloc (.cells #[.int .i64 x0, .int .i64 x1, .int .i64 x2, .int .i64 x3, .int .i64 x4, .int .i64 x5, .int .i64 x6] 29)).alloc (.cells #[.int .i64 0, .int .i64 0, .int .i64 0, .int .i64 0, .int .i64 0, .int .i64 0, .int .i64 0, .int .i64 0, .int .i64 0, .int .i64 0, .int .i64 0, .int .i64 0, .int .i64 0, .int .i64 0, .int .i64 0, .int .i64 0, .int .i64 0, .int .i64 0, .int .i64 0, .int .i64 0, .int .i64 0, .int .i64 0, .int .i64 0, .int .i64 0, .slice none 0 0] 25)
  have B1 : Blk (((w.alloc (.cells (bkc s p u (.slice a n c)).toArray 25)).alloc (.cells #[.int .i64 x0, .int .i64 x1, .int .i64 x2, .int .i64 x3, .int .i64 x4, .int .i64 x5, .int .i64 x6] 29)).alloc (.cells #[.int .i64 0, .int .i64 0, .int .i64 0, .int .i64 0, .int .i64 0, .int .i64 0, .int .i64 0, .int .i64 0, .int .i64 0, .int .i64 0, .int .i64 0, .int .i64 0, .int .i64 0, .int .i64 0, .int .i64 0, .int .i64 0, .int .i64 0, .int .i64 0, .int .i64 0, .int .i64 0, .int .i64 0, .int .i64 0, .int .i64 0, .int .i64 0, .slice none 0 0] 25)) (w.alloc (.cells (bkc s p u (.slice a n c)).toArray 25)).heap.size (ints [x0, x1, x2, x3, x4, x5, x6]) 29 := (Blk.new (w.alloc (.cells (bkc s p u (.slice a n c)).toArray 25)) #[.int .i64 x0, .int .i64 x1, .int .i64 x2, .int .i64 x3, .int .i64 x4, .int .i64 x5, .int .i64 x6] 29).alloc (.cells #[.int .i64 0, .int .i64 0, .int .i64 0, .int .i64 0, .int .i64 0, .int .i64 0, .int .i64 0, .int .i64 0, .int .i64 0, .int .i64 0, .int .i64 0, .int .i64 0, .int .i64 0, .int .i64 0, .int .i64 0, .int .i64 0, .int .i64 0, .int .i64 0, .int .i64 0, .int .i64 0, .int .i64 0, .int .i64 0, .int .i64 0, .int .i64 0, .slice none 0 0] 25)
  have D1 := Blk.new ((w.alloc (.cells (bkc s p u (.slice a n c)).toArray 25)).alloc (.cells #[.int .i64 x0, .int .i64 x1, .int .i64 x2, .int .i64 x3, .int .i64 x4, .int .i64 x5, .int .i64 x6] 29)) #[.int .i64 0, .int .i64 0, .int .i64 0, .int .i64 0, .int .i64 0, .int .i64 0, .int .i64 0, .int .i64 0, .int .i64 0, .int .i64 0, .int .i64 0, .int .i64 0, .int .i64 0, .int .i64 0, .int .i64 0, .int .i64 0, .int .i64 0, .int .i64 0, .int .i64 0, .int .i64 0, .int .i64 0, .int .i64 0, .int .i64 0, .int .i64 0, .slice none 0 0] 25
  rw [List.toList_toArray] at A1
  rw [show (w.alloc (.cells (bkc s p u (.slice a n c)).toArray 25)).heap.size = w.heap.size + 1 by simp] at B1
  rw [show ((w.alloc (.cells (bkc s p u (.slice a n c)).toArray 25)).alloc (.cells #[.int .i64 x0, .int .i64 x1, .int .i64 x2, .int .i64 x3, .int .i64 x4, .int .i64 x5, .int .i64 x6] 29)).heap.size = w.heap.size + 2 by simp] at D1
  have hb1 := (((Below.refl w.heap.size w).alloc (Nat.le_refl _) (.cells (bkc s p u (.slice a n c)).toArray 25)).alloc (by simp) (.cells #[.int .i64 x0, .int .i64 x1, .int .i64 x2, .int .i64 x3, .int .i64 x4, .int .i64 x5, .int .i64 x6] 29)).alloc (by simp; omega) (.cells #[.int .i64 0, .int .i64 0, .int .i64 0, .int .i64 0, .int .i64 0, .int .i64 0, .int .i64 0, .int .i64 0, .int .i64 0, .int .i64 0, .int .i64 0, .int .i64 0, .int .i64 0, .int .i64 0, .int .i64 0, .int .i64 0, .int .i64 0, .int .i64 0, .int .i64 0, .int .i64 0, .int .i64 0, .int .i64 0, .int .i64 0, .int .i64 0, .slice none 0 0] 25)
  have TB := rowB_of (o := .slice a n c) h8.out
  have TI : RowT 27 (ints [x0, x1]).length := rowI
  have HS1 := Lib.hid (HS.out.keep hb1)
  have IXC := Lib.hid (fun w' (hs : Sl w' a n 7 (ints L)) => index_any s p u a n c L x0 x1 w' h8 (Lib.hid hs) hf hn hx hy)
  have XI : Hid (((ints [x0, x1, x2, x3, x4, x5, x6]).drop 0).take (ints [x0, x1]).length = ints [x0, x1]) := Lib.hid rfl
  generalize (bkc s p u (.slice a n c)) = X at *
  generalize idxTo L x0 x1 n = k at *
  clear hx hy HS
  go_enter Try.func13, Try.ntmps13
  go_upto_region 1 with fail
  generalize (((w.alloc (.cells X.toArray 25)).alloc (.cells #[.int .i64 x0, .int .i64 x1, .int .i64 x2, .int .i64 x3, .int .i64 x4, .int .i64 x5, .int .i64 x6] 29)).alloc (.cells #[.int .i64 0, .int .i64 0, .int .i64 0, .int .i64 0, .int .i64 0, .int .i64 0, .int .i64 0, .int .i64 0, .int .i64 0, .int .i64 0, .int .i64 0, .int .i64 0, .int .i64 0, .int .i64 0, .int .i64 0, .int .i64 0, .int .i64 0, .int .i64 0, .int .i64 0, .int .i64 0, .int .i64 0, .int .i64 0, .int .i64 0, .int .i64 0, .slice none 0 0] 25)) = W at *
  have rb : W.rangeAt w.heap.size 0 X := A1.range 0 _ (by simp)
  have ri : W.rangeAt (w.heap.size + 1) 0 (ints [x0, x1]) := B1.range 0 _ XI.out
  have HD1 := Lib.hid D1
  have HB := Lib.hid hb1
  clear A1 B1 D1 hb1
  go_wp2_with (first
    | ((with_reducible refine ld_row rb TB ?_ ?_ ?_); (· rfl); (· rfl); (simp only [Act.put, List.setIfInBounds_toArray, List.set_cons_zero, List.set_cons_succ]))
    | ((with_reducible refine ld_row ri TI ?_ ?_ ?_); (· rfl); (· rfl); (simp only [Act.put, List.setIfInBounds_toArray, List.set_cons_zero, List.set_cons_succ])))
  refine (IXC.out _ HS1.out).mono ?_
  rintro e w4 ⟨rfl, hb4⟩
  have HB4 := Lib.hid (HB.out.trans (hb4.mono HB.out.size))
  have D4 := Lib.hid (HD1.out.keep hb4 HD1.out.lt)
  clear hb4 rb ri HD1 HB IXC
  have TY := rowB_of (o := .slice none 0 0) L8.zero
  have OY := Lib.hid (bkc_one_sl (s := zero8) (p := zero8) (u := zero8) none 0 0)
  have LY := Lib.hid (bkc_len L8.zero (o := .slice none 0 0))
  have ZC := Lib.hid zero_cells
  generalize hY : (bkc zero8 zero8 zero8 (.slice none 0 0)) = Y at *
  have HY := Lib.hid hY
  clear hY
  have LO : Hid (([.int .i64 0, .int .i64 0, .int .i64 0, .int .i64 0, .int .i64 0, .int .i64 0, .int .i64 0, .int .i64 0, .int .i64 0, .int .i64 0, .int .i64 0, .int .i64 0, .int .i64 0, .int .i64 0, .int .i64 0, .int .i64 0, .int .i64 0, .int .i64 0, .int .i64 0, .int .i64 0, .int .i64 0, .int .i64 0, .int .i64 0, .int .i64 0, .slice none 0 0] : List Value).length = Y.length) := Lib.hid (by rw [LY.out]; rfl)
  have C5 := Lib.hid (D4.out.setAll Y LO.out.symm)
  have HBZ := Lib.hid (below_sets (show w.heap.size ≤ w.heap.size + 2 by omega) Y 0 _ HB4.out)
  go_upto_region 2 with fail
  go_wp2_with (first
    | ((with_reducible refine st_row (cs := Y) D4.out LO.out TY OY.out ?_ ?_ ?_); (· rfl); (· exact congrArg Value.agg ZC.out.symm); (simp only [Act.put, List.setIfInBounds_toArray, List.set_cons_zero, List.set_cons_succ]); (generalize w4.setCells (w.heap.size + 2) 0 Y = WW at *)))
  refine ret_cell_tmp (p := 4) (q := 5) rfl rfl rfl C5.out Try.underlying25 rfl (by rw [TY.2]) rfl ⟨by rw [HY.out]; rfl, HBZ.out⟩
end Go.Proofs.Ytlhebimfkdcidaa
