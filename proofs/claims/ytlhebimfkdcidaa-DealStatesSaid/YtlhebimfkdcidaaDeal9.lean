/- The booking that the statements lean on. -/
import Derived.Test.YtlhebimfkdcidaaDeal8
import Derived.Test.YtlhebimfkdcidaaLd
import Derived.Test.YtlhebimfkdcidaaBookRd
namespace Go.Proofs.Ytlhebimfkdcidaa
set_option linter.unusedVariables false
set_option linter.unusedSimpArgs false
open Go.ChangeShapes Go.WideShapes Go.ChangeAt Go.RowKit
theorem c7_fits (k : Nat) : fits (([0, 3, 0, 1, 2, 0, 2] : List Int).getD k 0) = true := by
  match k with
  | 0 => decide
  | 1 => decide
  | 2 => decide
  | 3 => decide
  | 4 => decide
  | 5 => decide
  | 6 => decide
  | k + 7 => rfl
theorem c7_idx : idxTo [0, 3, 0, 1, 2, 0, 2] 0 3 1 = 0 := by decide
theorem find_c7 (a : Option Addr) (c : Nat) (w' : World) (hs : Sl w' a 1 7 (ints [0, 3, 0, 1, 2, 0, 2])) : Calls Try.prog 11 #[.agg (bkc zero8 zero8 zero8 (.slice a 1 c)).toArray, .agg #[.int .i64 0, .int .i64 3]] w' fun e w'' => e = .returned (.tuple #[.agg (ints [0, 3, 0, 1, 2, 0, 2]).toArray, .bool true]) ∧ Below w'.heap.size w' w'' := by
  have := find_any zero8 zero8 zero8 a 1 c [0, 3, 0, 1, 2, 0, 2] 0 3 w' (Lib.hid L8.zero) (Lib.hid hs) (Lib.hid c7_fits) (by decide) (by decide) (by decide)
  rw [c7_idx, show findV [0, 3, 0, 1, 2, 0, 2] 0 = [0, 3, 0, 1, 2, 0, 2] from rfl, show findB 0 = true from rfl] at this
  exact this
theorem in_c7 (a : Option Addr) (c : Nat) (a2 : Option Addr) (c2 : Nat) (w' : World) (hs : Sl w' a 1 7 (ints [0, 3, 0, 1, 2, 0, 2])) (hs2 : Sl w' a2 2 1 (ints [1, 3])) : Calls Try.prog 14 #[.agg (bkc zero8 zero8 zero8 (.slice a 1 c)).toArray, .agg #[.int .i64 0, .int .i64 3], .slice a2 2 c2] w' fun e w'' => e = .returned (.tuple #[.agg (ints [0, 0, 0, 0, 0, 0, 0]).toArray, .int .i64 9]) ∧ Below w'.heap.size w' w'' := by
  have := in_any zero8 zero8 zero8 a 1 c [0, 3, 0, 1, 2, 0, 2] 0 3 a2 2 c2 [1, 3] w' (Lib.hid L8.zero) (Lib.hid hs) (Lib.hid c7_fits) (by decide) (by decide) (by decide) (Lib.hid hs2) (by decide)
  rw [c7_idx, show inTo [1, 3] (([0, 3, 0, 1, 2, 0, 2] : List Int).getD ((0 : Int).toNat * 7 + 6) 0) 2 = false from by decide, show inV [0, 3, 0, 1, 2, 0, 2] 0 false = [0, 0, 0, 0, 0, 0, 0] from rfl, show inC 0 false = 9 from rfl] at this
  exact this
theorem new_c7 (a : Option Addr) (c : Nat) (w' : World) (hs : Sl w' a 1 7 (ints [0, 3, 0, 1, 2, 0, 2])) : Calls Try.prog 13 #[.agg (bkc zero8 zero8 zero8 (.slice a 1 c)).toArray, .agg #[.int .i64 0, .int .i64 3, .int .i64 0, .int .i64 1, .int .i64 2, .int .i64 0, .int .i64 2]] w' fun e w'' => e = .returned (.tuple #[.agg (bkc zero8 zero8 zero8 (.slice none 0 0)).toArray, .int .i64 9]) ∧ Below w'.heap.size w' w'' :=
  new_has zero8 zero8 zero8 a 1 c [0, 3, 0, 1, 2, 0, 2] 0 3 0 1 2 0 2 w' (Lib.hid L8.zero) (Lib.hid hs) (Lib.hid c7_fits) (by decide) (by decide) (by decide) (by rw [c7_idx]; decide)
theorem held_c7 (a : Option Addr) (c : Nat) (w' : World) (hs : Sl w' a 1 7 (ints [0, 3, 0, 1, 2, 0, 2])) : Calls Try.prog 15 #[.agg (bkc zero8 zero8 zero8 (.slice a 1 c)).toArray, .int .i64 1] w' fun e w'' => e = .returned (.int .i64 2) ∧ Below w'.heap.size w' w'' := by
  have := held_any zero8 zero8 zero8 a 1 c [0, 3, 0, 1, 2, 0, 2] 1 w' (Lib.hid L8.zero) (Lib.hid hs) (Lib.hid c7_fits) (by decide)
  rw [show heldTo [0, 3, 0, 1, 2, 0, 2] 1 1 = 2 from by (show (if heldB [0, 3, 0, 1, 2, 0, 2] 1 0 = true then wrap64 (0 + 2) else 0) = 2); rw [if_pos (by decide)]; unfold wrap64; omega] at this
  exact this
theorem count_c7 (a : Option Addr) (c : Nat) (w' : World) (hs : Sl w' a 1 7 (ints [0, 3, 0, 1, 2, 0, 2])) : Calls Try.prog 16 #[.agg (bkc zero8 zero8 zero8 (.slice a 1 c)).toArray, .int .i64 2] w' fun e w'' => e = .returned (.int .i64 1) ∧ Below w'.heap.size w' w'' := by
  have := count_any zero8 zero8 zero8 a 1 c [0, 3, 0, 1, 2, 0, 2] 2 w' (Lib.hid L8.zero) (Lib.hid hs) (Lib.hid c7_fits) (by decide)
  rw [show cntTo [0, 3, 0, 1, 2, 0, 2] 2 1 = 1 from by (show (if (2 : Int) = 2 then wrap64 (0 + 1) else 0) = 1); rw [if_pos rfl]; unfold wrap64; omega] at this
  exact this
theorem ok8_zero : Ok8 zero8 := by
  unfold Ok8 zero8
  exact ⟨⟨0, rfl, rfl⟩, ⟨0, rfl, rfl⟩, ⟨0, rfl, rfl⟩, ⟨0, rfl, rfl⟩, ⟨0, rfl, rfl⟩, ⟨0, rfl, rfl⟩, ⟨0, rfl, rfl⟩, ⟨0, rfl, rfl⟩, trivial⟩
theorem ok_ord {L : List Int} (hf : ∀ k, fits (L.getD k 0) = true) (j : Nat) : OkAll orderKinds (ints (ord7 L j)) :=
  ⟨⟨_, rfl, wf_fitsO (hf _)⟩, ⟨_, rfl, wf_fitsO (hf _)⟩, ⟨_, rfl, wf_fitsO (hf _)⟩, ⟨_, rfl, wf_fitsO (hf _)⟩, ⟨_, rfl, wf_fitsO (hf _)⟩, ⟨_, rfl, wf_fitsO (hf _)⟩, ⟨_, rfl, wf_fitsO (hf _)⟩, trivial⟩
theorem ok_chunks {L : List Int} {n : Nat} (hl : (ints L).length = n * 7) (hf : ∀ k, fits (L.getD k 0) = true) : ∀ i, i < n → OkAll orderKinds (((ints L).drop (i * 7)).take 7) := fun i hi => by
  rw [chunk7 hl hi]; exact ok_ord hf i
theorem same_c7 (a : Option Addr) (c : Nat) (w' : World) (hs : Sl w' a 1 7 (ints [0, 3, 0, 1, 2, 0, 2])) : Calls Try.prog 17 #[.agg (bkc zero8 zero8 zero8 (.slice a 1 c)).toArray, .agg (bkc zero8 zero8 zero8 (.slice none 0 0)).toArray] w' fun e w'' => e = .returned (.bool false) ∧ Below w'.heap.size w' w'' := by
  have := same_any zero8 zero8 zero8 zero8 zero8 zero8 a none 1 0 c 0 [0, 3, 0, 1, 2, 0, 2] [] w' (Lib.hid L8.zero) (Lib.hid L8.zero) ok8_zero ok8_zero ok8_zero ok8_zero ok8_zero ok8_zero (Lib.hid hs) (Lib.hid ⟨rfl, Or.inl rfl⟩) (Lib.hid (ok_chunks hs.1 c7_fits)) (Lib.hid (fun i hi => by omega)) (by decide) (by decide)
  rw [show bookB zero8 zero8 zero8 1 [0, 3, 0, 1, 2, 0, 2] zero8 zero8 zero8 0 [] = false from by unfold bookB; rw [show eqO 1 0 [0, 3, 0, 1, 2, 0, 2] [] = false from by decide, Bool.and_false, Bool.and_false, Bool.and_false]] at this
  exact this
theorem egO : Try.prog.eqGuardType Try.prog.depth 29 = false := by kernel_rfl
theorem ord_eql_run (xs ys : List Value) (h : OkAll orderKinds xs) (h' : OkAll orderKinds ys) (w : World) : (binOp .eql 29 (.agg xs.toArray) (.agg ys.toArray)).run Try.prog w = .ok (.bool (sameB xs ys)) w :=
  eql_flat 3 4 29 _ _ _ w flat_order (by kernel_rfl) (by kernel_rfl) (by kernel_rfl) (by decide) h h'
set_option maxRecDepth 100000 in
set_option maxHeartbeats 8000000 in
theorem alive15 (w : World) : Calls Try.prog 6 #[] w fun e w' => e = .returned (.bool true) ∧ Below w.heap.size w w' := by
  have TO : RowT 29 (ints [0, 3, 0, 1, 2, 0, 2]).length := rowO
  have TOL : RowT 29 ([.int .i64 0, .int .i64 3, .int .i64 0, .int .i64 1, .int .i64 2, .int .i64 0, .int .i64 2] : List Value).length := rowO
  have OO : Hid (∀ x ∈ ints [0, 3, 0, 1, 2, 0, 2], x.oneCell' = true) := Lib.hid fun x hx => ints_one hx
  have TI : RowT 27 ([.int .i64 0, .int .i64 3] : List Value).length := rowI
  have NC := Lib.hid (fun w' => new_nil 0 3 0 1 2 0 2 w' (by decide) (by decide))
  have ZC := Lib.hid zero_cells
  have EQ := Lib.hid (fun w => show (binOp .eql 29 (.agg (ints [0, 3, 0, 1, 2, 0, 2]).toArray) (.agg #[.int .i64 0, .int .i64 3, .int .i64 0, .int .i64 1, .int .i64 2, .int .i64 0, .int .i64 2])).run Try.prog w = .ok (.bool true) w from (ord_eql_run (ints [0, 3, 0, 1, 2, 0, 2]) (ints [0, 3, 0, 1, 2, 0, 2]) (ok_ord c7_fits 0) (ok_ord c7_fits 0) w).trans (by rw [sameB_refl]))
  go_enter Try.func6, Try.ntmps6
  have O1 : Hid (Blk (w.alloc (.cells (ints [0, 3, 0, 1, 2, 0, 2]).toArray 29)) w.heap.size (ints [0, 3, 0, 1, 2, 0, 2]) 29) := Lib.hid (Blk.new w (ints [0, 3, 0, 1, 2, 0, 2]).toArray 29)
  have HB1 := Lib.hid ((Below.refl w.heap.size w).alloc (Nat.le_refl _) (.cells (ints [0, 3, 0, 1, 2, 0, 2]).toArray 29))
  go_upto_region 2 with (first
    | ((with_reducible refine st_row_new (cs := ints [0, 3, 0, 1, 2, 0, 2]) TO OO.out ?_ ?_ ?_ ?_); (· first | rfl | simp); (· rfl); (· rfl); (simp only [Act.put, List.setIfInBounds_toArray, List.set_cons_zero, List.set_cons_succ])))
  generalize w.alloc (.cells (ints [0, 3, 0, 1, 2, 0, 2]).toArray 29) = W1 at *
  have ro : W1.rangeAt w.heap.size 0 [.int .i64 0, .int .i64 3, .int .i64 0, .int .i64 1, .int .i64 2, .int .i64 0, .int .i64 2] := O1.out.range 0 _ rfl
  go_wp2_with (first
    | ((with_reducible refine ld_row ro TOL ?_ ?_ ?_); (· rfl); (· rfl); (simp only [Act.put, List.setIfInBounds_toArray, List.set_cons_zero, List.set_cons_succ])))
  rw [← ZC.out]
  refine (NC.out _).mono ?_
  rintro e w2 ⟨a7, c7, rfl, ho2, hb2⟩
  obtain ⟨a8, c8, he, _, _, hs2⟩ := Sl.own ho2
  injection he with e1 e2 e3
  subst e1
  have FI := Lib.hid (find_c7 a7 c7)
  have IN_ := Lib.hid (in_c7 a7 c7)
  have NH := Lib.hid (new_c7 a7 c7)
  have HE_ := Lib.hid (held_c7 a7 c7)
  have CN_ := Lib.hid (count_c7 a7 c7)
  have SM_ := Lib.hid (same_c7 a7 c7)
  have TB := rowB_of (o := .slice a7 1 c7) L8.zero
  have OB := Lib.hid (bkc_one_sl (s := zero8) (p := zero8) (u := zero8) a7 1 c7)
  have LB := Lib.hid (bkc_len L8.zero (o := .slice a7 1 c7))
  generalize (bkc zero8 zero8 zero8 (.slice a7 1 c7)) = Y at *
  have HB2 := HB1.out.trans (hb2.mono HB1.out.size)
  have HB3 := Lib.hid (HB2.alloc HB2.size (.cells Y.toArray 25))
  have O3 := Lib.hid ((O1.out.keep hb2 O1.out.lt).alloc (.cells Y.toArray 25))
  have B3 : Hid (Blk (w2.alloc (.cells Y.toArray 25)) w2.heap.size Y 25) := Lib.hid (Blk.new w2 Y.toArray 25)
  have S3 := Lib.hid (hs2.keep ((Below.refl w2.heap.size w2).alloc (Nat.le_refl _) (.cells Y.toArray 25)))
  clear ho2 hs2 hb2 HB2 HB1 O1 ro NC
  go_upto_region 3 with (first
    | ((with_reducible refine st_row_new (cs := Y) TB OB.out ?_ ?_ ?_ ?_); (· first | rfl | simp); (· rfl); (· exact LB.out.symm); (simp only [Act.put, List.setIfInBounds_toArray, List.set_cons_zero, List.set_cons_succ])))
  generalize hW3 : w2.alloc (.cells Y.toArray 25) = W3 at *
  generalize hg2 : w2.heap.size = g2 at *
  clear hW3 hg2
  have rb : W3.rangeAt g2 0 Y := B3.out.range 0 _ (by simp)
  have ri : W3.rangeAt w.heap.size 0 [.int .i64 0, .int .i64 3] := O3.out.range 0 _ rfl
  go_wp2_with (first
    | ((with_reducible refine ld_row rb TB ?_ ?_ ?_); (· rfl); (· rfl); (simp only [Act.put, List.setIfInBounds_toArray, List.set_cons_zero, List.set_cons_succ]))
    | ((with_reducible refine ld_row ri TI ?_ ?_ ?_); (· rfl); (· rfl); (simp only [Act.put, List.setIfInBounds_toArray, List.set_cons_zero, List.set_cons_succ])))
  refine (FI.out _ S3.out).mono ?_
  rintro e w4 ⟨rfl, hb4⟩
  have HB4 := HB3.out.trans (hb4.mono HB3.out.size)
  have HB5 := Lib.hid (HB4.alloc HB4.size (.cells (ints [0, 3, 0, 1, 2, 0, 2]).toArray 29))
  have O5 := Lib.hid ((O3.out.keep hb4 O3.out.lt).alloc (.cells (ints [0, 3, 0, 1, 2, 0, 2]).toArray 29))
  have B5 := Lib.hid ((B3.out.keep hb4 B3.out.lt).alloc (.cells (ints [0, 3, 0, 1, 2, 0, 2]).toArray 29))
  have X5 : Hid (Blk (w4.alloc (.cells (ints [0, 3, 0, 1, 2, 0, 2]).toArray 29)) w4.heap.size (ints [0, 3, 0, 1, 2, 0, 2]) 29) := Lib.hid (Blk.new w4 (ints [0, 3, 0, 1, 2, 0, 2]).toArray 29)
  have S5 := Lib.hid ((S3.out.keep hb4).keep ((Below.refl w4.heap.size w4).alloc (Nat.le_refl _) (.cells (ints [0, 3, 0, 1, 2, 0, 2]).toArray 29)))
  clear hb4 HB4 HB3 O3 B3 S3 rb ri FI
  go_upto_region 4 with (first
    | ((with_reducible refine st_row_new (cs := ints [0, 3, 0, 1, 2, 0, 2]) TO OO.out ?_ ?_ ?_ ?_); (· first | rfl | simp); (· rfl); (· rfl); (simp only [Act.put, List.setIfInBounds_toArray, List.set_cons_zero, List.set_cons_succ])))
  generalize hW5 : w4.alloc (.cells (ints [0, 3, 0, 1, 2, 0, 2]).toArray 29) = W5 at *
  generalize hg4 : w4.heap.size = g4 at *
  clear hW5 hg4
  have rb : W5.rangeAt g2 0 Y := B5.out.range 0 _ (by simp)
  have ri : W5.rangeAt w.heap.size 0 [.int .i64 0, .int .i64 3] := O5.out.range 0 _ rfl
  have HB6 := Lib.hid (HB5.out.alloc HB5.out.size (.cells #[.int .i64 1, .int .i64 3] 3))
  have O6 := Lib.hid (O5.out.alloc (.cells #[.int .i64 1, .int .i64 3] 3))
  have B6 := Lib.hid (B5.out.alloc (.cells #[.int .i64 1, .int .i64 3] 3))
  have X6 := Lib.hid (X5.out.alloc (.cells #[.int .i64 1, .int .i64 3] 3))
  have S6 := Lib.hid (S5.out.keep ((Below.refl W5.heap.size W5).alloc (Nat.le_refl _) (.cells #[.int .i64 1, .int .i64 3] 3)))
  have L6 : Hid (Sl (W5.alloc (.cells #[.int .i64 1, .int .i64 3] 3)) (some ⟨W5.heap.size, 0, none⟩) 2 1 (ints [1, 3])) := Lib.hid (sl_blk (Blk.new W5 #[.int .i64 1, .int .i64 3] 3) rfl)
  clear HB5
  go_wp2_with (first
    | ((with_reducible refine ld_row rb TB ?_ ?_ ?_); (· rfl); (· rfl); (simp only [Act.put, List.setIfInBounds_toArray, List.set_cons_zero, List.set_cons_succ]))
    | ((with_reducible refine ld_row ri TI ?_ ?_ ?_); (· rfl); (· rfl); (simp only [Act.put, List.setIfInBounds_toArray, List.set_cons_zero, List.set_cons_succ])))
  refine (IN_.out _ 2 _ S6.out L6.out).mono ?_
  rintro e w7 ⟨rfl, hb7⟩
  have HB7 := HB6.out.trans (hb7.mono HB6.out.size)
  have TZ : RowT 29 (ints [0, 0, 0, 0, 0, 0, 0]).length := rowO
  have OZ : Hid (∀ x ∈ ints [0, 0, 0, 0, 0, 0, 0], x.oneCell' = true) := Lib.hid fun x hx => ints_one hx
  have HB8 := Lib.hid (HB7.alloc HB7.size (.cells (ints [0, 0, 0, 0, 0, 0, 0]).toArray 29))
  have O8 := Lib.hid ((O6.out.keep hb7 O6.out.lt).alloc (.cells (ints [0, 0, 0, 0, 0, 0, 0]).toArray 29))
  have B8 := Lib.hid ((B6.out.keep hb7 B6.out.lt).alloc (.cells (ints [0, 0, 0, 0, 0, 0, 0]).toArray 29))
  have X8 := Lib.hid ((X6.out.keep hb7 X6.out.lt).alloc (.cells (ints [0, 0, 0, 0, 0, 0, 0]).toArray 29))
  have S8 := Lib.hid ((S6.out.keep hb7).keep ((Below.refl w7.heap.size w7).alloc (Nat.le_refl _) (.cells (ints [0, 0, 0, 0, 0, 0, 0]).toArray 29)))
  clear hb7 HB7 HB6 O5 O6 B5 B6 X5 X6 S5 S6 L6 rb ri IN_
  go_upto_region 5 with (first
    | ((with_reducible refine st_row_new (cs := ints [0, 0, 0, 0, 0, 0, 0]) TZ OZ.out ?_ ?_ ?_ ?_); (· first | rfl | simp); (· rfl); (· rfl); (simp only [Act.put, List.setIfInBounds_toArray, List.set_cons_zero, List.set_cons_succ])))
  generalize hW8 : w7.alloc (.cells (ints [0, 0, 0, 0, 0, 0, 0]).toArray 29) = W8 at *
  clear hW8
  generalize w7.heap.size = g7 at *
  have rb : W8.rangeAt g2 0 Y := B8.out.range 0 _ (by simp)
  have ro : W8.rangeAt w.heap.size 0 [.int .i64 0, .int .i64 3, .int .i64 0, .int .i64 1, .int .i64 2, .int .i64 0, .int .i64 2] := O8.out.range 0 _ rfl
  go_wp2_with (first
    | ((with_reducible refine ld_row rb TB ?_ ?_ ?_); (· rfl); (· rfl); (simp only [Act.put, List.setIfInBounds_toArray, List.set_cons_zero, List.set_cons_succ]))
    | ((with_reducible refine ld_row ro TOL ?_ ?_ ?_); (· rfl); (· rfl); (simp only [Act.put, List.setIfInBounds_toArray, List.set_cons_zero, List.set_cons_succ])))
  refine (NH.out _ S8.out).mono ?_
  rintro e w9 ⟨rfl, hb9⟩
  have HB9 := HB8.out.trans (hb9.mono HB8.out.size)
  have TZB := rowB_of (o := .slice none 0 0) L8.zero
  have OZB := Lib.hid (bkc_one_sl (s := zero8) (p := zero8) (u := zero8) none 0 0)
  have LZB := Lib.hid (bkc_len L8.zero (o := .slice none 0 0))
  generalize hZZ : (bkc zero8 zero8 zero8 (.slice none 0 0)) = ZZ at *
  clear hZZ
  have HB10 := Lib.hid (HB9.alloc HB9.size (.cells ZZ.toArray 25))
  have O10 := Lib.hid ((O8.out.keep hb9 O8.out.lt).alloc (.cells ZZ.toArray 25))
  have B10 := Lib.hid ((B8.out.keep hb9 B8.out.lt).alloc (.cells ZZ.toArray 25))
  have X10 := Lib.hid ((X8.out.keep hb9 X8.out.lt).alloc (.cells ZZ.toArray 25))
  have S10 := Lib.hid ((S8.out.keep hb9).keep ((Below.refl w9.heap.size w9).alloc (Nat.le_refl _) (.cells ZZ.toArray 25)))
  clear hb9 HB9 HB8 O8 B8 X8 S8 rb ro NH
  go_upto_region 6 with (first
    | ((with_reducible refine st_row_new (cs := ZZ) TZB OZB.out ?_ ?_ ?_ ?_); (· first | rfl | simp); (· rfl); (· exact LZB.out.symm); (simp only [Act.put, List.setIfInBounds_toArray, List.set_cons_zero, List.set_cons_succ])))
  generalize hW10 : w9.alloc (.cells ZZ.toArray 25) = W10 at *
  clear hW10
  generalize w9.heap.size = g9 at *
  have rb : W10.rangeAt g2 0 Y := B10.out.range 0 _ (by simp)
  have ro : W10.rangeAt w.heap.size 0 [.int .i64 0, .int .i64 3, .int .i64 0, .int .i64 1, .int .i64 2, .int .i64 0, .int .i64 2] := O10.out.range 0 _ rfl
  have rx : W10.rangeAt g4 0 (ints [0, 3, 0, 1, 2, 0, 2]) := X10.out.range 0 _ (by simp)
  go_wp2_with (first
    | ((with_reducible refine ld_row rb TB ?_ ?_ ?_); (· rfl); (· rfl); (simp only [Act.put, List.setIfInBounds_toArray, List.set_cons_zero, List.set_cons_succ]))
    | ((with_reducible refine ld_row ro TOL ?_ ?_ ?_); (· rfl); (· rfl); (simp only [Act.put, List.setIfInBounds_toArray, List.set_cons_zero, List.set_cons_succ]))
    | ((with_reducible refine ld_row rx TO ?_ ?_ ?_); (· rfl); (· rfl); (simp only [Act.put, List.setIfInBounds_toArray, List.set_cons_zero, List.set_cons_succ]))
    | ((with_reducible refine cmp_row egO EQ.out ?_ ?_ ?_ ?_); (· rfl); (· rfl); (· rfl); (simp only [Act.put, List.setIfInBounds_toArray, List.set_cons_zero, List.set_cons_succ])))
  refine (HE_.out _ S10.out).mono ?_
  rintro e w11 ⟨rfl, hb11⟩
  have HB11 := Lib.hid (HB10.out.trans (hb11.mono HB10.out.size))
  have B11 := Lib.hid (B10.out.keep hb11 B10.out.lt)
  have S11 := Lib.hid (S10.out.keep hb11)
  clear hb11 rb ro rx HB10 O10 X10
  have rb : w11.rangeAt g2 0 Y := B11.out.range 0 _ (by simp)
  go_wp2_with (first
    | ((with_reducible refine ld_row rb TB ?_ ?_ ?_); (· rfl); (· rfl); (simp only [Act.put, List.setIfInBounds_toArray, List.set_cons_zero, List.set_cons_succ])))
  refine (CN_.out _ S11.out).mono ?_
  rintro e w12 ⟨rfl, hb12⟩
  have HB12 := Lib.hid (HB11.out.trans (hb12.mono HB11.out.size))
  have B12 := Lib.hid (B11.out.keep hb12 B11.out.lt)
  have S12 := Lib.hid (S11.out.keep hb12)
  clear hb12 rb HB11 B11 S11
  have rb : w12.rangeAt g2 0 Y := B12.out.range 0 _ (by simp)
  go_wp2_with (first
    | ((with_reducible refine ld_row rb TB ?_ ?_ ?_); (· rfl); (· rfl); (simp only [Act.put, List.setIfInBounds_toArray, List.set_cons_zero, List.set_cons_succ])))
  rw [← ZC.out]
  refine (SM_.out _ S12.out).mono ?_
  rintro e w13 ⟨rfl, hb13⟩
  have HB13 := HB12.out.trans (hb13.mono HB12.out.size)
  go_wp2_with fail
  go_ret
  exact ⟨rfl, HB13⟩
end Go.Proofs.Ytlhebimfkdcidaa
