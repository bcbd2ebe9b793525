/- An order in one of any states; at most forty. -/
import Derived.Test.YtlhebimfkdcidaaDeal5
import Derived.Test.YtlhebimfkdcidaaLd
import Derived.Test.YtlhebimfkdcidaaBookRd
namespace Go.Proofs.Ytlhebimfkdcidaa
set_option linter.unusedVariables false
set_option linter.unusedSimpArgs false
open Go.ChangeShapes Go.WideShapes Go.ChangeAt Go.RowKit
theorem bkc_one_sl {s p u : List Int} (a : Option Addr) (n c : Nat) : ∀ x ∈ bkc s p u (.slice a n c), x.oneCell' = true := bkc_one _ rfl
set_option maxHeartbeats 4000000 in
theorem few_any (s p u : List Int) (a : Option Addr) (n c : Nat) (w : World) (h8 : Hid (L8 s p u)) (hc : n ≤ c) :
    Calls Try.prog 7 #[.agg (bkc s p u (.slice a n c)).toArray] w fun e w' => e = .returned (.agg (bkc s p u (.slice a (min n 40) c)).toArray) ∧ Below w.heap.size w w' := by
  have A1 := (Blk.new w (bkc s p u (.slice a n c)).toArray 25).alloc (.cells #[.int .i64 0, .int .i64 0, .int .i64 0, .int .i64 0, .int .i64 0, .int .i64 0, .int .i64 0, .int .i64 0, .int .i64 0, .int .i64 0, .int .i64 0, .int .i64 0, .int .i64 0, .int .i64 0, .int .i64 0, .int .i64 0, .int .i64 0, .int .i64 0, .int .i64 0, .int .i64 0, .int .i64 0, .int .i64 0, .int .i64 0, .int .i64 0, .slice none 0 0] 25)
  have B1 := Blk.new (w.alloc (.cells (bkc s p u (.slice a n c)).toArray 25)) #[.int .i64 0, .int .i64 0, .int .i64 0, .int .i64 0, .int .i64 0, .int .i64 0, .int .i64 0, .int .i64 0, .int .i64 0, .int .i64 0, .int .i64 0, .int .i64 0, .int .i64 0, .int .i64 0, .int .i64 0, .int .i64 0, .int .i64 0, .int .i64 0, .int .i64 0, .int .i64 0, .int .i64 0, .int .i64 0, .int .i64 0, .int .i64 0, .slice none 0 0] 25
  rw [List.toList_toArray] at A1
  rw [show (w.alloc (.cells (bkc s p u (.slice a n c)).toArray 25)).heap.size = w.heap.size + 1 by simp] at B1
  have hb1 := ((Below.refl w.heap.size w).alloc (Nat.le_refl _) (.cells (bkc s p u (.slice a n c)).toArray 25)).alloc (by simp) (.cells #[.int .i64 0, .int .i64 0, .int .i64 0, .int .i64 0, .int .i64 0, .int .i64 0, .int .i64 0, .int .i64 0, .int .i64 0, .int .i64 0, .int .i64 0, .int .i64 0, .int .i64 0, .int .i64 0, .int .i64 0, .int .i64 0, .int .i64 0, .int .i64 0, .int .i64 0, .int .i64 0, .int .i64 0, .int .i64 0, .int .i64 0, .int .i64 0, .slice none 0 0] 25)
  have CA := Lib.hid (bkc_o h8.out (.slice a n c))
  have SO := Lib.hid (bkc_set_o (v := .slice a (min n 40) c) h8.out (o := .slice a n c))
  have T1 := rowB_of (o := .slice a n c) h8.out
  have T2 := rowB_of (o := .slice a (min n 40) c) h8.out
  have O1 := Lib.hid (bkc_one_sl (s := s) (p := p) (u := u) a n c)
  have O2 := Lib.hid (bkc_one_sl (s := s) (p := p) (u := u) a (min n 40) c)
  have L1 := Lib.hid (bkc_len h8.out (o := .slice a n c))
  have L2 := Lib.hid (bkc_len h8.out (o := .slice a (min n 40) c))
  by_cases h : 40 < n
  · have h' : (40 : Int) < n := by omega
    have hc' : 40 ≤ c := by omega
    rw [show min n 40 = 40 by omega] at SO T2 O2 L2 ⊢
    generalize hX : (bkc s p u (.slice a n c)) = X at *
    generalize hY : bkc s p u (.slice a 40 c) = Y at *
    go_enter Try.func7, Try.ntmps7
    go_upto_region 1 with fail
    generalize ((w.alloc (.cells X.toArray 25)).alloc (.cells #[.int .i64 0, .int .i64 0, .int .i64 0, .int .i64 0, .int .i64 0, .int .i64 0, .int .i64 0, .int .i64 0, .int .i64 0, .int .i64 0, .int .i64 0, .int .i64 0, .int .i64 0, .int .i64 0, .int .i64 0, .int .i64 0, .int .i64 0, .int .i64 0, .int .i64 0, .int .i64 0, .int .i64 0, .int .i64 0, .int .i64 0, .int .i64 0, .slice none 0 0] 25)) = W at *
    have ca := (A1.cell 24).trans CA.out
    have fa := A1.froz 24
    have A2 : Hid (Blk (W.setCell ⟨w.heap.size, 24, none⟩ (.slice a 40 c)) w.heap.size Y 25) := Lib.hid (by
      have := A1.set 24 (.slice a 40 c)
      rw [SO.out] at this
      exact this)
    have B2 := Lib.hid (B1.set_other (g' := w.heap.size) (by omega) 24 (.slice a 40 c))
    have HB2 := Lib.hid (below_set hb1 (Nat.le_refl w.heap.size) 24 (.slice a 40 c))
    clear A1 B1 hb1 hX hY SO CA
    go_upto_region 3 with fail
    generalize W.setCell ⟨w.heap.size, 24, none⟩ (.slice a 40 c) = W2 at *
    clear ca fa
    have rb : W2.rangeAt w.heap.size 0 Y := A2.out.range 0 _ (by simp)
    have LO : Hid (([.int .i64 0, .int .i64 0, .int .i64 0, .int .i64 0, .int .i64 0, .int .i64 0, .int .i64 0, .int .i64 0, .int .i64 0, .int .i64 0, .int .i64 0, .int .i64 0, .int .i64 0, .int .i64 0, .int .i64 0, .int .i64 0, .int .i64 0, .int .i64 0, .int .i64 0, .int .i64 0, .int .i64 0, .int .i64 0, .int .i64 0, .int .i64 0, .slice none 0 0] : List Value).length = Y.length) := Lib.hid (by rw [L2.out]; rfl)
    have C5 := Lib.hid (B2.out.setAll Y LO.out.symm)
    have HBZ := Lib.hid (below_sets (show w.heap.size ≤ w.heap.size + 1 by omega) Y 0 _ HB2.out)
    go_wp2_with (first
      | ((with_reducible refine ld_row rb T2 ?_ ?_ ?_); (· rfl); (· rfl); (simp only [Act.put, List.setIfInBounds_toArray, List.set_cons_zero, List.set_cons_succ]))
      | ((with_reducible refine st_row (cs := Y) B2.out LO.out T2 O2.out ?_ ?_ ?_); (· rfl); (· rfl); (simp only [Act.put, List.setIfInBounds_toArray, List.set_cons_zero, List.set_cons_succ]); (generalize W2.setCells (w.heap.size + 1) 0 Y = WW at *)))
    refine ret_cell (p := 2) rfl rfl C5.out Try.underlying25 rfl (by rw [T2.2]) rfl ⟨rfl, HBZ.out⟩
  · have h' : (n : Int) ≤ 40 := by omega
    rw [show min n 40 = n by omega]
    generalize hX : (bkc s p u (.slice a n c)) = X at *
    go_enter Try.func7, Try.ntmps7
    go_upto_region 1 with fail
    generalize ((w.alloc (.cells X.toArray 25)).alloc (.cells #[.int .i64 0, .int .i64 0, .int .i64 0, .int .i64 0, .int .i64 0, .int .i64 0, .int .i64 0, .int .i64 0, .int .i64 0, .int .i64 0, .int .i64 0, .int .i64 0, .int .i64 0, .int .i64 0, .int .i64 0, .int .i64 0, .int .i64 0, .int .i64 0, .int .i64 0, .int .i64 0, .int .i64 0, .int .i64 0, .int .i64 0, .int .i64 0, .slice none 0 0] 25)) = W at *
    have ca := (A1.cell 24).trans CA.out
    have rb : W.rangeAt w.heap.size 0 X := A1.range 0 _ (by simp)
    have LO : Hid (([.int .i64 0, .int .i64 0, .int .i64 0, .int .i64 0, .int .i64 0, .int .i64 0, .int .i64 0, .int .i64 0, .int .i64 0, .int .i64 0, .int .i64 0, .int .i64 0, .int .i64 0, .int .i64 0, .int .i64 0, .int .i64 0, .int .i64 0, .int .i64 0, .int .i64 0, .int .i64 0, .int .i64 0, .int .i64 0, .int .i64 0, .int .i64 0, .slice none 0 0] : List Value).length = X.length) := Lib.hid (by rw [L1.out]; rfl)
    have C5 := Lib.hid (B1.setAll X LO.out.symm)
    have HBZ := Lib.hid (below_sets (show w.heap.size ≤ w.heap.size + 1 by omega) X 0 _ hb1)
    have B2 := Lib.hid B1
    clear A1 B1 hb1 hX SO CA
    go_wp2_with (first
      | ((with_reducible refine ld_row rb T1 ?_ ?_ ?_); (· rfl); (· rfl); (simp only [Act.put, List.setIfInBounds_toArray, List.set_cons_zero, List.set_cons_succ]))
      | ((with_reducible refine st_row (cs := X) B2.out LO.out T1 O1.out ?_ ?_ ?_); (· rfl); (· rfl); (simp only [Act.put, List.setIfInBounds_toArray, List.set_cons_zero, List.set_cons_succ]); (generalize W.setCells (w.heap.size + 1) 0 X = WW at *)))
    refine ret_cell (p := 2) rfl rfl C5.out Try.underlying25 rfl (by rw [T1.2]) rfl ⟨rfl, HBZ.out⟩
/-- what In answers: k is where the order stands, b whether its state is among those. -/
def inV (L : List Int) (k : Int) (b : Bool) : List Int := if 0 ≤ k then (if b = true then ord7 L k.toNat else [0, 0, 0, 0, 0, 0, 0]) else [0, 0, 0, 0, 0, 0, 0]
def inC (k : Int) (b : Bool) : Int := if 0 ≤ k then (if b = true then 0 else 9) else 14
theorem inV_len (L : List Int) (k : Int) (b : Bool) : (inV L k b).length = 7 := by unfold inV; split <;> (try split) <;> rfl
set_option maxHeartbeats 4000000 in
theorem in_any (s p u : List Int) (a : Option Addr) (n c : Nat) (L : List Int) (r q : Int) (a2 : Option Addr) (m c2 : Nat) (Z : List Int) (w : World) (h8 : Hid (L8 s p u)) (HS : Hid (Sl w a n 7 (ints L))) (hf : Hid (∀ k, fits (L.getD k 0) = true)) (hn : n * 56 ≤ 140737488355328) (hr : fits r = true) (hq : fits q = true) (HS2 : Hid (Sl w a2 m 1 (ints Z))) (hm : m ≤ 9223372036854775807) :
    Calls Try.prog 14 #[.agg (bkc s p u (.slice a n c)).toArray, .agg #[.int .i64 r, .int .i64 q], .slice a2 m c2] w fun e w' => e = .returned (.tuple #[.agg (ints (inV L (idxTo L r q n) (inTo Z (L.getD ((idxTo L r q n).toNat * 7 + 6) 0) m))).toArray, .int .i64 (inC (idxTo L r q n) (inTo Z (L.getD ((idxTo L r q n).toNat * 7 + 6) 0) m))]) ∧ Below w.heap.size w w' := by
  have A1 := ((Blk.new w (bkc s p u (.slice a n c)).toArray 25).alloc (.cells #[.int .i64 r, .int .i64 q] 27)).alloc (.cells #[.int .i64 0, .int .i64 0, .int .i64 0, .int .i64 0, .int .i64 0, .int .i64 0, .int .i64 0] 29)
  have B1 := (Blk.new (w.alloc (.cells (bkc s p u (.slice a n c)).toArray 25)) #[.int .i64 r, .int .i64 q] 27).alloc (.cells #[.int .i64 0, .int .i64 0, .int .i64 0, .int .i64 0, .int .i64 0, .int .i64 0, .int .i64 0] 29)
  have D1 : Blk (((w.alloc (.cells (bkc s p u (.slice a n c)).toArray 25)).alloc (.cells #[.int .i64 r, .int .i64 q] 27)).alloc (.cells #[.int .i64 0, .int .i64 0, .int .i64 0, .int .i64 0, .int .i64 0, .int .i64 0, .int .i64 0] 29)) ((w.alloc (.cells (bkc s p u (.slice a n c)).toArray 25)).alloc (.cells #[.int .i64 r, .int .i64 q] 27)).heap.size (ints [0, 0, 0, 0, 0, 0, 0]) 29 := Blk.new ((w.alloc (.cells (bkc s p u (.slice a n c)).toArray 25)).alloc (.cells #[.int .i64 r, .int .i64 q] 27)) #[.int .i64 0, .int .i64 0, .int .i64 0, .int .i64 0, .int .i64 0, .int .i64 0, .int .i64 0] 29
  rw [List.toList_toArray] at A1
  rw [show (w.alloc (.cells (bkc s p u (.slice a n c)).toArray 25)).heap.size = w.heap.size + 1 by simp] at B1
  rw [show ((w.alloc (.cells (bkc s p u (.slice a n c)).toArray 25)).alloc (.cells #[.int .i64 r, .int .i64 q] 27)).heap.size = w.heap.size + 2 by simp] at D1
  have hb1 := (((Below.refl w.heap.size w).alloc (Nat.le_refl _) (.cells (bkc s p u (.slice a n c)).toArray 25)).alloc (by simp) (.cells #[.int .i64 r, .int .i64 q] 27)).alloc (by simp; omega) (.cells #[.int .i64 0, .int .i64 0, .int .i64 0, .int .i64 0, .int .i64 0, .int .i64 0, .int .i64 0] 29)
  have TB := rowB_of (o := .slice a n c) h8.out
  have HS1 := Lib.hid (HS.out.keep hb1)
  have HS3 := Lib.hid (HS2.out.keep hb1)
  have FC := Lib.hid (fun w' (hs : Sl w' a n 7 (ints L)) => find_any s p u a n c L r q w' h8 (Lib.hid hs) hf hn hr hq)
  have HBD := Lib.hid (idx_bd L r q n)
  have HL := Lib.hid HS.out.1
  have TI : RowT 27 ([.int .i64 r, .int .i64 q] : List Value).length := rowI
  have TZ : RowT 29 (ints [0, 0, 0, 0, 0, 0, 0]).length := rowO
  have OZ : Hid (∀ x ∈ ints [0, 0, 0, 0, 0, 0, 0], x.oneCell' = true) := Lib.hid fun x hx => ints_one hx
  clear HS HS2 hr hq
  generalize (bkc s p u (.slice a n c)) = X at *
  generalize idxTo L r q n = k at *
  go_enter Try.func14, Try.ntmps14
  go_upto_region 1 with fail
  generalize (((w.alloc (.cells X.toArray 25)).alloc (.cells #[.int .i64 r, .int .i64 q] 27)).alloc (.cells #[.int .i64 0, .int .i64 0, .int .i64 0, .int .i64 0, .int .i64 0, .int .i64 0, .int .i64 0] 29)) = W at *
  have rb : W.rangeAt w.heap.size 0 X := A1.range 0 _ (by simp)
  have ri : W.rangeAt (w.heap.size + 1) 0 [.int .i64 r, .int .i64 q] := B1.range 0 _ rfl
  have HD := Lib.hid D1
  have HB := Lib.hid hb1
  clear A1 B1 D1 hb1
  go_wp2_with (first
    | ((with_reducible refine ld_row rb TB ?_ ?_ ?_); (· rfl); (· rfl); (simp only [Act.put, List.setIfInBounds_toArray, List.set_cons_zero, List.set_cons_succ]))
    | ((with_reducible refine ld_row ri TI ?_ ?_ ?_); (· rfl); (· rfl); (simp only [Act.put, List.setIfInBounds_toArray, List.set_cons_zero, List.set_cons_succ])))
  refine (FC.out _ HS1.out).mono ?_
  rintro e w2 ⟨rfl, hb⟩
  have TV : RowT 29 (ints (findV L k)).length := by rw [ints_len, findV_len]; exact rowO
  have OV : Hid (∀ x ∈ ints (findV L k), x.oneCell' = true) := Lib.hid fun x hx => ints_one hx
  have LV : Hid ((ints (findV L k)).length = 7) := Lib.hid (by rw [ints_len, findV_len])
  have HB2 := HB.out.trans (hb.mono HB.out.size)
  have HB3 := Lib.hid (HB2.alloc HB2.size (.cells (ints (findV L k)).toArray 29))
  have HD3 := Lib.hid ((HD.out.keep hb HD.out.lt).alloc (.cells (ints (findV L k)).toArray 29))
  have HV3 : Hid (Blk (w2.alloc (.cells (ints (findV L k)).toArray 29)) w2.heap.size (ints (findV L k)) 29) := Lib.hid (Blk.new w2 (ints (findV L k)).toArray 29)
  have HS4 := Lib.hid ((HS3.out.keep hb).keep ((Below.refl w2.heap.size w2).alloc (Nat.le_refl _) (.cells (ints (findV L k)).toArray 29)))
  have hgv : w.heap.size + 2 < w2.heap.size := Nat.lt_of_lt_of_le HD.out.lt hb.size
  clear hb rb ri HD HB HB2 HS1 HS3
  by_cases hk : 0 ≤ k
  · have hv6 : (ints (findV L k))[6]? = some (.int .i64 (L.getD (k.toNat * 7 + 6) 0)) := by unfold findV; rw [if_pos hk]; rfl
    have HF : Hid (findB k = true) := Lib.hid (decide_eq_true hk)
    have HV6 := Lib.hid hv6
    have HFV : Hid (findV L k = ord7 L k.toNat) := Lib.hid (by unfold findV; rw [if_pos hk])
    have CT := Lib.hid (contains_any a2 m c2 Z (L.getD (k.toNat * 7 + 6) 0) (w2.alloc (.cells (ints (findV L k)).toArray 29)) HS4 hm)
    have E1 : Hid (inV L k (inTo Z (L.getD (k.toNat * 7 + 6) 0) m) = if inTo Z (L.getD (k.toNat * 7 + 6) 0) m = true then ord7 L k.toNat else [0, 0, 0, 0, 0, 0, 0]) := Lib.hid (by unfold inV; rw [if_pos hk])
    have E2 : Hid (inC k (inTo Z (L.getD (k.toNat * 7 + 6) 0) m) = if inTo Z (L.getD (k.toNat * 7 + 6) 0) m = true then 0 else 9) := Lib.hid (by unfold inC; rw [if_pos hk])
    clear hv6 hk
    rw [HF.out]
    generalize hYY : ints (findV L k) = VV at *
    have HYY : Hid (ints (ord7 L k.toNat) = VV) := Lib.hid (by rw [← HFV.out]; exact hYY)
    clear hYY
    go_upto_region 2 with (first
      | ((with_reducible refine st_row_new (cs := VV) TV OV.out ?_ ?_ ?_ ?_); (· first | rfl | simp); (· rfl); (· exact LV.out.symm); (simp only [Act.put, List.setIfInBounds_toArray, List.set_cons_zero, List.set_cons_succ])))
    generalize hW3 : w2.alloc (.cells VV.toArray 29) = w3 at *
    generalize hgv : w2.heap.size = gv at *
    clear hW3
    have c6 := (HV3.out.cell 6).trans HV6.out
    generalize hin : inTo Z (L.getD (k.toNat * 7 + 6) 0) m = b at *
    have HIN := Lib.hid hin
    clear hin
    generalize hst : L.getD (k.toNat * 7 + 6) 0 = st at *
    have HST := Lib.hid hst
    clear hst
    go_wp2_with fail
    refine CT.out.mono ?_
    rintro e w' ⟨rfl, rfl⟩
    rcases b with _ | _
    · rw [if_neg (by decide)] at E1 E2
      clear c6
      have C5 := Lib.hid (HD3.out.setAll (ints [0, 0, 0, 0, 0, 0, 0]) rfl)
      have HBZ := Lib.hid (below_sets (show w.heap.size ≤ w.heap.size + 2 by omega) (ints [0, 0, 0, 0, 0, 0, 0]) 0 _ HB3.out)
      generalize hX : ints [0, 0, 0, 0, 0, 0, 0] = Y at *
      have HX := Lib.hid hX
      have HZ : Hid ((#[.int .i64 0, .int .i64 0, .int .i64 0, .int .i64 0, .int .i64 0, .int .i64 0, .int .i64 0] : Array Value) = Y.toArray) := Lib.hid (by rw [← hX]; rfl)
      clear hX
      go_upto_region 5 with fail
      go_wp2_with (first
        | ((with_reducible refine st_row (cs := Y) HD3.out rfl TZ OZ.out ?_ ?_ ?_); (· rfl); (· exact congrArg Value.agg HZ.out); (simp only [Act.put, List.setIfInBounds_toArray, List.set_cons_zero, List.set_cons_succ]); (generalize w3.setCells (w.heap.size + 2) 0 Y = WW at *)))
      refine ret_cell_tmp (p := 6) (q := 7) rfl rfl rfl C5.out Try.underlying29 rfl (by rw [TZ.2]) rfl ⟨by rw [HST.out, HIN.out, E1.out, E2.out, HX.out]; rfl, HBZ.out⟩
    · rw [if_pos rfl] at E1 E2
      have rv : w3.rangeAt gv 0 VV := HV3.out.range 0 _ (by simp)
      have LO : Hid ((ints [0, 0, 0, 0, 0, 0, 0]).length = VV.length) := Lib.hid (by rw [LV.out]; rfl)
      have C5 := Lib.hid (HD3.out.setAll VV LO.out.symm)
      have HBZ := Lib.hid (below_sets (show w.heap.size ≤ w.heap.size + 2 by omega) VV 0 _ HB3.out)
      go_wp2_with (first
        | ((with_reducible refine ld_row rv TV ?_ ?_ ?_); (· rfl); (· rfl); (simp only [Act.put, List.setIfInBounds_toArray, List.set_cons_zero, List.set_cons_succ]))
        | ((with_reducible refine st_row (cs := VV) HD3.out LO.out TV OV.out ?_ ?_ ?_); (· rfl); (· rfl); (simp only [Act.put, List.setIfInBounds_toArray, List.set_cons_zero, List.set_cons_succ]); (generalize w3.setCells (w.heap.size + 2) 0 VV = WW at *)))
      refine ret_cell_tmp (p := 6) (q := 7) rfl rfl rfl C5.out Try.underlying29 rfl (by rw [TV.2]) rfl ⟨by rw [HST.out, HIN.out, E1.out, E2.out, HYY.out]; rfl, HBZ.out⟩
  · have HF : Hid (findB k = false) := Lib.hid (decide_eq_false hk)
    have HFV : Hid (findV L k = [0, 0, 0, 0, 0, 0, 0]) := Lib.hid (by unfold findV; rw [if_neg hk])
    have E1 : Hid (inV L k (inTo Z (L.getD (k.toNat * 7 + 6) 0) m) = [0, 0, 0, 0, 0, 0, 0]) := Lib.hid (by unfold inV; rw [if_neg hk])
    have E2 : Hid (inC k (inTo Z (L.getD (k.toNat * 7 + 6) 0) m) = 14) := Lib.hid (by unfold inC; rw [if_neg hk])
    clear hk
    rw [HF.out]
    generalize hVV : ints (findV L k) = VV at *
    clear hVV
    go_upto_region 2 with (first
      | ((with_reducible refine st_row_new (cs := VV) TV OV.out ?_ ?_ ?_ ?_); (· first | rfl | simp); (· rfl); (· exact LV.out.symm); (simp only [Act.put, List.setIfInBounds_toArray, List.set_cons_zero, List.set_cons_succ])))
    generalize hW3 : w2.alloc (.cells VV.toArray 29) = w3 at *
    generalize hgv : w2.heap.size = gv at *
    clear hW3
    have C5 := Lib.hid (HD3.out.setAll (ints [0, 0, 0, 0, 0, 0, 0]) rfl)
    have HBZ := Lib.hid (below_sets (show w.heap.size ≤ w.heap.size + 2 by omega) (ints [0, 0, 0, 0, 0, 0, 0]) 0 _ HB3.out)
    generalize hX : ints [0, 0, 0, 0, 0, 0, 0] = Y at *
    have HX := Lib.hid hX
    have HZ : Hid ((#[.int .i64 0, .int .i64 0, .int .i64 0, .int .i64 0, .int .i64 0, .int .i64 0, .int .i64 0] : Array Value) = Y.toArray) := Lib.hid (by rw [← hX]; rfl)
    clear hX
    go_upto_region 3 with fail
    go_wp2_with (first
      | ((with_reducible refine st_row (cs := Y) HD3.out rfl TZ OZ.out ?_ ?_ ?_); (· rfl); (· exact congrArg Value.agg HZ.out); (simp only [Act.put, List.setIfInBounds_toArray, List.set_cons_zero, List.set_cons_succ]); (generalize w3.setCells (w.heap.size + 2) 0 Y = WW at *)))
    refine ret_cell_tmp (p := 6) (q := 7) rfl rfl rfl C5.out Try.underlying29 rfl (by rw [TZ.2]) rfl ⟨by rw [E1.out, E2.out, HX.out]; rfl, HBZ.out⟩
end Go.Proofs.Ytlhebimfkdcidaa
