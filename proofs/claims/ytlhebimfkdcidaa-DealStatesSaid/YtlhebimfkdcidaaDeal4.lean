/- Orders: found by Id. -/
import Derived.Test.YtlhebimfkdcidaaDeal3
import Derived.Test.YtlhebimfkdcidaaLd
import Derived.Test.YtlhebimfkdcidaaBookRd
namespace Go.Proofs.Ytlhebimfkdcidaa
set_option linter.unusedVariables false
set_option linter.unusedSimpArgs false
open Go.ChangeShapes Go.WideShapes Go.ChangeAt Go.RowKit
section
variable {ops : Array Oper} {R : Act → Prop} {rest : List Oper} {a : Act} {w : World} {ty : TypeId} {ps : String} {af : Array Edge} {gd : Option (Nat × Bool)}
theorem lds_row {T g o d t : Nat} {cs : List Value} (hb : w.rangeAt g o cs) (hT : RowT T cs.length)
    (hx : a.eval (.tmp t) = .pointer (some ⟨g, o, none⟩)) (hw : Region.wanted ⟨some d, .load T (.tmp t), ty, ps, af, gd⟩ (yielded ops a.tmps) = true)
    (h : wpStill Try.prog ops w R rest (a.put (some d) (.agg cs.toArray))) : wpStill Try.prog ops w R (⟨some d, .load T (.tmp t), ty, ps, af, gd⟩ :: rest) a := by
  obtain ⟨⟨td, h1, h2⟩, h3⟩ := hT
  exact st_run hw (run_op_load rfl hx hb h1 h2 h3) h
theorem cmps_row {T rt d t t' : Nat} {op : BinOp} {xs ys : Array Value} {v : Value} (hm : Try.prog.eqGuardType Try.prog.depth T = false) (NE : ∀ w, (binOp op T (.agg xs) (.agg ys)).run Try.prog w = .ok v w)
    (hx : a.eval (.tmp t) = .agg xs) (hy : a.eval (.tmp t') = .agg ys) (hw : Region.wanted ⟨some d, .binOp op T (.tmp t) (.tmp t') rt, ty, ps, af, gd⟩ (yielded ops a.tmps) = true)
    (h : wpStill Try.prog ops w R rest (a.put (some d) v)) : wpStill Try.prog ops w R (⟨some d, .binOp op T (.tmp t) (.tmp t') rt, ty, ps, af, gd⟩ :: rest) a :=
  st_run hw (run_op_cmp rfl hx hy hm (NE w)) h
end
theorem rowB_of {s p u : List Int} {o : Value} (h : L8 s p u) : RowT 25 (bkc s p u o).length := by rw [bkc_len h]; exact ⟨⟨_, Try.underlying25, rfl⟩, size_book⟩
theorem range_id {w : World} {b o : Nat} {L : List Int} {i : Nat} (h : w.rangeAt b o (ints (ord7 L i))) : w.rangeAt b o (ints [L.getD (i * 7) 0, L.getD (i * 7 + 1) 0]) := fun j v hv => h j v (by
  match j, hv with
  | 0, hv => exact hv
  | 1, hv => exact hv
  | j + 2, hv => cases hv)
/-- what Find answers. -/
def findV (L : List Int) (k : Int) : List Int := if 0 ≤ k then ord7 L k.toNat else [0, 0, 0, 0, 0, 0, 0]
def findB (k : Int) : Bool := decide (0 ≤ k)
theorem findV_len (L : List Int) (k : Int) : (findV L k).length = 7 := by unfold findV; split <;> rfl
set_option maxHeartbeats 2000000 in
theorem index_any (s p u : List Int) (a : Option Addr) (n c : Nat) (L : List Int) (r q : Int) (w : World) (h8 : Hid (L8 s p u)) (HS : Hid (Sl w a n 7 (ints L))) (hf : Hid (∀ k, fits (L.getD k 0) = true)) (hn : n * 56 ≤ 140737488355328) (hr : fits r = true) (hq : fits q = true) :
    Calls Try.prog 19 #[.agg (bkc s p u (.slice a n c)).toArray, .agg #[.int .i64 r, .int .i64 q]] w fun e w' => e = .returned (.int .i64 (idxTo L r q n)) ∧ Below w.heap.size w w' := by
  have A1 := (Blk.new w (bkc s p u (.slice a n c)).toArray 25).alloc (.cells #[.int .i64 r, .int .i64 q] 27)
  have B1 := Blk.new (w.alloc (.cells (bkc s p u (.slice a n c)).toArray 25)) #[.int .i64 r, .int .i64 q] 27
  rw [List.toList_toArray] at A1
  rw [show (w.alloc (.cells (bkc s p u (.slice a n c)).toArray 25)).heap.size = w.heap.size + 1 by simp] at B1
  have hb1 := ((Below.refl w.heap.size w).alloc (Nat.le_refl _) (.cells (bkc s p u (.slice a n c)).toArray 25)).alloc (by simp) (.cells #[.int .i64 r, .int .i64 q] 27)
  have CA := Lib.hid (bkc_o h8.out (.slice a n c))
  have HR := Lib.hid hr
  have HQ := Lib.hid hq
  clear hr hq
  generalize (bkc s p u (.slice a n c)) = X at *
  go_enter Try.func19, Try.ntmps19
  go_upto_region 1 with fail
  generalize ((w.alloc (.cells X.toArray 25)).alloc (.cells #[.int .i64 r, .int .i64 q] 27)) = W at *
  have ca := (A1.cell 24).trans CA.out
  have IX := Lib.hid (idxf_any a n c L r q (w.heap.size + 1) W (Lib.hid (HS.out.keep hb1)) hf HR.out HQ.out (Lib.hid B1) hn)
  have HB := Lib.hid hb1
  clear A1 B1 hb1
  go_wp2_with fail
  refine IX.out.mono ?_
  rintro e w2 ⟨rfl, hb⟩
  have HB2 := HB.out.trans (hb.mono HB.out.size)
  go_wp2_with fail
  go_ret
  exact ⟨rfl, HB2⟩
set_option maxHeartbeats 4000000 in
theorem find_any (s p u : List Int) (a : Option Addr) (n c : Nat) (L : List Int) (r q : Int) (w : World) (h8 : Hid (L8 s p u)) (HS : Hid (Sl w a n 7 (ints L))) (hf : Hid (∀ k, fits (L.getD k 0) = true)) (hn : n * 56 ≤ 140737488355328) (hr : fits r = true) (hq : fits q = true) :
    Calls Try.prog 11 #[.agg (bkc s p u (.slice a n c)).toArray, .agg #[.int .i64 r, .int .i64 q]] w fun e w' => e = .returned (.tuple #[.agg (ints (findV L (idxTo L r q n))).toArray, .bool (findB (idxTo L r q n))]) ∧ Below w.heap.size w w' := by
  have A1 := ((Blk.new w (bkc s p u (.slice a n c)).toArray 25).alloc (.cells #[.int .i64 r, .int .i64 q] 27)).alloc (.cells #[.int .i64 0, .int .i64 0, .int .i64 0, .int .i64 0, .int .i64 0, .int .i64 0, .int .i64 0] 29)
  have B1 := (Blk.new (w.alloc (.cells (bkc s p u (.slice a n c)).toArray 25)) #[.int .i64 r, .int .i64 q] 27).alloc (.cells #[.int .i64 0, .int .i64 0, .int .i64 0, .int .i64 0, .int .i64 0, .int .i64 0, .int .i64 0] 29)
  have D1 : Blk (((w.alloc (.cells (bkc s p u (.slice a n c)).toArray 25)).alloc (.cells #[.int .i64 r, .int .i64 q] 27)).alloc (.cells #[.int .i64 0, .int .i64 0, .int .i64 0, .int .i64 0, .int .i64 0, .int .i64 0, .int .i64 0] 29)) ((w.alloc (.cells (bkc s p u (.slice a n c)).toArray 25)).alloc (.cells #[.int .i64 r, .int .i64 q] 27)).heap.size (ints [0, 0, 0, 0, 0, 0, 0]) 29 := Blk.new ((w.alloc (.cells (bkc s p u (.slice a n c)).toArray 25)).alloc (.cells #[.int .i64 r, .int .i64 q] 27)) #[.int .i64 0, .int .i64 0, .int .i64 0, .int .i64 0, .int .i64 0, .int .i64 0, .int .i64 0] 29
  rw [List.toList_toArray] at A1
  rw [show (w.alloc (.cells (bkc s p u (.slice a n c)).toArray 25)).heap.size = w.heap.size + 1 by simp] at B1
  rw [show ((w.alloc (.cells (bkc s p u (.slice a n c)).toArray 25)).alloc (.cells #[.int .i64 r, .int .i64 q] 27)).heap.size = w.heap.size + 2 by simp] at D1
  have hb1 := (((Below.refl w.heap.size w).alloc (Nat.le_refl _) (.cells (bkc s p u (.slice a n c)).toArray 25)).alloc (by simp) (.cells #[.int .i64 r, .int .i64 q] 27)).alloc (by simp; omega) (.cells #[.int .i64 0, .int .i64 0, .int .i64 0, .int .i64 0, .int .i64 0, .int .i64 0, .int .i64 0] 29)
  have CA := Lib.hid (bkc_o h8.out (.slice a n c))
  have TB := rowB_of (o := .slice a n c) h8.out
  have HS1 := Lib.hid (HS.out.keep hb1)
  have IXC := Lib.hid (fun w' (hs : Sl w' a n 7 (ints L)) => index_any s p u a n c L r q w' h8 (Lib.hid hs) hf hn hr hq)
  have HBD := Lib.hid (idx_bd L r q n)
  have HL := Lib.hid HS.out.1
  have TI : RowT 27 ([.int .i64 r, .int .i64 q] : List Value).length := rowI
  have TZ : RowT 29 (ints [0, 0, 0, 0, 0, 0, 0]).length := rowO
  have OZ : Hid (∀ x ∈ ints [0, 0, 0, 0, 0, 0, 0], x.oneCell' = true) := Lib.hid fun x hx => ints_one hx
  clear HS hr hq
  generalize (bkc s p u (.slice a n c)) = X at *
  generalize idxTo L r q n = k at *
  go_enter Try.func11, Try.ntmps11
  go_upto_region 1 with fail
  generalize (((w.alloc (.cells X.toArray 25)).alloc (.cells #[.int .i64 r, .int .i64 q] 27)).alloc (.cells #[.int .i64 0, .int .i64 0, .int .i64 0, .int .i64 0, .int .i64 0, .int .i64 0, .int .i64 0] 29)) = W at *
  have rb : W.rangeAt w.heap.size 0 X := A1.range 0 _ (by simp)
  have ri : W.rangeAt (w.heap.size + 1) 0 [.int .i64 r, .int .i64 q] := B1.range 0 _ rfl
  have HA := Lib.hid A1
  have HD := Lib.hid D1
  have HB := Lib.hid hb1
  clear A1 B1 D1 hb1
  go_wp2_with (first
    | ((with_reducible refine ld_row rb TB ?_ ?_ ?_); (· rfl); (· rfl); (simp only [Act.put, List.setIfInBounds_toArray, List.set_cons_zero, List.set_cons_succ]))
    | ((with_reducible refine ld_row ri TI ?_ ?_ ?_); (· rfl); (· rfl); (simp only [Act.put, List.setIfInBounds_toArray, List.set_cons_zero, List.set_cons_succ])))
  refine (IXC.out _ HS1.out).mono ?_
  rintro e w2 ⟨rfl, hb⟩
  have HB2 := Lib.hid (HB.out.trans (hb.mono HB.out.size))
  have HA2 := Lib.hid (HA.out.keep hb HA.out.lt)
  have HD2 := Lib.hid (HD.out.keep hb HD.out.lt)
  have HS2 := Lib.hid (HS1.out.keep hb)
  clear hb rb ri HA HD HB HS1
  have ca := (HA2.out.cell 24).trans CA.out
  by_cases hk : 0 ≤ k
  · obtain ⟨j, rfl⟩ := Int.eq_ofNat_of_zero_le hk
    have hj : j < n := by have := HBD.out; omega
    obtain ⟨b, off, rfl, hra, hlc⟩ := HS2.out.chunk hj (by decide)
    rw [chunk7 HL.out hj] at hra
    have TO : RowT 29 (ints (ord7 L j)).length := rowO
    have OO : Hid (∀ x ∈ ints (ord7 L j), x.oneCell' = true) := Lib.hid fun x hx => ints_one hx
    have E1 : Hid (findV L (j : Int) = ord7 L j) := Lib.hid (by unfold findV; rw [if_pos hk]; rfl)
    have E2 : Hid (findB (j : Int) = true) := Lib.hid (decide_eq_true hk)
    have C5 := Lib.hid (HD2.out.setAll (ints (ord7 L j)) rfl)
    have HBZ := Lib.hid (below_sets (show w.heap.size ≤ w.heap.size + 2 by omega) (ints (ord7 L j)) 0 _ HB2.out)
    have LO : Hid ((ints [0, 0, 0, 0, 0, 0, 0]).length = (ints (ord7 L j)).length) := Lib.hid rfl
    have LL : Hid ((ints (ord7 L j)).length = 7) := Lib.hid rfl
    generalize hX : ints (ord7 L j) = Y at *
    have HX := Lib.hid hX
    have hj0 : (0 : Int) ≤ j := hk
    have hjn : (j : Int) < n := by omega
    clear hX hk hlc
    go_wp2_with (first
      | ((with_reducible refine ld_row hra TO ?_ ?_ ?_); (· rfl); (· rfl); (simp only [Act.put, List.setIfInBounds_toArray, List.set_cons_zero, List.set_cons_succ]))
      | ((with_reducible refine st_row (cs := Y) HD2.out LO.out TO OO.out ?_ ?_ ?_); (· rfl); (· rfl); (simp only [Act.put, List.setIfInBounds_toArray, List.set_cons_zero, List.set_cons_succ]); (generalize w2.setCells (w.heap.size + 2) 0 Y = WW at *)))
    refine ret_cell_tmp (p := 4) (q := 5) rfl rfl rfl C5.out Try.underlying29 rfl (by rw [TO.2]) rfl ⟨by rw [E1.out, E2.out, HX.out]; rfl, HBZ.out⟩
  · have E1 : Hid (findV L k = [0, 0, 0, 0, 0, 0, 0]) := Lib.hid (by unfold findV; rw [if_neg hk])
    have E2 : Hid (findB k = false) := Lib.hid (decide_eq_false hk)
    have hk' : k < 0 := by omega
    have C5 := Lib.hid (HD2.out.setAll (ints [0, 0, 0, 0, 0, 0, 0]) rfl)
    have HBZ := Lib.hid (below_sets (show w.heap.size ≤ w.heap.size + 2 by omega) (ints [0, 0, 0, 0, 0, 0, 0]) 0 _ HB2.out)
    have LO : Hid ((ints [0, 0, 0, 0, 0, 0, 0]).length = (ints [0, 0, 0, 0, 0, 0, 0]).length) := Lib.hid rfl
    generalize hX : ints [0, 0, 0, 0, 0, 0, 0] = Y at *
    have HX := Lib.hid hX
    have HZ : Hid ((#[.int .i64 0, .int .i64 0, .int .i64 0, .int .i64 0, .int .i64 0, .int .i64 0, .int .i64 0] : Array Value) = Y.toArray) := Lib.hid (by rw [← hX]; rfl)
    clear hX hk
    go_upto_region 3 with fail
    go_wp2_with (first
      | ((with_reducible refine st_row (cs := Y) HD2.out rfl TZ OZ.out ?_ ?_ ?_); (· rfl); (· exact congrArg Value.agg HZ.out); (simp only [Act.put, List.setIfInBounds_toArray, List.set_cons_zero, List.set_cons_succ]); (generalize w2.setCells (w.heap.size + 2) 0 Y = WW at *)))
    refine ret_cell_tmp (p := 4) (q := 5) rfl rfl rfl C5.out Try.underlying29 rfl (by rw [TZ.2]) rfl ⟨by rw [E1.out, E2.out, HX.out]; rfl, HBZ.out⟩
set_option maxHeartbeats 4000000 in
theorem rfind_any (s p u : List Int) (a : Option Addr) (n c : Nat) (L : List Int) (r q : Int) (w : World) (h8 : Hid (L8 s p u)) (HS : Hid (Sl w a n 7 (ints L))) (hf : Hid (∀ k, fits (L.getD k 0) = true)) (hn : n * 56 ≤ 140737488355328) (hr : fits r = true) (hq : fits q = true) :
    Calls Try.prog 10 #[.agg (bkc s p u (.slice a n c)).toArray, .agg #[.int .i64 r, .int .i64 q]] w fun e w' => e = .returned (.int .i64 (idxTo L r q n)) ∧ Below w.heap.size w w' := by
  have A1 := (Blk.new w (bkc s p u (.slice a n c)).toArray 25).alloc (.cells #[.int .i64 r, .int .i64 q] 27)
  have B1 : Blk ((w.alloc (.cells (bkc s p u (.slice a n c)).toArray 25)).alloc (.cells #[.int .i64 r, .int .i64 q] 27)) (w.alloc (.cells (bkc s p u (.slice a n c)).toArray 25)).heap.size (ints [r, q]) 27 := Blk.new (w.alloc (.cells (bkc s p u (.slice a n c)).toArray 25)) #[.int .i64 r, .int .i64 q] 27
  rw [List.toList_toArray] at A1
  rw [show (w.alloc (.cells (bkc s p u (.slice a n c)).toArray 25)).heap.size = w.heap.size + 1 by simp] at B1
  have hb1 := ((Below.refl w.heap.size w).alloc (Nat.le_refl _) (.cells (bkc s p u (.slice a n c)).toArray 25)).alloc (by simp) (.cells #[.int .i64 r, .int .i64 q] 27)
  have CA := Lib.hid (bkc_o h8.out (.slice a n c))
  have HS1 := Lib.hid (HS.out.keep hb1)
  have HL := Lib.hid HS.out.1
  have NEQ := Lib.hid (fun i w => id_eql (hf.out (i * 7)) (hf.out (i * 7 + 1)) hr hq w)
  have ST := Lib.hid (fun i => @idx_step L r q i)
  have HT := Lib.hid (fun i (h : idxTo L r q i = -1) (hb : hitB L r q i = true) => idx_hit h hb n)
  have Z0 : Hid (idxTo L r q 0 = -1) := Lib.hid rfl
  have TC : RowT 27 (ints [r, q]).length := rowI
  clear HS hr hq
  generalize (bkc s p u (.slice a n c)) = X at *
  go_enter Try.func10, Try.ntmps10
  go_upto_region 1 with fail
  generalize ((w.alloc (.cells X.toArray 25)).alloc (.cells #[.int .i64 r, .int .i64 q] 27)) = W at *
  have HA := Lib.hid A1
  have HC := Lib.hid B1
  have HB := Lib.hid hb1
  have hlA := A1.lt
  have hlC := B1.lt
  clear A1 B1 hb1
  go_upto_region 2 with fail
  go_loopg [5] n (fun g s5 wr => ∃ i : Nat, g + i = n ∧ s5 = .int .i64 i ∧ Hid (Below W.heap.size W wr) ∧ Hid (idxTo L r q i = -1))
  case atStart => exact ⟨0, rfl, rfl, Lib.hid (Below.refl W.heap.size W), Z0⟩
  case round =>
    obtain ⟨i, hqi, rfl, hbr, hpre⟩ := hrel
    have c1 := ((HA.out.keep hbr.out hlA).cell 24).trans CA.out
    by_cases hi : i < n
    · obtain ⟨b, off, rfl, hra0, hlc⟩ := (HS1.out.keep hbr.out).chunk hi (by decide)
      rw [chunk7 HL.out hi] at hra0
      have hra := range_id hra0
      have hrc : wr.rangeAt (w.heap.size + 1) 0 (ints [r, q]) := (HC.out.keep hbr.out hlC).range 0 _ (by simp)
      have TI : RowT 27 (ints [L.getD (i * 7) 0, L.getD (i * 7 + 1) 0]).length := rowI
      have HH : Hid (hitB L r q i = sameB (ints [L.getD (i * 7) 0, L.getD (i * 7 + 1) 0]) (ints [r, q])) := Lib.hid rfl
      have NE := Lib.hid (NEQ.out i)
      have hs := Lib.hid (ST.out i hpre.out)
      have ht := Lib.hid (HT.out i hpre.out)
      generalize ints [L.getD (i * 7) 0, L.getD (i * 7 + 1) 0] = Y at *
      generalize ints [r, q] = Z at *
      rw [← HH.out] at NE
      have hi0 : (0 : Int) ≤ i := by omega
      have hin : (i : Int) < n := by omega
      clear hlc hra0 HH
      go_upto_region 4 with fail
      refine wp_region_still_lit (by kernel_rfl) (by kernel_rfl) ?_
      have c1' : wr.drew.cell? ⟨w.heap.size, 24, none⟩ = _ := c1
      have hra' : wr.drew.rangeAt b (off + i * 7) Y := hra
      have hrc' : wr.drew.rangeAt (w.heap.size + 1) 0 Z := hrc
      have hbr' := Lib.hid hbr.out.drew
      change wpStill _ _ (World.drew wr) (fun a' => Exit.then _ _ _ a' (World.drew wr)) _ _
      clear c1 hra hrc hbr
      generalize wr.drew = wr at *
      generalize hv : hitB L r q i = v at *
      have HV := Lib.hid hv
      clear hv
      repeat (first
        | ((with_reducible refine lds_row hra' TI ?_ ?_ ?_); (· rfl); (· rfl); (simp only [Act.put, List.setIfInBounds_toArray, List.set_cons_zero, List.set_cons_succ]))
        | ((with_reducible refine lds_row hrc' TC ?_ ?_ ?_); (· rfl); (· rfl); (simp only [Act.put, List.setIfInBounds_toArray, List.set_cons_zero, List.set_cons_succ]))
        | ((with_reducible refine cmps_row egI NE.out ?_ ?_ ?_ ?_); (· rfl); (· rfl); (· rfl); (simp only [Act.put, List.setIfInBounds_toArray, List.set_cons_zero, List.set_cons_succ]))
        | still_step)
      refine wpStill_nil ?_
      rcases v with _ | _
      · have hp2 := Lib.hid (hs.out rfl)
        clear hs ht HV
        go_wp2_with fail
        go_roundg (gk - 1)
        case measure => omega
        case rel => exact ⟨i + 1, by omega, by go_num, hbr', hp2⟩
      · have HR2 := Lib.hid (ht.out rfl hi)
        clear hs ht HV
        go_wp2_with fail
        go_ret
        exact ⟨by rw [HR2.out]; rfl, HB.out.trans (hbr'.out.mono HB.out.size)⟩
    · have hin : ¬ (i : Int) < n := by omega
      have HR2 : Hid (idxTo L r q n = -1) := Lib.hid (by
        obtain rfl : i = n := by omega
        exact hpre.out)
      go_wp2_with fail
      go_ret
      exact ⟨by rw [HR2.out]; rfl, HB.out.trans (hbr.out.mono HB.out.size)⟩
end Go.Proofs.Ytlhebimfkdcidaa
