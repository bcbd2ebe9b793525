/- The statement of orders in states. -/
import Derived.Test.YtlhebimfkdcidaaLaw15s
import Derived.Test.YtlhebimfkdcidaaLd
import Derived.Test.YtlhebimfkdcidaaBookRd
namespace Go.Proofs.Ytlhebimfkdcidaa
set_option linter.unusedVariables false
set_option linter.unusedSimpArgs false
open Go.ChangeShapes Go.WideShapes Go.ChangeAt Go.RowKit
theorem st_skip {ops : Array Oper} {rest : List Oper} {a : Act} {w : World} {R : Act → Prop} {o : Oper} (hw : Region.wanted o (yielded ops a.tmps) = false) (h : wpStill Try.prog ops w R rest (a.put o.dst undef)) : wpStill Try.prog ops w R (o :: rest) a :=
  wpStill_step fun K hK => by
    rw [if_neg (by rw [hw]; exact Bool.false_ne_true)]
    exact hK _ h
theorem ne_ord {xs ys : List Value} {b : Bool} (h : OkAll orderKinds xs) (h' : OkAll orderKinds ys) (e : (!sameB xs ys) = b) (w : World) : (binOp .neq 29 (.agg xs.toArray) (.agg ys.toArray)).run Try.prog w = .ok (.bool b) w := by rw [order_eq_run xs ys h h' w, e]
theorem ok_zero7 : OkAll orderKinds (ints [0, 0, 0, 0, 0, 0, 0]) := ok_ord (L := [0, 0, 0, 0, 0, 0, 0]) (fun k => by
  match k with
  | 0 => rfl
  | 1 => rfl
  | 2 => rfl
  | 3 => rfl
  | 4 => rfl
  | 5 => rfl
  | 6 => rfl
  | k + 7 => rfl) 0
set_option maxRecDepth 100000 in
set_option maxHeartbeats 8000000 in
theorem states_walk (s p u : List Int) (a : Option Addr) (n c : Nat) (L : List Int) (r q : Int) (a2 : Option Addr) (m c2 : Nat) (Z : List Int) (it : Int) (w : World) (h8 : Hid (L8 s p u)) (HA : Hid (Sl w a n 7 (ints L))) (hf : Hid (∀ k, fits (L.getD k 0) = true)) (hn : n ≤ c) (hr : fits r = true) (hq : fits q = true) (HZ : Hid (Sl w a2 m 1 (ints Z))) (hm : m ≤ 9223372036854775807) :
    Calls Try.prog 4 #[.agg (bkc s p u (.slice a n c)).toArray, .agg #[.int .i64 r, .int .i64 q], .slice a2 m c2, .int .i64 it] w fun e w' => e = .returned (.bool true) ∧ Below w.heap.size w w' := by
  have A1 := (Blk.new w (bkc s p u (.slice a n c)).toArray 25).alloc (.cells #[.int .i64 r, .int .i64 q] 27)
  have B1 : Blk ((w.alloc (.cells (bkc s p u (.slice a n c)).toArray 25)).alloc (.cells #[.int .i64 r, .int .i64 q] 27)) (w.alloc (.cells (bkc s p u (.slice a n c)).toArray 25)).heap.size [.int .i64 r, .int .i64 q] 27 := Blk.new (w.alloc (.cells (bkc s p u (.slice a n c)).toArray 25)) #[.int .i64 r, .int .i64 q] 27
  rw [List.toList_toArray] at A1
  rw [show (w.alloc (.cells (bkc s p u (.slice a n c)).toArray 25)).heap.size = w.heap.size + 1 by simp] at B1
  have hb1 := ((Below.refl w.heap.size w).alloc (Nat.le_refl _) (.cells (bkc s p u (.slice a n c)).toArray 25)).alloc (by simp) (.cells #[.int .i64 r, .int .i64 q] 27)
  have FA := Lib.hid (fun w' => few_any s p u a n c w' h8 hn)
  have LX := Lib.hid (bkc_len h8.out (o := .slice a n c))
  have LFX := Lib.hid (bkc_len h8.out (o := .slice a (min n 40) c))
  have CAF := Lib.hid (bkc_o h8.out (.slice a (min n 40) c))
  have OFX := Lib.hid (bkc_one_sl (s := s) (p := p) (u := u) a (min n 40) c)
  have TX := rowB_of (o := .slice a n c) h8.out
  have TFX := rowB_of (o := .slice a (min n 40) c) h8.out
  have SA := Lib.hid (fun w' (hb : Below w.heap.size w w') => (HA.out.keep hb).few7 (Nat.min_le_left n 40))
  have SZ := Lib.hid (fun w' (hb : Below w.heap.size w w') => HZ.out.keep hb)
  have hfM := Lib.hid (take_fits hf.out (min n 40 * 7))
  have hn40 : min n 40 ≤ 40 := Nat.min_le_right n 40
  generalize L.take (min n 40 * 7) = M at *
  generalize hmn : min n 40 = nn at *
  clear hmn HA HZ hn hf
  have hb56 : nn * 56 ≤ 140737488355328 := by omega
  have CIN := Lib.hid (fun w' (hb : Below w.heap.size w w') => in_any s p u a nn c M r q a2 m c2 Z w' h8 (Lib.hid (SA.out w' hb)) hfM hb56 hr hq (Lib.hid (SZ.out w' hb)) hm)
  have CRF := Lib.hid (fun w' (hb : Below w.heap.size w w') => rfind_any s p u a nn c M r q w' h8 (Lib.hid (SA.out w' hb)) hfM hb56 hr hq)
  have CHE := Lib.hid (fun w' (hb : Below w.heap.size w w') => held_any s p u a nn c M it w' h8 (Lib.hid (SA.out w' hb)) hfM hb56)
  have CCN := Lib.hid (fun w' (hb : Below w.heap.size w w') => count_any s p u a nn c M it w' h8 (Lib.hid (SA.out w' hb)) hfM hb56)
  have HBD := Lib.hid (idx_bd M r q nn)
  have TI : RowT 27 ([.int .i64 r, .int .i64 q] : List Value).length := rowI
  generalize (bkc s p u (.slice a nn c)) = FX at *
  generalize (bkc s p u (.slice a n c)) = X at *
  generalize hkk : idxTo M r q nn = k at *
  have HML := Lib.hid (fun (w' : World) (hb : Below w.heap.size w w') => (SA.out w' hb).1)
  clear hkk hr hq
  go_enter Try.func4, Try.ntmps4
  go_upto_region 1 with fail
  generalize ((w.alloc (.cells X.toArray 25)).alloc (.cells #[.int .i64 r, .int .i64 q] 27)) = W at *
  go_wp2_with fail
  refine (alive15 _).mono ?_
  rintro e w3 ⟨rfl, hb3⟩
  have HA3 := Lib.hid (A1.keep hb3 A1.lt)
  have HB3 := Lib.hid (B1.keep hb3 B1.lt)
  have HW3 := Lib.hid (hb1.trans (hb3.mono hb1.size))
  clear hb3 A1 B1 hb1
  have rx : w3.rangeAt w.heap.size 0 X := HA3.out.range 0 _ (by simp)
  go_wp2_with (first
    | ((with_reducible refine ld_row rx TX ?_ ?_ ?_); (· rfl); (· rfl); (simp only [Act.put, List.setIfInBounds_toArray, List.set_cons_zero, List.set_cons_succ])))
  refine (FA.out _).mono ?_
  rintro e w4 ⟨rfl, hb4⟩
  have HA4 := HA3.out.keep hb4 HA3.out.lt
  have HB4 := HB3.out.keep hb4 HB3.out.lt
  have HW4 := HW3.out.trans (hb4.mono HW3.out.size)
  have LXF : Hid (X.length = FX.length) := Lib.hid (by rw [LX.out, LFX.out])
  have HA5 := Lib.hid (HA4.setAll FX LXF.out.symm)
  have HB5 := Lib.hid (Blk.sets_other (g' := w.heap.size) (by omega) FX 0 _ HB4)
  have HW5 := Lib.hid (below_sets (Nat.le_refl w.heap.size) FX 0 _ HW4)
  have HA4h := Lib.hid HA4
  clear hb4 HA3 HB3 HW3 rx HA4 HB4 HW4
  go_upto_region 4 with (first
    | ((with_reducible refine st_row (cs := FX) HA4h.out LXF.out TFX OFX.out ?_ ?_ ?_); (· rfl); (· rfl); (simp only [Act.put, List.setIfInBounds_toArray, List.set_cons_zero, List.set_cons_succ])))
  generalize hw5 : w4.setCells w.heap.size 0 FX = w5 at *
  clear hw5 HA4h
  have rb : w5.rangeAt w.heap.size 0 FX := HA5.out.range 0 _ (by simp)
  have ri : w5.rangeAt (w.heap.size + 1) 0 [.int .i64 r, .int .i64 q] := HB5.out.range 0 _ rfl
  go_wp2_with (first
    | ((with_reducible refine ld_row rb TFX ?_ ?_ ?_); (· rfl); (· rfl); (simp only [Act.put, List.setIfInBounds_toArray, List.set_cons_zero, List.set_cons_succ]))
    | ((with_reducible refine ld_row ri TI ?_ ?_ ?_); (· rfl); (· rfl); (simp only [Act.put, List.setIfInBounds_toArray, List.set_cons_zero, List.set_cons_succ])))
  refine (CIN.out _ HW5.out).mono ?_
  rintro e w6 ⟨rfl, hb6⟩
  have HX7 := Lib.hid (inV_len M k (inTo Z (M.getD (k.toNat * 7 + 6) 0) m))
  have HW6 := HW5.out.trans (hb6.mono HW5.out.size)
  have HA6 := HA5.out.keep hb6 HA5.out.lt
  have HB6 := HB5.out.keep hb6 HB5.out.lt
  have HIV : Hid (inV M k (inTo Z (M.getD (k.toNat * 7 + 6) 0) m) = inV M k (inTo Z (M.getD (k.toNat * 7 + 6) 0) m)) := Lib.hid rfl
  generalize hV : inV M k (inTo Z (M.getD (k.toNat * 7 + 6) 0) m) = V at *
  have HV := Lib.hid hV
  generalize hC : inC k (inTo Z (M.getD (k.toNat * 7 + 6) 0) m) = C at *
  have HC := Lib.hid hC
  clear hV hC HIV
  have TV : RowT 29 (ints V).length := by rw [ints_len, HX7.out]; exact rowO
  have OV : Hid (∀ x ∈ ints V, x.oneCell' = true) := Lib.hid fun x hx => ints_one hx
  have LV : Hid ((ints V).length = 7) := Lib.hid (by rw [ints_len, HX7.out])
  have HW7 := Lib.hid (HW6.alloc HW6.size (.cells (ints V).toArray 29))
  have HA7 := Lib.hid (HA6.alloc (.cells (ints V).toArray 29))
  have HB7 := Lib.hid (HB6.alloc (.cells (ints V).toArray 29))
  have HV7 : Hid (Blk (w6.alloc (.cells (ints V).toArray 29)) w6.heap.size (ints V) 29) := Lib.hid (Blk.new w6 (ints V).toArray 29)
  clear hb6 HW6 HA6 HB6 HW5 HA5 HB5 rb ri CIN
  go_upto_region 5 with (first
    | ((with_reducible refine st_row_new (cs := ints V) TV OV.out ?_ ?_ ?_ ?_); (· first | rfl | simp); (· rfl); (· exact LV.out.symm); (simp only [Act.put, List.setIfInBounds_toArray, List.set_cons_zero, List.set_cons_succ])))
  generalize hw7 : w6.alloc (.cells (ints V).toArray 29) = w7 at *
  generalize hgv : w6.heap.size = gv at *
  clear hw7 hgv
  have rb : w7.rangeAt w.heap.size 0 FX := HA7.out.range 0 _ (by simp)
  have ri : w7.rangeAt (w.heap.size + 1) 0 [.int .i64 r, .int .i64 q] := HB7.out.range 0 _ rfl
  go_wp2_with (first
    | ((with_reducible refine ld_row rb TFX ?_ ?_ ?_); (· rfl); (· rfl); (simp only [Act.put, List.setIfInBounds_toArray, List.set_cons_zero, List.set_cons_succ]))
    | ((with_reducible refine ld_row ri TI ?_ ?_ ?_); (· rfl); (· rfl); (simp only [Act.put, List.setIfInBounds_toArray, List.set_cons_zero, List.set_cons_succ])))
  refine (CRF.out _ HW7.out).mono ?_
  rintro e w8 ⟨rfl, hb8⟩
  have HW8 := Lib.hid (HW7.out.trans (hb8.mono HW7.out.size))
  have HA8 := Lib.hid (HA7.out.keep hb8 HA7.out.lt)
  have HV8 := Lib.hid (HV7.out.keep hb8 HV7.out.lt)
  clear hb8 rb ri HW7 HA7 HB7 HV7 CRF
  by_cases hk : 0 ≤ k
  · obtain ⟨j, rfl⟩ := Int.eq_ofNat_of_zero_le hk
    have hj : j < nn := by have := HBD.out; omega
    have hkt : ((j : Int)).toNat = j := rfl
    rw [hkt] at HV HC
    have TS0 : Hid (inTo Z (M.getD (j * 7 + 6) 0) 0 = false) := Lib.hid rfl
    have HJO : Hid (M.getD (j * 7 + 6) 0 = M.getD (j * 7 + 6) 0) := Lib.hid rfl
    clear hkt HJO
    generalize hst : M.getD (j * 7 + 6) 0 = st at *
    have HST := Lib.hid hst
    clear hst
    have hj0 : (0 : Int) ≤ (j : Int) := by omega
    have hjn : (j : Int) < nn := by omega
    have hkb : decide ((0 : Int) ≤ (j : Int)) = true := decide_eq_true hj0
    go_upto_region 7 with fail
    go_loopg [12, 13] m (fun g s12 s13 wr => ∃ i : Nat, g + i = m ∧ s13 = .int .i64 i ∧ s12 = .bool (inTo Z st i) ∧ Hid (Below w8.heap.size w8 wr))
    case atStart => exact ⟨0, rfl, rfl, by rw [TS0.out], Lib.hid (Below.refl w8.heap.size w8)⟩
    obtain ⟨i, hqi, rfl, rfl, hbr⟩ := hrel
    have HWq := Lib.hid (HW8.out.trans (hbr.out.mono HW8.out.size))
    have HAq := Lib.hid (HA8.out.keep hbr.out HA8.out.lt)
    have HVq := Lib.hid (HV8.out.keep hbr.out HV8.out.lt)
    have ca := (HAq.out.cell 24).trans CAF.out
    obtain ⟨b, off, rfl, hra0, hlc⟩ := (SA.out wr HWq.out).chunk hj (by decide)
    have hra : wr.rangeAt b (off + j * 7) (ints (ord7 M j)) := by rw [chunk7 (HML.out wr HWq.out) hj] at hra0; exact hra0
    have c6 : wr.cell? ⟨b, off + j * 7 + 6, none⟩ = some (.int .i64 st) := by rw [← HST.out]; exact hra 6 _ rfl
    clear hra0 hlc
    by_cases hi : i < m
    · obtain ⟨b2, o2, rfl⟩ := (SZ.out wr HWq.out).some_of (by omega)
      have cz := (SZ.out wr HWq.out).int1 hi
      have hi0 : (0 : Int) ≤ i := by omega
      have him : (i : Int) < m := by omega
      have EN : Hid (inTo Z st (i + 1) = (inTo Z st i || decide (Z.getD i 0 = st))) := Lib.hid rfl
      generalize hzz : Z.getD i 0 = z at *
      clear hzz
      generalize hn1 : inTo Z st (i + 1) = b1 at *
      have HN1 := Lib.hid hn1
      clear hn1
      generalize hn0 : inTo Z st i = b0 at *
      clear hn0
      go_upto_region 9 with fail
      refine wp_region_still_lit (by kernel_rfl) (by kernel_rfl) ?_
      have ca' : wr.drew.cell? ⟨w.heap.size, 24, none⟩ = _ := ca
      have c6' : wr.drew.cell? ⟨b, off + j * 7 + 6, none⟩ = _ := c6
      have cz' : wr.drew.cell? ⟨b2, o2 + i, none⟩ = _ := cz
      have hbr' := Lib.hid hbr.out.drew
      change wpStill _ _ (World.drew wr) (fun a' => Exit.inBlock _ _ _ a' (World.drew wr)) _ _
      clear ca c6 cz hbr hra HWq HAq HVq
      generalize wr.drew = wr at *
      rcases b0 with _ | _
      · by_cases hz : z = st
        · have hzb : (z == st) = true := by rw [hz]; simp
          have HZE := Lib.hid hz
          clear hz
          repeat (first
            | (rw [hzb])
            | ((with_reducible refine st_skip ?_ ?_); (· rfl); (simp only [Act.put, List.setIfInBounds_toArray, List.set_cons_zero, List.set_cons_succ]))
            | still_step)
          refine wpStill_nil ?_
          clear hzb
          go_wp2_with fail
          go_roundg (gk - 1)
          case measure => omega
          case rel => exact ⟨i + 1, by omega, by go_num, by rw [HN1.out, EN.out, decide_eq_true HZE.out]; rfl, hbr'⟩
        · have hzb : (z == st) = false := beq_eq_false_iff_ne.2 hz
          have HZE := Lib.hid hz
          clear hz
          repeat (first
            | (rw [hzb])
            | ((with_reducible refine st_skip ?_ ?_); (· rfl); (simp only [Act.put, List.setIfInBounds_toArray, List.set_cons_zero, List.set_cons_succ]))
            | still_step)
          refine wpStill_nil ?_
          clear hzb
          go_wp2_with fail
          go_roundg (gk - 1)
          case measure => omega
          case rel => exact ⟨i + 1, by omega, by go_num, by rw [HN1.out, EN.out, decide_eq_false HZE.out]; rfl, hbr'⟩
      · repeat (first
          | ((with_reducible refine st_skip ?_ ?_); (· rfl); (simp only [Act.put, List.setIfInBounds_toArray, List.set_cons_zero, List.set_cons_succ]))
          | still_step)
        refine wpStill_nil ?_
        go_wp2_with fail
        go_roundg (gk - 1)
        case measure => omega
        case rel => exact ⟨i + 1, by omega, by go_num, by rw [HN1.out, EN.out]; rfl, hbr'⟩
    · have him : ¬ (i : Int) < m := by omega
      obtain rfl : i = m := by omega
      have hjl : ¬ (j : Int) < 0 := by omega
      have hkl : decide ((j : Int) < 0) = false := decide_eq_false hjl
      have TO : RowT 29 (ints (ord7 M j)).length := rowO
      have NEZ := Lib.hid (fun w => ne_ord (b := false) ok_zero7 ok_zero7 (by rw [sameB_refl]; rfl) w)
      have NEO := Lib.hid (fun w => ne_ord (b := false) (ok_ord hfM.out j) (ok_ord hfM.out j) (by rw [sameB_refl]; rfl) w)
      rcases hb : inTo Z st i with _ | _
      · have E1 : V = [0, 0, 0, 0, 0, 0, 0] := by rw [← HV.out, hb]; unfold inV; rw [if_pos hk]; rfl
        have E2 : C = 9 := by rw [← HC.out, hb]; unfold inC; rw [if_pos hk]; rfl
        subst E1 E2
        clear hb NEO
        go_upto_region 10 with fail
        refine wp_region_still_lit (by kernel_rfl) (by kernel_rfl) ?_
        have HAn := Lib.hid HAq.out.drew
        have HVn := Lib.hid HVq.out.drew
        have HWn := Lib.hid HWq.out.drew
        change wpStill _ _ (World.drew wr) (fun a' => Exit.then _ _ _ a' (World.drew wr)) _ _
        clear c6 hra ca hbr
        generalize wr.drew = wn at *
        have rv : wn.rangeAt gv 0 (ints [0, 0, 0, 0, 0, 0, 0]) := HVn.out.range 0 _ (by simp)
        have ca := (HAn.out.cell 24).trans CAF.out
        repeat (first
          | (rw [hkb])
          | (rw [hkl])
          | ((with_reducible refine st_skip ?_ ?_); (· rfl); (simp only [Act.put, List.setIfInBounds_toArray, List.set_cons_zero, List.set_cons_succ]))
          | ((with_reducible refine lds_row rv TV ?_ ?_ ?_); (· rfl); (· rfl); (simp only [Act.put, List.setIfInBounds_toArray, List.set_cons_zero, List.set_cons_succ]))
          | ((with_reducible refine cmps_row egO NEZ.out ?_ ?_ ?_ ?_); (· rfl); (· first | rfl | (show _ = Value.agg (ints [0, 0, 0, 0, 0, 0, 0]).toArray; rfl)); (· rfl); (simp only [Act.put, List.setIfInBounds_toArray, List.set_cons_zero, List.set_cons_succ]))
          | still_step)
        refine wpStill_nil ?_
        clear rv ca
        have TR0 : Hid (heldTo M it 0 = 0) := Lib.hid rfl
        have TR1 : Hid (cntTo M it 0 = 0) := Lib.hid rfl
        go_upto_region 14 with fail
        go_loopg [14, 15, 16] nn (fun g s14 s15 s16 wr => ∃ i : Nat, g + i = nn ∧ s16 = .int .i64 i ∧ s14 = .int .i64 (heldTo M it i) ∧ s15 = .int .i64 (cntTo M it i) ∧ wn = wr)
        case atStart => exact ⟨0, rfl, rfl, by rw [TR0.out], by rw [TR1.out], rfl⟩
        case round =>
          obtain ⟨i, hqi, rfl, rfl, rfl, rfl⟩ := hrel
          have ca := (HAn.out.cell 24).trans CAF.out
          by_cases hi : i < nn
          · obtain ⟨b', off', he, hra, hlc⟩ := (SA.out wn HWn.out).chunk hi (by decide)
            have hbb : b' = b := by cases he; rfl
            have hoo : off' = off := by cases he; rfl
            rw [hbb, hoo] at hra
            clear he hbb hoo
            rw [chunk7 (HML.out wn HWn.out) hi] at hra
            have d3 : wn.cell? ⟨b, off + i * 7 + 3, none⟩ = some (.int .i64 (M.getD (i * 7 + 3) 0)) := hra 3 _ rfl
            have d4 : wn.cell? ⟨b, off + i * 7 + 4, none⟩ = some (.int .i64 (M.getD (i * 7 + 4) 0)) := hra 4 _ rfl
            have d6 : wn.cell? ⟨b, off + i * 7 + 6, none⟩ = some (.int .i64 (M.getD (i * 7 + 6) 0)) := hra 6 _ rfl
            have EN1 : Hid (heldTo M it (i + 1) = if heldB M it i = true then wrap64 (heldTo M it i + M.getD (i * 7 + 4) 0) else heldTo M it i) := Lib.hid rfl
            have EN2 : Hid (cntTo M it (i + 1) = if M.getD (i * 7 + 6) 0 = it then wrap64 (cntTo M it i + 1) else cntTo M it i) := Lib.hid rfl
            have EH : Hid (heldB M it i = ((M.getD (i * 7 + 3) 0 == it) && ((M.getD (i * 7 + 6) 0 == 1) || (M.getD (i * 7 + 6) 0 == 2)))) := Lib.hid rfl
            generalize M.getD (i * 7 + 3) 0 = z3 at *
            generalize M.getD (i * 7 + 4) 0 = z4 at *
            generalize M.getD (i * 7 + 6) 0 = z6 at *
            generalize hz1 : heldTo M it i = hh at *
            generalize hz2 : cntTo M it i = cc at *
            generalize hz3 : heldTo M it (i + 1) = hn1 at *
            generalize hz4 : cntTo M it (i + 1) = cn1 at *
            clear hz1 hz2
            have HZ3 := Lib.hid hz3
            have HZ4 := Lib.hid hz4
            clear hz3 hz4
            have hi0 : (0 : Int) ≤ i := by omega
            have hin : (i : Int) < nn := by omega
            clear hra hlc
            by_cases hzc : z6 = it
            · have hzb : (z6 == it) = true := by rw [hzc]; simp
              have HZ := Lib.hid hzc
              clear hzc
              rcases h3 : (z3 == it) with _ | _
              · go_wp2_with fail
                go_roundg (gk - 1)
                case measure => omega
                case rel => exact ⟨i + 1, by omega, by go_num, by rw [HZ3.out, EN1.out, if_neg (by rw [EH.out, h3]; simp)], by rw [HZ4.out, EN2.out, if_pos HZ.out], rfl⟩
              · rcases h1 : (z6 == 1) with _ | _
                · rcases h2 : (z6 == 2) with _ | _
                  · go_wp2_with fail
                    go_roundg (gk - 1)
                    case measure => omega
                    case rel => exact ⟨i + 1, by omega, by go_num, by rw [HZ3.out, EN1.out, if_neg (by rw [EH.out, h3, h1, h2]; simp)], by rw [HZ4.out, EN2.out, if_pos HZ.out], rfl⟩
                  · go_wp2_with fail
                    go_roundg (gk - 1)
                    case measure => omega
                    case rel => exact ⟨i + 1, by omega, by go_num, by rw [HZ3.out, EN1.out, if_pos (by rw [EH.out, h3, h1, h2]; rfl)], by rw [HZ4.out, EN2.out, if_pos HZ.out], rfl⟩
                · go_wp2_with fail
                  go_roundg (gk - 1)
                  case measure => omega
                  case rel => exact ⟨i + 1, by omega, by go_num, by rw [HZ3.out, EN1.out, if_pos (by rw [EH.out, h3, h1]; rfl)], by rw [HZ4.out, EN2.out, if_pos HZ.out], rfl⟩
            · have hzb : (z6 == it) = false := beq_eq_false_iff_ne.2 hzc
              have HZ := Lib.hid hzc
              clear hzc
              rcases h3 : (z3 == it) with _ | _
              · go_wp2_with fail
                go_roundg (gk - 1)
                case measure => omega
                case rel => exact ⟨i + 1, by omega, by go_num, by rw [HZ3.out, EN1.out, if_neg (by rw [EH.out, h3]; simp)], by rw [HZ4.out, EN2.out, if_neg HZ.out], rfl⟩
              · rcases h1 : (z6 == 1) with _ | _
                · rcases h2 : (z6 == 2) with _ | _
                  · go_wp2_with fail
                    go_roundg (gk - 1)
                    case measure => omega
                    case rel => exact ⟨i + 1, by omega, by go_num, by rw [HZ3.out, EN1.out, if_neg (by rw [EH.out, h3, h1, h2]; simp)], by rw [HZ4.out, EN2.out, if_neg HZ.out], rfl⟩
                  · go_wp2_with fail
                    go_roundg (gk - 1)
                    case measure => omega
                    case rel => exact ⟨i + 1, by omega, by go_num, by rw [HZ3.out, EN1.out, if_pos (by rw [EH.out, h3, h1, h2]; rfl)], by rw [HZ4.out, EN2.out, if_neg HZ.out], rfl⟩
                · go_wp2_with fail
                  go_roundg (gk - 1)
                  case measure => omega
                  case rel => exact ⟨i + 1, by omega, by go_num, by rw [HZ3.out, EN1.out, if_pos (by rw [EH.out, h3, h1]; rfl)], by rw [HZ4.out, EN2.out, if_neg HZ.out], rfl⟩
          · have hin : ¬ (i : Int) < nn := by omega
            have HR1 : Hid (heldTo M it i = heldTo M it nn) := Lib.hid (by
              obtain rfl : i = nn := by omega
              rfl)
            have HR2 : Hid (cntTo M it i = cntTo M it nn) := Lib.hid (by
              obtain rfl : i = nn := by omega
              rfl)
            rw [HR1.out, HR2.out]
            generalize heldTo M it nn = hh at *
            generalize cntTo M it nn = cc at *
            have rb : wn.rangeAt w.heap.size 0 FX := HAn.out.range 0 _ (by simp)
            go_wp2_with (first
              | ((with_reducible refine ld_row rb TFX ?_ ?_ ?_); (· rfl); (· rfl); (simp only [Act.put, List.setIfInBounds_toArray, List.set_cons_zero, List.set_cons_succ])))
            refine (CHE.out _ HWn.out).mono ?_
            rintro e v1 ⟨rfl, hv1⟩
            have HAm := Lib.hid (HAn.out.keep hv1 HAn.out.lt)
            have HWm := Lib.hid (HWn.out.trans (hv1.mono HWn.out.size))
            clear hv1 rb ca
            have rb : v1.rangeAt w.heap.size 0 FX := HAm.out.range 0 _ (by simp)
            go_wp2_with (first
              | ((with_reducible refine ld_row rb TFX ?_ ?_ ?_); (· rfl); (· rfl); (simp only [Act.put, List.setIfInBounds_toArray, List.set_cons_zero, List.set_cons_succ])))
            refine (CCN.out _ HWm.out).mono ?_
            rintro e v2 ⟨rfl, hv2⟩
            have HWo := HWm.out.trans (hv2.mono HWm.out.size)
            go_wp2_with fail
            go_ret
            exact ⟨rfl, HWo⟩
      · have E1 : V = ord7 M j := by rw [← HV.out, hb]; unfold inV; rw [if_pos hk, if_pos rfl]; rfl
        have E2 : C = 0 := by rw [← HC.out, hb]; unfold inC; rw [if_pos hk]; rfl
        subst E1 E2
        clear hb NEZ
        go_upto_region 10 with fail
        refine wp_region_still_lit (by kernel_rfl) (by kernel_rfl) ?_
        have HAn := Lib.hid HAq.out.drew
        have HVn := Lib.hid HVq.out.drew
        have HWn := Lib.hid HWq.out.drew
        change wpStill _ _ (World.drew wr) (fun a' => Exit.then _ _ _ a' (World.drew wr)) _ _
        have hro0 : wr.drew.rangeAt b (off + j * 7) (ints (ord7 M j)) := hra
        clear c6 hra ca hbr
        generalize wr.drew = wn at *
        have rv : wn.rangeAt gv 0 (ints (ord7 M j)) := HVn.out.range 0 _ (by simp)
        have ca := (HAn.out.cell 24).trans CAF.out
        have hro := hro0
        clear hro0
        repeat (first
          | (rw [hkb])
          | (rw [hkl])
          | ((with_reducible refine st_skip ?_ ?_); (· rfl); (simp only [Act.put, List.setIfInBounds_toArray, List.set_cons_zero, List.set_cons_succ]))
          | ((with_reducible refine lds_row rv TV ?_ ?_ ?_); (· rfl); (· rfl); (simp only [Act.put, List.setIfInBounds_toArray, List.set_cons_zero, List.set_cons_succ]))
          | ((with_reducible refine lds_row hro TO ?_ ?_ ?_); (· rfl); (· rfl); (simp only [Act.put, List.setIfInBounds_toArray, List.set_cons_zero, List.set_cons_succ]))
          | ((with_reducible refine cmps_row egO NEO.out ?_ ?_ ?_ ?_); (· rfl); (· rfl); (· rfl); (simp only [Act.put, List.setIfInBounds_toArray, List.set_cons_zero, List.set_cons_succ]))
          | still_step)
        refine wpStill_nil ?_
        clear rv ca
        have TR0 : Hid (heldTo M it 0 = 0) := Lib.hid rfl
        have TR1 : Hid (cntTo M it 0 = 0) := Lib.hid rfl
        go_upto_region 14 with fail
        go_loopg [14, 15, 16] nn (fun g s14 s15 s16 wr => ∃ i : Nat, g + i = nn ∧ s16 = .int .i64 i ∧ s14 = .int .i64 (heldTo M it i) ∧ s15 = .int .i64 (cntTo M it i) ∧ wn = wr)
        case atStart => exact ⟨0, rfl, rfl, by rw [TR0.out], by rw [TR1.out], rfl⟩
        case round =>
          obtain ⟨i, hqi, rfl, rfl, rfl, rfl⟩ := hrel
          have ca := (HAn.out.cell 24).trans CAF.out
          by_cases hi : i < nn
          · obtain ⟨b', off', he, hra, hlc⟩ := (SA.out wn HWn.out).chunk hi (by decide)
            have hbb : b' = b := by cases he; rfl
            have hoo : off' = off := by cases he; rfl
            rw [hbb, hoo] at hra
            clear he hbb hoo
            rw [chunk7 (HML.out wn HWn.out) hi] at hra
            have d3 : wn.cell? ⟨b, off + i * 7 + 3, none⟩ = some (.int .i64 (M.getD (i * 7 + 3) 0)) := hra 3 _ rfl
            have d4 : wn.cell? ⟨b, off + i * 7 + 4, none⟩ = some (.int .i64 (M.getD (i * 7 + 4) 0)) := hra 4 _ rfl
            have d6 : wn.cell? ⟨b, off + i * 7 + 6, none⟩ = some (.int .i64 (M.getD (i * 7 + 6) 0)) := hra 6 _ rfl
            have EN1 : Hid (heldTo M it (i + 1) = if heldB M it i = true then wrap64 (heldTo M it i + M.getD (i * 7 + 4) 0) else heldTo M it i) := Lib.hid rfl
            have EN2 : Hid (cntTo M it (i + 1) = if M.getD (i * 7 + 6) 0 = it then wrap64 (cntTo M it i + 1) else cntTo M it i) := Lib.hid rfl
            have EH : Hid (heldB M it i = ((M.getD (i * 7 + 3) 0 == it) && ((M.getD (i * 7 + 6) 0 == 1) || (M.getD (i * 7 + 6) 0 == 2)))) := Lib.hid rfl
            generalize M.getD (i * 7 + 3) 0 = z3 at *
            generalize M.getD (i * 7 + 4) 0 = z4 at *
            generalize M.getD (i * 7 + 6) 0 = z6 at *
            generalize hz1 : heldTo M it i = hh at *
            generalize hz2 : cntTo M it i = cc at *
            generalize hz3 : heldTo M it (i + 1) = hn1 at *
            generalize hz4 : cntTo M it (i + 1) = cn1 at *
            clear hz1 hz2
            have HZ3 := Lib.hid hz3
            have HZ4 := Lib.hid hz4
            clear hz3 hz4
            have hi0 : (0 : Int) ≤ i := by omega
            have hin : (i : Int) < nn := by omega
            clear hra hlc
            by_cases hzc : z6 = it
            · have hzb : (z6 == it) = true := by rw [hzc]; simp
              have HZ := Lib.hid hzc
              clear hzc
              rcases h3 : (z3 == it) with _ | _
              · go_wp2_with fail
                go_roundg (gk - 1)
                case measure => omega
                case rel => exact ⟨i + 1, by omega, by go_num, by rw [HZ3.out, EN1.out, if_neg (by rw [EH.out, h3]; simp)], by rw [HZ4.out, EN2.out, if_pos HZ.out], rfl⟩
              · rcases h1 : (z6 == 1) with _ | _
                · rcases h2 : (z6 == 2) with _ | _
                  · go_wp2_with fail
                    go_roundg (gk - 1)
                    case measure => omega
                    case rel => exact ⟨i + 1, by omega, by go_num, by rw [HZ3.out, EN1.out, if_neg (by rw [EH.out, h3, h1, h2]; simp)], by rw [HZ4.out, EN2.out, if_pos HZ.out], rfl⟩
                  · go_wp2_with fail
                    go_roundg (gk - 1)
                    case measure => omega
                    case rel => exact ⟨i + 1, by omega, by go_num, by rw [HZ3.out, EN1.out, if_pos (by rw [EH.out, h3, h1, h2]; rfl)], by rw [HZ4.out, EN2.out, if_pos HZ.out], rfl⟩
                · go_wp2_with fail
                  go_roundg (gk - 1)
                  case measure => omega
                  case rel => exact ⟨i + 1, by omega, by go_num, by rw [HZ3.out, EN1.out, if_pos (by rw [EH.out, h3, h1]; rfl)], by rw [HZ4.out, EN2.out, if_pos HZ.out], rfl⟩
            · have hzb : (z6 == it) = false := beq_eq_false_iff_ne.2 hzc
              have HZ := Lib.hid hzc
              clear hzc
              rcases h3 : (z3 == it) with _ | _
              · go_wp2_with fail
                go_roundg (gk - 1)
                case measure => omega
                case rel => exact ⟨i + 1, by omega, by go_num, by rw [HZ3.out, EN1.out, if_neg (by rw [EH.out, h3]; simp)], by rw [HZ4.out, EN2.out, if_neg HZ.out], rfl⟩
              · rcases h1 : (z6 == 1) with _ | _
                · rcases h2 : (z6 == 2) with _ | _
                  · go_wp2_with fail
                    go_roundg (gk - 1)
                    case measure => omega
                    case rel => exact ⟨i + 1, by omega, by go_num, by rw [HZ3.out, EN1.out, if_neg (by rw [EH.out, h3, h1, h2]; simp)], by rw [HZ4.out, EN2.out, if_neg HZ.out], rfl⟩
                  · go_wp2_with fail
                    go_roundg (gk - 1)
                    case measure => omega
                    case rel => exact ⟨i + 1, by omega, by go_num, by rw [HZ3.out, EN1.out, if_pos (by rw [EH.out, h3, h1, h2]; rfl)], by rw [HZ4.out, EN2.out, if_neg HZ.out], rfl⟩
                · go_wp2_with fail
                  go_roundg (gk - 1)
                  case measure => omega
                  case rel => exact ⟨i + 1, by omega, by go_num, by rw [HZ3.out, EN1.out, if_pos (by rw [EH.out, h3, h1]; rfl)], by rw [HZ4.out, EN2.out, if_neg HZ.out], rfl⟩
          · have hin : ¬ (i : Int) < nn := by omega
            have HR1 : Hid (heldTo M it i = heldTo M it nn) := Lib.hid (by
              obtain rfl : i = nn := by omega
              rfl)
            have HR2 : Hid (cntTo M it i = cntTo M it nn) := Lib.hid (by
              obtain rfl : i = nn := by omega
              rfl)
            rw [HR1.out, HR2.out]
            generalize heldTo M it nn = hh at *
            generalize cntTo M it nn = cc at *
            have rb : wn.rangeAt w.heap.size 0 FX := HAn.out.range 0 _ (by simp)
            go_wp2_with (first
              | ((with_reducible refine ld_row rb TFX ?_ ?_ ?_); (· rfl); (· rfl); (simp only [Act.put, List.setIfInBounds_toArray, List.set_cons_zero, List.set_cons_succ])))
            refine (CHE.out _ HWn.out).mono ?_
            rintro e v1 ⟨rfl, hv1⟩
            have HAm := Lib.hid (HAn.out.keep hv1 HAn.out.lt)
            have HWm := Lib.hid (HWn.out.trans (hv1.mono HWn.out.size))
            clear hv1 rb ca
            have rb : v1.rangeAt w.heap.size 0 FX := HAm.out.range 0 _ (by simp)
            go_wp2_with (first
              | ((with_reducible refine ld_row rb TFX ?_ ?_ ?_); (· rfl); (· rfl); (simp only [Act.put, List.setIfInBounds_toArray, List.set_cons_zero, List.set_cons_succ])))
            refine (CCN.out _ HWm.out).mono ?_
            rintro e v2 ⟨rfl, hv2⟩
            have HWo := HWm.out.trans (hv2.mono HWm.out.size)
            go_wp2_with fail
            go_ret
            exact ⟨rfl, HWo⟩
  
  · have E1 : V = [0, 0, 0, 0, 0, 0, 0] := by rw [← HV.out]; unfold inV; rw [if_neg hk]
    have E2 : C = 14 := by rw [← HC.out]; unfold inC; rw [if_neg hk]
    subst E1 E2
    have hk' : ¬ (0 : Int) ≤ k := hk
    have hk2 : k < 0 := by omega
    have hkb : decide (0 ≤ k) = false := decide_eq_false hk
    have NEZ := Lib.hid (fun w => ne_ord (b := false) ok_zero7 ok_zero7 (by rw [sameB_refl]; rfl) w)
    go_upto_region 7 with fail
    go_loopg [12, 13] 0 (fun g s12 s13 wr => s12 = .bool false ∧ s13 = .int .i64 0 ∧ w8 = wr)
    case atStart => exact ⟨rfl, rfl, rfl⟩
    obtain ⟨rfl, rfl, rfl⟩ := hrel
    have HAq := HA8
    have HVq := HV8
    have HWq := HW8
    by_cases hm0 : (0 : Int) < m
    · go_upto_region 10 with fail
      refine wp_region_still_lit (by kernel_rfl) (by kernel_rfl) ?_
      have HAn := Lib.hid HAq.out.drew
      have HVn := Lib.hid HVq.out.drew
      have HWn := Lib.hid HWq.out.drew
      change wpStill _ _ (World.drew w8) (fun a' => Exit.then _ _ _ a' (World.drew w8)) _ _
      generalize w8.drew = wn at *
      have rv : wn.rangeAt gv 0 (ints [0, 0, 0, 0, 0, 0, 0]) := HVn.out.range 0 _ (by simp)
      have ca := (HAn.out.cell 24).trans CAF.out
      repeat (first
        | (rw [hkb])
        | ((with_reducible refine st_skip ?_ ?_); (· rfl); (simp only [Act.put, List.setIfInBounds_toArray, List.set_cons_zero, List.set_cons_succ]))
        | ((with_reducible refine lds_row rv TV ?_ ?_ ?_); (· rfl); (· rfl); (simp only [Act.put, List.setIfInBounds_toArray, List.set_cons_zero, List.set_cons_succ]))
        | ((with_reducible refine cmps_row egO NEZ.out ?_ ?_ ?_ ?_); (· rfl); (· first | rfl | (show _ = Value.agg (ints [0, 0, 0, 0, 0, 0, 0]).toArray; rfl)); (· rfl); (simp only [Act.put, List.setIfInBounds_toArray, List.set_cons_zero, List.set_cons_succ]))
        | still_step)
      refine wpStill_nil ?_
      clear rv ca
      have TR0 : Hid (heldTo M it 0 = 0) := Lib.hid rfl
      have TR1 : Hid (cntTo M it 0 = 0) := Lib.hid rfl
      go_upto_region 14 with fail
      go_loopg [14, 15, 16] nn (fun g s14 s15 s16 wr => ∃ i : Nat, g + i = nn ∧ s16 = .int .i64 i ∧ s14 = .int .i64 (heldTo M it i) ∧ s15 = .int .i64 (cntTo M it i) ∧ wn = wr)
      case atStart => exact ⟨0, rfl, rfl, by rw [TR0.out], by rw [TR1.out], rfl⟩
      case round =>
        obtain ⟨i, hqi, rfl, rfl, rfl, rfl⟩ := hrel
        have ca := (HAn.out.cell 24).trans CAF.out
        by_cases hi : i < nn
        · obtain ⟨b, off, rfl, hra, hlc⟩ := (SA.out wn HWn.out).chunk hi (by decide)
          rw [chunk7 (HML.out wn HWn.out) hi] at hra
          have d3 : wn.cell? ⟨b, off + i * 7 + 3, none⟩ = some (.int .i64 (M.getD (i * 7 + 3) 0)) := hra 3 _ rfl
          have d4 : wn.cell? ⟨b, off + i * 7 + 4, none⟩ = some (.int .i64 (M.getD (i * 7 + 4) 0)) := hra 4 _ rfl
          have d6 : wn.cell? ⟨b, off + i * 7 + 6, none⟩ = some (.int .i64 (M.getD (i * 7 + 6) 0)) := hra 6 _ rfl
          have EN1 : Hid (heldTo M it (i + 1) = if heldB M it i = true then wrap64 (heldTo M it i + M.getD (i * 7 + 4) 0) else heldTo M it i) := Lib.hid rfl
          have EN2 : Hid (cntTo M it (i + 1) = if M.getD (i * 7 + 6) 0 = it then wrap64 (cntTo M it i + 1) else cntTo M it i) := Lib.hid rfl
          have EH : Hid (heldB M it i = ((M.getD (i * 7 + 3) 0 == it) && ((M.getD (i * 7 + 6) 0 == 1) || (M.getD (i * 7 + 6) 0 == 2)))) := Lib.hid rfl
          generalize M.getD (i * 7 + 3) 0 = z3 at *
          generalize M.getD (i * 7 + 4) 0 = z4 at *
          generalize M.getD (i * 7 + 6) 0 = z6 at *
          generalize hz1 : heldTo M it i = hh at *
          generalize hz2 : cntTo M it i = cc at *
          generalize hz3 : heldTo M it (i + 1) = hn1 at *
          generalize hz4 : cntTo M it (i + 1) = cn1 at *
          clear hz1 hz2
          have HZ3 := Lib.hid hz3
          have HZ4 := Lib.hid hz4
          clear hz3 hz4
          have hi0 : (0 : Int) ≤ i := by omega
          have hin : (i : Int) < nn := by omega
          clear hra hlc
          by_cases hzc : z6 = it
          · have hzb : (z6 == it) = true := by rw [hzc]; simp
            have HZ := Lib.hid hzc
            clear hzc
            rcases h3 : (z3 == it) with _ | _
            · go_wp2_with fail
              go_roundg (gk - 1)
              case measure => omega
              case rel => exact ⟨i + 1, by omega, by go_num, by rw [HZ3.out, EN1.out, if_neg (by rw [EH.out, h3]; simp)], by rw [HZ4.out, EN2.out, if_pos HZ.out], rfl⟩
            · rcases h1 : (z6 == 1) with _ | _
              · rcases h2 : (z6 == 2) with _ | _
                · go_wp2_with fail
                  go_roundg (gk - 1)
                  case measure => omega
                  case rel => exact ⟨i + 1, by omega, by go_num, by rw [HZ3.out, EN1.out, if_neg (by rw [EH.out, h3, h1, h2]; simp)], by rw [HZ4.out, EN2.out, if_pos HZ.out], rfl⟩
                · go_wp2_with fail
                  go_roundg (gk - 1)
                  case measure => omega
                  case rel => exact ⟨i + 1, by omega, by go_num, by rw [HZ3.out, EN1.out, if_pos (by rw [EH.out, h3, h1, h2]; rfl)], by rw [HZ4.out, EN2.out, if_pos HZ.out], rfl⟩
              · go_wp2_with fail
                go_roundg (gk - 1)
                case measure => omega
                case rel => exact ⟨i + 1, by omega, by go_num, by rw [HZ3.out, EN1.out, if_pos (by rw [EH.out, h3, h1]; rfl)], by rw [HZ4.out, EN2.out, if_pos HZ.out], rfl⟩
          · have hzb : (z6 == it) = false := beq_eq_false_iff_ne.2 hzc
            have HZ := Lib.hid hzc
            clear hzc
            rcases h3 : (z3 == it) with _ | _
            · go_wp2_with fail
              go_roundg (gk - 1)
              case measure => omega
              case rel => exact ⟨i + 1, by omega, by go_num, by rw [HZ3.out, EN1.out, if_neg (by rw [EH.out, h3]; simp)], by rw [HZ4.out, EN2.out, if_neg HZ.out], rfl⟩
            · rcases h1 : (z6 == 1) with _ | _
              · rcases h2 : (z6 == 2) with _ | _
                · go_wp2_with fail
                  go_roundg (gk - 1)
                  case measure => omega
                  case rel => exact ⟨i + 1, by omega, by go_num, by rw [HZ3.out, EN1.out, if_neg (by rw [EH.out, h3, h1, h2]; simp)], by rw [HZ4.out, EN2.out, if_neg HZ.out], rfl⟩
                · go_wp2_with fail
                  go_roundg (gk - 1)
                  case measure => omega
                  case rel => exact ⟨i + 1, by omega, by go_num, by rw [HZ3.out, EN1.out, if_pos (by rw [EH.out, h3, h1, h2]; rfl)], by rw [HZ4.out, EN2.out, if_neg HZ.out], rfl⟩
              · go_wp2_with fail
                go_roundg (gk - 1)
                case measure => omega
                case rel => exact ⟨i + 1, by omega, by go_num, by rw [HZ3.out, EN1.out, if_pos (by rw [EH.out, h3, h1]; rfl)], by rw [HZ4.out, EN2.out, if_neg HZ.out], rfl⟩
        · have hin : ¬ (i : Int) < nn := by omega
          have HR1 : Hid (heldTo M it i = heldTo M it nn) := Lib.hid (by
            obtain rfl : i = nn := by omega
            rfl)
          have HR2 : Hid (cntTo M it i = cntTo M it nn) := Lib.hid (by
            obtain rfl : i = nn := by omega
            rfl)
          rw [HR1.out, HR2.out]
          generalize heldTo M it nn = hh at *
          generalize cntTo M it nn = cc at *
          have rb : wn.rangeAt w.heap.size 0 FX := HAn.out.range 0 _ (by simp)
          go_wp2_with (first
            | ((with_reducible refine ld_row rb TFX ?_ ?_ ?_); (· rfl); (· rfl); (simp only [Act.put, List.setIfInBounds_toArray, List.set_cons_zero, List.set_cons_succ])))
          refine (CHE.out _ HWn.out).mono ?_
          rintro e v1 ⟨rfl, hv1⟩
          have HAm := Lib.hid (HAn.out.keep hv1 HAn.out.lt)
          have HWm := Lib.hid (HWn.out.trans (hv1.mono HWn.out.size))
          clear hv1 rb ca
          have rb : v1.rangeAt w.heap.size 0 FX := HAm.out.range 0 _ (by simp)
          go_wp2_with (first
            | ((with_reducible refine ld_row rb TFX ?_ ?_ ?_); (· rfl); (· rfl); (simp only [Act.put, List.setIfInBounds_toArray, List.set_cons_zero, List.set_cons_succ])))
          refine (CCN.out _ HWm.out).mono ?_
          rintro e v2 ⟨rfl, hv2⟩
          have HWo := HWm.out.trans (hv2.mono HWm.out.size)
          go_wp2_with fail
          go_ret
          exact ⟨rfl, HWo⟩
    · go_upto_region 10 with fail
      refine wp_region_still_lit (by kernel_rfl) (by kernel_rfl) ?_
      have HAn := Lib.hid HAq.out.drew
      have HVn := Lib.hid HVq.out.drew
      have HWn := Lib.hid HWq.out.drew
      change wpStill _ _ (World.drew w8) (fun a' => Exit.then _ _ _ a' (World.drew w8)) _ _
      generalize w8.drew = wn at *
      have rv : wn.rangeAt gv 0 (ints [0, 0, 0, 0, 0, 0, 0]) := HVn.out.range 0 _ (by simp)
      have ca := (HAn.out.cell 24).trans CAF.out
      repeat (first
        | (rw [hkb])
        | ((with_reducible refine st_skip ?_ ?_); (· rfl); (simp only [Act.put, List.setIfInBounds_toArray, List.set_cons_zero, List.set_cons_succ]))
        | ((with_reducible refine lds_row rv TV ?_ ?_ ?_); (· rfl); (· rfl); (simp only [Act.put, List.setIfInBounds_toArray, List.set_cons_zero, List.set_cons_succ]))
        | ((with_reducible refine cmps_row egO NEZ.out ?_ ?_ ?_ ?_); (· rfl); (· first | rfl | (show _ = Value.agg (ints [0, 0, 0, 0, 0, 0, 0]).toArray; rfl)); (· rfl); (simp only [Act.put, List.setIfInBounds_toArray, List.set_cons_zero, List.set_cons_succ]))
        | still_step)
      refine wpStill_nil ?_
      clear rv ca
      have TR0 : Hid (heldTo M it 0 = 0) := Lib.hid rfl
      have TR1 : Hid (cntTo M it 0 = 0) := Lib.hid rfl
      go_upto_region 14 with fail
      go_loopg [14, 15, 16] nn (fun g s14 s15 s16 wr => ∃ i : Nat, g + i = nn ∧ s16 = .int .i64 i ∧ s14 = .int .i64 (heldTo M it i) ∧ s15 = .int .i64 (cntTo M it i) ∧ wn = wr)
      case atStart => exact ⟨0, rfl, rfl, by rw [TR0.out], by rw [TR1.out], rfl⟩
      case round =>
        obtain ⟨i, hqi, rfl, rfl, rfl, rfl⟩ := hrel
        have ca := (HAn.out.cell 24).trans CAF.out
        by_cases hi : i < nn
        · obtain ⟨b, off, rfl, hra, hlc⟩ := (SA.out wn HWn.out).chunk hi (by decide)
          rw [chunk7 (HML.out wn HWn.out) hi] at hra
          have d3 : wn.cell? ⟨b, off + i * 7 + 3, none⟩ = some (.int .i64 (M.getD (i * 7 + 3) 0)) := hra 3 _ rfl
          have d4 : wn.cell? ⟨b, off + i * 7 + 4, none⟩ = some (.int .i64 (M.getD (i * 7 + 4) 0)) := hra 4 _ rfl
          have d6 : wn.cell? ⟨b, off + i * 7 + 6, none⟩ = some (.int .i64 (M.getD (i * 7 + 6) 0)) := hra 6 _ rfl
          have EN1 : Hid (heldTo M it (i + 1) = if heldB M it i = true then wrap64 (heldTo M it i + M.getD (i * 7 + 4) 0) else heldTo M it i) := Lib.hid rfl
          have EN2 : Hid (cntTo M it (i + 1) = if M.getD (i * 7 + 6) 0 = it then wrap64 (cntTo M it i + 1) else cntTo M it i) := Lib.hid rfl
          have EH : Hid (heldB M it i = ((M.getD (i * 7 + 3) 0 == it) && ((M.getD (i * 7 + 6) 0 == 1) || (M.getD (i * 7 + 6) 0 == 2)))) := Lib.hid rfl
          generalize M.getD (i * 7 + 3) 0 = z3 at *
          generalize M.getD (i * 7 + 4) 0 = z4 at *
          generalize M.getD (i * 7 + 6) 0 = z6 at *
          generalize hz1 : heldTo M it i = hh at *
          generalize hz2 : cntTo M it i = cc at *
          generalize hz3 : heldTo M it (i + 1) = hn1 at *
          generalize hz4 : cntTo M it (i + 1) = cn1 at *
          clear hz1 hz2
          have HZ3 := Lib.hid hz3
          have HZ4 := Lib.hid hz4
          clear hz3 hz4
          have hi0 : (0 : Int) ≤ i := by omega
          have hin : (i : Int) < nn := by omega
          clear hra hlc
          by_cases hzc : z6 = it
          · have hzb : (z6 == it) = true := by rw [hzc]; simp
            have HZ := Lib.hid hzc
            clear hzc
            rcases h3 : (z3 == it) with _ | _
            · go_wp2_with fail
              go_roundg (gk - 1)
              case measure => omega
              case rel => exact ⟨i + 1, by omega, by go_num, by rw [HZ3.out, EN1.out, if_neg (by rw [EH.out, h3]; simp)], by rw [HZ4.out, EN2.out, if_pos HZ.out], rfl⟩
            · rcases h1 : (z6 == 1) with _ | _
              · rcases h2 : (z6 == 2) with _ | _
                · go_wp2_with fail
                  go_roundg (gk - 1)
                  case measure => omega
                  case rel => exact ⟨i + 1, by omega, by go_num, by rw [HZ3.out, EN1.out, if_neg (by rw [EH.out, h3, h1, h2]; simp)], by rw [HZ4.out, EN2.out, if_pos HZ.out], rfl⟩
                · go_wp2_with fail
                  go_roundg (gk - 1)
                  case measure => omega
                  case rel => exact ⟨i + 1, by omega, by go_num, by rw [HZ3.out, EN1.out, if_pos (by rw [EH.out, h3, h1, h2]; rfl)], by rw [HZ4.out, EN2.out, if_pos HZ.out], rfl⟩
              · go_wp2_with fail
                go_roundg (gk - 1)
                case measure => omega
                case rel => exact ⟨i + 1, by omega, by go_num, by rw [HZ3.out, EN1.out, if_pos (by rw [EH.out, h3, h1]; rfl)], by rw [HZ4.out, EN2.out, if_pos HZ.out], rfl⟩
          · have hzb : (z6 == it) = false := beq_eq_false_iff_ne.2 hzc
            have HZ := Lib.hid hzc
            clear hzc
            rcases h3 : (z3 == it) with _ | _
            · go_wp2_with fail
              go_roundg (gk - 1)
              case measure => omega
              case rel => exact ⟨i + 1, by omega, by go_num, by rw [HZ3.out, EN1.out, if_neg (by rw [EH.out, h3]; simp)], by rw [HZ4.out, EN2.out, if_neg HZ.out], rfl⟩
            · rcases h1 : (z6 == 1) with _ | _
              · rcases h2 : (z6 == 2) with _ | _
                · go_wp2_with fail
                  go_roundg (gk - 1)
                  case measure => omega
                  case rel => exact ⟨i + 1, by omega, by go_num, by rw [HZ3.out, EN1.out, if_neg (by rw [EH.out, h3, h1, h2]; simp)], by rw [HZ4.out, EN2.out, if_neg HZ.out], rfl⟩
                · go_wp2_with fail
                  go_roundg (gk - 1)
                  case measure => omega
                  case rel => exact ⟨i + 1, by omega, by go_num, by rw [HZ3.out, EN1.out, if_pos (by rw [EH.out, h3, h1, h2]; rfl)], by rw [HZ4.out, EN2.out, if_neg HZ.out], rfl⟩
              · go_wp2_with fail
                go_roundg (gk - 1)
                case measure => omega
                case rel => exact ⟨i + 1, by omega, by go_num, by rw [HZ3.out, EN1.out, if_pos (by rw [EH.out, h3, h1]; rfl)], by rw [HZ4.out, EN2.out, if_neg HZ.out], rfl⟩
        · have hin : ¬ (i : Int) < nn := by omega
          have HR1 : Hid (heldTo M it i = heldTo M it nn) := Lib.hid (by
            obtain rfl : i = nn := by omega
            rfl)
          have HR2 : Hid (cntTo M it i = cntTo M it nn) := Lib.hid (by
            obtain rfl : i = nn := by omega
            rfl)
          rw [HR1.out, HR2.out]
          generalize heldTo M it nn = hh at *
          generalize cntTo M it nn = cc at *
          have rb : wn.rangeAt w.heap.size 0 FX := HAn.out.range 0 _ (by simp)
          go_wp2_with (first
            | ((with_reducible refine ld_row rb TFX ?_ ?_ ?_); (· rfl); (· rfl); (simp only [Act.put, List.setIfInBounds_toArray, List.set_cons_zero, List.set_cons_succ])))
          refine (CHE.out _ HWn.out).mono ?_
          rintro e v1 ⟨rfl, hv1⟩
          have HAm := Lib.hid (HAn.out.keep hv1 HAn.out.lt)
          have HWm := Lib.hid (HWn.out.trans (hv1.mono HWn.out.size))
          clear hv1 rb ca
          have rb : v1.rangeAt w.heap.size 0 FX := HAm.out.range 0 _ (by simp)
          go_wp2_with (first
            | ((with_reducible refine ld_row rb TFX ?_ ?_ ?_); (· rfl); (· rfl); (simp only [Act.put, List.setIfInBounds_toArray, List.set_cons_zero, List.set_cons_succ])))
          refine (CCN.out _ HWm.out).mono ?_
          rintro e v2 ⟨rfl, hv2⟩
          have HWo := HWm.out.trans (hv2.mono HWm.out.size)
          go_wp2_with fail
          go_ret
          exact ⟨rfl, HWo⟩
theorem dstates_law (v0 v1 v2 v3 : Value) (w : World) (h0 : Arg Try.prog w 25 v0) (h1 : Arg Try.prog w 27 v1) (h2 : Arg Try.prog w 41 v2) (h3 : Arg Try.prog w 3 v3) : Calls Try.prog 4 #[v0, v1, v2, v3] w fun e w' => e = .returned (.bool true) ∧ Below w.heap.size w w' := by
  obtain ⟨s, p, u, a, n, c, L, rfl, g1, g2, g3, g4, g5, g6, g7⟩ := h0.bookL
  obtain ⟨ds, rfl, k1⟩ := h1.flat_struct Try.underlying27 (show flat Try.prog 2 27 = some (List.replicate 2 (some .i64)) by kernel_rfl)
  obtain ⟨l, f3, f4, f5⟩ := ints_of_ok 2 _ k1
  obtain ⟨a2, m, c2, xs, rfl, q1, q2, q3, q4, q5⟩ := h2.flat_slice (ks := [some .i64]) (f := 1) Try.underlying41 (by kernel_rfl) (by kernel_rfl) (by decide)
  obtain ⟨Z, rfl, hZ⟩ := elems_intsO (n := m) (sz := 1) q4.1 (by decide) q5
  obtain ⟨it, rfl, e6⟩ := h3.int Try.underlying3
  match l, f3, f4, f5 with
  | [r, q], _, f4, f5 =>
    rw [show ds = ds.toList.toArray by simp, f4]
    exact states_walk s p u a n c L r q a2 m c2 Z it w (Lib.hid g1) (Lib.hid g5) (Lib.hid g6) g7 (fits_wf (f5 _ (by simp))) (fits_wf (f5 _ (by simp))) (Lib.hid q4) (Nat.le_trans q1 (by simpa [maxLen] using q2))
end Go.Proofs.Ytlhebimfkdcidaa
