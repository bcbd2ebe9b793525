/- EffPuts: several texts in one. -/
import Derived.Test.YteebmpbplenikaaDoorTxtM
import Derived.Test.YteebmpbplenikaaDoorWntM
import Derived.Test.YteebmpbplenikaaDoorEff6
import Derived.Test.YteebmpbplenikaaDoorEff5
import Derived.Test.YteebmpbplenikaaDoorMath20
import Derived.Test.YteebmpbplenikaaDoorEff4
import Derived.Deep.DeepCutAuto
import Derived.Maps.AppendAt
import Derived.Test.YteebmpbplenikaaDoorRow
import Derived.Test.YteebmpbplenikaaDoorOps
import Derived.RegionTactic
import Derived.BigRegion
import Derived.ChangeAlike
import Derived.Test.YteebmpbplenikaaDoorHeld
import Derived.Test.YteebmpbplenikaaDoorLaw02c
import Derived.Test.YteebmpbplenikaaDoorRd
import Derived.Test.YteebmpbplenikaaDoorRows
namespace Go.Proofs.YteebmpbplenikaaDoor
set_option linter.unusedVariables false
set_option linter.unusedSimpArgs false
open Go.ChangeShapes Go.WideShapes Go.ChangeAt Go.RowKit
theorem flatEf : flat Tryd.prog 5 25 = some (List.replicate 5 (some .i64)) := by kernel_rfl
theorem ok_ef {x : List Int} (hl : x.length = 5) (hf : ∀ z ∈ x, fits z = true) : OkAll (List.replicate 5 (some .i64)) (ints x) := by
  obtain ⟨k, a, n, p, q, rfl⟩ := row5 hl
  exact ⟨⟨k, rfl, wf_fitsT (hf k (by simp))⟩, ⟨a, rfl, wf_fitsT (hf a (by simp))⟩, ⟨n, rfl, wf_fitsT (hf n (by simp))⟩, ⟨p, rfl, wf_fitsT (hf p (by simp))⟩, ⟨q, rfl, wf_fitsT (hf q (by simp))⟩, trivial⟩
theorem out_row : RowT 42 2 := ⟨⟨_, Tryd.underlying42, rfl⟩, by kernel_rfl⟩
theorem ef_guard : Tryd.prog.eqGuardType Tryd.prog.depth 25 = false := by kernel_rfl
theorem ef_eq {x y : List Int} (hx : OkAll (List.replicate 5 (some .i64)) (ints x)) (hy : OkAll (List.replicate 5 (some .i64)) (ints y)) (w : World) : (binOp .eql 25 (.agg (ints x).toArray) (.agg (ints y).toArray)).run Tryd.prog w = .ok (.bool (sameB (ints x) (ints y))) w :=
  eql_flat 5 5 25 _ _ _ w flatEf (by kernel_rfl) (by kernel_rfl) (by kernel_rfl) (by decide) hx hy
theorem ef_ne {x y : List Int} (hx : OkAll (List.replicate 5 (some .i64)) (ints x)) (hy : OkAll (List.replicate 5 (some .i64)) (ints y)) (w : World) : (binOp .neq 25 (.agg (ints x).toArray) (.agg (ints y).toArray)).run Tryd.prog w = .ok (.bool (!sameB (ints x) (ints y))) w :=
  neq_flat 5 5 25 _ _ _ w flatEf (by kernel_rfl) (by kernel_rfl) (by kernel_rfl) (by decide) hx hy
theorem txt_alive : txtB 3 0 (-1) 0 0 = ⟨#[114, 101, 108, 101, 97, 115, 101, 32, 48, 32, 45, 49]⟩ := by
  have e1 : itB 0 = ⟨#[48]⟩ := by unfold itB Lib.itoa; rw [if_neg (by decide), show (0 : Int).toNat = 0 from rfl, Lib.decDigits_one (by decide)]; rfl
  have e2 : itB (-1) = ⟨#[45, 49]⟩ := by unfold itB Lib.itoa; rw [if_pos (by decide), show (-1 : Int).natAbs = 1 from rfl, Lib.decDigits_one (by decide)]; rfl
  unfold txtB
  rw [e1, e2]
  decide
theorem get_ence {k a n p q : Int} (hm : effCode k a p q = 0) (hn : fits n = true) (a' : Option Addr) (c' : Nat) (w : World) (h : Sl w a' 13 1 (bcells (encE k a n p q))) :
    Calls Tryd.prog 11 #[.slice a' 13 c'] w fun e w' => e = .returned (.tuple #[.agg (ints [k, a, n, p, q]).toArray, .int .i64 0]) ∧ Below w.heap.size w w' := by
  have E := fld_ence hm hn
  simp only [List.cons.injEq, and_true] at E
  obtain ⟨e0, e1, e2, e3, e4⟩ := E
  have := eget_any a' c' (encE k a n p q) w h
  rw [effOf_enc hm hn, e0, e1, e3, e4, if_pos hm] at this
  exact this
set_option maxRecDepth 100000 in
set_option maxHeartbeats 4000000 in
theorem alive10 (w : World) (hT : PTab w) (hW : WTab w) : Calls Tryd.prog 6 #[] w fun e w' => e = .returned (.bool true) ∧ Below w.heap.size w w' := by
  have P := Lib.hid (fun w => eput_yes 3 0 (-1) 0 0 w (by decide))
  have G := Lib.hid (fun a' c' w h => get_ence (k := 3) (a := 0) (n := -1) (p := 0) (q := 0) (by decide) (by decide) a' c' w h)
  have T := Lib.hid (fun w' (hb : Below w.heap.size w w') => text_any 3 0 (-1) 0 0 w' (by decide) (hT.keep hb) (hW.keep hb))
  rw [txt_alive] at T
  have HB := Lib.hid ((Below.refl w.heap.size w).alloc (Nat.le_refl _) (.cells #[.int .i64 7, .int .i64 0, .int .i64 0, .int .i64 0, .int .i64 0, .int .i64 1, .int .i64 0, .int .i64 0, .int .i64 0, .int .i64 0] 25))
  have HB2 := Lib.hid (HB.out.alloc HB.out.size (.cells #[.int .i64 0, .slice (some ⟨w.heap.size, 0, none⟩) 2 2] 42))
  have HS0 : Sl (w.alloc (.cells #[.int .i64 7, .int .i64 0, .int .i64 0, .int .i64 0, .int .i64 0, .int .i64 1, .int .i64 0, .int .i64 0, .int .i64 0, .int .i64 0] 25)) (some ⟨w.heap.size, 0, none⟩) 2 5 (ints [7, 0, 0, 0, 0, 1, 0, 0, 0, 0]) := ⟨rfl, Or.inr ⟨_, _, rfl, by simp, fun q hq => by
    rw [Nat.zero_add, cell_of_row _ _ q _ _ _ (heap_alloc_new _ _), List.getD_eq_getElem?_getD, ← Array.getElem?_toList]
    show (ints [7, 0, 0, 0, 0, 1, 0, 0, 0, 0])[q]? = _
    rw [List.getElem?_eq_getElem (show q < (ints [7, 0, 0, 0, 0, 1, 0, 0, 0, 0]).length from hq)]
    rfl⟩⟩
  have HS := Lib.hid (HS0.keep ((Below.refl _ _).alloc (Nat.le_refl _) (.cells #[.int .i64 0, .slice (some ⟨w.heap.size, 0, none⟩) 2 2] 42)))
  have A : Hid (Blk ((w.alloc (.cells #[.int .i64 7, .int .i64 0, .int .i64 0, .int .i64 0, .int .i64 0, .int .i64 1, .int .i64 0, .int .i64 0, .int .i64 0, .int .i64 0] 25)).alloc (.cells #[.int .i64 0, .slice (some ⟨w.heap.size, 0, none⟩) 2 2] 42)) (w.heap.size + 1) (#[.int .i64 0, .slice (some ⟨w.heap.size, 0, none⟩) 2 2]).toList 42) := Lib.hid (by have := Blk.new (w.alloc (.cells #[.int .i64 7, .int .i64 0, .int .i64 0, .int .i64 0, .int .i64 0, .int .i64 1, .int .i64 0, .int .i64 0, .int .i64 0, .int .i64 0] 25)) #[.int .i64 0, .slice (some ⟨w.heap.size, 0, none⟩) 2 2] 42; simpa using this)
  have ha := Lib.hid (show w.heap.size + 1 < ((w.alloc (.cells #[.int .i64 7, .int .i64 0, .int .i64 0, .int .i64 0, .int .i64 0, .int .i64 1, .int .i64 0, .int .i64 0, .int .i64 0, .int .i64 0] 25)).alloc (.cells #[.int .i64 0, .slice (some ⟨w.heap.size, 0, none⟩) 2 2] 42)).heap.size by simp)
  have n1 : wantN 0 true [7, 0, 0, 0, 0, 1, 0, 0, 0, 0] 2 = 2 := by decide
  have n2 : wantN 0 false [7, 0, 0, 0, 0, 1, 0, 0, 0, 0] 2 = 1 := by decide
  have WA := Lib.hid (fun w' (hs : Sl w' (some ⟨w.heap.size, 0, none⟩) 2 5 (ints [7, 0, 0, 0, 0, 1, 0, 0, 0, 0])) => want_any 0 true _ 2 2 [7, 0, 0, 0, 0, 1, 0, 0, 0, 0] w' hs (by decide))
  have WB := Lib.hid (fun w' (hs : Sl w' (some ⟨w.heap.size, 0, none⟩) 2 5 (ints [7, 0, 0, 0, 0, 1, 0, 0, 0, 0])) => want_any 0 false _ 2 2 [7, 0, 0, 0, 0, 1, 0, 0, 0, 0] w' hs (by decide))
  rw [n1] at WA
  rw [n2] at WB
  have E3 := Lib.hid (ef_eq (x := [3, 0, -1, 0, 0]) (y := [3, 0, -1, 0, 0]) (ok_ef rfl (by decide)) (ok_ef rfl (by decide)))
  rw [sameB_refl] at E3
  have TX3 : RowT 25 (ints [3, 0, -1, 0, 0]).length := eff_row
  have TO3 : RowT 42 ([.int .i64 0, .slice (some ⟨w.heap.size, 0, none⟩) 2 2] : List Value).length := out_row
  clear HB HS0 hT hW n1 n2
  go_enter Tryd.func6, Tryd.ntmps6
  go_upto_region 2 with fail
  generalize hw1 : ((w.alloc (.cells #[.int .i64 7, .int .i64 0, .int .i64 0, .int .i64 0, .int .i64 0, .int .i64 1, .int .i64 0, .int .i64 0, .int .i64 0, .int .i64 0] 25)).alloc (.cells #[.int .i64 0, .slice (some ⟨w.heap.size, 0, none⟩) 2 2] 42)) = w1 at *
  clear hw1
  generalize hgs : w.heap.size + 1 = g1 at *
  go_wp2_with fail
  refine (P.out _).mono ?_
  rintro e w2 ⟨a2, c2, rfl, hs2, hc2, hb⟩
  have HB3 := Lib.hid (HB2.out.trans (hb.mono HB2.out.size))
  have A3 := Lib.hid (A.out.keep hb ha.out)
  have HS3 := Lib.hid (HS.out.keep hb)
  have HP := Lib.hid hs2
  clear hb hs2 hc2 A HS HB2 ha P
  go_wp2_with fail
  refine (G.out a2 c2 _ HP.out).mono ?_
  rintro e w3 ⟨rfl, hb⟩
  have HB4 := Lib.hid (HB3.out.trans (hb.mono HB3.out.size))
  have A4 := Lib.hid (A3.out.keep hb A3.out.lt)
  have HS4 := Lib.hid (HS3.out.keep hb)
  clear hb A3 HS3 HB3 G HP
  have D0 := Lib.hid (Blk.new w3 (ints [3, 0, -1, 0, 0]).toArray 25)
  have HB5 := Lib.hid (HB4.out.alloc HB4.out.size (.cells (ints [3, 0, -1, 0, 0]).toArray 25))
  have A5 := Lib.hid (A4.out.alloc (.cells (ints [3, 0, -1, 0, 0]).toArray 25))
  have HS5 := Lib.hid (HS4.out.keep ((Below.refl _ _).alloc (Nat.le_refl _) (.cells (ints [3, 0, -1, 0, 0]).toArray 25)))
  rw [List.toList_toArray] at D0
  have OX : Hid (∀ u ∈ ints [3, 0, -1, 0, 0], u.oneCell' = true) := Lib.hid fun u hu => ints_one hu
  go_upto_region 4 with (first
    | ((with_reducible refine st_row_new (cs := ints [3, 0, -1, 0, 0]) TX3 OX.out ?_ ?_ ?_ ?_); (· first | rfl | simp); (· rfl); (· rfl); (simp only [Act.put, List.setIfInBounds_toArray, List.set_cons_zero, List.set_cons_succ])))
  clear A4 HS4 HB4
  generalize hg3 : w3.heap.size = g3 at *
  generalize w3.alloc (.cells (ints [3, 0, -1, 0, 0]).toArray 25) = w4 at *
  clear hg3
  have c0 := A5.out.cell 0
  have c1 := A5.out.cell 1
  have ro := A5.out.range 0 [.int .i64 0, .slice (some ⟨w.heap.size, 0, none⟩) 2 2] rfl
  have WA4 := Lib.hid (WA.out w4 HS5.out)
  clear WA
  go_wp2_with (first
    | ((with_reducible refine ld_row ro TO3 ?_ ?_ ?_); (· rfl); (· rfl); (simp only [Act.put, List.setIfInBounds_toArray, List.set_cons_zero, List.set_cons_succ])))
  refine WA4.out.mono ?_
  rintro e w5 ⟨v5, rfl, ho, hb⟩
  obtain ⟨a5, k5, rfl, _, _, _⟩ := Sl.own ho
  have HB6 := Lib.hid (HB5.out.trans (hb.mono HB5.out.size))
  have A6 := Lib.hid (A5.out.keep hb A5.out.lt)
  have D6 := Lib.hid (D0.out.keep hb D0.out.lt)
  have HS6 := Lib.hid (HS5.out.keep hb)
  clear hb ho A5 D0 HS5 HB5 WA4 c0 c1 ro
  have ro := A6.out.range 0 [.int .i64 0, .slice (some ⟨w.heap.size, 0, none⟩) 2 2] rfl
  have WB6 := Lib.hid (WB.out w5 HS6.out)
  clear WB
  go_wp2_with (first
    | ((with_reducible refine ld_row ro TO3 ?_ ?_ ?_); (· rfl); (· rfl); (simp only [Act.put, List.setIfInBounds_toArray, List.set_cons_zero, List.set_cons_succ])))
  refine WB6.out.mono ?_
  rintro e w6 ⟨v6, rfl, ho, hb⟩
  obtain ⟨a6, k6, rfl, _, _, _⟩ := Sl.own ho
  have HB7 := Lib.hid (HB6.out.trans (hb.mono HB6.out.size))
  have D7 := Lib.hid (D6.out.keep hb D6.out.lt)
  clear hb ho A6 D6 HS6 HB6 WB6 ro
  have rd := D7.out.range 0 (ints [3, 0, -1, 0, 0]) rfl
  have TX := Lib.hid (T.out w6 HB7.out)
  clear T
  go_wp2_with (first
    | ((with_reducible refine ld_row rd TX3 ?_ ?_ ?_); (· rfl); (· rfl); (simp only [Act.put, List.setIfInBounds_toArray, List.set_cons_zero, List.set_cons_succ]))
    | ((with_reducible refine cmp_row ef_guard E3.out ?_ ?_ ?_ ?_); (· rfl); (· rfl); (· rfl); (simp only [Act.put, List.setIfInBounds_toArray, List.set_cons_zero, List.set_cons_succ])))
  refine TX.out.mono ?_
  rintro e w7 ⟨rfl, hb⟩
  have HB8 := Lib.hid (HB7.out.trans (hb.mono HB7.out.size))
  clear hb
  go_wp2_with fail
  go_ret
  exact ⟨rfl, HB8.out⟩
theorem rgete_len (a : Option Addr) (n c : Nat) (w : World) (hn : n ≠ 13) : Calls Tryd.prog 13 #[.slice a n c] w fun e w' => e = .returned (.tuple #[.agg #[.int .i64 0, .int .i64 0, .int .i64 0, .int .i64 0, .int .i64 0], .bool false]) ∧ Below w.heap.size w w' := by
  have hn1 : ¬ (n : Int) = 13 := by omega
  have HB := Lib.hid ((Below.refl w.heap.size w).alloc (Nat.le_refl _) (.cells #[.int .i64 0, .int .i64 0, .int .i64 0, .int .i64 0, .int .i64 0] 25))
  have HB2 := Lib.hid (HB.out.alloc HB.out.size (.cells #[.int .i64 0, .int .i64 0, .int .i64 0, .int .i64 0, .int .i64 0] 25))
  have AZ := Lib.hid (Blk.new w #[.int .i64 0, .int .i64 0, .int .i64 0, .int .i64 0, .int .i64 0] 25)
  clear hn
  go_enter Tryd.func13, Tryd.ntmps13
  go_upto_region 1 with fail
  generalize w.alloc (.cells #[.int .i64 0, .int .i64 0, .int .i64 0, .int .i64 0, .int .i64 0] 25) = W at *
  clear HB2
  go_upto_region 2 with fail
  have C5 := Lib.hid (AZ.out.setAll (ints [0, 0, 0, 0, 0]) rfl)
  have HBZ := Lib.hid (below_sets (Nat.le_refl _) (ints [0, 0, 0, 0, 0]) 0 _ HB.out)
  go_wp2_with (first
    | ((with_reducible apply ef_store0); (· rfl); (· rfl); (· exact AZ.out); (· rfl); (simp only [Act.put, List.setIfInBounds_toArray, List.set_cons_zero, List.set_cons_succ]); (generalize W.setCells w.heap.size 0 (ints [0, 0, 0, 0, 0]) = WW at *)))
  refine ret_cell_tmp (p := 2) (q := 3) rfl rfl rfl C5.out Tryd.underlying25 rfl (by rw [ef_size]; rfl) rfl ⟨rfl, HBZ.out⟩
theorem fld_fitsE (bs : List UInt8) (o k : Nat) : fits (fld bs o k) = true := by unfold fld; rw [fits_iff]; unfold s64 wrap64; omega
/-- what is read of any octets, by the one and by the other. -/
theorem get_both (a1 : Option Addr) (n1 c1 : Nat) (bs : List UInt8) (w : World) (h : Sl w a1 n1 1 (bcells bs)) (hn1 : n1 ≤ c1) (hc1 : c1 ≤ 9223372036854775807) : ∃ (okb : Bool) (Y : List Int), Y.length = 5 ∧ (∀ z ∈ Y, fits z = true) ∧
    (∀ w', Below w.heap.size w w' → Calls Tryd.prog 11 #[.slice a1 n1 c1] w' fun e w2 => e = .returned (.tuple #[.agg (ints Y).toArray, .int .i64 (if okb then 0 else 16)]) ∧ Below w'.heap.size w' w2) ∧
    (∀ w', Below w.heap.size w w' → Calls Tryd.prog 13 #[.slice a1 n1 c1] w' fun e w2 => e = .returned (.tuple #[.agg (ints Y).toArray, .bool okb]) ∧ Below w'.heap.size w' w2) := by
  by_cases h13 : n1 = 13
  · subst h13
    refine ⟨decide (effCode (fld bs 0 1) (fld bs 1 1) (fld bs 10 1) (fld bs 11 2) = 0), effOf bs, effOf_len bs, ?_, fun w' hb => ?_, fun w' hb => rgete_main a1 c1 bs w' (h.keep hb) hn1 hc1 _ rfl⟩
    · unfold effOf
      split
      · intro z hz
        simp only [List.mem_cons, List.not_mem_nil, or_false] at hz
        rcases hz with rfl | rfl | rfl | rfl | rfl <;> exact fld_fitsE _ _ _
      · decide
    · have := eget_any a1 c1 bs w' (h.keep hb)
      by_cases hm : effCode (fld bs 0 1) (fld bs 1 1) (fld bs 10 1) (fld bs 11 2) = 0
      · rw [if_pos hm] at this
        rw [decide_eq_true hm]
        exact this
      · rw [if_neg hm] at this
        rw [decide_eq_false hm]
        exact this
  · exact ⟨false, [0, 0, 0, 0, 0], rfl, by decide, fun w' hb => (eget_len a1 n1 c1 w' h13).mono fun e w2 h => h, fun w' hb => rgete_len a1 n1 c1 w' h13⟩
set_option maxRecDepth 100000 in
set_option maxHeartbeats 8000000 in
theorem puts10 (k a n p q : Int) (a1 : Option Addr) (n1 c1 : Nat) (bs : List UInt8) (w : World) (hT : PTab w) (hW : WTab w) (hf : ∀ z ∈ [k, a, n, p, q], fits z = true) (hsl : Sl w a1 n1 1 (bcells bs)) (hn1 : n1 ≤ c1) (hc1 : c1 ≤ 9223372036854775807) :
    Calls Tryd.prog 3 #[.agg (ints [k, a, n, p, q]).toArray, .slice a1 n1 c1] w fun e w' => e = .returned (.bool true) ∧ Below w.heap.size w w' := by
  have A := Lib.hid (Blk.new w (ints [k, a, n, p, q]).toArray 25)
  have HB := Lib.hid ((Below.refl w.heap.size w).alloc (Nat.le_refl _) (.cells (ints [k, a, n, p, q]).toArray 25))
  rw [List.toList_toArray] at A
  have HAL := Lib.hid (fun w' (hb : Below w.heap.size w w') => alive10 w' (hT.keep hb) (hW.keep hb))
  obtain ⟨okb, Y, hY, hYf, hGB, hRB⟩ := get_both a1 n1 c1 bs w hsl hn1 hc1
  obtain ⟨eb, heb⟩ : ∃ eb : Int, eb = (if okb then 0 else 16) := ⟨_, rfl⟩
  rw [← heb] at hGB
  have HE := Lib.hid heb
  clear heb
  have GB := Lib.hid hGB
  have RB := Lib.hid hRB
  have LY : Hid ((ints Y).length = 5) := Lib.hid (by rw [ints_len]; exact hY)
  have OY : Hid (∀ u ∈ ints Y, u.oneCell' = true) := Lib.hid fun u hu => ints_one hu
  have EQY := Lib.hid (ef_eq (ok_ef hY hYf) (ok_ef hY hYf))
  rw [sameB_refl] at EQY
  have TY : RowT 25 (ints Y).length := by rw [LY.out]; exact eff_row
  have NEX := Lib.hid (ef_ne (ok_ef (x := [k, a, n, p, q]) rfl hf) (ok_ef (x := [k, a, n, p, q]) rfl hf))
  rw [sameB_refl] at NEX
  have HFN : fits n = true := hf n (by simp)
  have OX : Hid (∀ u ∈ ints [k, a, n, p, q], u.oneCell' = true) := Lib.hid fun u hu => ints_one hu
  have LX : Hid ((ints [k, a, n, p, q]).length = 5) := Lib.hid rfl
  have TX : RowT 25 (ints [k, a, n, p, q]).length := eff_row
  have IX : Hid ((Tryd.prog.info? 25).map (·.size) = some (ints [k, a, n, p, q]).length) := Lib.hid eff_row.2
  have K0 : Hid ((ints [k, a, n, p, q])[0]? = some (.int .i64 k)) := Lib.hid rfl
  obtain ⟨code, hcode⟩ : ∃ code, code = effCode k a p q := ⟨_, rfl⟩
  have MAY : Hid (∀ w, Calls Tryd.prog 7 #[.agg (ints [k, a, n, p, q]).toArray] w fun e w' => e = .returned (.int .i64 code) ∧ Below w.heap.size w w') := Lib.hid (fun w => by rw [hcode]; exact emay_any k a n p q w)
  have CHK : Hid (∀ w, Calls Tryd.prog 9 #[.agg (ints [k, a, n, p, q]).toArray] w fun e w' => e = .returned (.int .i64 code) ∧ Below w.heap.size w w') := Lib.hid (fun w => by rw [hcode]; exact echk_any k a n p q w)
  obtain ⟨lt, hlt⟩ : ∃ lt, lt = isLat k := ⟨_, rfl⟩
  have LAT : Hid (∀ w, Calls Tryd.prog 10 #[.agg (ints [k, a, n, p, q]).toArray] w fun e w' => e = .returned (.bool lt) ∧ Below w.heap.size w w') := Lib.hid (fun w => by rw [hlt]; exact later_any k a n p q w)
  have BK : Hid ((decide ((7 : Int) ≤ k) = false ∧ lt = false) ∨ ((7 : Int) ≤ k ∧ k ≤ 11 ∧ lt = true) ∨ ((7 : Int) ≤ k ∧ ¬ k ≤ 11 ∧ lt = false)) := Lib.hid (by
    rw [hlt]
    by_cases h1 : (7 : Int) ≤ k
    · by_cases h2 : k ≤ 11
      · exact Or.inr (Or.inl ⟨h1, h2, decide_eq_true ⟨h1, h2⟩⟩)
      · exact Or.inr (Or.inr ⟨h1, h2, decide_eq_false fun h => h2 h.2⟩)
    · exact Or.inl ⟨decide_eq_false h1, decide_eq_false fun h => h1 h.1⟩)
  have PY := Lib.hid (fun (hz : code = 0) w => eput_yes k a n p q w (hcode ▸ hz))
  have PN := Lib.hid (fun (hz : code ≠ 0) w => show Calls Tryd.prog 8 #[.agg (ints [k, a, n, p, q]).toArray] w fun e w' => e = .returned (.tuple #[.slice none 0 0, .int .i64 code]) ∧ Below w.heap.size w w' from by have := eput_no k a n p q w (hcode ▸ hz); rw [← hcode] at this; exact this)
  have RP : Hid (∀ w, Calls Tryd.prog 12 #[.agg (ints [k, a, n, p, q]).toArray] w fun e w' => ∃ a' c', e = .returned (.slice a' 13 c') ∧ Sl w' a' 13 1 (bcells (encE k a n p q)) ∧ Below w.heap.size w w') := Lib.hid (fun w => rpute_any k a n p q w)
  have GE := Lib.hid (fun (hz : code = 0) a' c' w h => get_ence (k := k) (a := a) (n := n) (p := p) (q := q) (hcode ▸ hz) HFN a' c' w h)
  clear hT hW hf hsl hn1 hc1 hGB hRB hY hYf HFN hlt hcode
  have PY : Hid (code = 0 → ∀ w, Calls Tryd.prog 8 #[.agg (ints [k, a, n, p, q]).toArray] w fun e w' => ∃ a' c', e = .returned (.tuple #[.slice a' 13 c', .int .i64 0]) ∧ Sl w' a' 13 1 (bcells (encE k a n p q)) ∧ (13 ≤ c' ∧ c' ≤ 9223372036854775807) ∧ Below w.heap.size w w') := PY
  generalize encE k a n p q = bs0 at *
  generalize [k, a, n, p, q] = X at *
  go_enter Tryd.func3, Tryd.ntmps3
  go_upto_region 1 with fail
  generalize hg0 : w.heap.size = g0 at *
  have HG0 := Lib.hid hg0
  generalize w.alloc (.cells (ints X).toArray 25) = w1 at *
  clear hg0
  have AL1 := Lib.hid (HAL.out w1 HB.out)
  go_wp2_with fail
  refine AL1.out.mono ?_
  rintro e w2 ⟨rfl, hb⟩
  have HB2 := Lib.hid (HB.out.trans (hb.mono (HG0.out ▸ HB.out.size)))
  have A2 := Lib.hid (A.out.keep hb A.out.lt)
  clear hb HB A AL1 HAL
  have rx := A2.out.range 0 (ints X) (by simp)
  go_wp2_with (first
    | ((with_reducible refine ld_row rx TX ?_ ?_ ?_); (· rfl); (· rfl); (simp only [Act.put, List.setIfInBounds_toArray, List.set_cons_zero, List.set_cons_succ])))
  refine (MAY.out _).mono ?_
  rintro e w3 ⟨rfl, hb⟩
  have HB3 := Lib.hid (HB2.out.trans (hb.mono (HG0.out ▸ HB2.out.size)))
  have A3 := Lib.hid (A2.out.keep hb A2.out.lt)
  clear hb HB2 A2 MAY rx
  have rx := A3.out.range 0 (ints X) (by simp)
  by_cases hz : code = 0
  · have PY3 := Lib.hid (PY.out hz w3)
    have GE3 := Lib.hid (GE.out hz)
    clear PY PN GE
    subst hz
    go_wp2_with (first
      | ((with_reducible refine ld_row rx TX ?_ ?_ ?_); (· rfl); (· rfl); (simp only [Act.put, List.setIfInBounds_toArray, List.set_cons_zero, List.set_cons_succ])))
    refine PY3.out.mono ?_
    rintro e w4 ⟨a2, c2, rfl, hs2, hc2, hb⟩
    have HB4 := Lib.hid (HB3.out.trans (hb.mono (HG0.out ▸ HB3.out.size)))
    have A4 := Lib.hid (A3.out.keep hb A3.out.lt)
    have HS4 := Lib.hid hs2
    clear hb hs2 hc2 HB3 A3 rx PY3
    have la := A4.out.lt
    go_upto_region 5 with fail
    go_cut [44] (fun s44 wx => s44 = .bool false ∧ Hid (Below w4.heap.size w4 wx))
    case first =>
      rcases BK.out with ⟨hb1, hb2⟩ | ⟨hb1, hb2, hlt⟩ | ⟨hb1, hb2, hlt⟩
      · subst hb2
        refine q_begin (by kernel_rfl) (by kernel_rfl) ?_
        repeat (first
          | go_big_quiet_skip
          | ((with_reducible apply q_row); (· rfl); (· rfl); (· exact Tryd.underlying25); (· rfl); (· exact A4.out); (· exact la); (· exact IX.out); (simp only [Act.put, List.setIfInBounds_toArray, List.set_cons_zero, List.set_cons_succ]))
          | ((with_reducible apply q_int); (· rfl); (· rfl); (· exact Tryd.underlying3); (· exact A4.out); (· exact la); (· exact K0.out); (simp only [Act.put, List.setIfInBounds_toArray, List.set_cons_zero, List.set_cons_succ]))
          | ((with_reducible apply q_call 9 (.int .i64 0)); (· rfl); (· exact Nat.le_refl _); (· intro w _; exact CHK.out w); (· intro w; go_simp); (simp only [Act.put, List.setIfInBounds_toArray, List.set_cons_zero, List.set_cons_succ]))
          | ((with_reducible apply q_call 10 (.bool false)); (· rfl); (· exact Nat.le_refl _); (· intro w _; exact LAT.out w); (· intro w; go_simp); (simp only [Act.put, List.setIfInBounds_toArray, List.set_cons_zero, List.set_cons_succ]))
          | (go_big_quiet_want; go_big_quiet_op; (first | go_big_quiet_on | (apply Exists.intro; refine ⟨fun _ _ => rfl, ?_⟩; go_big_quiet_on))))
        refine q_end ?_
        intro w9 hb9
        go_wp2_with fail
        go_meet
        exact ⟨by first | rfl | simp [hb2], Lib.hid hb9⟩
      · subst hlt
        refine q_begin (by kernel_rfl) (by kernel_rfl) ?_
        repeat (first
          | go_big_quiet_skip
          | ((with_reducible apply q_row); (· rfl); (· rfl); (· exact Tryd.underlying25); (· rfl); (· exact A4.out); (· exact la); (· exact IX.out); (simp only [Act.put, List.setIfInBounds_toArray, List.set_cons_zero, List.set_cons_succ]))
          | ((with_reducible apply q_int); (· rfl); (· rfl); (· exact Tryd.underlying3); (· exact A4.out); (· exact la); (· exact K0.out); (simp only [Act.put, List.setIfInBounds_toArray, List.set_cons_zero, List.set_cons_succ]))
          | ((with_reducible apply q_call 9 (.int .i64 0)); (· rfl); (· exact Nat.le_refl _); (· intro w _; exact CHK.out w); (· intro w; go_simp); (simp only [Act.put, List.setIfInBounds_toArray, List.set_cons_zero, List.set_cons_succ]))
          | ((with_reducible apply q_call 10 (.bool true)); (· rfl); (· exact Nat.le_refl _); (· intro w _; exact LAT.out w); (· intro w; go_simp); (simp only [Act.put, List.setIfInBounds_toArray, List.set_cons_zero, List.set_cons_succ]))
          | (go_big_quiet_want; go_big_quiet_op; (first | go_big_quiet_on | (apply Exists.intro; refine ⟨fun _ _ => rfl, ?_⟩; go_big_quiet_on))))
        refine q_end ?_
        intro w9 hb9
        go_wp2_with fail
        go_meet
        exact ⟨by first | rfl | simp [hb2], Lib.hid hb9⟩
      · subst hlt
        refine q_begin (by kernel_rfl) (by kernel_rfl) ?_
        repeat (first
          | go_big_quiet_skip
          | ((with_reducible apply q_row); (· rfl); (· rfl); (· exact Tryd.underlying25); (· rfl); (· exact A4.out); (· exact la); (· exact IX.out); (simp only [Act.put, List.setIfInBounds_toArray, List.set_cons_zero, List.set_cons_succ]))
          | ((with_reducible apply q_int); (· rfl); (· rfl); (· exact Tryd.underlying3); (· exact A4.out); (· exact la); (· exact K0.out); (simp only [Act.put, List.setIfInBounds_toArray, List.set_cons_zero, List.set_cons_succ]))
          | ((with_reducible apply q_call 9 (.int .i64 0)); (· rfl); (· exact Nat.le_refl _); (· intro w _; exact CHK.out w); (· intro w; go_simp); (simp only [Act.put, List.setIfInBounds_toArray, List.set_cons_zero, List.set_cons_succ]))
          | ((with_reducible apply q_call 10 (.bool false)); (· rfl); (· exact Nat.le_refl _); (· intro w _; exact LAT.out w); (· intro w; go_simp); (simp only [Act.put, List.setIfInBounds_toArray, List.set_cons_zero, List.set_cons_succ]))
          | (go_big_quiet_want; go_big_quiet_op; (first | go_big_quiet_on | (apply Exists.intro; refine ⟨fun _ _ => rfl, ?_⟩; go_big_quiet_on))))
        refine q_end ?_
        intro w9 hb9
        go_wp2_with fail
        go_meet
        exact ⟨by first | rfl | simp [hb2], Lib.hid hb9⟩
    case rest =>
      obtain ⟨rfl, hbc⟩ := hcut
      have HB5 := Lib.hid (HB4.out.trans (hbc.out.mono (HG0.out ▸ HB4.out.size)))
      have A5 := Lib.hid (A4.out.keep hbc.out A4.out.lt)
      have HS5 := Lib.hid (HS4.out.keep hbc.out)
      clear hbc HB4 A4 HS4 la BK CHK LAT
      go_upto_region 8 with fail
      have G5 := Lib.hid (GE3.out a2 c2 wc HS5.out)
      go_wp2_with fail
      refine G5.out.mono ?_
      rintro e wg ⟨rfl, hb⟩
      have HBg := Lib.hid (HB5.out.trans (hb.mono (HG0.out ▸ HB5.out.size)))
      have Ag := Lib.hid (A5.out.keep hb A5.out.lt)
      have HSg := Lib.hid (HS5.out.keep hb)
      clear hb HB5 A5 HS5 G5 GE3
      have D6 := Lib.hid (Blk.new wg (ints X).toArray 25)
      have A6 := Lib.hid (Ag.out.alloc (.cells (ints X).toArray 25))
      have HB6 := Lib.hid (HBg.out.alloc (HG0.out ▸ HBg.out.size) (.cells (ints X).toArray 25))
      have HS6 := Lib.hid (HSg.out.keep ((Below.refl _ _).alloc (Nat.le_refl _) (.cells (ints X).toArray 25)))
      rw [List.toList_toArray] at D6
      go_upto_region 9 with (first
        | ((with_reducible refine st_row_new (cs := ints X) TX OX.out ?_ ?_ ?_ ?_); (· first | rfl | simp); (· rfl); (· first | rfl | exact LX.out.symm | exact LY.out.symm); (simp only [Act.put, List.setIfInBounds_toArray, List.set_cons_zero, List.set_cons_succ])))
      clear HBg Ag HSg
      generalize hgg : wg.heap.size = gg at *
      generalize wg.alloc (.cells (ints X).toArray 25) = w6 at *
      clear hgg
      refine held_begin (fun w' => Below w6.heap.size w6 w') 15 [false, false, false, false, false, false, false, false, false, false, false, false, false, false, false] (by kernel_rfl) rfl (by rfl) ?_
      have hHeld : Below w6.heap.size w6 w6.drew := (Below.refl _ _).drew
      refine held_take (v := ?_) 0 52 [true, false, false, false, false, false, false, false, false, false, false, false, false, false, false] rfl (by rfl) (by rfl) (by kernel_rfl) (by kernel_rfl) (by kernel_rfl) (by rfl) (fun _ _ _ h => h) ?_ hHeld ?_
      rotate_left
      · intro w hSw; go_simp <;> with_reducible rfl
      simp only [Act.put, List.setIfInBounds_toArray, List.set_cons_zero, List.set_cons_succ]
      refine held_take (v := .string ⟨bs0.toArray⟩) 1 53 [true, true, false, false, false, false, false, false, false, false, false, false, false, false, false] rfl (by rfl) (by rfl) (by kernel_rfl) (by kernel_rfl) (by kernel_rfl) (by rfl) (fun _ _ _ h => h) (fun w' h => run_op_conv rfl rfl (conv_bytes (HS6.out.keep h) _)) hHeld ?_
      simp only [Act.put, List.setIfInBounds_toArray, List.set_cons_zero, List.set_cons_succ]
      refine held_take (v := .agg (ints X).toArray) 2 54 [true, true, true, false, false, false, false, false, false, false, false, false, false, false, false] rfl (by rfl) (by rfl) (by kernel_rfl) (by kernel_rfl) (by kernel_rfl) (by rfl) (fun _ _ _ h => h) (fun w' h => run_op_load rfl rfl ((A6.out.keep h A6.out.lt).range 0 (ints X) (by simp)) Tryd.underlying25 rfl IX.out) hHeld ?_
      simp only [Act.put, List.setIfInBounds_toArray, List.set_cons_zero, List.set_cons_succ]
      refine held_call 3 55 [true, true, true, true, false, false, false, false, false, false, false, false, false, false, false] (by kernel_rfl) rfl (by rfl) (by rfl) (by rfl) (by go_simp) ((RP.out _).mono ?_)
      rintro e w8 ⟨a8, c8, rfl, hs8, hb8⟩
      refine ⟨_, rfl, hHeld.trans (hb8.mono hHeld.size), fun hHeld => ?_⟩
      simp only [Act.put, List.setIfInBounds_toArray, List.set_cons_zero, List.set_cons_succ]
      have hHeld : Below w6.heap.size w6 _ := hHeld
      refine held_one 4 (by kernel_rfl) ?_
      refine op_value (v := .string ⟨bs0.toArray⟩) 56 [true, true, true, true, true, false, false, false, false, false, false, false, false, false, false] rfl (by rfl) (by rfl) (by rfl) (run_op_conv rfl rfl (conv_bytes hs8 _)) (hHeld) fun hHeld => ?_
      simp only [Act.put, List.setIfInBounds_toArray, List.set_cons_zero, List.set_cons_succ]
      refine held_take (v := .bool false) 5 57 [true, true, true, true, true, true, false, false, false, false, false, false, false, false, false] rfl (by rfl) (by rfl) (by kernel_rfl) (by kernel_rfl) (by kernel_rfl) (by rfl) (fun _ _ _ h => h) (fun w h => by go_simp) hHeld ?_
      simp only [Act.put, List.setIfInBounds_toArray, List.set_cons_zero, List.set_cons_succ]
      refine held_take (v := ?_) 6 58 [true, true, true, true, true, true, true, false, false, false, false, false, false, false, false] rfl (by rfl) (by rfl) (by kernel_rfl) (by kernel_rfl) (by kernel_rfl) (by rfl) (fun _ _ _ h => h) ?_ hHeld ?_
      rotate_left
      · intro w hSw; go_simp <;> with_reducible rfl
      simp only [Act.put, List.setIfInBounds_toArray, List.set_cons_zero, List.set_cons_succ]
      refine held_take (v := ?_) 7 59 [true, true, true, true, true, true, true, true, false, false, false, false, false, false, false] rfl (by rfl) (by rfl) (by kernel_rfl) (by kernel_rfl) (by kernel_rfl) (by rfl) (fun _ _ _ h => h) ?_ hHeld ?_
      rotate_left
      · intro w hSw; go_simp <;> with_reducible rfl
      simp only [Act.put, List.setIfInBounds_toArray, List.set_cons_zero, List.set_cons_succ]
      refine held_take (v := .bool false) 8 60 [true, true, true, true, true, true, true, true, true, false, false, false, false, false, false] rfl (by rfl) (by rfl) (by kernel_rfl) (by kernel_rfl) (by kernel_rfl) (by rfl) (fun _ _ _ h => h) (fun w h => by go_simp) hHeld ?_
      simp only [Act.put, List.setIfInBounds_toArray, List.set_cons_zero, List.set_cons_succ]
      refine held_take (v := .bool false) 9 61 [true, true, true, true, true, true, true, true, true, true, false, false, false, false, false] rfl (by rfl) (by rfl) (by kernel_rfl) (by kernel_rfl) (by kernel_rfl) (by rfl) (fun _ _ _ h => h) (fun w h => by go_simp) hHeld ?_
      simp only [Act.put, List.setIfInBounds_toArray, List.set_cons_zero, List.set_cons_succ]
      refine held_take (v := ?_) 10 62 [true, true, true, true, true, true, true, true, true, true, true, false, false, false, false] rfl (by rfl) (by rfl) (by kernel_rfl) (by kernel_rfl) (by kernel_rfl) (by rfl) (fun _ _ _ h => h) ?_ hHeld ?_
      rotate_left
      · intro w hSw; go_simp <;> with_reducible rfl
      simp only [Act.put, List.setIfInBounds_toArray, List.set_cons_zero, List.set_cons_succ]
      refine held_take (v := .agg (ints X).toArray) 11 63 [true, true, true, true, true, true, true, true, true, true, true, true, false, false, false] rfl (by rfl) (by rfl) (by kernel_rfl) (by kernel_rfl) (by kernel_rfl) (by rfl) (fun _ _ _ h => h) (fun w' h => run_op_load rfl rfl ((D6.out.keep h D6.out.lt).range 0 (ints X) (by simp)) Tryd.underlying25 rfl IX.out) hHeld ?_
      simp only [Act.put, List.setIfInBounds_toArray, List.set_cons_zero, List.set_cons_succ]
      refine held_take (v := .agg (ints X).toArray) 12 64 [true, true, true, true, true, true, true, true, true, true, true, true, true, false, false] rfl (by rfl) (by rfl) (by kernel_rfl) (by kernel_rfl) (by kernel_rfl) (by rfl) (fun _ _ _ h => h) (fun w' h => run_op_load rfl rfl ((A6.out.keep h A6.out.lt).range 0 (ints X) (by simp)) Tryd.underlying25 rfl IX.out) hHeld ?_
      simp only [Act.put, List.setIfInBounds_toArray, List.set_cons_zero, List.set_cons_succ]
      refine held_take (v := .bool false) 13 65 [true, true, true, true, true, true, true, true, true, true, true, true, true, true, false] rfl (by rfl) (by rfl) (by kernel_rfl) (by kernel_rfl) (by kernel_rfl) (by rfl) (fun _ _ _ h => h) (fun w h => run_op_cmp rfl rfl rfl ef_guard (NEX.out w)) hHeld ?_
      simp only [Act.put, List.setIfInBounds_toArray, List.set_cons_zero, List.set_cons_succ]
      refine held_take (v := .bool false) 14 66 [true, true, true, true, true, true, true, true, true, true, true, true, true, true, true] rfl (by rfl) (by rfl) (by kernel_rfl) (by kernel_rfl) (by kernel_rfl) (by rfl) (fun _ _ _ h => h) (fun w h => by go_simp) hHeld ?_
      simp only [Act.put, List.setIfInBounds_toArray, List.set_cons_zero, List.set_cons_succ]
      refine held_done (by kernel_rfl) ?_
      have HBt := Lib.hid (HB6.out.trans (hHeld.mono (HG0.out ▸ HB6.out.size)))
      clear hHeld HB6 HS6 hs8 hb8
      have hge := HG0.out
      subst hge
      go_upto_region 11 with fail
      have GB1 := Lib.hid (GB.out w8 HBt.out)
      go_wp2_with fail
      refine GB1.out.mono ?_
      rintro e wa ⟨rfl, hb⟩
      have HBa := Lib.hid (HBt.out.trans (hb.mono HBt.out.size))
      clear hb HBt GB1 GB
      have E0 := Lib.hid (Blk.new wa (ints Y).toArray 25)
      have HBb := Lib.hid (HBa.out.alloc HBa.out.size (.cells (ints Y).toArray 25))
      rw [List.toList_toArray] at E0
      go_upto_region 12 with (first
        | ((with_reducible refine st_row_new (cs := ints Y) TY OY.out ?_ ?_ ?_ ?_); (· first | rfl | simp); (· rfl); (· first | rfl | exact LX.out.symm | exact LY.out.symm); (simp only [Act.put, List.setIfInBounds_toArray, List.set_cons_zero, List.set_cons_succ])))
      clear HBa
      generalize hga : wa.heap.size = ga at *
      generalize wa.alloc (.cells (ints Y).toArray 25) = wb at *
      clear hga
      have RB1 := Lib.hid (RB.out wb HBb.out)
      go_wp2_with fail
      refine RB1.out.mono ?_
      rintro e wd ⟨rfl, hb⟩
      have HBd := Lib.hid (HBb.out.trans (hb.mono HBb.out.size))
      have E1 := Lib.hid (E0.out.keep hb E0.out.lt)
      clear hb HBb RB1 RB E0
      have F0 := Lib.hid (Blk.new wd (ints Y).toArray 25)
      have HBe := Lib.hid (HBd.out.alloc HBd.out.size (.cells (ints Y).toArray 25))
      have E2 := Lib.hid (E1.out.alloc (.cells (ints Y).toArray 25))
      rw [List.toList_toArray] at F0
      go_upto_region 13 with (first
        | ((with_reducible refine st_row_new (cs := ints Y) TY OY.out ?_ ?_ ?_ ?_); (· first | rfl | simp); (· rfl); (· first | rfl | exact LX.out.symm | exact LY.out.symm); (simp only [Act.put, List.setIfInBounds_toArray, List.set_cons_zero, List.set_cons_succ])))
      clear HBd E1
      generalize hgd : wd.heap.size = gd at *
      generalize wd.alloc (.cells (ints Y).toArray 25) = we at *
      clear hgd
      have ry := E2.out.range 0 (ints Y) (by simp)
      have rz := F0.out.range 0 (ints Y) (by simp)
      cases okb
      · obtain rfl : eb = 16 := by have := HE.out; simpa using this
        go_wp2_with (first
          | ((with_reducible refine ld_row ry TY ?_ ?_ ?_); (· rfl); (· rfl); (simp only [Act.put, List.setIfInBounds_toArray, List.set_cons_zero, List.set_cons_succ])) | ((with_reducible refine ld_row rz TY ?_ ?_ ?_); (· rfl); (· rfl); (simp only [Act.put, List.setIfInBounds_toArray, List.set_cons_zero, List.set_cons_succ]))
          | ((with_reducible refine cmp_row ef_guard EQY.out ?_ ?_ ?_ ?_); (· rfl); (· rfl); (· rfl); (simp only [Act.put, List.setIfInBounds_toArray, List.set_cons_zero, List.set_cons_succ])))
        go_ret
        exact ⟨rfl, HBe.out⟩
      · obtain rfl : eb = 0 := by have := HE.out; simpa using this
        go_wp2_with (first
          | ((with_reducible refine ld_row ry TY ?_ ?_ ?_); (· rfl); (· rfl); (simp only [Act.put, List.setIfInBounds_toArray, List.set_cons_zero, List.set_cons_succ])) | ((with_reducible refine ld_row rz TY ?_ ?_ ?_); (· rfl); (· rfl); (simp only [Act.put, List.setIfInBounds_toArray, List.set_cons_zero, List.set_cons_succ]))
          | ((with_reducible refine cmp_row ef_guard EQY.out ?_ ?_ ?_ ?_); (· rfl); (· rfl); (· rfl); (simp only [Act.put, List.setIfInBounds_toArray, List.set_cons_zero, List.set_cons_succ])))
        go_ret
        exact ⟨rfl, HBe.out⟩

  · have PN3 := Lib.hid (PN.out hz w3)
    have hcb : (code == 0) = false := by simpa using hz
    clear PY PN GE hz
    go_wp2_with (first
      | ((with_reducible refine ld_row rx TX ?_ ?_ ?_); (· rfl); (· rfl); (simp only [Act.put, List.setIfInBounds_toArray, List.set_cons_zero, List.set_cons_succ])))
    refine PN3.out.mono ?_
    rintro e w4 ⟨rfl, hb⟩
    have HB4 := Lib.hid (HB3.out.trans (hb.mono (HG0.out ▸ HB3.out.size)))
    have A4 := Lib.hid (A3.out.keep hb A3.out.lt)
    clear hb HB3 A3 rx PN3
    have la := A4.out.lt
    go_upto_region 5 with fail
    go_cut [44] (fun s44 wx => s44 = .bool false ∧ Hid (Below w4.heap.size w4 wx))
    case first =>
      rcases BK.out with ⟨hb1, hb2⟩ | ⟨hb1, hb2, hlt⟩ | ⟨hb1, hb2, hlt⟩
      · subst hb2
        refine q_begin (by kernel_rfl) (by kernel_rfl) ?_
        repeat (first
          | go_big_quiet_skip
          | ((with_reducible apply q_row); (· rfl); (· rfl); (· exact Tryd.underlying25); (· rfl); (· exact A4.out); (· exact la); (· exact IX.out); (simp only [Act.put, List.setIfInBounds_toArray, List.set_cons_zero, List.set_cons_succ]))
          | ((with_reducible apply q_int); (· rfl); (· rfl); (· exact Tryd.underlying3); (· exact A4.out); (· exact la); (· exact K0.out); (simp only [Act.put, List.setIfInBounds_toArray, List.set_cons_zero, List.set_cons_succ]))
          | ((with_reducible apply q_call 9 (.int .i64 code)); (· rfl); (· exact Nat.le_refl _); (· intro w _; exact CHK.out w); (· intro w; go_simp); (simp only [Act.put, List.setIfInBounds_toArray, List.set_cons_zero, List.set_cons_succ]))
          | ((with_reducible apply q_call 10 (.bool false)); (· rfl); (· exact Nat.le_refl _); (· intro w _; exact LAT.out w); (· intro w; go_simp); (simp only [Act.put, List.setIfInBounds_toArray, List.set_cons_zero, List.set_cons_succ]))
          | (go_big_quiet_want; go_big_quiet_op; (first | go_big_quiet_on | (apply Exists.intro; refine ⟨fun _ _ => rfl, ?_⟩; go_big_quiet_on))))
        refine q_end ?_
        intro w9 hb9
        go_wp2_with fail
        go_meet
        exact ⟨by first | rfl | simp [hb2], Lib.hid hb9⟩
      · subst hlt
        refine q_begin (by kernel_rfl) (by kernel_rfl) ?_
        repeat (first
          | go_big_quiet_skip
          | ((with_reducible apply q_row); (· rfl); (· rfl); (· exact Tryd.underlying25); (· rfl); (· exact A4.out); (· exact la); (· exact IX.out); (simp only [Act.put, List.setIfInBounds_toArray, List.set_cons_zero, List.set_cons_succ]))
          | ((with_reducible apply q_int); (· rfl); (· rfl); (· exact Tryd.underlying3); (· exact A4.out); (· exact la); (· exact K0.out); (simp only [Act.put, List.setIfInBounds_toArray, List.set_cons_zero, List.set_cons_succ]))
          | ((with_reducible apply q_call 9 (.int .i64 code)); (· rfl); (· exact Nat.le_refl _); (· intro w _; exact CHK.out w); (· intro w; go_simp); (simp only [Act.put, List.setIfInBounds_toArray, List.set_cons_zero, List.set_cons_succ]))
          | ((with_reducible apply q_call 10 (.bool true)); (· rfl); (· exact Nat.le_refl _); (· intro w _; exact LAT.out w); (· intro w; go_simp); (simp only [Act.put, List.setIfInBounds_toArray, List.set_cons_zero, List.set_cons_succ]))
          | (go_big_quiet_want; go_big_quiet_op; (first | go_big_quiet_on | (apply Exists.intro; refine ⟨fun _ _ => rfl, ?_⟩; go_big_quiet_on))))
        refine q_end ?_
        intro w9 hb9
        go_wp2_with fail
        go_meet
        exact ⟨by first | rfl | simp [hb2], Lib.hid hb9⟩
      · subst hlt
        refine q_begin (by kernel_rfl) (by kernel_rfl) ?_
        repeat (first
          | go_big_quiet_skip
          | ((with_reducible apply q_row); (· rfl); (· rfl); (· exact Tryd.underlying25); (· rfl); (· exact A4.out); (· exact la); (· exact IX.out); (simp only [Act.put, List.setIfInBounds_toArray, List.set_cons_zero, List.set_cons_succ]))
          | ((with_reducible apply q_int); (· rfl); (· rfl); (· exact Tryd.underlying3); (· exact A4.out); (· exact la); (· exact K0.out); (simp only [Act.put, List.setIfInBounds_toArray, List.set_cons_zero, List.set_cons_succ]))
          | ((with_reducible apply q_call 9 (.int .i64 code)); (· rfl); (· exact Nat.le_refl _); (· intro w _; exact CHK.out w); (· intro w; go_simp); (simp only [Act.put, List.setIfInBounds_toArray, List.set_cons_zero, List.set_cons_succ]))
          | ((with_reducible apply q_call 10 (.bool false)); (· rfl); (· exact Nat.le_refl _); (· intro w _; exact LAT.out w); (· intro w; go_simp); (simp only [Act.put, List.setIfInBounds_toArray, List.set_cons_zero, List.set_cons_succ]))
          | (go_big_quiet_want; go_big_quiet_op; (first | go_big_quiet_on | (apply Exists.intro; refine ⟨fun _ _ => rfl, ?_⟩; go_big_quiet_on))))
        refine q_end ?_
        intro w9 hb9
        go_wp2_with fail
        go_meet
        exact ⟨by first | rfl | simp [hb2], Lib.hid hb9⟩
    case rest =>
      obtain ⟨rfl, hbc⟩ := hcut
      have HBt := Lib.hid (HB4.out.trans (hbc.out.mono (HG0.out ▸ HB4.out.size)))
      clear hbc HB4 A4 la BK CHK LAT
      have hge := HG0.out
      subst hge
      go_upto_region 11 with fail
      have GB1 := Lib.hid (GB.out wc HBt.out)
      go_wp2_with fail
      refine GB1.out.mono ?_
      rintro e wa ⟨rfl, hb⟩
      have HBa := Lib.hid (HBt.out.trans (hb.mono HBt.out.size))
      clear hb HBt GB1 GB
      have E0 := Lib.hid (Blk.new wa (ints Y).toArray 25)
      have HBb := Lib.hid (HBa.out.alloc HBa.out.size (.cells (ints Y).toArray 25))
      rw [List.toList_toArray] at E0
      go_upto_region 12 with (first
        | ((with_reducible refine st_row_new (cs := ints Y) TY OY.out ?_ ?_ ?_ ?_); (· first | rfl | simp); (· rfl); (· first | rfl | exact LX.out.symm | exact LY.out.symm); (simp only [Act.put, List.setIfInBounds_toArray, List.set_cons_zero, List.set_cons_succ])))
      clear HBa
      generalize hga : wa.heap.size = ga at *
      generalize wa.alloc (.cells (ints Y).toArray 25) = wb at *
      clear hga
      have RB1 := Lib.hid (RB.out wb HBb.out)
      go_wp2_with fail
      refine RB1.out.mono ?_
      rintro e wd ⟨rfl, hb⟩
      have HBd := Lib.hid (HBb.out.trans (hb.mono HBb.out.size))
      have E1 := Lib.hid (E0.out.keep hb E0.out.lt)
      clear hb HBb RB1 RB E0
      have F0 := Lib.hid (Blk.new wd (ints Y).toArray 25)
      have HBe := Lib.hid (HBd.out.alloc HBd.out.size (.cells (ints Y).toArray 25))
      have E2 := Lib.hid (E1.out.alloc (.cells (ints Y).toArray 25))
      rw [List.toList_toArray] at F0
      go_upto_region 13 with (first
        | ((with_reducible refine st_row_new (cs := ints Y) TY OY.out ?_ ?_ ?_ ?_); (· first | rfl | simp); (· rfl); (· first | rfl | exact LX.out.symm | exact LY.out.symm); (simp only [Act.put, List.setIfInBounds_toArray, List.set_cons_zero, List.set_cons_succ])))
      clear HBd E1
      generalize hgd : wd.heap.size = gd at *
      generalize wd.alloc (.cells (ints Y).toArray 25) = we at *
      clear hgd
      have ry := E2.out.range 0 (ints Y) (by simp)
      have rz := F0.out.range 0 (ints Y) (by simp)
      cases okb
      · obtain rfl : eb = 16 := by have := HE.out; simpa using this
        go_wp2_with (first
          | ((with_reducible refine ld_row ry TY ?_ ?_ ?_); (· rfl); (· rfl); (simp only [Act.put, List.setIfInBounds_toArray, List.set_cons_zero, List.set_cons_succ])) | ((with_reducible refine ld_row rz TY ?_ ?_ ?_); (· rfl); (· rfl); (simp only [Act.put, List.setIfInBounds_toArray, List.set_cons_zero, List.set_cons_succ]))
          | ((with_reducible refine cmp_row ef_guard EQY.out ?_ ?_ ?_ ?_); (· rfl); (· rfl); (· rfl); (simp only [Act.put, List.setIfInBounds_toArray, List.set_cons_zero, List.set_cons_succ])))
        go_ret
        exact ⟨rfl, HBe.out⟩
      · obtain rfl : eb = 0 := by have := HE.out; simpa using this
        go_wp2_with (first
          | ((with_reducible refine ld_row ry TY ?_ ?_ ?_); (· rfl); (· rfl); (simp only [Act.put, List.setIfInBounds_toArray, List.set_cons_zero, List.set_cons_succ])) | ((with_reducible refine ld_row rz TY ?_ ?_ ?_); (· rfl); (· rfl); (simp only [Act.put, List.setIfInBounds_toArray, List.set_cons_zero, List.set_cons_succ]))
          | ((with_reducible refine cmp_row ef_guard EQY.out ?_ ?_ ?_ ?_); (· rfl); (· rfl); (· rfl); (simp only [Act.put, List.setIfInBounds_toArray, List.set_cons_zero, List.set_cons_succ])))
        go_ret
        exact ⟨rfl, HBe.out⟩

theorem puts10_law (v0 v1 : Value) (w : World) (hL : laidMet Tryd.prog Rows.effectPutsRow.laid w) (h0 : Arg Tryd.prog w 25 v0) (h1 : Arg Tryd.prog w 26 v1) : Calls Tryd.prog 3 #[v0, v1] w fun e w' => e = .returned (.bool true) ∧ Below w.heap.size w w' := by
  have hT : PTab w := ptab_of hL (l := Rows.effectPutsRow.laid) (List.Mem.tail _ (List.Mem.tail _ (List.Mem.head _)))
  have hW : WTab w := wtab_of hL (l := Rows.effectPutsRow.laid) (List.Mem.tail _ (List.Mem.tail _ (List.Mem.tail _ (List.Mem.head _))))
  obtain ⟨cs, rfl, h2⟩ := h0.flat_struct Tryd.underlying25 flatEf
  obtain ⟨l, h3, h4, h5⟩ := ints_of_ok 5 _ h2
  obtain ⟨a1, n1, c1, bs, rfl, hn, hc, _, _, hs⟩ := h1.bytes
  obtain ⟨k, a, n, p, q, rfl⟩ := row5 h3
  rw [show cs = cs.toList.toArray by simp, h4]
  exact puts10 k a n p q a1 n1 c1 bs w hT hW (fun z hz => fits_wf (h5 z hz)) hs hn hc
end Go.Proofs.YteebmpbplenikaaDoor
