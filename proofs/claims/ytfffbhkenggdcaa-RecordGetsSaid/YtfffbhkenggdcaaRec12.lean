/- A record read off a reader: the other kinds. -/
import Derived.Test.YtfffbhkenggdcaaRec11
import Derived.Test.YtfffbhkenggdcaaChg8
import Derived.Test.YtfffbhkenggdcaaChg7
import Derived.Test.YtfffbhkenggdcaaRow
import Derived.Test.YtfffbhkenggdcaaOps
import Derived.Test.YtfffbhkenggdcaaEq
import Derived.Test.YtfffbhkenggdcaaChgOps
import Derived.RegionTactic
import Derived.BigRegion
import Derived.ChangeAlike
namespace Go.Proofs.Ytfffbhkenggdcaa
set_option linter.unusedVariables false
set_option linter.unusedSimpArgs false
open Go.ChangeShapes Go.WideShapes Go.ChangeAt Go.RowKit
/-- are octets those of a change? -/
def okChg (bs : List UInt8) : Bool := decide (bs.length = 22 ∧ (bs.getD 21 0).toNat = 67 ∧ mayChg (fld bs 0 1) (fld bs 1 2) (fld bs 3 4) (fld bs 7 1) (fld bs 8 1) (fld bs 9 1) (fld bs 18 1) (fld bs 19 2) = true)
/-- the change of octets: its numbers. -/
def chgV (bs : List UInt8) : List Int := if okChg bs = true then [fld bs 0 1, fld bs 1 2, fld bs 3 4, fld bs 7 1, fld bs 8 1, fld bs 9 1, fld bs 10 8, fld bs 18 1, fld bs 19 2] else [0, 0, 0, 0, 0, 0, 0, 0, 0]
theorem okChg_no {bs : List UInt8} (h : ¬ (bs.length = 22 ∧ (bs.getD 21 0).toNat = 67 ∧ mayChg (fld bs 0 1) (fld bs 1 2) (fld bs 3 4) (fld bs 7 1) (fld bs 8 1) (fld bs 9 1) (fld bs 18 1) (fld bs 19 2) = true)) : okChg bs = false := decide_eq_false h
theorem cget_any (a : Option Addr) (n c : Nat) (bs : List UInt8) (w : World) (h : Sl w a n 1 (bcells bs)) :
    Calls Try.prog 30 #[.slice a n c] w fun e w' => e = .returned (.tuple #[.agg (ints (chgV bs)).toArray, .int .i64 (if okChg bs = true then 0 else 16)]) ∧ Below w.heap.size w w' := by
  have hl := sl_one h
  by_cases hn : n = 22
  · subst hn
    by_cases h21 : (bs.getD 21 0).toNat = 67
    · rcases hm : mayChg (fld bs 0 1) (fld bs 1 2) (fld bs 3 4) (fld bs 7 1) (fld bs 8 1) (fld bs 9 1) (fld bs 18 1) (fld bs 19 2) with _ | _
      · have e : okChg bs = false := okChg_no (by rw [hm]; rintro ⟨_, _, h⟩; cases h)
        refine (get_no a c bs w h h21 hm).mono ?_
        rintro e' w' ⟨rfl, hb⟩
        exact ⟨by unfold chgV; rw [e]; rfl, hb⟩
      · have e : okChg bs = true := decide_eq_true ⟨hl, h21, hm⟩
        refine (get_ok a c bs w h h21 hm).mono ?_
        rintro e' w' ⟨rfl, hb⟩
        exact ⟨by unfold chgV; rw [e]; rfl, hb⟩
    · have e : okChg bs = false := okChg_no (by rintro ⟨_, h, _⟩; exact h21 h)
      refine (get_end a c bs w h h21).mono ?_
      rintro e' w' ⟨rfl, hb⟩
      exact ⟨by unfold chgV; rw [e]; rfl, hb⟩
  · have e : okChg bs = false := okChg_no (by rintro ⟨h, _, _⟩; exact hn (hl.symm.trans h))
    refine (get_len a n c w hn).mono ?_
    rintro e' w' ⟨rfl, hb⟩
    exact ⟨by unfold chgV; rw [e]; rfl, hb⟩
theorem rcget_any (a : Option Addr) (n c : Nat) (bs : List UInt8) (w : World) (h : Sl w a n 1 (bcells bs)) (hc : n ≤ c) (hcm : c ≤ 9223372036854775807) :
    Calls Try.prog 18 #[.slice a n c] w fun e w' => e = .returned (.tuple #[.agg (ints (chgV bs)).toArray, .bool (okChg bs)]) ∧ Below w.heap.size w w' := by
  have hl := sl_one h
  by_cases hn : n = 22
  · subst hn
    by_cases h21 : (bs.getD 21 0).toNat = 67
    · rcases hm : mayChg (fld bs 0 1) (fld bs 1 2) (fld bs 3 4) (fld bs 7 1) (fld bs 8 1) (fld bs 9 1) (fld bs 18 1) (fld bs 19 2) with _ | _
      · have e : okChg bs = false := okChg_no (by rw [hm]; rintro ⟨_, _, h⟩; cases h)
        refine (rgetc_main a c bs false w h hc hcm h21 hm).mono ?_
        rintro e' w' ⟨_, h1, hb⟩
        exact ⟨by rw [h1 rfl]; unfold chgV; rw [e]; rfl, hb⟩
      · have e : okChg bs = true := decide_eq_true ⟨hl, h21, hm⟩
        refine (rgetc_main a c bs true w h hc hcm h21 hm).mono ?_
        rintro e' w' ⟨h1, _, hb⟩
        exact ⟨by rw [h1 rfl]; unfold chgV; rw [e]; rfl, hb⟩
    · have e : okChg bs = false := okChg_no (by rintro ⟨_, h, _⟩; exact h21 h)
      refine (rgetc_end a c bs w h h21).mono ?_
      rintro e' w' ⟨rfl, hb⟩
      exact ⟨by unfold chgV; rw [e]; rfl, hb⟩
  · have e : okChg bs = false := okChg_no (by rintro ⟨h, _, _⟩; exact hn (hl.symm.trans h))
    refine (rgetc_len a n c w hn).mono ?_
    rintro e' w' ⟨rfl, hb⟩
    exact ⟨by unfold chgV; rw [e]; rfl, hb⟩
set_option maxRecDepth 100000 in
set_option maxHeartbeats 8000000 in
theorem readT_any {B g : Nat} {s : List UInt8 × Bool} {w : World} (h : RdS B w g s) (hB : B ≤ w.heap.size) (hk : tkN s 1 = 3) :
    Calls Try.prog 16 #[.pointer (some ⟨g, 0, none⟩)] w fun e w' => e = .returned (.agg (rec17 3 0 0 0 0 0 0 0 0 0 0 0 (wrap64 (tkN (tkS s 1) 1 : Int)) (wrap64 (tkN (tkS (tkS s 1) 1) 2 : Int)) (tkyN (tkS s 1)) (decide ((tkyU (tkS s 1) : Int) = 1)) (wrap64 (tkN (tkyS (tkS s 1)) 4 : Int))).toArray) ∧ RdS B w' g (tkS (tkyS (tkS s 1)) 4) ∧ w.grownBy w' (some g) := by
  have hgB : g < B := by obtain ⟨_, _, _, _, _, _, hh, _⟩ := h; exact hh
  have HR := Lib.hid (h.keep ((Below.refl w.heap.size w).alloc (Nat.le_refl _) (.cells #[.int .i64 0, .int .i64 0, .int .i64 0, .int .i64 0, .int .i64 0, .int .i64 0, .int .i64 0, .int .i64 0, .int .i64 0, .int .i64 0, .int .i64 0, .int .i64 0, .int .i64 0, .int .i64 0, .int .i64 0, .bool false, .int .i64 0] 31)))
  have HG := Lib.hid (grown_of ((Below.refl w.heap.size w).alloc (Nat.le_refl _) (.cells #[.int .i64 0, .int .i64 0, .int .i64 0, .int .i64 0, .int .i64 0, .int .i64 0, .int .i64 0, .int .i64 0, .int .i64 0, .int .i64 0, .int .i64 0, .int .i64 0, .int .i64 0, .int .i64 0, .int .i64 0, .bool false, .int .i64 0] 31)) (some g))
  have HC : Hid (Blk (w.alloc (.cells #[.int .i64 0, .int .i64 0, .int .i64 0, .int .i64 0, .int .i64 0, .int .i64 0, .int .i64 0, .int .i64 0, .int .i64 0, .int .i64 0, .int .i64 0, .int .i64 0, .int .i64 0, .int .i64 0, .int .i64 0, .bool false, .int .i64 0] 31)) w.heap.size [.int .i64 0, .int .i64 0, .int .i64 0, .int .i64 0, .int .i64 0, .int .i64 0, .int .i64 0, .int .i64 0, .int .i64 0, .int .i64 0, .int .i64 0, .int .i64 0, .int .i64 0, .int .i64 0, .int .i64 0, .bool false, .int .i64 0] 31) := Lib.hid (Blk.new w #[.int .i64 0, .int .i64 0, .int .i64 0, .int .i64 0, .int .i64 0, .int .i64 0, .int .i64 0, .int .i64 0, .int .i64 0, .int .i64 0, .int .i64 0, .int .i64 0, .int .i64 0, .int .i64 0, .int .i64 0, .bool false, .int .i64 0] 31)
  clear h
  go_enter Try.func16, Try.ntmps16
  go_upto_region 1 with fail
  generalize w.alloc (.cells #[.int .i64 0, .int .i64 0, .int .i64 0, .int .i64 0, .int .i64 0, .int .i64 0, .int .i64 0, .int .i64 0, .int .i64 0, .int .i64 0, .int .i64 0, .int .i64 0, .int .i64 0, .int .i64 0, .int .i64 0, .bool false, .int .i64 0] 31) = W at *
  go_wp2_with fail
  refine (rds_take HR.out (k := 1) (by decide) (by decide) 1 rfl).mono ?_
  rintro e w2 ⟨rfl, hr2, hg2⟩
  rw [hk]
  have HR2 := Lib.hid hr2
  have HG2 := Lib.hid (HG.out.trans hg2)
  have HC2 := Lib.hid (HC.out.grown hg2 (by omega))
  have hw2 : w.heap.size < w2.heap.size := Nat.lt_of_lt_of_le HC.out.lt hg2.size
  clear hr2 hg2 HR HG HC
  generalize tkB s 1 = b1 at *
  go_wp2_with fail
  refine (takekey_any HR2.out (by omega)).mono ?_
  rintro e w3 ⟨rfl, hr3, hg3⟩
  generalize hx1 : wrap64 (tkN (tkS s 1) 1 : Int) = x1 at *
  generalize hx2 : wrap64 (tkN (tkS (tkS s 1) 1) 2 : Int) = x2 at *
  generalize hx3 : tkyN (tkS s 1) = x3 at *
  generalize hx4 : decide ((tkyU (tkS s 1) : Int) = 1) = x4 at *
  have et : (tkyL (tkS s 1)).toArray = #[.int .i64 x1, .int .i64 x2, .int .i64 x3, .bool x4] := by unfold tkyL; rw [hx1, hx2, hx3, hx4]; rfl
  rw [et]
  have hw3 : w.heap.size < w3.heap.size := Nat.lt_of_lt_of_le HC2.out.lt hg3.size
  have HR3 := Lib.hid (hr3.keep ((Below.refl w3.heap.size w3).alloc (Nat.le_refl _) (.cells #[.int .i64 x1, .int .i64 x2, .int .i64 x3, .bool x4] 29)))
  have HG3 := Lib.hid ((HG2.out.trans hg3).trans (grown_of ((Below.refl w3.heap.size w3).alloc (Nat.le_refl _) (.cells #[.int .i64 x1, .int .i64 x2, .int .i64 x3, .bool x4] 29)) (some g)))
  have HC3 := Lib.hid ((HC2.out.grown hg3 (by omega)).alloc (.cells #[.int .i64 x1, .int .i64 x2, .int .i64 x3, .bool x4] 29))
  have HK3 : Hid (Blk (w3.alloc (.cells #[.int .i64 x1, .int .i64 x2, .int .i64 x3, .bool x4] 29)) w3.heap.size [.int .i64 x1, .int .i64 x2, .int .i64 x3, .bool x4] 29) := Lib.hid (Blk.new w3 #[.int .i64 x1, .int .i64 x2, .int .i64 x3, .bool x4] 29)
  have HX := Lib.hid (And.intro hx1 (And.intro hx2 (And.intro hx3 hx4)))
  have hgk : ¬ w3.heap.size = g := by omega
  have hz3 : w3.heap.size < (w3.alloc (.cells #[.int .i64 x1, .int .i64 x2, .int .i64 x3, .bool x4] 29)).heap.size := by simp
  clear hr3 hg3 HR2 HG2 HC2 et hx1 hx2 hx3 hx4
  go_upto_region 11 with (first
    | ((with_reducible apply ky_store_new (x := [.int .i64 x1, .int .i64 x2, .int .i64 x3, .bool x4])); (· rfl); (· first | rfl | simp); (· rfl); (· rfl); (· exact key4_ok x1 x2 x3 x4); (simp only [Act.put, List.setIfInBounds_toArray, List.set_cons_zero, List.set_cons_succ])))
  generalize hW4 : w3.alloc (.cells #[.int .i64 x1, .int .i64 x2, .int .i64 x3, .bool x4] 29) = W4 at *
  generalize hgk3 : w3.heap.size = gk at *
  clear hW4 hgk3
  go_wp2_with fail
  refine (rds_take HR3.out (k := 4) (by decide) (by decide) 4 rfl).mono ?_
  rintro e w5 ⟨rfl, hr5, hg5⟩
  generalize hx5 : tkN (tkyS (tkS s 1)) 4 = x5 at *
  have HX5 := Lib.hid hx5
  have HR5 := Lib.hid hr5
  have HG5 := Lib.hid (HG3.out.trans hg5)
  have HC5 := Lib.hid (HC3.out.grown hg5 (by omega))
  have HK5 := Lib.hid (HK3.out.grown hg5 hgk)
  clear hr5 hg5 HR3 HG3 HC3 HK3 hx5
  generalize tkB (tkyS (tkS s 1)) 4 = b5 at *
  have rk : w5.rangeAt gk 0 [.int .i64 x1, .int .i64 x2, .int .i64 x3, .bool x4] := HK5.out.range 0 _ rfl
  go_wp2_with (first
    | ((with_reducible apply ky_load (x := [.int .i64 x1, .int .i64 x2, .int .i64 x3, .bool x4])); (· rfl); (· exact rk); (· exact key4_ok x1 x2 x3 x4); (simp only [Act.put, List.setIfInBounds_toArray, List.set_cons_zero, List.set_cons_succ])))
  refine (mkT_any x1 x2 x3 x4 (wrap64 (x5 : Int)) _).mono ?_
  rintro e w6 ⟨rfl, hb6⟩
  generalize hx6 : wrap64 (x5 : Int) = x6 at *
  have HX6 := Lib.hid hx6
  have HRL := Lib.hid (HR5.out.keep hb6)
  have HGL := Lib.hid (HG5.out.trans (grown_of hb6 (some g)))
  have HCL := Lib.hid (HC5.out.keep hb6 HC5.out.lt)
  clear hb6 HR5 HG5 HC5 hx6 rk
  have HV := rec17_ok 3 0 0 0 0 0 0 0 0 0 0 0 x1 x2 x3 x4 x6
  have C5 := Lib.hid (HCL.out.setAll (rec17 3 0 0 0 0 0 0 0 0 0 0 0 x1 x2 x3 x4 x6) rfl)
  have R5 := Lib.hid (RdS.sets (gc := w.heap.size) hB (rec17 3 0 0 0 0 0 0 0 0 0 0 0 x1 x2 x3 x4 x6) 0 _ HRL.out)
  have G5 := Lib.hid (grown_sets (Nat.le_refl _) (rec17 3 0 0 0 0 0 0 0 0 0 0 0 x1 x2 x3 x4 x6) 0 _ HGL.out)
  go_wp2_with (first
    | ((with_reducible apply rc_store); (· rfl); (· show _ = Value.agg (rec17 3 0 0 0 0 0 0 0 0 0 0 0 x1 x2 x3 x4 x6).toArray; rfl); (· exact HCL.out); (· rfl); (· exact HV); (simp only [Act.put, List.setIfInBounds_toArray, List.set_cons_zero, List.set_cons_succ]); (generalize w6.setCells w.heap.size 0 (rec17 3 0 0 0 0 0 0 0 0 0 0 0 x1 x2 x3 x4 x6) = WW at *)))
  refine ret_cell (p := 2) rfl rfl C5.out Try.underlying31 rfl (by rw [rc_size]; rfl) rfl ⟨by rw [HX.out.1, HX.out.2.1, HX.out.2.2.1, HX.out.2.2.2, HX5.out, HX6.out], R5.out, G5.out⟩
set_option maxRecDepth 100000 in
set_option maxHeartbeats 8000000 in
theorem readZ_any {B g : Nat} {s : List UInt8 × Bool} {w : World} {kz : Nat} (h : RdS B w g s) (hB : B ≤ w.heap.size) (hk : tkN s 1 = kz) (hz : 4 < kz ∨ kz = 0) :
    Calls Try.prog 16 #[.pointer (some ⟨g, 0, none⟩)] w fun e w' => e = .returned (.agg (rec17 0 0 0 0 0 0 0 0 0 0 0 0 0 0 0 false 0).toArray) ∧ RdS B w' g (tkS s 1) ∧ w.grownBy w' (some g) := by
  have hgB : g < B := by obtain ⟨_, _, _, _, _, _, hh, _⟩ := h; exact hh
  have HR := Lib.hid (h.keep ((Below.refl w.heap.size w).alloc (Nat.le_refl _) (.cells #[.int .i64 0, .int .i64 0, .int .i64 0, .int .i64 0, .int .i64 0, .int .i64 0, .int .i64 0, .int .i64 0, .int .i64 0, .int .i64 0, .int .i64 0, .int .i64 0, .int .i64 0, .int .i64 0, .int .i64 0, .bool false, .int .i64 0] 31)))
  have HG := Lib.hid (grown_of ((Below.refl w.heap.size w).alloc (Nat.le_refl _) (.cells #[.int .i64 0, .int .i64 0, .int .i64 0, .int .i64 0, .int .i64 0, .int .i64 0, .int .i64 0, .int .i64 0, .int .i64 0, .int .i64 0, .int .i64 0, .int .i64 0, .int .i64 0, .int .i64 0, .int .i64 0, .bool false, .int .i64 0] 31)) (some g))
  have HC : Hid (Blk (w.alloc (.cells #[.int .i64 0, .int .i64 0, .int .i64 0, .int .i64 0, .int .i64 0, .int .i64 0, .int .i64 0, .int .i64 0, .int .i64 0, .int .i64 0, .int .i64 0, .int .i64 0, .int .i64 0, .int .i64 0, .int .i64 0, .bool false, .int .i64 0] 31)) w.heap.size [.int .i64 0, .int .i64 0, .int .i64 0, .int .i64 0, .int .i64 0, .int .i64 0, .int .i64 0, .int .i64 0, .int .i64 0, .int .i64 0, .int .i64 0, .int .i64 0, .int .i64 0, .int .i64 0, .int .i64 0, .bool false, .int .i64 0] 31) := Lib.hid (Blk.new w #[.int .i64 0, .int .i64 0, .int .i64 0, .int .i64 0, .int .i64 0, .int .i64 0, .int .i64 0, .int .i64 0, .int .i64 0, .int .i64 0, .int .i64 0, .int .i64 0, .int .i64 0, .int .i64 0, .int .i64 0, .bool false, .int .i64 0] 31)
  clear h
  have hy1 : ((kz : Int) == 1) = false := beq_eq_false_iff_ne.2 (by omega)
  have hy2 : ((kz : Int) == 2) = false := beq_eq_false_iff_ne.2 (by omega)
  have hy3 : ((kz : Int) == 3) = false := beq_eq_false_iff_ne.2 (by omega)
  have hy4 : ((kz : Int) == 4) = false := beq_eq_false_iff_ne.2 (by omega)
  clear hz
  go_enter Try.func16, Try.ntmps16
  go_upto_region 1 with fail
  generalize w.alloc (.cells #[.int .i64 0, .int .i64 0, .int .i64 0, .int .i64 0, .int .i64 0, .int .i64 0, .int .i64 0, .int .i64 0, .int .i64 0, .int .i64 0, .int .i64 0, .int .i64 0, .int .i64 0, .int .i64 0, .int .i64 0, .bool false, .int .i64 0] 31) = W at *
  go_wp2_with fail
  refine (rds_take HR.out (k := 1) (by decide) (by decide) 1 rfl).mono ?_
  rintro e w2 ⟨rfl, hr2, hg2⟩
  rw [hk]
  have HR2 := Lib.hid hr2
  have HG2 := Lib.hid (HG.out.trans hg2)
  have HC2 := Lib.hid (HC.out.grown hg2 (by omega))
  have hw2 : w.heap.size < w2.heap.size := Nat.lt_of_lt_of_le HC.out.lt hg2.size
  clear hr2 hg2 HR HG HC
  generalize tkB s 1 = b1 at *
  clear hk
  have HRL := HR2
  have HGL := HG2
  have HCL := HC2
  clear HR2 HG2 HC2
  have HV := rec17_ok 0 0 0 0 0 0 0 0 0 0 0 0 0 0 0 false 0
  have C5 := Lib.hid (HCL.out.setAll (rec17 0 0 0 0 0 0 0 0 0 0 0 0 0 0 0 false 0) rfl)
  have R5 := Lib.hid (RdS.sets (gc := w.heap.size) hB (rec17 0 0 0 0 0 0 0 0 0 0 0 0 0 0 0 false 0) 0 _ HRL.out)
  have G5 := Lib.hid (grown_sets (Nat.le_refl _) (rec17 0 0 0 0 0 0 0 0 0 0 0 0 0 0 0 false 0) 0 _ HGL.out)
  go_wp2_with (first
    | ((with_reducible apply rc_store); (· rfl); (· show _ = Value.agg (rec17 0 0 0 0 0 0 0 0 0 0 0 0 0 0 0 false 0).toArray; rfl); (· exact HCL.out); (· rfl); (· exact HV); (simp only [Act.put, List.setIfInBounds_toArray, List.set_cons_zero, List.set_cons_succ]); (generalize w2.setCells w.heap.size 0 (rec17 0 0 0 0 0 0 0 0 0 0 0 0 0 0 0 false 0) = WW at *)))
  refine ret_cell (p := 2) rfl rfl C5.out Try.underlying31 rfl (by rw [rc_size]; rfl) rfl ⟨rfl, R5.out, G5.out⟩
end Go.Proofs.Ytfffbhkenggdcaa
