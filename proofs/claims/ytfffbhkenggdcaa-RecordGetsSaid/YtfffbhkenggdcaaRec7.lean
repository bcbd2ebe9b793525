/- A record read off a reader. -/
import Derived.Test.YtfffbhkenggdcaaRec6
import Derived.Test.YtfffbhkenggdcaaRow
import Derived.Test.YtfffbhkenggdcaaOps
import Derived.Test.YtfffbhkenggdcaaEq
import Derived.Test.YtfffbhkenggdcaaChgOps
import Derived.RegionTactic
import Derived.BigRegion
import Derived.ChangeAlike
namespace Go.Proofs.Ytfffbhkenggdcaa
set_option linter.unusedVariables false
set_option linter.unusedSimpArgs false
open Go.ChangeShapes Go.WideShapes Go.ChangeAt Go.RowKit
set_option maxRecDepth 100000 in
set_option maxHeartbeats 8000000 in
theorem readM_any {B g : Nat} {s : List UInt8 × Bool} {w : World} (h : RdS B w g s) (hB : B ≤ w.heap.size) (hk : tkN s 1 = 2) :
    Calls Try.prog 16 #[.pointer (some ⟨g, 0, none⟩)] w fun e w' => e = .returned (.agg (rec17 2 0 0 0 0 0 0 0 0 0 (wrap64 (tkN (tkS s 1) 1 : Int)) (wrap64 (tkN (tkS (tkS s 1) 1) 2 : Int)) 0 0 0 false 0).toArray) ∧ RdS B w' g (tkS (tkS (tkS s 1) 1) 2) ∧ w.grownBy w' (some g) := by
  have hgB : g < B := by obtain ⟨_, _, _, _, _, _, hh, _⟩ := h; exact hh
  have HR := Lib.hid (h.keep ((Below.refl w.heap.size w).alloc (Nat.le_refl _) (.cells #[.int .i64 0, .int .i64 0, .int .i64 0, .int .i64 0, .int .i64 0, .int .i64 0, .int .i64 0, .int .i64 0, .int .i64 0, .int .i64 0, .int .i64 0, .int .i64 0, .int .i64 0, .int .i64 0, .int .i64 0, .bool false, .int .i64 0] 31)))
  have HG := Lib.hid (grown_of ((Below.refl w.heap.size w).alloc (Nat.le_refl _) (.cells #[.int .i64 0, .int .i64 0, .int .i64 0, .int .i64 0, .int .i64 0, .int .i64 0, .int .i64 0, .int .i64 0, .int .i64 0, .int .i64 0, .int .i64 0, .int .i64 0, .int .i64 0, .int .i64 0, .int .i64 0, .bool false, .int .i64 0] 31)) (some g))
  have HC : Hid (Blk (w.alloc (.cells #[.int .i64 0, .int .i64 0, .int .i64 0, .int .i64 0, .int .i64 0, .int .i64 0, .int .i64 0, .int .i64 0, .int .i64 0, .int .i64 0, .int .i64 0, .int .i64 0, .int .i64 0, .int .i64 0, .int .i64 0, .bool false, .int .i64 0] 31)) w.heap.size [.int .i64 0, .int .i64 0, .int .i64 0, .int .i64 0, .int .i64 0, .int .i64 0, .int .i64 0, .int .i64 0, .int .i64 0, .int .i64 0, .int .i64 0, .int .i64 0, .int .i64 0, .int .i64 0, .int .i64 0, .bool false, .int .i64 0] 31) := Lib.hid (Blk.new w #[.int .i64 0, .int .i64 0, .int .i64 0, .int .i64 0, .int .i64 0, .int .i64 0, .int .i64 0, .int .i64 0, .int .i64 0, .int .i64 0, .int .i64 0, .int .i64 0, .int .i64 0, .int .i64 0, .int .i64 0, .bool false, .int .i64 0] 31)
  clear h
  go_enter Try.func16, Try.ntmps16
  go_upto_region 1 with fail
  generalize w.alloc (.cells #[.int .i64 0, .int .i64 0, .int .i64 0, .int .i64 0, .int .i64 0, .int .i64 0, .int .i64 0, .int .i64 0, .int .i64 0, .int .i64 0, .int .i64 0, .int .i64 0, .int .i64 0, .int .i64 0, .int .i64 0, .bool false, .int .i64 0] 31) = W at *
  go_wp2_with fail
  refine (rds_take HR.out (k := 1) (by decide) (by decide) 1 rfl).mono ?_
  rintro e w2 ⟨rfl, hr2, hg2⟩
  rw [hk]
  have HR2 := Lib.hid hr2
  have HG2 := Lib.hid (HG.out.trans hg2)
  have HC2 := Lib.hid (HC.out.grown hg2 (by omega))
  have hw2 : w.heap.size < w2.heap.size := Nat.lt_of_lt_of_le HC.out.lt hg2.size
  clear hr2 hg2 HR HG HC
  generalize tkB s 1 = b1 at *
  go_wp2_with fail
  refine (takeid_any HR2.out (by omega)).mono ?_
  rintro e w3 ⟨rfl, hr3, hg3⟩
  generalize hx1 : wrap64 (tkN (tkS s 1) 1 : Int) = x1 at *
  generalize hx2 : wrap64 (tkN (tkS (tkS s 1) 1) 2 : Int) = x2 at *
  have et : (ints (tidL (tkS s 1))).toArray = #[.int .i64 x1, .int .i64 x2] := by unfold tidL; rw [hx1, hx2]; rfl
  rw [et]
  have HR3 := Lib.hid hr3
  have HG3 := Lib.hid (HG2.out.trans hg3)
  have HC3 := Lib.hid (HC2.out.grown hg3 (by omega))
  have HX := Lib.hid (And.intro hx1 hx2)
  clear hr3 hg3 HR2 HG2 HC2 et hx1 hx2
  go_wp2_with fail
  refine (mkM_any x1 x2 _).mono ?_
  rintro e w4 ⟨rfl, hb4⟩
  have HRL := Lib.hid (HR3.out.keep hb4)
  have HGL := Lib.hid (HG3.out.trans (grown_of hb4 (some g)))
  have HCL := Lib.hid (HC3.out.keep hb4 HC3.out.lt)
  clear hb4 HR3 HG3 HC3
  have HV := rec17_ok 2 0 0 0 0 0 0 0 0 0 x1 x2 0 0 0 false 0
  have C5 := Lib.hid (HCL.out.setAll (rec17 2 0 0 0 0 0 0 0 0 0 x1 x2 0 0 0 false 0) rfl)
  have R5 := Lib.hid (RdS.sets (gc := w.heap.size) hB (rec17 2 0 0 0 0 0 0 0 0 0 x1 x2 0 0 0 false 0) 0 _ HRL.out)
  have G5 := Lib.hid (grown_sets (Nat.le_refl _) (rec17 2 0 0 0 0 0 0 0 0 0 x1 x2 0 0 0 false 0) 0 _ HGL.out)
  go_wp2_with (first
    | ((with_reducible apply rc_store); (· rfl); (· show _ = Value.agg (rec17 2 0 0 0 0 0 0 0 0 0 x1 x2 0 0 0 false 0).toArray; rfl); (· exact HCL.out); (· rfl); (· exact HV); (simp only [Act.put, List.setIfInBounds_toArray, List.set_cons_zero, List.set_cons_succ]); (generalize w4.setCells w.heap.size 0 (rec17 2 0 0 0 0 0 0 0 0 0 x1 x2 0 0 0 false 0) = WW at *)))
  refine ret_cell (p := 2) rfl rfl C5.out Try.underlying31 rfl (by rw [rc_size]; rfl) rfl ⟨by rw [HX.out.1, HX.out.2], R5.out, G5.out⟩
set_option maxRecDepth 100000 in
set_option maxHeartbeats 8000000 in
theorem readA_any {B g : Nat} {s : List UInt8 × Bool} {w : World} (h : RdS B w g s) (hB : B ≤ w.heap.size) (hk : tkN s 1 = 4) :
    Calls Try.prog 16 #[.pointer (some ⟨g, 0, none⟩)] w fun e w' => e = .returned (.agg (rec17 4 0 0 0 0 0 0 0 0 0 0 0 (wrap64 (tkN (tkS s 1) 1 : Int)) (wrap64 (tkN (tkS (tkS s 1) 1) 2 : Int)) (tkyN (tkS s 1)) (decide ((tkyU (tkS s 1) : Int) = 1)) 0).toArray) ∧ RdS B w' g (tkyS (tkS s 1)) ∧ w.grownBy w' (some g) := by
  have hgB : g < B := by obtain ⟨_, _, _, _, _, _, hh, _⟩ := h; exact hh
  have HR := Lib.hid (h.keep ((Below.refl w.heap.size w).alloc (Nat.le_refl _) (.cells #[.int .i64 0, .int .i64 0, .int .i64 0, .int .i64 0, .int .i64 0, .int .i64 0, .int .i64 0, .int .i64 0, .int .i64 0, .int .i64 0, .int .i64 0, .int .i64 0, .int .i64 0, .int .i64 0, .int .i64 0, .bool false, .int .i64 0] 31)))
  have HG := Lib.hid (grown_of ((Below.refl w.heap.size w).alloc (Nat.le_refl _) (.cells #[.int .i64 0, .int .i64 0, .int .i64 0, .int .i64 0, .int .i64 0, .int .i64 0, .int .i64 0, .int .i64 0, .int .i64 0, .int .i64 0, .int .i64 0, .int .i64 0, .int .i64 0, .int .i64 0, .int .i64 0, .bool false, .int .i64 0] 31)) (some g))
  have HC : Hid (Blk (w.alloc (.cells #[.int .i64 0, .int .i64 0, .int .i64 0, .int .i64 0, .int .i64 0, .int .i64 0, .int .i64 0, .int .i64 0, .int .i64 0, .int .i64 0, .int .i64 0, .int .i64 0, .int .i64 0, .int .i64 0, .int .i64 0, .bool false, .int .i64 0] 31)) w.heap.size [.int .i64 0, .int .i64 0, .int .i64 0, .int .i64 0, .int .i64 0, .int .i64 0, .int .i64 0, .int .i64 0, .int .i64 0, .int .i64 0, .int .i64 0, .int .i64 0, .int .i64 0, .int .i64 0, .int .i64 0, .bool false, .int .i64 0] 31) := Lib.hid (Blk.new w #[.int .i64 0, .int .i64 0, .int .i64 0, .int .i64 0, .int .i64 0, .int .i64 0, .int .i64 0, .int .i64 0, .int .i64 0, .int .i64 0, .int .i64 0, .int .i64 0, .int .i64 0, .int .i64 0, .int .i64 0, .bool false, .int .i64 0] 31)
  clear h
  go_enter Try.func16, Try.ntmps16
  go_upto_region 1 with fail
  generalize w.alloc (.cells #[.int .i64 0, .int .i64 0, .int .i64 0, .int .i64 0, .int .i64 0, .int .i64 0, .int .i64 0, .int .i64 0, .int .i64 0, .int .i64 0, .int .i64 0, .int .i64 0, .int .i64 0, .int .i64 0, .int .i64 0, .bool false, .int .i64 0] 31) = W at *
  go_wp2_with fail
  refine (rds_take HR.out (k := 1) (by decide) (by decide) 1 rfl).mono ?_
  rintro e w2 ⟨rfl, hr2, hg2⟩
  rw [hk]
  have HR2 := Lib.hid hr2
  have HG2 := Lib.hid (HG.out.trans hg2)
  have HC2 := Lib.hid (HC.out.grown hg2 (by omega))
  have hw2 : w.heap.size < w2.heap.size := Nat.lt_of_lt_of_le HC.out.lt hg2.size
  clear hr2 hg2 HR HG HC
  generalize tkB s 1 = b1 at *
  go_wp2_with fail
  refine (takekey_any HR2.out (by omega)).mono ?_
  rintro e w3 ⟨rfl, hr3, hg3⟩
  generalize hx1 : wrap64 (tkN (tkS s 1) 1 : Int) = x1 at *
  generalize hx2 : wrap64 (tkN (tkS (tkS s 1) 1) 2 : Int) = x2 at *
  generalize hx3 : tkyN (tkS s 1) = x3 at *
  generalize hx4 : decide ((tkyU (tkS s 1) : Int) = 1) = x4 at *
  have et : (tkyL (tkS s 1)).toArray = #[.int .i64 x1, .int .i64 x2, .int .i64 x3, .bool x4] := by unfold tkyL; rw [hx1, hx2, hx3, hx4]; rfl
  rw [et]
  have HR3 := Lib.hid hr3
  have HG3 := Lib.hid (HG2.out.trans hg3)
  have HC3 := Lib.hid (HC2.out.grown hg3 (by omega))
  have HX := Lib.hid (And.intro hx1 (And.intro hx2 (And.intro hx3 hx4)))
  clear hr3 hg3 HR2 HG2 HC2 et hx1 hx2 hx3 hx4
  go_wp2_with fail
  refine (mkA_any x1 x2 x3 x4 _).mono ?_
  rintro e w4 ⟨rfl, hb4⟩
  have HRL := Lib.hid (HR3.out.keep hb4)
  have HGL := Lib.hid (HG3.out.trans (grown_of hb4 (some g)))
  have HCL := Lib.hid (HC3.out.keep hb4 HC3.out.lt)
  clear hb4 HR3 HG3 HC3
  have HV := rec17_ok 4 0 0 0 0 0 0 0 0 0 0 0 x1 x2 x3 x4 0
  have C5 := Lib.hid (HCL.out.setAll (rec17 4 0 0 0 0 0 0 0 0 0 0 0 x1 x2 x3 x4 0) rfl)
  have R5 := Lib.hid (RdS.sets (gc := w.heap.size) hB (rec17 4 0 0 0 0 0 0 0 0 0 0 0 x1 x2 x3 x4 0) 0 _ HRL.out)
  have G5 := Lib.hid (grown_sets (Nat.le_refl _) (rec17 4 0 0 0 0 0 0 0 0 0 0 0 x1 x2 x3 x4 0) 0 _ HGL.out)
  go_wp2_with (first
    | ((with_reducible apply rc_store); (· rfl); (· show _ = Value.agg (rec17 4 0 0 0 0 0 0 0 0 0 0 0 x1 x2 x3 x4 0).toArray; rfl); (· exact HCL.out); (· rfl); (· exact HV); (simp only [Act.put, List.setIfInBounds_toArray, List.set_cons_zero, List.set_cons_succ]); (generalize w4.setCells w.heap.size 0 (rec17 4 0 0 0 0 0 0 0 0 0 0 0 x1 x2 x3 x4 0) = WW at *)))
  refine ret_cell (p := 2) rfl rfl C5.out Try.underlying31 rfl (by rw [rc_size]; rfl) rfl ⟨by rw [HX.out.1, HX.out.2.1, HX.out.2.2.1, HX.out.2.2.2], R5.out, G5.out⟩
end Go.Proofs.Ytfffbhkenggdcaa
