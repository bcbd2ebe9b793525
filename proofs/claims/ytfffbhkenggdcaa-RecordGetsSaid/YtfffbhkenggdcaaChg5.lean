/- Octets read as numbers, one behind the other. -/
import Derived.Test.YtfffbhkenggdcaaChg2
import Derived.Test.YtfffbhkenggdcaaOct
import Derived.Test.YtfffbhkenggdcaaRead
import Derived.Test.YtfffbhkenggdcaaChgOps
import Derived.Test.YtfffbhkenggdcaaChg4
import Derived.Deep.RegionHeld
import Derived.Test.YtfffbhkenggdcaaApp
import Derived.Test.YtfffbhkenggdcaaRow
import Derived.Test.YtfffbhkenggdcaaOps
import Derived.RegionTactic
import Derived.BigRegion
import Derived.ChangeAlike
namespace Go.Proofs.Ytfffbhkenggdcaa
set_option linter.unusedVariables false
set_option linter.unusedSimpArgs false
open Go.ChangeShapes Go.WideShapes Go.ChangeAt Go.RowKit
/-- the number of some octets. -/
def fld (bs : List UInt8) (o k : Nat) : Int := s64 (numOf ((bs.drop o).take k))
set_option maxRecDepth 100000 in
set_option maxHeartbeats 4000000 in
theorem dec_any (a : Option Addr) (c : Nat) (bs : List UInt8) (w : World) (h : Sl w a 22 1 (bcells bs)) :
    Calls Try.prog 45 #[.slice a 22 c] w fun e w' => e = .returned (.agg (ints [fld bs 0 1, fld bs 1 2, fld bs 3 4, fld bs 7 1, fld bs 8 1, fld bs 9 1, fld bs 10 8, fld bs 18 1, fld bs 19 2]).toArray) ∧ Below w.heap.size w w' := by
  have A := Blk.new w #[.int .i64 0, .int .i64 0, .int .i64 0, .int .i64 0, .int .i64 0, .int .i64 0, .int .i64 0, .int .i64 0, .int .i64 0] 27
  have HB := Lib.hid ((Below.refl w.heap.size w).alloc (Nat.le_refl _) (.cells #[.int .i64 0, .int .i64 0, .int .i64 0, .int .i64 0, .int .i64 0, .int .i64 0, .int .i64 0, .int .i64 0, .int .i64 0] 27))
  have hz : w.heap.size < (w.alloc (.cells #[.int .i64 0, .int .i64 0, .int .i64 0, .int .i64 0, .int .i64 0, .int .i64 0, .int .i64 0, .int .i64 0, .int .i64 0] 27)).heap.size := by simp
  have hs1 := h.keep HB.out
  have hbl : bs.length = 22 := sl_one h
  clear h
  go_enter Try.func45, Try.ntmps45
  go_upto_region 1 with fail
  generalize w.alloc (.cells #[.int .i64 0, .int .i64 0, .int .i64 0, .int .i64 0, .int .i64 0, .int .i64 0, .int .i64 0, .int .i64 0, .int .i64 0] 27) = W at *
  have N := Lib.hid (new_any a 22 c bs W hs1 (by decide))
  clear hs1
  go_wp2_with fail
  refine N.out.mono ?_
  rintro e w2 ⟨g, a', c', rfl, hgw, h1, h2, h3, h4, hb2⟩
  have hgl := h1.lt
  have HR := Lib.hid ((Rds.start (B0 := w.heap.size + 1) (w0 := W) (g := g) (bs := bs) (by rw [hbl]; exact h1) (by rw [hbl]; exact h4) (by omega) (by rw [hbl]; exact h2) (by simpa [maxLen] using h3) (by omega) (hb2.mono (by omega))).alloc (.cells #[.int .i64 0, .int .i64 0, .int .i64 0, .int .i64 0, .int .i64 0, .int .i64 0, .int .i64 0, .int .i64 0, .int .i64 0] 27))
  have HC := Lib.hid (Blk.new (w2.alloc (.cells #[.pointer (some ⟨g, 0, none⟩)] 48)) #[.int .i64 0, .int .i64 0, .int .i64 0, .int .i64 0, .int .i64 0, .int .i64 0, .int .i64 0, .int .i64 0, .int .i64 0] 27)
  rw [show (w2.alloc (.cells #[.pointer (some ⟨g, 0, none⟩)] 48)).heap.size = w2.heap.size + 1 by simp, List.toList_toArray] at HC
  clear h1 h2 h3 h4 hb2
  go_upto_region 4 with fail
  generalize (w2.alloc (.cells #[.pointer (some ⟨g, 0, none⟩)] 48)).alloc (.cells #[.int .i64 0, .int .i64 0, .int .i64 0, .int .i64 0, .int .i64 0, .int .i64 0, .int .i64 0, .int .i64 0, .int .i64 0] 27) = wr at *
  generalize hgg : w2.heap.size = g0 at *
  clear hgg w2
  have HBS := Lib.hid hbl
  clear hbl
  have T := take1_any HR.out (k := 1) (by decide) (by decide) (by rw [HBS.out]; decide)
  generalize hv : s64 (numOf (bs.take 1)) = v1 at T
  have HV1 := Lib.hid hv
  have HT := Lib.hid T
  clear hv T
  go_wp2_with fail
  refine HT.out.mono ?_
  rintro e x1 ⟨rfl, hr5, hg5⟩
  have HCn := Lib.hid (HC.out.grown hg5 (by have := HR.out.gB; have := HR.out.hi; omega))
  have HRn := Lib.hid hr5
  clear hr5 hg5 HC HR HT 
  have HC := HCn
  have HR := HRn
  clear HCn HRn
  have T := take1_any HR.out (k := 2) (by decide) (by decide) (by rw [List.length_drop, HBS.out]; decide)
  generalize hv : s64 (numOf ((bs.drop 1).take 2)) = v2 at T
  have HV2 := Lib.hid hv
  have HT := Lib.hid T
  clear hv T
  go_wp2_with fail
  refine HT.out.mono ?_
  rintro e x2 ⟨rfl, hr5, hg5⟩
  rw [List.drop_drop] at hr5
  have HCn := Lib.hid (HC.out.grown hg5 (by have := HR.out.gB; have := HR.out.hi; omega))
  have HRn := Lib.hid hr5
  clear hr5 hg5 HC HR HT 
  have HC := HCn
  have HR := HRn
  clear HCn HRn
  have k0 := HC.out.cell 0
  have f0 := HC.out.froz 0
  have k1 := HC.out.cell 1
  have f1 := HC.out.froz 1
  have HCs := Lib.hid ((HC.out.set 0 (.int .i64 v1)).set 1 (.int .i64 v2))
  have HRs := Lib.hid ((HR.out.set (gc := g0 + 1) (j := 0) (by omega) (.int .i64 v1)).set (gc := g0 + 1) (j := 1) (by omega) (.int .i64 v2))
  clear HC HR
  have HC := HCs
  have HR := HRs
  clear HCs HRs
  go_upto_region 5 with fail
  generalize ((x2.setCell ⟨g0 + 1, 0, none⟩ (.int .i64 v1)).setCell ⟨g0 + 1, 1, none⟩ (.int .i64 v2)) = y0 at *
  clear k0 f0 k1 f1
  have T := take1_any HR.out (k := 4) (by decide) (by decide) (by rw [List.length_drop, HBS.out]; decide)
  generalize hv : s64 (numOf ((bs.drop 3).take 4)) = v3 at T
  have HV3 := Lib.hid hv
  have HT := Lib.hid T
  clear hv T
  go_wp2_with fail
  refine HT.out.mono ?_
  rintro e x3 ⟨rfl, hr5, hg5⟩
  rw [List.drop_drop] at hr5
  have HCn := Lib.hid (HC.out.grown hg5 (by have := HR.out.gB; have := HR.out.hi; omega))
  have HRn := Lib.hid hr5
  clear hr5 hg5 HC HR HT 
  have HC := HCn
  have HR := HRn
  clear HCn HRn
  have k2 := HC.out.cell 2
  have f2 := HC.out.froz 2
  have HCs := Lib.hid (HC.out.set 2 (.int .i64 v3))
  have HRs := Lib.hid (HR.out.set (gc := g0 + 1) (j := 2) (by omega) (.int .i64 v3))
  clear HC HR
  have HC := HCs
  have HR := HRs
  clear HCs HRs
  go_upto_region 6 with fail
  generalize (x3.setCell ⟨g0 + 1, 2, none⟩ (.int .i64 v3)) = y1 at *
  clear k2 f2
  have T := take1_any HR.out (k := 1) (by decide) (by decide) (by rw [List.length_drop, HBS.out]; decide)
  generalize hv : s64 (numOf ((bs.drop 7).take 1)) = v4 at T
  have HV4 := Lib.hid hv
  have HT := Lib.hid T
  clear hv T
  go_wp2_with fail
  refine HT.out.mono ?_
  rintro e x4 ⟨rfl, hr5, hg5⟩
  rw [List.drop_drop] at hr5
  have HCn := Lib.hid (HC.out.grown hg5 (by have := HR.out.gB; have := HR.out.hi; omega))
  have HRn := Lib.hid hr5
  clear hr5 hg5 HC HR HT 
  have HC := HCn
  have HR := HRn
  clear HCn HRn
  have T := take1_any HR.out (k := 1) (by decide) (by decide) (by rw [List.length_drop, HBS.out]; decide)
  generalize hv : s64 (numOf ((bs.drop 8).take 1)) = v5 at T
  have HV5 := Lib.hid hv
  have HT := Lib.hid T
  clear hv T
  go_wp2_with fail
  refine HT.out.mono ?_
  rintro e x5 ⟨rfl, hr5, hg5⟩
  rw [List.drop_drop] at hr5
  have HCn := Lib.hid (HC.out.grown hg5 (by have := HR.out.gB; have := HR.out.hi; omega))
  have HRn := Lib.hid hr5
  clear hr5 hg5 HC HR HT 
  have HC := HCn
  have HR := HRn
  clear HCn HRn
  have T := take1_any HR.out (k := 1) (by decide) (by decide) (by rw [List.length_drop, HBS.out]; decide)
  generalize hv : s64 (numOf ((bs.drop 9).take 1)) = v6 at T
  have HV6 := Lib.hid hv
  have HT := Lib.hid T
  clear hv T
  go_wp2_with fail
  refine HT.out.mono ?_
  rintro e x6 ⟨rfl, hr5, hg5⟩
  rw [List.drop_drop] at hr5
  have HCn := Lib.hid (HC.out.grown hg5 (by have := HR.out.gB; have := HR.out.hi; omega))
  have HRn := Lib.hid hr5
  clear hr5 hg5 HC HR HT 
  have HC := HCn
  have HR := HRn
  clear HCn HRn
  have k3 := HC.out.cell 3
  have f3 := HC.out.froz 3
  have k4 := HC.out.cell 4
  have f4 := HC.out.froz 4
  have k5 := HC.out.cell 5
  have f5 := HC.out.froz 5
  have HCs := Lib.hid (((HC.out.set 3 (.int .i64 v4)).set 4 (.int .i64 v5)).set 5 (.int .i64 v6))
  have HRs := Lib.hid (((HR.out.set (gc := g0 + 1) (j := 3) (by omega) (.int .i64 v4)).set (gc := g0 + 1) (j := 4) (by omega) (.int .i64 v5)).set (gc := g0 + 1) (j := 5) (by omega) (.int .i64 v6))
  clear HC HR
  have HC := HCs
  have HR := HRs
  clear HCs HRs
  go_upto_region 7 with fail
  generalize (((x6.setCell ⟨g0 + 1, 3, none⟩ (.int .i64 v4)).setCell ⟨g0 + 1, 4, none⟩ (.int .i64 v5)).setCell ⟨g0 + 1, 5, none⟩ (.int .i64 v6)) = y2 at *
  clear k3 f3 k4 f4 k5 f5
  have c0 : y2.cell? ⟨g0, 0, none⟩ = some (.pointer (some ⟨g, 0, none⟩)) := HR.out.var.cell 0
  have T := HR.out.take (k := 8) (by decide) (by decide) (by rw [List.length_drop, HBS.out]; decide)
  generalize hv : numOf ((bs.drop 10).take 8) = v7 at T
  have HV7 := Lib.hid hv
  have HT := Lib.hid T
  clear hv T
  go_wp2_with fail
  refine HT.out.mono ?_
  rintro e x7 ⟨rfl, hr5, hg5⟩
  rw [List.drop_drop] at hr5
  have HCn := Lib.hid (HC.out.grown hg5 (by have := HR.out.gB; have := HR.out.hi; omega))
  have HRn := Lib.hid hr5
  clear hr5 hg5 HC HR HT c0
  have HC := HCn
  have HR := HRn
  clear HCn HRn
  have k6 := HC.out.cell 6
  have f6 := HC.out.froz 6
  have HCs := Lib.hid (HC.out.set 6 (.int .i64 (wrap64 v7)))
  have HRs := Lib.hid (HR.out.set (gc := g0 + 1) (j := 6) (by omega) (.int .i64 (wrap64 v7)))
  clear HC HR
  have HC := HCs
  have HR := HRs
  clear HCs HRs
  go_upto_region 9 with fail
  generalize (x7.setCell ⟨g0 + 1, 6, none⟩ (.int .i64 (wrap64 v7))) = y3 at *
  clear k6 f6
  have T := take1_any HR.out (k := 1) (by decide) (by decide) (by rw [List.length_drop, HBS.out]; decide)
  generalize hv : s64 (numOf ((bs.drop 18).take 1)) = v8 at T
  have HV8 := Lib.hid hv
  have HT := Lib.hid T
  clear hv T
  go_wp2_with fail
  refine HT.out.mono ?_
  rintro e x8 ⟨rfl, hr5, hg5⟩
  rw [List.drop_drop] at hr5
  have HCn := Lib.hid (HC.out.grown hg5 (by have := HR.out.gB; have := HR.out.hi; omega))
  have HRn := Lib.hid hr5
  clear hr5 hg5 HC HR HT 
  have HC := HCn
  have HR := HRn
  clear HCn HRn
  have T := take1_any HR.out (k := 2) (by decide) (by decide) (by rw [List.length_drop, HBS.out]; decide)
  generalize hv : s64 (numOf ((bs.drop 19).take 2)) = v9 at T
  have HV9 := Lib.hid hv
  have HT := Lib.hid T
  clear hv T
  go_wp2_with fail
  refine HT.out.mono ?_
  rintro e x9 ⟨rfl, hr5, hg5⟩
  rw [List.drop_drop] at hr5
  have HCn := Lib.hid (HC.out.grown hg5 (by have := HR.out.gB; have := HR.out.hi; omega))
  have HRn := Lib.hid hr5
  clear hr5 hg5 HC HR HT 
  have HC := HCn
  have HR := HRn
  clear HCn HRn
  have k7 := HC.out.cell 7
  have f7 := HC.out.froz 7
  have k8 := HC.out.cell 8
  have f8 := HC.out.froz 8
  have HCs := Lib.hid ((HC.out.set 7 (.int .i64 v8)).set 8 (.int .i64 v9))
  have HRs := Lib.hid ((HR.out.set (gc := g0 + 1) (j := 7) (by omega) (.int .i64 v8)).set (gc := g0 + 1) (j := 8) (by omega) (.int .i64 v9))
  clear HC HR
  have HC := HCs
  have HR := HRs
  clear HCs HRs
  go_upto_region 10 with fail
  have hX9 : Hid ([v1, v2, v3, v4, v5, v6, wrap64 v7, v8, v9].length = 9) := Lib.hid rfl
  have hE : [v1, v2, v3, v4, v5, v6, wrap64 v7, v8, v9] = [fld bs 0 1, fld bs 1 2, fld bs 3 4, fld bs 7 1, fld bs 8 1, fld bs 9 1, fld bs 10 8, fld bs 18 1, fld bs 19 2] := by
    rw [← HV1.out, ← HV2.out, ← HV3.out, ← HV4.out, ← HV5.out, ← HV6.out, ← HV7.out, ← HV8.out, ← HV9.out]; rfl
  have HE := Lib.hid hE
  clear hE
  have HX : Hid (Blk ((x9.setCell ⟨g0 + 1, 7, none⟩ (.int .i64 v8)).setCell ⟨g0 + 1, 8, none⟩ (.int .i64 v9)) (g0 + 1) (ints [v1, v2, v3, v4, v5, v6, wrap64 v7, v8, v9]) 27) := HC
  generalize [v1, v2, v3, v4, v5, v6, wrap64 v7, v8, v9] = X at *
  generalize ((x9.setCell ⟨g0 + 1, 7, none⟩ (.int .i64 v8)).setCell ⟨g0 + 1, 8, none⟩ (.int .i64 v9)) = yz at *
  have hrg := HX.out.cg hX9
  have HA := A.keep HR.out.be (Nat.lt_succ_self _)
  clear k7 f7 k8 f8 HC
  go_wp2_with (first
    | ((with_reducible apply cg_load); (· rfl); (· (first | assumption)); (· assumption); (simp only [Act.put, List.setIfInBounds_toArray, List.set_cons_zero, List.set_cons_succ]))
    | ((with_reducible apply cg_store); (· rfl); (· rfl); (· assumption); (· first | rfl | assumption); (· assumption); (simp only [Act.put, List.setIfInBounds_toArray, List.set_cons_zero, List.set_cons_succ])))
  have C5 := HA.setAll (ints X) (by rw [ints_len, hX9.out]; rfl)
  refine ret_cell (p := 2) rfl rfl C5 Try.underlying27 rfl (by rw [cg_size, ints_len, hX9.out]) rfl ⟨by rw [HE.out], ?_⟩
  exact HB.out.trans (below_sets (Nat.le_refl _) _ _ _ (HR.out.be.mono (Nat.le_succ _)))
end Go.Proofs.Ytfffbhkenggdcaa
