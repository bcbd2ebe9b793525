/- An effect out of its octets. -/
import Derived.Test.YteebmpbplenikaaDoorEff2
import Derived.Test.YteebmpbplenikaaDoorEffOps
import Derived.Test.YteebmpbplenikaaDoorRow
import Derived.Test.YteebmpbplenikaaDoorOps
import Derived.RegionTactic
import Derived.BigRegion
import Derived.ChangeAlike
namespace Go.Proofs.YteebmpbplenikaaDoor
set_option linter.unusedVariables false
set_option linter.unusedSimpArgs false
open Go.ChangeShapes Go.WideShapes Go.ChangeAt Go.RowKit
set_option maxRecDepth 100000 in
set_option maxHeartbeats 8000000 in
theorem eget_ok (a : Option Addr) (c : Nat) (bs : List UInt8) (w : World) (h : Sl w a 13 1 (bcells bs)) (hm : effCode (fld bs 0 1) (fld bs 1 1) (fld bs 10 1) (fld bs 11 2) = 0) :
    Calls Tryd.prog 11 #[.slice a 13 c] w fun e w' => e = .returned (.tuple #[.agg (ints [fld bs 0 1, fld bs 1 1, fld bs 2 8, fld bs 10 1, fld bs 11 2]).toArray, .int .i64 0]) ∧ Below w.heap.size w w' := by
  have A := Lib.hid (Blk.new w #[.int .i64 0, .int .i64 0, .int .i64 0, .int .i64 0, .int .i64 0] 25)
  have HB := Lib.hid ((Below.refl w.heap.size w).alloc (Nat.le_refl _) (.cells #[.int .i64 0, .int .i64 0, .int .i64 0, .int .i64 0, .int .i64 0] 25))
  have hz : w.heap.size < (w.alloc (.cells #[.int .i64 0, .int .i64 0, .int .i64 0, .int .i64 0, .int .i64 0] 25)).heap.size := by simp
  have hs1 := h.keep HB.out
  have hbl : bs.length = 13 := sl_one h
  have CK : Hid (∀ w, Calls Tryd.prog 9 #[.agg (ints [fld bs 0 1, fld bs 1 1, fld bs 2 8, fld bs 10 1, fld bs 11 2]).toArray] w fun e w' => e = .returned (.int .i64 (effCode (fld bs 0 1) (fld bs 1 1) (fld bs 10 1) (fld bs 11 2))) ∧ Below w.heap.size w w') := Lib.hid (fun w => echk_any (fld bs 0 1) (fld bs 1 1) (fld bs 2 8) (fld bs 10 1) (fld bs 11 2) w)
  rw [hm] at CK; clear hm
  clear h
  go_enter Tryd.func11, Tryd.ntmps11
  go_upto_region 1 with fail
  generalize w.alloc (.cells #[.int .i64 0, .int .i64 0, .int .i64 0, .int .i64 0, .int .i64 0] 25) = W at *
  have N := Lib.hid (new_any a 13 c bs W hs1 (by decide))
  clear hs1
  go_wp2_with fail
  refine N.out.mono ?_
  rintro e w2 ⟨g, a', c', rfl, hgw, h1, h2, h3, h4, hb2⟩
  have HR := Lib.hid (Rds.start (B0 := w.heap.size + 1) (w0 := W) (g := g) (bs := bs) (by rw [hbl]; exact h1) (by rw [hbl]; exact h4) (by omega) (by rw [hbl]; exact h2) (by simpa [maxLen] using h3) (by omega) (hb2.mono (by omega)))
  clear h1 h2 h3 h4 hb2
  go_upto_region 5 with fail
  have hwz : (w2.alloc (.cells #[.pointer (some ⟨g, 0, none⟩)] 54)).heap.size = w2.heap.size + 1 := by simp
  generalize w2.alloc (.cells #[.pointer (some ⟨g, 0, none⟩)] 54) = wr at *
  generalize hgg : w2.heap.size = g0 at *
  clear hgg w2
  have HBS := Lib.hid hbl
  clear hbl
  have T := take1e_any HR.out (k := 1) (by decide) (by decide) (by rw [HBS.out]; decide)
  generalize hv : s64 (numOf (bs.take 1)) = v1 at T
  have HV1 := Lib.hid hv
  have HT := Lib.hid T
  clear hv T
  go_wp2_with fail
  refine HT.out.mono ?_
  rintro e x1 ⟨rfl, hr5, hg5⟩
  have HRn := Lib.hid hr5
  clear hr5 hg5 HR HT 
  have HR := HRn
  clear HRn
  have T := take1e_any HR.out (k := 1) (by decide) (by decide) (by rw [List.length_drop, HBS.out]; decide)
  generalize hv : s64 (numOf ((bs.drop 1).take 1)) = v2 at T
  have HV2 := Lib.hid hv
  have HT := Lib.hid T
  clear hv T
  go_wp2_with fail
  refine HT.out.mono ?_
  rintro e x2 ⟨rfl, hr5, hg5⟩
  rw [List.drop_drop] at hr5
  have HRn := Lib.hid hr5
  clear hr5 hg5 HR HT 
  have HR := HRn
  clear HRn
  have T := take1e_any HR.out (k := 8) (by decide) (by decide) (by rw [List.length_drop, HBS.out]; decide)
  generalize hv : s64 (numOf ((bs.drop 2).take 8)) = v3 at T
  have HV3 := Lib.hid hv
  have HT := Lib.hid T
  clear hv T
  go_wp2_with fail
  refine HT.out.mono ?_
  rintro e x3 ⟨rfl, hr5, hg5⟩
  rw [List.drop_drop] at hr5
  have HRn := Lib.hid hr5
  clear hr5 hg5 HR HT 
  have HR := HRn
  clear HRn
  have HC := Lib.hid (Blk.new x3 #[.int .i64 v1, .int .i64 v2, .int .i64 v3, .int .i64 0, .int .i64 0] 25)
  have HRa := Lib.hid (HR.out.alloc (.cells #[.int .i64 v1, .int .i64 v2, .int .i64 v3, .int .i64 0, .int .i64 0] 25))
  have hge : g0 < x3.heap.size := HR.out.var.lt
  clear HR
  have HR := HRa
  clear HRa
  go_upto_region 6 with fail
  generalize hgx : x3.heap.size = ge at *
  generalize x3.alloc (.cells #[.int .i64 v1, .int .i64 v2, .int .i64 v3, .int .i64 0, .int .i64 0] 25) = y3 at *
  clear hgx
  have T := take1e_any HR.out (k := 1) (by decide) (by decide) (by rw [List.length_drop, HBS.out]; decide)
  generalize hv : s64 (numOf ((bs.drop 10).take 1)) = v4 at T
  have HV4 := Lib.hid hv
  have HT := Lib.hid T
  clear hv T
  go_wp2_with fail
  refine HT.out.mono ?_
  rintro e x4 ⟨rfl, hr5, hg5⟩
  rw [List.drop_drop] at hr5
  have HCn := Lib.hid (HC.out.grown hg5 (by have := HR.out.gB; have := HR.out.hi; omega))
  have HRn := Lib.hid hr5
  clear hr5 hg5 HR HT HC
  have HR := HRn
  clear HRn
  have HC := HCn
  clear HCn
  have T := take1e_any HR.out (k := 2) (by decide) (by decide) (by rw [List.length_drop, HBS.out]; decide)
  generalize hv : s64 (numOf ((bs.drop 11).take 2)) = v5 at T
  have HV5 := Lib.hid hv
  have HT := Lib.hid T
  clear hv T
  go_wp2_with fail
  refine HT.out.mono ?_
  rintro e x5 ⟨rfl, hr5, hg5⟩
  rw [List.drop_drop] at hr5
  have HCn := Lib.hid (HC.out.grown hg5 (by have := HR.out.gB; have := HR.out.hi; omega))
  have HRn := Lib.hid hr5
  clear hr5 hg5 HR HT HC
  have HR := HRn
  clear HRn
  have HC := HCn
  clear HCn
  have k3 := HC.out.cell 3
  have f3 := HC.out.froz 3
  have k4 := HC.out.cell 4
  have f4 := HC.out.froz 4
  have HCs := Lib.hid ((HC.out.set 3 (.int .i64 v4)).set 4 (.int .i64 v5))
  have HRs := Lib.hid ((HR.out.set (gc := ge) (j := 3) hge (.int .i64 v4)).set (gc := ge) (j := 4) hge (.int .i64 v5))
  clear HC HR
  go_upto_region 7 with fail
  have hX5 : Hid (([v1, v2, v3, v4, v5] : List Int).length = 5) := Lib.hid rfl
  have hE : [v1, v2, v3, v4, v5] = [fld bs 0 1, fld bs 1 1, fld bs 2 8, fld bs 10 1, fld bs 11 2] := by
    rw [← HV1.out, ← HV2.out, ← HV3.out, ← HV4.out, ← HV5.out]; rfl
  have HE := Lib.hid hE
  clear hE
  rw [← HE.out] at CK
  have HX : Hid (Blk ((x5.setCell ⟨ge, 3, none⟩ (.int .i64 v4)).setCell ⟨ge, 4, none⟩ (.int .i64 v5)) ge (ints [v1, v2, v3, v4, v5]) 25) := HCs
  generalize [v1, v2, v3, v4, v5] = X at *
  generalize (x5.setCell ⟨ge, 3, none⟩ (.int .i64 v4)).setCell ⟨ge, 4, none⟩ (.int .i64 v5) = yz at *
  have rx := HX.out.ef hX5
  have AZ := Lib.hid (A.out.keep HRs.out.be (Nat.lt_succ_self _))
  have HBz := Lib.hid (HB.out.trans (HRs.out.be.mono (Nat.le_succ _)))
  clear k3 f3 k4 f4 HCs HRs A HB
  go_wp2_with (first
    | ((with_reducible apply ef_load); (· rfl); (· (first | assumption)); (· assumption); (simp only [Act.put, List.setIfInBounds_toArray, List.set_cons_zero, List.set_cons_succ])))
  refine (CK.out _).mono ?_
  rintro e w4 ⟨rfl, hb4⟩
  have HB4 := Lib.hid (HBz.out.trans (hb4.mono HBz.out.size))
  have AX4 := Lib.hid (HX.out.keep hb4 HX.out.lt)
  have AZ4 := Lib.hid (AZ.out.keep hb4 AZ.out.lt)
  have rx4 : w4.rangeAt ge 0 (ints X) := AX4.out.ef hX5
  clear hb4 rx HX AZ HBz CK
  go_wp2_with (first
    | ((with_reducible apply ef_load); (· rfl); (· (first | assumption)); (· assumption); (simp only [Act.put, List.setIfInBounds_toArray, List.set_cons_zero, List.set_cons_succ]))
    | ((with_reducible apply ef_store); (· rfl); (· rfl); (· assumption); (· first | rfl | assumption); (· assumption); (simp only [Act.put, List.setIfInBounds_toArray, List.set_cons_zero, List.set_cons_succ])))
  have C5 := AZ4.out.setAll (ints X) (by rw [ints_len, hX5.out]; rfl)
  refine ret_cell_tmp (p := 2) (q := 3) rfl rfl rfl C5 Tryd.underlying25 rfl (by rw [ef_size, ints_len, hX5.out]) rfl ⟨by rw [← HE.out]; rfl, below_sets (Nat.le_refl _) _ _ _ HB4.out⟩
set_option maxRecDepth 100000 in
set_option maxHeartbeats 8000000 in
theorem eget_no (a : Option Addr) (c : Nat) (bs : List UInt8) (w : World) (h : Sl w a 13 1 (bcells bs)) (hm : effCode (fld bs 0 1) (fld bs 1 1) (fld bs 10 1) (fld bs 11 2) ≠ 0) :
    Calls Tryd.prog 11 #[.slice a 13 c] w fun e w' => e = .returned (.tuple #[.agg #[.int .i64 0, .int .i64 0, .int .i64 0, .int .i64 0, .int .i64 0], .int .i64 16]) ∧ Below w.heap.size w w' := by
  have A := Lib.hid (Blk.new w #[.int .i64 0, .int .i64 0, .int .i64 0, .int .i64 0, .int .i64 0] 25)
  have HB := Lib.hid ((Below.refl w.heap.size w).alloc (Nat.le_refl _) (.cells #[.int .i64 0, .int .i64 0, .int .i64 0, .int .i64 0, .int .i64 0] 25))
  have hz : w.heap.size < (w.alloc (.cells #[.int .i64 0, .int .i64 0, .int .i64 0, .int .i64 0, .int .i64 0] 25)).heap.size := by simp
  have hs1 := h.keep HB.out
  have hbl : bs.length = 13 := sl_one h
  have CK : Hid (∀ w, Calls Tryd.prog 9 #[.agg (ints [fld bs 0 1, fld bs 1 1, fld bs 2 8, fld bs 10 1, fld bs 11 2]).toArray] w fun e w' => e = .returned (.int .i64 (effCode (fld bs 0 1) (fld bs 1 1) (fld bs 10 1) (fld bs 11 2))) ∧ Below w.heap.size w w') := Lib.hid (fun w => echk_any (fld bs 0 1) (fld bs 1 1) (fld bs 2 8) (fld bs 10 1) (fld bs 11 2) w)
  generalize effCode (fld bs 0 1) (fld bs 1 1) (fld bs 10 1) (fld bs 11 2) = code at *
  clear h
  go_enter Tryd.func11, Tryd.ntmps11
  go_upto_region 1 with fail
  generalize w.alloc (.cells #[.int .i64 0, .int .i64 0, .int .i64 0, .int .i64 0, .int .i64 0] 25) = W at *
  have N := Lib.hid (new_any a 13 c bs W hs1 (by decide))
  clear hs1
  go_wp2_with fail
  refine N.out.mono ?_
  rintro e w2 ⟨g, a', c', rfl, hgw, h1, h2, h3, h4, hb2⟩
  have HR := Lib.hid (Rds.start (B0 := w.heap.size + 1) (w0 := W) (g := g) (bs := bs) (by rw [hbl]; exact h1) (by rw [hbl]; exact h4) (by omega) (by rw [hbl]; exact h2) (by simpa [maxLen] using h3) (by omega) (hb2.mono (by omega)))
  clear h1 h2 h3 h4 hb2
  go_upto_region 5 with fail
  have hwz : (w2.alloc (.cells #[.pointer (some ⟨g, 0, none⟩)] 54)).heap.size = w2.heap.size + 1 := by simp
  generalize w2.alloc (.cells #[.pointer (some ⟨g, 0, none⟩)] 54) = wr at *
  generalize hgg : w2.heap.size = g0 at *
  clear hgg w2
  have HBS := Lib.hid hbl
  clear hbl
  have T := take1e_any HR.out (k := 1) (by decide) (by decide) (by rw [HBS.out]; decide)
  generalize hv : s64 (numOf (bs.take 1)) = v1 at T
  have HV1 := Lib.hid hv
  have HT := Lib.hid T
  clear hv T
  go_wp2_with fail
  refine HT.out.mono ?_
  rintro e x1 ⟨rfl, hr5, hg5⟩
  have HRn := Lib.hid hr5
  clear hr5 hg5 HR HT 
  have HR := HRn
  clear HRn
  have T := take1e_any HR.out (k := 1) (by decide) (by decide) (by rw [List.length_drop, HBS.out]; decide)
  generalize hv : s64 (numOf ((bs.drop 1).take 1)) = v2 at T
  have HV2 := Lib.hid hv
  have HT := Lib.hid T
  clear hv T
  go_wp2_with fail
  refine HT.out.mono ?_
  rintro e x2 ⟨rfl, hr5, hg5⟩
  rw [List.drop_drop] at hr5
  have HRn := Lib.hid hr5
  clear hr5 hg5 HR HT 
  have HR := HRn
  clear HRn
  have T := take1e_any HR.out (k := 8) (by decide) (by decide) (by rw [List.length_drop, HBS.out]; decide)
  generalize hv : s64 (numOf ((bs.drop 2).take 8)) = v3 at T
  have HV3 := Lib.hid hv
  have HT := Lib.hid T
  clear hv T
  go_wp2_with fail
  refine HT.out.mono ?_
  rintro e x3 ⟨rfl, hr5, hg5⟩
  rw [List.drop_drop] at hr5
  have HRn := Lib.hid hr5
  clear hr5 hg5 HR HT 
  have HR := HRn
  clear HRn
  have HC := Lib.hid (Blk.new x3 #[.int .i64 v1, .int .i64 v2, .int .i64 v3, .int .i64 0, .int .i64 0] 25)
  have HRa := Lib.hid (HR.out.alloc (.cells #[.int .i64 v1, .int .i64 v2, .int .i64 v3, .int .i64 0, .int .i64 0] 25))
  have hge : g0 < x3.heap.size := HR.out.var.lt
  clear HR
  have HR := HRa
  clear HRa
  go_upto_region 6 with fail
  generalize hgx : x3.heap.size = ge at *
  generalize x3.alloc (.cells #[.int .i64 v1, .int .i64 v2, .int .i64 v3, .int .i64 0, .int .i64 0] 25) = y3 at *
  clear hgx
  have T := take1e_any HR.out (k := 1) (by decide) (by decide) (by rw [List.length_drop, HBS.out]; decide)
  generalize hv : s64 (numOf ((bs.drop 10).take 1)) = v4 at T
  have HV4 := Lib.hid hv
  have HT := Lib.hid T
  clear hv T
  go_wp2_with fail
  refine HT.out.mono ?_
  rintro e x4 ⟨rfl, hr5, hg5⟩
  rw [List.drop_drop] at hr5
  have HCn := Lib.hid (HC.out.grown hg5 (by have := HR.out.gB; have := HR.out.hi; omega))
  have HRn := Lib.hid hr5
  clear hr5 hg5 HR HT HC
  have HR := HRn
  clear HRn
  have HC := HCn
  clear HCn
  have T := take1e_any HR.out (k := 2) (by decide) (by decide) (by rw [List.length_drop, HBS.out]; decide)
  generalize hv : s64 (numOf ((bs.drop 11).take 2)) = v5 at T
  have HV5 := Lib.hid hv
  have HT := Lib.hid T
  clear hv T
  go_wp2_with fail
  refine HT.out.mono ?_
  rintro e x5 ⟨rfl, hr5, hg5⟩
  rw [List.drop_drop] at hr5
  have HCn := Lib.hid (HC.out.grown hg5 (by have := HR.out.gB; have := HR.out.hi; omega))
  have HRn := Lib.hid hr5
  clear hr5 hg5 HR HT HC
  have HR := HRn
  clear HRn
  have HC := HCn
  clear HCn
  have k3 := HC.out.cell 3
  have f3 := HC.out.froz 3
  have k4 := HC.out.cell 4
  have f4 := HC.out.froz 4
  have HCs := Lib.hid ((HC.out.set 3 (.int .i64 v4)).set 4 (.int .i64 v5))
  have HRs := Lib.hid ((HR.out.set (gc := ge) (j := 3) hge (.int .i64 v4)).set (gc := ge) (j := 4) hge (.int .i64 v5))
  clear HC HR
  go_upto_region 7 with fail
  have hX5 : Hid (([v1, v2, v3, v4, v5] : List Int).length = 5) := Lib.hid rfl
  have hE : [v1, v2, v3, v4, v5] = [fld bs 0 1, fld bs 1 1, fld bs 2 8, fld bs 10 1, fld bs 11 2] := by
    rw [← HV1.out, ← HV2.out, ← HV3.out, ← HV4.out, ← HV5.out]; rfl
  have HE := Lib.hid hE
  clear hE
  rw [← HE.out] at CK
  have HX : Hid (Blk ((x5.setCell ⟨ge, 3, none⟩ (.int .i64 v4)).setCell ⟨ge, 4, none⟩ (.int .i64 v5)) ge (ints [v1, v2, v3, v4, v5]) 25) := HCs
  generalize [v1, v2, v3, v4, v5] = X at *
  generalize (x5.setCell ⟨ge, 3, none⟩ (.int .i64 v4)).setCell ⟨ge, 4, none⟩ (.int .i64 v5) = yz at *
  have rx := HX.out.ef hX5
  have AZ := Lib.hid (A.out.keep HRs.out.be (Nat.lt_succ_self _))
  have HBz := Lib.hid (HB.out.trans (HRs.out.be.mono (Nat.le_succ _)))
  clear k3 f3 k4 f4 HCs HRs A HB
  go_wp2_with (first
    | ((with_reducible apply ef_load); (· rfl); (· (first | assumption)); (· assumption); (simp only [Act.put, List.setIfInBounds_toArray, List.set_cons_zero, List.set_cons_succ])))
  refine (CK.out _).mono ?_
  rintro e w4 ⟨rfl, hb4⟩
  have HB4 := Lib.hid (HBz.out.trans (hb4.mono HBz.out.size))
  have AX4 := Lib.hid (HX.out.keep hb4 HX.out.lt)
  have AZ4 := Lib.hid (AZ.out.keep hb4 AZ.out.lt)
  have rx4 : w4.rangeAt ge 0 (ints X) := AX4.out.ef hX5
  clear hb4 rx HX AZ HBz CK
  have C5 := Lib.hid (AZ4.out.setAll (ints [0, 0, 0, 0, 0]) rfl)
  have HBZ := Lib.hid (below_sets (Nat.le_refl _) (ints [0, 0, 0, 0, 0]) 0 _ HB4.out)
  go_upto_region 8 with fail
  go_wp2_with (first
    | ((with_reducible apply ef_store0); (· rfl); (· rfl); (· exact AZ4.out); (· rfl); (simp only [Act.put, List.setIfInBounds_toArray, List.set_cons_zero, List.set_cons_succ]); (generalize w4.setCells w.heap.size 0 (ints [0, 0, 0, 0, 0]) = WW at *)))
  refine ret_cell_tmp (p := 2) (q := 3) rfl rfl rfl C5.out Tryd.underlying25 rfl (by rw [ef_size]; rfl) rfl ⟨rfl, HBZ.out⟩
end Go.Proofs.YteebmpbplenikaaDoor
