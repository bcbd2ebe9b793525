/- Answers' octets. -/
import Derived.Test.YteijahcbfncebaaDoorCode4
import Derived.Deep.DeepCutAuto
import Derived.RegionTactic
import Derived.BigRegion
import Derived.ChangeAlike
namespace Go.Proofs.YteijahcbfncebaaDoor
set_option linter.unusedVariables false
set_option linter.unusedSimpArgs false
open Go.ChangeShapes Go.WideShapes Go.ChangeAt Go.RowKit
theorem rowA3 : RowT 49 3 := ⟨⟨_, Tryd.underlying49, rfl⟩, by kernel_rfl⟩
/-- the answer that octets are. -/
def ansL (bs : List UInt8) : List Int := [wrap64 (tkN (bs, true) 1 : Int), wrap64 (tkN (tkS (bs, true) 1) 4 : Int), wrap64 (tkN (tkS (tkS (bs, true) 1) 4) 1 : Int)]
set_option maxRecDepth 100000 in
set_option maxHeartbeats 2000000 in
theorem told_len (a : Option Addr) (n c : Nat) (w : World) (hn : n ≠ 6) :
    Calls Tryd.prog 19 #[.slice a n c] w fun e w' => e = .returned (.tuple #[.agg #[.int .i64 0, .int .i64 0, .int .i64 0], .int .i64 16]) ∧ Below w.heap.size w w' := by
  have h6 : ¬ (n : Int) = 6 := by omega
  have hb : Below w.heap.size w (w.alloc (.cells #[.int .i64 0, .int .i64 0, .int .i64 0] 49)) := (Below.refl w.heap.size w).alloc (Nat.le_refl _) _
  have HC : Blk (w.alloc (.cells #[.int .i64 0, .int .i64 0, .int .i64 0] 49)) w.heap.size [.int .i64 0, .int .i64 0, .int .i64 0] 49 := Blk.new w #[.int .i64 0, .int .i64 0, .int .i64 0] 49
  have HH := Lib.hid (And.intro hb HC)
  clear hb HC
  go_enter Tryd.func19, Tryd.ntmps19
  go_wp2_with fail
  exact ret_cell_tmp (p := 2) (q := 3) rfl rfl rfl HH.out.2 Tryd.underlying49 rfl rowA3.2 rfl ⟨rfl, HH.out.1⟩
set_option maxRecDepth 100000 in
set_option maxHeartbeats 4000000 in
theorem told_yes (a : Option Addr) (c : Nat) (bs : List UInt8) (w : World) (h : Sl w a 6 1 (bcells bs)) (hv : inB (wrap64 (tkN (tkS (bs, true) 1) 4 : Int)) 0 2147483647 = true) :
    Calls Tryd.prog 19 #[.slice a 6 c] w fun e w' => e = .returned (.tuple #[.agg (ints (ansL bs)).toArray, .int .i64 0]) ∧ Below w.heap.size w w' := by
  have HC0' : Hid (Blk (w.alloc (.cells #[.int .i64 0, .int .i64 0, .int .i64 0] 49)) w.heap.size [.int .i64 0, .int .i64 0, .int .i64 0] 49) := Lib.hid (Blk.new w #[.int .i64 0, .int .i64 0, .int .i64 0] 49)
  have HB0' := Lib.hid ((Below.refl w.heap.size w).alloc (Nat.le_refl _) (.cells #[.int .i64 0, .int .i64 0, .int .i64 0] 49))
  have HS := Lib.hid (h.keep HB0'.out)
  have HV := Lib.hid hv
  clear h hv
  go_enter Tryd.func19, Tryd.ntmps19
  go_upto_region 1 with fail
  generalize w.alloc (.cells #[.int .i64 0, .int .i64 0, .int .i64 0] 49) = W at *
  go_wp2_with fail
  refine (newr_any a 6 c bs W HS.out (by decide)).mono ?_
  rintro e y0 ⟨g, rfl, hg1, hg2, hr0, hb0⟩
  have hgw : w.heap.size < g := Nat.lt_of_lt_of_le HC0'.out.lt hg1
  have HR0 := Lib.hid hr0
  have HG0 : Hid (y0.grownBy y0 (some g)) := Lib.hid (grown_of (Below.refl _ _) (some g))
  have HC0 := Lib.hid (HC0'.out.keep hb0 HC0'.out.lt)
  have HB0 := Lib.hid (HB0'.out.trans (hb0.mono HB0'.out.size))
  have HGG := Lib.hid hg2
  have HLO := Lib.hid hgw
  clear hr0 hb0 HC0' HB0' HS hg1 hg2 hgw
  go_wp2_with fail
  refine (ctk_any HR0.out (k := 1) (by decide) (by decide) 1 rfl).mono ?_
  rintro e y1 ⟨rfl, hr, hg⟩
  have HR1 := Lib.hid hr
  have HG1 := Lib.hid (HG0.out.trans hg)
  have HC1 := Lib.hid (HC0.out.grown hg (by have := HLO.out; omega))
  clear hr hg HR0 HG0 HC0
  generalize hnz1 : wrap64 (tkN (bs, true) 1 : Int) = z1 at *
  have Nz1 := Lib.hid hnz1
  clear hnz1
  go_wp2_with fail
  refine (ctk_any HR1.out (k := 4) (by decide) (by decide) 4 rfl).mono ?_
  rintro e y2 ⟨rfl, hr, hg⟩
  have HR2 := Lib.hid hr
  have HG2 := Lib.hid (HG1.out.trans hg)
  have HC2 := Lib.hid (HC1.out.grown hg (by have := HLO.out; omega))
  clear hr hg HR1 HG1 HC1
  generalize hnz2 : wrap64 (tkN (tkS (bs, true) 1) 4 : Int) = z2 at *
  have Nz2 := Lib.hid hnz2
  clear hnz2
  go_wp2_with fail
  refine (ctk_any HR2.out (k := 1) (by decide) (by decide) 1 rfl).mono ?_
  rintro e y3 ⟨rfl, hr, hg⟩
  have HR3 := Lib.hid hr
  have HG3 := Lib.hid (HG2.out.trans hg)
  have HC3 := Lib.hid (HC2.out.grown hg (by have := HLO.out; omega))
  clear hr hg HR2 HG2 HC2
  generalize hnz3 : wrap64 (tkN (tkS (tkS (bs, true) 1) 4) 1 : Int) = z3 at *
  have Nz3 := Lib.hid hnz3
  clear hnz3
  have hal : Below y3.heap.size y3 (y3.alloc (.cells #[.int .i64 z1, .int .i64 z2, .int .i64 z3] 49)) := (Below.refl _ _).alloc (Nat.le_refl _) _
  have HG3' := Lib.hid (HG3.out.trans (grown_of hal (some g)))
  have HC3' := Lib.hid (HC3.out.alloc (.cells #[.int .i64 z1, .int .i64 z2, .int .i64 z3] 49))
  have HX3' : Hid (Blk (y3.alloc (.cells #[.int .i64 z1, .int .i64 z2, .int .i64 z3] 49)) y3.heap.size (ints [z1, z2, z3]) 49) := Lib.hid (Blk.new y3 #[.int .i64 z1, .int .i64 z2, .int .i64 z3] 49)
  clear hal
  go_upto_region 5 with fail
  generalize hyz : y3.alloc (.cells #[.int .i64 z1, .int .i64 z2, .int .i64 z3] 49) = yz at *
  generalize hgx : y3.heap.size = gx at *
  clear hyz hgx HR3 HG3 HC3
  have cx : yz.cell? ⟨gx, 1, none⟩ = some (.int .i64 z2) := HX3'.out.cell 1
  have CN := Lib.hid (fun w => by have := maynum_any z2 w; rwa [HV.out] at this)
  go_wp2_with fail
  refine (CN.out _).mono ?_
  rintro e y9 ⟨rfl, rfl⟩
  have rx : yz.rangeAt gx 0 (ints [z1, z2, z3]) := HX3'.out.range 0 _ rfl
  have TX : RowT 49 (ints [z1, z2, z3]).length := rowA3
  have HOF : Hid (∀ u ∈ (ints [z1, z2, z3]), u.oneCell' = true) := Lib.hid fun u hu => ints_one hu
  have HLF : Hid (([.int .i64 0, .int .i64 0, .int .i64 0] : List Value).length = (ints [z1, z2, z3]).length) := Lib.hid (by simp [ints_len])
  have HCF := Lib.hid (HC3'.out.setAll (ints [z1, z2, z3]) HLF.out.symm)
  have HBF := Lib.hid (below_setsS (Nat.le_refl w.heap.size) (ints [z1, z2, z3]) 0 _ (Below.grownS HB0.out HG3'.out (Nat.le_of_lt HLO.out) HB0.out.size))
  clear cx
  go_wp2_with (first
    | ((with_reducible refine ld_row rx TX ?_ ?_ ?_); (· rfl); (· rfl); (simp only [Act.put, List.setIfInBounds_toArray, List.set_cons_zero, List.set_cons_succ]))
    | ((with_reducible refine st_row (cs := (ints [z1, z2, z3])) HC3'.out HLF.out TX HOF.out ?_ ?_ ?_); (· rfl); (· first | rfl | (show _ = Value.agg (ints [z1, z2, z3]).toArray; rfl)); (simp only [Act.put, List.setIfInBounds_toArray, List.set_cons_zero, List.set_cons_succ]); (generalize yz.setCells w.heap.size 0 (ints [z1, z2, z3]) = yf at *)))
  exact ret_cell_tmp (p := 2) (q := 3) rfl rfl rfl HCF.out Tryd.underlying49 rfl rowA3.2 rfl ⟨by unfold ansL; rw [Nz1.out, Nz2.out, Nz3.out]; rfl, HBF.out⟩
set_option maxRecDepth 100000 in
set_option maxHeartbeats 4000000 in
theorem told_no (a : Option Addr) (c : Nat) (bs : List UInt8) (w : World) (h : Sl w a 6 1 (bcells bs)) (hv : inB (wrap64 (tkN (tkS (bs, true) 1) 4 : Int)) 0 2147483647 = false) :
    Calls Tryd.prog 19 #[.slice a 6 c] w fun e w' => e = .returned (.tuple #[.agg (ints [0, 0, 0]).toArray, .int .i64 16]) ∧ Below w.heap.size w w' := by
  have HC0' : Hid (Blk (w.alloc (.cells #[.int .i64 0, .int .i64 0, .int .i64 0] 49)) w.heap.size [.int .i64 0, .int .i64 0, .int .i64 0] 49) := Lib.hid (Blk.new w #[.int .i64 0, .int .i64 0, .int .i64 0] 49)
  have HB0' := Lib.hid ((Below.refl w.heap.size w).alloc (Nat.le_refl _) (.cells #[.int .i64 0, .int .i64 0, .int .i64 0] 49))
  have HS := Lib.hid (h.keep HB0'.out)
  have HV := Lib.hid hv
  clear h hv
  go_enter Tryd.func19, Tryd.ntmps19
  go_upto_region 1 with fail
  generalize w.alloc (.cells #[.int .i64 0, .int .i64 0, .int .i64 0] 49) = W at *
  go_wp2_with fail
  refine (newr_any a 6 c bs W HS.out (by decide)).mono ?_
  rintro e y0 ⟨g, rfl, hg1, hg2, hr0, hb0⟩
  have hgw : w.heap.size < g := Nat.lt_of_lt_of_le HC0'.out.lt hg1
  have HR0 := Lib.hid hr0
  have HG0 : Hid (y0.grownBy y0 (some g)) := Lib.hid (grown_of (Below.refl _ _) (some g))
  have HC0 := Lib.hid (HC0'.out.keep hb0 HC0'.out.lt)
  have HB0 := Lib.hid (HB0'.out.trans (hb0.mono HB0'.out.size))
  have HGG := Lib.hid hg2
  have HLO := Lib.hid hgw
  clear hr0 hb0 HC0' HB0' HS hg1 hg2 hgw
  go_wp2_with fail
  refine (ctk_any HR0.out (k := 1) (by decide) (by decide) 1 rfl).mono ?_
  rintro e y1 ⟨rfl, hr, hg⟩
  have HR1 := Lib.hid hr
  have HG1 := Lib.hid (HG0.out.trans hg)
  have HC1 := Lib.hid (HC0.out.grown hg (by have := HLO.out; omega))
  clear hr hg HR0 HG0 HC0
  generalize hnz1 : wrap64 (tkN (bs, true) 1 : Int) = z1 at *
  have Nz1 := Lib.hid hnz1
  clear hnz1
  go_wp2_with fail
  refine (ctk_any HR1.out (k := 4) (by decide) (by decide) 4 rfl).mono ?_
  rintro e y2 ⟨rfl, hr, hg⟩
  have HR2 := Lib.hid hr
  have HG2 := Lib.hid (HG1.out.trans hg)
  have HC2 := Lib.hid (HC1.out.grown hg (by have := HLO.out; omega))
  clear hr hg HR1 HG1 HC1
  generalize hnz2 : wrap64 (tkN (tkS (bs, true) 1) 4 : Int) = z2 at *
  have Nz2 := Lib.hid hnz2
  clear hnz2
  go_wp2_with fail
  refine (ctk_any HR2.out (k := 1) (by decide) (by decide) 1 rfl).mono ?_
  rintro e y3 ⟨rfl, hr, hg⟩
  have HR3 := Lib.hid hr
  have HG3 := Lib.hid (HG2.out.trans hg)
  have HC3 := Lib.hid (HC2.out.grown hg (by have := HLO.out; omega))
  clear hr hg HR2 HG2 HC2
  generalize hnz3 : wrap64 (tkN (tkS (tkS (bs, true) 1) 4) 1 : Int) = z3 at *
  have Nz3 := Lib.hid hnz3
  clear hnz3
  have hal : Below y3.heap.size y3 (y3.alloc (.cells #[.int .i64 z1, .int .i64 z2, .int .i64 z3] 49)) := (Below.refl _ _).alloc (Nat.le_refl _) _
  have HG3' := Lib.hid (HG3.out.trans (grown_of hal (some g)))
  have HC3' := Lib.hid (HC3.out.alloc (.cells #[.int .i64 z1, .int .i64 z2, .int .i64 z3] 49))
  have HX3' : Hid (Blk (y3.alloc (.cells #[.int .i64 z1, .int .i64 z2, .int .i64 z3] 49)) y3.heap.size (ints [z1, z2, z3]) 49) := Lib.hid (Blk.new y3 #[.int .i64 z1, .int .i64 z2, .int .i64 z3] 49)
  clear hal
  go_upto_region 5 with fail
  generalize hyz : y3.alloc (.cells #[.int .i64 z1, .int .i64 z2, .int .i64 z3] 49) = yz at *
  generalize hgx : y3.heap.size = gx at *
  clear hyz hgx HR3 HG3 HC3
  have cx : yz.cell? ⟨gx, 1, none⟩ = some (.int .i64 z2) := HX3'.out.cell 1
  have CN := Lib.hid (fun w => by have := maynum_any z2 w; rwa [HV.out] at this)
  go_wp2_with fail
  refine (CN.out _).mono ?_
  rintro e y9 ⟨rfl, rfl⟩
  have rx : yz.rangeAt gx 0 (ints [z1, z2, z3]) := HX3'.out.range 0 _ rfl
  have TX : RowT 49 (ints [0, 0, 0]).length := rowA3
  have HOF : Hid (∀ u ∈ (ints [0, 0, 0]), u.oneCell' = true) := Lib.hid fun u hu => ints_one hu
  have HLF : Hid (([.int .i64 0, .int .i64 0, .int .i64 0] : List Value).length = (ints [0, 0, 0]).length) := Lib.hid (by simp [ints_len])
  have HCF := Lib.hid (HC3'.out.setAll (ints [0, 0, 0]) HLF.out.symm)
  have HBF := Lib.hid (below_setsS (Nat.le_refl w.heap.size) (ints [0, 0, 0]) 0 _ (Below.grownS HB0.out HG3'.out (Nat.le_of_lt HLO.out) HB0.out.size))
  clear cx
  go_wp2_with (first
    | ((with_reducible refine ld_row rx TX ?_ ?_ ?_); (· rfl); (· rfl); (simp only [Act.put, List.setIfInBounds_toArray, List.set_cons_zero, List.set_cons_succ]))
    | ((with_reducible refine st_row (cs := (ints [0, 0, 0])) HC3'.out HLF.out TX HOF.out ?_ ?_ ?_); (· rfl); (· first | rfl | (show _ = Value.agg (ints [0, 0, 0]).toArray; rfl)); (simp only [Act.put, List.setIfInBounds_toArray, List.set_cons_zero, List.set_cons_succ]); (generalize yz.setCells w.heap.size 0 (ints [0, 0, 0]) = yf at *)))
  exact ret_cell_tmp (p := 2) (q := 3) rfl rfl rfl HCF.out Tryd.underlying49 rfl rowA3.2 rfl ⟨by rfl, HBF.out⟩
/-- the octets of an answer. -/
def encA (x n m : Int) : List UInt8 := beOf (u64 x) 1 ++ beOf (u64 n) 4 ++ beOf (u64 m) 1
set_option maxRecDepth 100000 in
set_option maxHeartbeats 4000000 in
theorem rtell_any (x n m : Int) (w : World) :
    Calls Tryd.prog 20 #[.agg #[.int .i64 x, .int .i64 n, .int .i64 m]] w fun e w' => ∃ a' c', e = .returned (.slice a' 6 c') ∧ Sl w' a' 6 1 (bcells (encA x n m)) ∧ Below w.heap.size w w' := by
  obtain ⟨i0, hi, hzz0, hzz1, hzz2⟩ := info_parts u8_info
  have HAW : Hid (Blk (w.alloc (.cells #[.int .i64 x, .int .i64 n, .int .i64 m] 49)) w.heap.size [.int .i64 x, .int .i64 n, .int .i64 m] 49) := Lib.hid (Blk.new w #[.int .i64 x, .int .i64 n, .int .i64 m] 49)
  have HBW := Lib.hid ((Below.refl w.heap.size w).alloc (Nat.le_refl _) (.cells #[.int .i64 x, .int .i64 n, .int .i64 m] 49))
  go_enter Tryd.func20, Tryd.ntmps20
  go_upto_region 1 with fail
  generalize w.alloc (.cells #[.int .i64 x, .int .i64 n, .int .i64 m] 49) = x0 at *
  have HA0 := HAW
  have HB0 := HBW
  clear HAW HBW
  have HL0 : Hid (Sl (x0.alloc (.cells #[.int .u8 (IntKind.u8.wrap x)] 5)) (some ⟨x0.heap.size, 0, none⟩) 1 1 (bcells (beOf (u64 x) 1))) := Lib.hid (by rw [← lit1]; exact lit_sl x0 [.int .u8 (IntKind.u8.wrap x)] (by simp))
  have HAl := Lib.hid (HA0.out.alloc (.cells #[.int .u8 (IntKind.u8.wrap x)] 5))
  have HBl := Lib.hid (HB0.out.alloc HB0.out.size (.cells #[.int .u8 (IntKind.u8.wrap x)] 5))
  have hzl : Hid (w.heap.size < (x0.alloc (.cells #[.int .u8 (IntKind.u8.wrap x)] 5)).heap.size) := Lib.hid HAl.out.lt
  have cc : x0.cell? ⟨w.heap.size, 1, none⟩ = some (.int .i64 n) := HA0.out.cell 1
  have hq0 : w.heap.size < x0.heap.size := HA0.out.lt
  have HW := Lib.hid (u64_wrap n)
  have cc0 : x0.cell? ⟨w.heap.size, 0, none⟩ = some (.int .i64 x) := HA0.out.cell 0
  have P0 := rput_ok (some ⟨x0.heap.size, 0, none⟩) 1 1 (beOf (u64 x) 1) (u64 n) 4 (x0.alloc (.cells #[.int .u8 (IntKind.u8.wrap x)] 5)) HL0.out (by decide) (by decide) (by decide) (u64_lt n)
  simp only [Nat.reduceAdd, Nat.zero_add] at P0
  rw [show (((4 : Nat) : Int)) = 4 from rfl] at P0
  have P := Lib.hid P0
  clear P0
  go_wp2_with fail
  rw [HW.out]
  refine P.out.mono ?_
  rintro e x1 ⟨v1, rfl, ho, hb⟩
  rw [show (x0.alloc (.cells #[.int .u8 (IntKind.u8.wrap x)] 5)).heap.size = x0.heap.size + 1 by simp] at ho
  obtain ⟨a1, c1, rfl, _, _, hs⟩ := Sl.own ho
  have HO1 := Lib.hid ho
  have HS1 := Lib.hid hs
  have HB1 := Lib.hid (HBl.out.trans (hb.mono HBl.out.size))
  have HA1 := Lib.hid (HAl.out.keep hb HAl.out.lt)
  have hz1 : Hid (x0.heap.size + 1 ≤ x1.heap.size) := Lib.hid (by have := hb.size; simpa using this)
  have hy1 : Hid (w.heap.size < x0.heap.size + 1) := Lib.hid (Nat.lt_succ_of_lt hq0)
  clear ho hs hb P cc HW HL0 HAl HBl hzl hq0 cc0 HA0 HB0
  generalize hX : (beOf (u64 x) 1) ++ beOf (u64 n) 4 = X1 at *
  have HX1 := Lib.hid hX
  clear hX
  have cc0 : x1.cell? ⟨w.heap.size, 2, none⟩ = some (.int .i64 m) := HA1.out.cell 2
  have HL := Lib.hid (lit_sl x1 [.int .u8 (IntKind.u8.wrap m)] (by simp))
  have HOi := Lib.hid (own_stay HO1.out ((Below.refl _ _).alloc (Nat.le_refl _) (.cells #[.int .u8 (IntKind.u8.wrap m)] 5)))
  have HAi := Lib.hid (HA1.out.alloc (.cells #[.int .u8 (IntKind.u8.wrap m)] 5))
  have HBi := Lib.hid (HB1.out.alloc HB1.out.size (.cells #[.int .u8 (IntKind.u8.wrap m)] 5))
  go_wp2_with (first
    | (at_builtin; refine app_any _ _ 30 5 i0 (.int .u8 0) 1 1 Tryd.underlying30 hi hzz0 hzz1 hzz2 rfl (by decide) rfl rfl rfl HOi.out rfl HL.out (fun h => by cases h) (by simp [Value.oneCell']) ?c1 ?c2 ?c3 ?_))
  case c1 => decide
  case c2 => decide
  case c3 => exact Nat.le_trans hz1.out (by first | exact Nat.le_refl _ | simp)
  intro v2 x2 ho hb
  rw [lit1, ← bcells_add] at ho
  obtain ⟨a2, c2, rfl, _, _, hs⟩ := Sl.own ho
  have HO2 := Lib.hid ho
  have HS2 := Lib.hid hs
  have HB2 := Lib.hid (HBi.out.trans (hb.mono (Nat.le_of_lt hy1.out)))
  have HA2 := Lib.hid (HAi.out.keep hb hy1.out)
  have hy2 := hy1
  have hz2 : Hid ((x0.heap.size + 1) ≤ x2.heap.size) := Lib.hid (Nat.le_trans hz1.out (Nat.le_trans (by simp) hb.size))
  clear ho hs hb HL HOi HAi HBi HS1 HB1 HO1 HA1 hy1 hz1 cc0
  generalize hX : X1 ++ beOf (u64 m) 1 = X2 at *
  have HX2 := Lib.hid hX
  clear hX
  go_wp2_with fail
  go_ret
  exact ⟨a2, c2, rfl, by have := HS2.out; rw [← HX2.out, ← HX1.out] at this; exact this, HB2.out⟩
set_option maxRecDepth 100000 in
set_option maxHeartbeats 4000000 in
theorem tell_no1 (x n m : Int) (w : World) (hx : inB x 0 255 = false) :
    Calls Tryd.prog 18 #[.agg #[.int .i64 x, .int .i64 n, .int .i64 m]] w fun e w' => e = .returned (.tuple #[.slice none 0 0, .int .i64 4]) ∧ Below w.heap.size w w' := by
  have CX := Lib.hid (fun w => by have := maybyte_any x w; rwa [hx] at this)
  clear hx
  have HAW : Hid (Blk (w.alloc (.cells #[.int .i64 x, .int .i64 n, .int .i64 m] 49)) w.heap.size [.int .i64 x, .int .i64 n, .int .i64 m] 49) := Lib.hid (Blk.new w #[.int .i64 x, .int .i64 n, .int .i64 m] 49)
  have HBW := Lib.hid ((Below.refl w.heap.size w).alloc (Nat.le_refl _) (.cells #[.int .i64 x, .int .i64 n, .int .i64 m] 49))
  go_enter Tryd.func18, Tryd.ntmps18
  go_upto_region 1 with fail
  generalize w.alloc (.cells #[.int .i64 x, .int .i64 n, .int .i64 m] 49) = x0 at *
  have HA0 := HAW
  have HB0 := HBW
  clear HAW HBW
  have d0 : x0.cell? ⟨w.heap.size, 0, none⟩ = some (.int .i64 x) := HA0.out.cell 0
  have d1 : x0.cell? ⟨w.heap.size, 1, none⟩ = some (.int .i64 n) := HA0.out.cell 1
  have d2 : x0.cell? ⟨w.heap.size, 2, none⟩ = some (.int .i64 m) := HA0.out.cell 2
  go_wp2_with fail
  refine (CX.out _).mono ?_
  rintro e w0 ⟨rfl, rfl⟩
  go_wp2_with fail
  go_ret2
  exact ⟨rfl, HB0.out⟩
set_option maxRecDepth 100000 in
set_option maxHeartbeats 4000000 in
theorem tell_no2 (x n m : Int) (w : World) (hx : inB x 0 255 = true) (hm : inB m 0 255 = false) :
    Calls Tryd.prog 18 #[.agg #[.int .i64 x, .int .i64 n, .int .i64 m]] w fun e w' => e = .returned (.tuple #[.slice none 0 0, .int .i64 4]) ∧ Below w.heap.size w w' := by
  have CX := Lib.hid (fun w => by have := maybyte_any x w; rwa [hx] at this)
  have CM := Lib.hid (fun w => by have := maybyte_any m w; rwa [hm] at this)
  clear hx hm
  have HAW : Hid (Blk (w.alloc (.cells #[.int .i64 x, .int .i64 n, .int .i64 m] 49)) w.heap.size [.int .i64 x, .int .i64 n, .int .i64 m] 49) := Lib.hid (Blk.new w #[.int .i64 x, .int .i64 n, .int .i64 m] 49)
  have HBW := Lib.hid ((Below.refl w.heap.size w).alloc (Nat.le_refl _) (.cells #[.int .i64 x, .int .i64 n, .int .i64 m] 49))
  go_enter Tryd.func18, Tryd.ntmps18
  go_upto_region 1 with fail
  generalize w.alloc (.cells #[.int .i64 x, .int .i64 n, .int .i64 m] 49) = x0 at *
  have HA0 := HAW
  have HB0 := HBW
  clear HAW HBW
  have d0 : x0.cell? ⟨w.heap.size, 0, none⟩ = some (.int .i64 x) := HA0.out.cell 0
  have d1 : x0.cell? ⟨w.heap.size, 1, none⟩ = some (.int .i64 n) := HA0.out.cell 1
  have d2 : x0.cell? ⟨w.heap.size, 2, none⟩ = some (.int .i64 m) := HA0.out.cell 2
  go_wp2_with fail
  refine (CX.out _).mono ?_
  rintro e w0 ⟨rfl, rfl⟩
  go_wp2_with fail
  refine (CM.out _).mono ?_
  rintro e w1 ⟨rfl, rfl⟩
  go_wp2_with fail
  go_ret2
  exact ⟨rfl, HB0.out⟩
set_option maxRecDepth 100000 in
set_option maxHeartbeats 4000000 in
theorem tell_no3 (x n m : Int) (w : World) (hx : inB x 0 255 = true) (hm : inB m 0 255 = true) (hn : inB n 0 2147483647 = false) :
    Calls Tryd.prog 18 #[.agg #[.int .i64 x, .int .i64 n, .int .i64 m]] w fun e w' => e = .returned (.tuple #[.slice none 0 0, .int .i64 4]) ∧ Below w.heap.size w w' := by
  have CX := Lib.hid (fun w => by have := maybyte_any x w; rwa [hx] at this)
  have CM := Lib.hid (fun w => by have := maybyte_any m w; rwa [hm] at this)
  have CN := Lib.hid (fun w => by have := maynum_any n w; rwa [hn] at this)
  clear hx hm hn
  have HAW : Hid (Blk (w.alloc (.cells #[.int .i64 x, .int .i64 n, .int .i64 m] 49)) w.heap.size [.int .i64 x, .int .i64 n, .int .i64 m] 49) := Lib.hid (Blk.new w #[.int .i64 x, .int .i64 n, .int .i64 m] 49)
  have HBW := Lib.hid ((Below.refl w.heap.size w).alloc (Nat.le_refl _) (.cells #[.int .i64 x, .int .i64 n, .int .i64 m] 49))
  go_enter Tryd.func18, Tryd.ntmps18
  go_upto_region 1 with fail
  generalize w.alloc (.cells #[.int .i64 x, .int .i64 n, .int .i64 m] 49) = x0 at *
  have HA0 := HAW
  have HB0 := HBW
  clear HAW HBW
  have d0 : x0.cell? ⟨w.heap.size, 0, none⟩ = some (.int .i64 x) := HA0.out.cell 0
  have d1 : x0.cell? ⟨w.heap.size, 1, none⟩ = some (.int .i64 n) := HA0.out.cell 1
  have d2 : x0.cell? ⟨w.heap.size, 2, none⟩ = some (.int .i64 m) := HA0.out.cell 2
  go_wp2_with fail
  refine (CX.out _).mono ?_
  rintro e w0 ⟨rfl, rfl⟩
  go_wp2_with fail
  refine (CM.out _).mono ?_
  rintro e w1 ⟨rfl, rfl⟩
  go_wp2_with fail
  refine (CN.out _).mono ?_
  rintro e w2 ⟨rfl, rfl⟩
  go_wp2_with fail
  go_ret2
  exact ⟨rfl, HB0.out⟩
end Go.Proofs.YteijahcbfncebaaDoor
