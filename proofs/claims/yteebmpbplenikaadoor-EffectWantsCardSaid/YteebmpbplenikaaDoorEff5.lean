/- The reference's octets of an effect. -/
import Derived.Test.YteebmpbplenikaaDoorEff2
import Derived.Test.YteebmpbplenikaaDoorChg6
import Derived.Test.YteebmpbplenikaaDoorRef02
import Derived.Test.YteebmpbplenikaaDoorApp
import Derived.Test.YteebmpbplenikaaDoorRow
import Derived.Test.YteebmpbplenikaaDoorOps
import Derived.RegionTactic
import Derived.BigRegion
import Derived.ChangeAlike
namespace Go.Proofs.YteebmpbplenikaaDoor
set_option linter.unusedVariables false
set_option linter.unusedSimpArgs false
open Go.ChangeShapes Go.WideShapes Go.ChangeAt Go.RowKit
theorem lit1e (o : Int) : bcells (beOf (u64 o) 1) = [.int .u8 (o % 256)] := by
  have h : (UInt8.ofNat (u64 o % 256)).toNat = u64 o % 256 := by rw [UInt8.toNat_ofNat']; omega
  rw [be1]
  simp only [bcells, List.map_cons, List.map_nil, h]
  unfold u64
  congr 2
  omega
set_option maxRecDepth 100000 in
set_option maxHeartbeats 8000000 in
theorem rpute_any (k a n p q : Int) (w : World) : Calls Tryd.prog 12 #[.agg #[.int .i64 k, .int .i64 a, .int .i64 n, .int .i64 p, .int .i64 q]] w fun e w' => ∃ a' c', e = .returned (.slice a' 13 c') ∧ Sl w' a' 13 1 (bcells (encE k a n p q)) ∧ Below w.heap.size w w' := by
  obtain ⟨i0, hi, hz0, hz1, hz2⟩ := info_parts u8_info
  have A := Blk.new w #[.int .i64 k, .int .i64 a, .int .i64 n, .int .i64 p, .int .i64 q] 25
  have HB := Lib.hid ((Below.refl w.heap.size w).alloc (Nat.le_refl _) (.cells #[.int .i64 k, .int .i64 a, .int .i64 n, .int .i64 p, .int .i64 q] 25))
  go_enter Tryd.func12, Tryd.ntmps12
  go_upto_region 1 with fail
  have hzw : w.heap.size < (w.alloc (.cells #[.int .i64 k, .int .i64 a, .int .i64 n, .int .i64 p, .int .i64 q] 25)).heap.size := by simp
  generalize w.alloc (.cells #[.int .i64 k, .int .i64 a, .int .i64 n, .int .i64 p, .int .i64 q] 25) = W at *
  have c0 : W.cell? ⟨w.heap.size, 0, none⟩ = some (.int .i64 k) := A.cell 0
  have c1 : W.cell? ⟨w.heap.size, 1, none⟩ = some (.int .i64 a) := A.cell 1
  have c2 : W.cell? ⟨w.heap.size, 2, none⟩ = some (.int .i64 n) := A.cell 2
  have c3 : W.cell? ⟨w.heap.size, 3, none⟩ = some (.int .i64 p) := A.cell 3
  have c4 : W.cell? ⟨w.heap.size, 4, none⟩ = some (.int .i64 q) := A.cell 4
  have HA := Lib.hid A
  clear A
  have hl2 : bcells (beOf (u64 k) 1 ++ beOf (u64 a) 1) = [.int .u8 (k % 256), .int .u8 (a % 256)] := by rw [bcells_add, lit1e, lit1e]; rfl
  have HL := Lib.hid (lit_sl W [.int .u8 (k % 256), .int .u8 (a % 256)] (by simp))
  have HS0 : Hid (Sl (W.alloc (.cells #[.int .u8 (k % 256), .int .u8 (a % 256)] 5)) (some ⟨W.heap.size, 0, none⟩) 2 1 (bcells (beOf (u64 k) 1 ++ beOf (u64 a) 1))) := Lib.hid (by rw [hl2]; exact HL.out)
  have HA0 := Lib.hid (HA.out.alloc (.cells #[.int .u8 (k % 256), .int .u8 (a % 256)] 5))
  have HB0 := Lib.hid (HB.out.alloc HB.out.size (.cells #[.int .u8 (k % 256), .int .u8 (a % 256)] 5))
  have HW := Lib.hid (u64_wrap n)
  have P := Lib.hid (rput_ok (some ⟨W.heap.size, 0, none⟩) 2 2 (beOf (u64 k) 1 ++ beOf (u64 a) 1) (u64 n) 8 _ HS0.out (by decide) (by decide) (by decide) (u64_lt n))
  clear hl2 HL HA HB
  go_wp2_with fail
  rw [HW.out]
  refine P.out.mono ?_
  rintro e x1 ⟨v1, rfl, ho, hb⟩
  obtain ⟨a1, c1', rfl, _, _, hs⟩ := Sl.own ho
  have HO1 := Lib.hid ho
  have HB1 := Lib.hid (HB0.out.trans (hb.mono HB0.out.size))
  have A1 := Lib.hid (HA0.out.keep hb HA0.out.lt)
  have hq1 : w.heap.size < (W.alloc (.cells #[.int .u8 (k % 256), .int .u8 (a % 256)] 5)).heap.size := HA0.out.lt
  have hq2 := hb.size
  generalize hB : (W.alloc (.cells #[.int .u8 (k % 256), .int .u8 (a % 256)] 5)).heap.size = B at *
  generalize hX : beOf (u64 k) 1 ++ beOf (u64 a) 1 ++ beOf (u64 n) 8 = X1 at *
  have HX1 := Lib.hid hX
  clear hX hB ho hb hs P HW HS0 HA0 HB0 c0 c1 c2 c3 c4
  have d3 : x1.cell? ⟨w.heap.size, 3, none⟩ = some (.int .i64 p) := A1.out.cell 3
  have HLp : Hid (Sl (x1.alloc (.cells #[.int .u8 (p % 256)] 5)) (some ⟨x1.heap.size, 0, none⟩) 1 1 (bcells (beOf (u64 p) 1))) := Lib.hid (by rw [lit1e]; exact lit_sl x1 [.int .u8 (p % 256)] (by simp))
  have HO2 := Lib.hid (own_stay HO1.out ((Below.refl _ _).alloc (Nat.le_refl _) (.cells #[.int .u8 (p % 256)] 5)))
  have A2 := Lib.hid (A1.out.alloc (.cells #[.int .u8 (p % 256)] 5))
  have HB2 := Lib.hid (HB1.out.alloc HB1.out.size (.cells #[.int .u8 (p % 256)] 5))
  have hq3 : B ≤ (x1.alloc (.cells #[.int .u8 (p % 256)] 5)).heap.size := by simp; omega
  clear HO1 A1 HB1
  go_upto_region 3 with (first
    | (at_builtin; refine app_any _ _ 26 5 i0 (.int .u8 0) 1 1 Tryd.underlying26 hi hz0 hz1 hz2 rfl (by decide) rfl rfl rfl HO2.out rfl HLp.out (fun h => by cases h) (fun u hu => bcells_one hu) ?c1 ?c2 hq3 ?_))
  case c1 => decide
  case c2 => decide
  intro v3 x3 ho3 hb3
  rw [← bcells_add] at ho3
  obtain ⟨a3, c3', rfl, _, _, hs3⟩ := Sl.own ho3
  have HS3 := Lib.hid hs3
  have HB3 := Lib.hid (HB2.out.trans (hb3.mono (Nat.le_of_lt hq1)))
  have A3 := Lib.hid (A2.out.keep hb3 hq1)
  clear ho3 hb3 hs3 HO2 A2 HB2 d3 HLp
  generalize hX : X1 ++ beOf (u64 p) 1 = X3 at *
  have HX3 := Lib.hid hX
  clear hX
  have d4 : x3.cell? ⟨w.heap.size, 4, none⟩ = some (.int .i64 q) := A3.out.cell 4
  have HW := Lib.hid (u64_wrap q)
  have P := Lib.hid (rput_ok a3 11 c3' X3 (u64 q) 2 x3 HS3.out (by decide) (by decide) (by decide) (u64_lt q))
  go_wp2_with fail
  rw [HW.out]
  refine P.out.mono ?_
  rintro e x4 ⟨v4, rfl, ho, hb⟩
  obtain ⟨a4, c4', rfl, _, _, hs⟩ := Sl.own ho
  have HS4 := Lib.hid hs
  have HB4 := Lib.hid (HB3.out.trans (hb.mono HB3.out.size))
  clear ho hb hs P
  have HE := Lib.hid (show encE k a n p q = X3 ++ beOf (u64 q) 2 by unfold encE; rw [← HX3.out, ← HX1.out])
  go_wp2_with fail
  go_ret
  exact ⟨a4, c4', rfl, by rw [HE.out]; exact HS4.out, HB4.out⟩
end Go.Proofs.YteebmpbplenikaaDoor
