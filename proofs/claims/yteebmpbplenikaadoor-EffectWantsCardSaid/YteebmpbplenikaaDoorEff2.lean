/- Effects as octets. -/
import Derived.Test.YteebmpbplenikaaDoorEff
import Derived.Test.YteebmpbplenikaaDoorChg3
import Derived.Test.YteebmpbplenikaaDoorRow
import Derived.Test.YteebmpbplenikaaDoorOps
import Derived.RegionTactic
import Derived.BigRegion
import Derived.ChangeAlike
namespace Go.Proofs.YteebmpbplenikaaDoor
set_option linter.unusedVariables false
set_option linter.unusedSimpArgs false
open Go.ChangeShapes Go.WideShapes Go.ChangeAt Go.RowKit
/-- an effect's octets. -/
def encE (k a n p q : Int) : List UInt8 := beOf (u64 k) 1 ++ beOf (u64 a) 1 ++ beOf (u64 n) 8 ++ beOf (u64 p) 1 ++ beOf (u64 q) 2
theorem encE_len (k a n p q : Int) : (encE k a n p q).length = 13 := by simp [encE, beOf_len]
set_option maxRecDepth 100000 in
set_option maxHeartbeats 4000000 in
theorem eput_yes (k a n p q : Int) (w : World) (hm : effCode k a p q = 0) : Calls Tryd.prog 8 #[.agg #[.int .i64 k, .int .i64 a, .int .i64 n, .int .i64 p, .int .i64 q]] w fun e w' => ∃ a' c', e = .returned (.tuple #[.slice a' 13 c', .int .i64 0]) ∧ Sl w' a' 13 1 (bcells (encE k a n p q)) ∧ (13 ≤ c' ∧ c' ≤ 9223372036854775807) ∧ Below w.heap.size w w' := by
  have A := Blk.new w #[.int .i64 k, .int .i64 a, .int .i64 n, .int .i64 p, .int .i64 q] 25
  have HB := Lib.hid ((Below.refl w.heap.size w).alloc (Nat.le_refl _) (.cells #[.int .i64 k, .int .i64 a, .int .i64 n, .int .i64 p, .int .i64 q] 25))
  have C := Lib.hid (fun w => echk_any k a n p q w)
  rw [hm] at C
  go_enter Tryd.func8, Tryd.ntmps8
  go_upto_region 1 with fail
  have hz : w.heap.size < (w.alloc (.cells #[.int .i64 k, .int .i64 a, .int .i64 n, .int .i64 p, .int .i64 q] 25)).heap.size := by simp
  generalize w.alloc (.cells #[.int .i64 k, .int .i64 a, .int .i64 n, .int .i64 p, .int .i64 q] 25) = W at *
  have c0 : W.cell? ⟨w.heap.size, 0, none⟩ = some (.int .i64 k) := A.cell 0
  have c1 : W.cell? ⟨w.heap.size, 1, none⟩ = some (.int .i64 a) := A.cell 1
  have c2 : W.cell? ⟨w.heap.size, 2, none⟩ = some (.int .i64 n) := A.cell 2
  have c3 : W.cell? ⟨w.heap.size, 3, none⟩ = some (.int .i64 p) := A.cell 3
  have c4 : W.cell? ⟨w.heap.size, 4, none⟩ = some (.int .i64 q) := A.cell 4
  have HA := Lib.hid A
  clear A
  go_wp2_with fail
  refine (C.out _).mono ?_
  rintro e x0 ⟨rfl, hb2⟩
  have HB0 := Lib.hid (HB.out.trans (hb2.mono HB.out.size))
  have HA0 := Lib.hid (HA.out.keep hb2 hz)
  clear c0 c1 c2 c3 c4 HA HB hb2 hz C
  have HS0 : Hid (Sl x0 none 0 1 (bcells [])) := Lib.hid ⟨rfl, Or.inl rfl⟩
  clear hm
  have cc : x0.cell? ⟨w.heap.size, 0, none⟩ = some (.int .i64 k) := HA0.out.cell 0
  have HW := Lib.hid (u64_wrap k)
  have P0 := put_ok none 0 0 (bcells []) (u64 k) 1 x0 HS0.out (fun u hu => bcells_one hu) (by decide) (by decide) (by decide) (u64_lt k)
  rw [← bcells_add] at P0
  simp only [Nat.reduceAdd, Nat.zero_add] at P0
  have P := Lib.hid P0
  clear P0
  go_wp2_with fail
  rw [HW.out]
  refine P.out.mono ?_
  rintro e x1 ⟨v1, rfl, ho, hb⟩
  obtain ⟨a1, c1, rfl, hq1, hq2, hs⟩ := Sl.own ho
  have HS1 := Lib.hid hs
  have HQ1 := Lib.hid (And.intro hq1 hq2)
  have HB1 := Lib.hid (HB0.out.trans (hb.mono HB0.out.size))
  have HA1 := Lib.hid (HA0.out.keep hb HA0.out.lt)
  clear ho hs hb P cc HW HS0 HB0 hq1 hq2
  generalize hX : [] ++ beOf (u64 k) 1 = X1 at *
  have HX1 := Lib.hid hX
  clear hX
  have cc : x1.cell? ⟨w.heap.size, 1, none⟩ = some (.int .i64 a) := HA1.out.cell 1
  have HW := Lib.hid (u64_wrap a)
  have P0 := put_ok a1 1 c1 (bcells X1) (u64 a) 1 x1 HS1.out (fun u hu => bcells_one hu) (by decide) (by decide) (by decide) (u64_lt a)
  rw [← bcells_add] at P0
  simp only [Nat.reduceAdd, Nat.zero_add] at P0
  have P := Lib.hid P0
  clear P0
  go_wp2_with fail
  rw [HW.out]
  refine P.out.mono ?_
  rintro e x2 ⟨v2, rfl, ho, hb⟩
  obtain ⟨a2, c2, rfl, hq1, hq2, hs⟩ := Sl.own ho
  have HS2 := Lib.hid hs
  have HQ2 := Lib.hid (And.intro hq1 hq2)
  have HB2 := Lib.hid (HB1.out.trans (hb.mono HB1.out.size))
  have HA2 := Lib.hid (HA1.out.keep hb HA1.out.lt)
  clear ho hs hb P cc HW HS1 HB1 hq1 hq2
  generalize hX : X1 ++ beOf (u64 a) 1 = X2 at *
  have HX2 := Lib.hid hX
  clear hX
  have cc : x2.cell? ⟨w.heap.size, 2, none⟩ = some (.int .i64 n) := HA2.out.cell 2
  have HW := Lib.hid (u64_wrap n)
  have P0 := put_ok a2 2 c2 (bcells X2) (u64 n) 8 x2 HS2.out (fun u hu => bcells_one hu) (by decide) (by decide) (by decide) (u64_lt n)
  rw [← bcells_add] at P0
  simp only [Nat.reduceAdd, Nat.zero_add] at P0
  have P := Lib.hid P0
  clear P0
  go_wp2_with fail
  rw [HW.out]
  refine P.out.mono ?_
  rintro e x3 ⟨v3, rfl, ho, hb⟩
  obtain ⟨a3, c3, rfl, hq1, hq2, hs⟩ := Sl.own ho
  have HS3 := Lib.hid hs
  have HQ3 := Lib.hid (And.intro hq1 hq2)
  have HB3 := Lib.hid (HB2.out.trans (hb.mono HB2.out.size))
  have HA3 := Lib.hid (HA2.out.keep hb HA2.out.lt)
  clear ho hs hb P cc HW HS2 HB2 hq1 hq2
  generalize hX : X2 ++ beOf (u64 n) 8 = X3 at *
  have HX3 := Lib.hid hX
  clear hX
  have cc : x3.cell? ⟨w.heap.size, 3, none⟩ = some (.int .i64 p) := HA3.out.cell 3
  have HW := Lib.hid (u64_wrap p)
  have P0 := put_ok a3 10 c3 (bcells X3) (u64 p) 1 x3 HS3.out (fun u hu => bcells_one hu) (by decide) (by decide) (by decide) (u64_lt p)
  rw [← bcells_add] at P0
  simp only [Nat.reduceAdd, Nat.zero_add] at P0
  have P := Lib.hid P0
  clear P0
  go_wp2_with fail
  rw [HW.out]
  refine P.out.mono ?_
  rintro e x4 ⟨v4, rfl, ho, hb⟩
  obtain ⟨a4, c4, rfl, hq1, hq2, hs⟩ := Sl.own ho
  have HS4 := Lib.hid hs
  have HQ4 := Lib.hid (And.intro hq1 hq2)
  have HB4 := Lib.hid (HB3.out.trans (hb.mono HB3.out.size))
  have HA4 := Lib.hid (HA3.out.keep hb HA3.out.lt)
  clear ho hs hb P cc HW HS3 HB3 hq1 hq2
  generalize hX : X3 ++ beOf (u64 p) 1 = X4 at *
  have HX4 := Lib.hid hX
  clear hX
  have cc : x4.cell? ⟨w.heap.size, 4, none⟩ = some (.int .i64 q) := HA4.out.cell 4
  have HW := Lib.hid (u64_wrap q)
  have P0 := put_ok a4 11 c4 (bcells X4) (u64 q) 2 x4 HS4.out (fun u hu => bcells_one hu) (by decide) (by decide) (by decide) (u64_lt q)
  rw [← bcells_add] at P0
  simp only [Nat.reduceAdd, Nat.zero_add] at P0
  have P := Lib.hid P0
  clear P0
  go_wp2_with fail
  rw [HW.out]
  refine P.out.mono ?_
  rintro e x5 ⟨v5, rfl, ho, hb⟩
  obtain ⟨a5, c5, rfl, hq1, hq2, hs⟩ := Sl.own ho
  have HS5 := Lib.hid hs
  have HQ5 := Lib.hid (And.intro hq1 hq2)
  have HB5 := Lib.hid (HB4.out.trans (hb.mono HB4.out.size))
  have HA5 := Lib.hid (HA4.out.keep hb HA4.out.lt)
  clear ho hs hb P cc HW HS4 HB4 hq1 hq2
  generalize hX : X4 ++ beOf (u64 q) 2 = X5 at *
  have HX5 := Lib.hid hX
  clear hX
  have HX : encE k a n p q = X5 := by
    unfold encE
    rw [← HX5.out, ← HX4.out, ← HX3.out, ← HX2.out, ← HX1.out]
    simp only [List.nil_append, List.append_assoc]
  have HE := Lib.hid HX
  clear HX
  go_wp2_with fail
  go_ret2
  exact ⟨a5, c5, rfl, by rw [HE.out]; exact HS5.out, ⟨HQ5.out.1, by have := HQ5.out.2; simpa [maxLen] using this⟩, HB5.out⟩
set_option maxRecDepth 100000 in
set_option maxHeartbeats 4000000 in
theorem eput_no (k a n p q : Int) (w : World) (hm : effCode k a p q ≠ 0) : Calls Tryd.prog 8 #[.agg #[.int .i64 k, .int .i64 a, .int .i64 n, .int .i64 p, .int .i64 q]] w fun e w' => e = .returned (.tuple #[.slice none 0 0, .int .i64 (effCode k a p q)]) ∧ Below w.heap.size w w' := by
  have A := Blk.new w #[.int .i64 k, .int .i64 a, .int .i64 n, .int .i64 p, .int .i64 q] 25
  have HB := Lib.hid ((Below.refl w.heap.size w).alloc (Nat.le_refl _) (.cells #[.int .i64 k, .int .i64 a, .int .i64 n, .int .i64 p, .int .i64 q] 25))
  have C := Lib.hid (fun w => echk_any k a n p q w)
  skip
  go_enter Tryd.func8, Tryd.ntmps8
  go_upto_region 1 with fail
  have hz : w.heap.size < (w.alloc (.cells #[.int .i64 k, .int .i64 a, .int .i64 n, .int .i64 p, .int .i64 q] 25)).heap.size := by simp
  generalize w.alloc (.cells #[.int .i64 k, .int .i64 a, .int .i64 n, .int .i64 p, .int .i64 q] 25) = W at *
  have c0 : W.cell? ⟨w.heap.size, 0, none⟩ = some (.int .i64 k) := A.cell 0
  have c1 : W.cell? ⟨w.heap.size, 1, none⟩ = some (.int .i64 a) := A.cell 1
  have c2 : W.cell? ⟨w.heap.size, 2, none⟩ = some (.int .i64 n) := A.cell 2
  have c3 : W.cell? ⟨w.heap.size, 3, none⟩ = some (.int .i64 p) := A.cell 3
  have c4 : W.cell? ⟨w.heap.size, 4, none⟩ = some (.int .i64 q) := A.cell 4
  have HA := Lib.hid A
  clear A
  go_wp2_with fail
  refine (C.out _).mono ?_
  rintro e x0 ⟨rfl, hb2⟩
  have HB0 := Lib.hid (HB.out.trans (hb2.mono HB.out.size))
  have HA0 := Lib.hid (HA.out.keep hb2 hz)
  clear c0 c1 c2 c3 c4 HA HB hb2 hz C
  generalize hco : effCode k a p q = code at *
  have HCO := Lib.hid hco
  clear hco
  go_wp2_with fail
  go_ret2
  exact ⟨by rw [HCO.out]; rfl, HB0.out⟩
end Go.Proofs.YteebmpbplenikaaDoor
