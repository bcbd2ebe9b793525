/- The reference's octets of a change. -/
import Derived.Test.YtalbkpahphndiaaChg3
import Derived.Test.YtalbkpahphndiaaRef02
import Derived.Test.YtalbkpahphndiaaApp
import Derived.Test.YtalbkpahphndiaaOct
import Derived.Test.YtalbkpahphndiaaApp
import Derived.Test.YtalbkpahphndiaaRow
import Derived.Test.YtalbkpahphndiaaOps
import Derived.RegionTactic
import Derived.BigRegion
import Derived.ChangeAlike
namespace Go.Proofs.Ytalbkpahphndiaa
set_option linter.unusedVariables false
set_option linter.unusedSimpArgs false
open Go.ChangeShapes Go.WideShapes Go.ChangeAt Go.RowKit
theorem u8_info : (Try.prog.info? 5).map (fun i => (i.zero, i.size, i.bytes)) = some (some (.int .u8 0), 1, 1) := by kernel_rfl
theorem be1 (m : Nat) : beOf m 1 = [UInt8.ofNat (m % 256)] := by simp [beOf]
theorem oct1 (k : Int) : Value.int .u8 (IntKind.u8.wrap k) = .int .u8 ((UInt8.ofNat (u64 k % 256)).toNat : Int) := by
  have h : (UInt8.ofNat (u64 k % 256)).toNat = u64 k % 256 := by rw [UInt8.toNat_ofNat']; omega
  have h2 : IntKind.u8.wrap k = k % 256 := rfl
  rw [h, h2]
  unfold u64
  congr 1
  omega
/-- a slice's literal. -/
theorem lit_sl (w : World) (vs : List Value) (hv : 0 < vs.length) : Sl (w.alloc (.cells vs.toArray 5)) (some ⟨w.heap.size, 0, none⟩) vs.length 1 vs := by
  refine ⟨by omega, Or.inr ⟨_, _, rfl, by simp, fun j hj => ?_⟩⟩
  rw [Nat.zero_add, cell_of_row _ _ j _ _ _ (heap_alloc_new _ _), List.getD_eq_getElem?_getD, List.getElem?_eq_getElem (by omega)]
  simp [List.getElem?_eq_getElem (show j < vs.length by omega)]
set_option maxRecDepth 100000 in
set_option maxHeartbeats 8000000 in
theorem rputc_any (r s t k a b n p q : Int) (w : World) :
    Calls Try.prog 14 #[.agg #[.int .i64 r, .int .i64 s, .int .i64 t, .int .i64 k, .int .i64 a, .int .i64 b, .int .i64 n, .int .i64 p, .int .i64 q]] w fun e w' => ∃ a' c', e = .returned (.slice a' 22 c') ∧ Sl w' a' 22 1 (bcells (encOf r s t k a b n p q)) ∧ Below w.heap.size w w' := by
  obtain ⟨i0, hi, hz0, hz1, hz2⟩ := info_parts u8_info
  have A := Blk.new w #[.int .i64 r, .int .i64 s, .int .i64 t, .int .i64 k, .int .i64 a, .int .i64 b, .int .i64 n, .int .i64 p, .int .i64 q] 25
  have HB0 := Lib.hid ((Below.refl w.heap.size w).alloc (Nat.le_refl _) (.cells #[.int .i64 r, .int .i64 s, .int .i64 t, .int .i64 k, .int .i64 a, .int .i64 b, .int .i64 n, .int .i64 p, .int .i64 q] 25))
  go_enter Try.func14, Try.ntmps14
  go_upto_region 1 with fail
  have hz0' : w.heap.size < (w.alloc (.cells #[.int .i64 r, .int .i64 s, .int .i64 t, .int .i64 k, .int .i64 a, .int .i64 b, .int .i64 n, .int .i64 p, .int .i64 q] 25)).heap.size := by simp
  generalize w.alloc (.cells #[.int .i64 r, .int .i64 s, .int .i64 t, .int .i64 k, .int .i64 a, .int .i64 b, .int .i64 n, .int .i64 p, .int .i64 q] 25) = x0 at *
  have HA0 := Lib.hid A
  clear A
  have HS0 : Hid (Sl x0 none 0 1 (bcells [])) := Lib.hid ⟨rfl, Or.inl rfl⟩
  have hz : Hid (w.heap.size < x0.heap.size) := Lib.hid hz0'
  clear hz0'
  have cc : x0.cell? ⟨w.heap.size, 0, none⟩ = some (.int .i64 r) := HA0.out.cell 0
  have HW := Lib.hid (u64_wrap r)
  have P0 := rput_ok none 0 0 [] (u64 r) 1 x0 HS0.out (by decide) (by decide) (by decide) (u64_lt r)
  simp only [Nat.reduceAdd, Nat.zero_add] at P0
  have P := Lib.hid P0
  clear P0
  go_wp2_with fail
  rw [HW.out]
  refine P.out.mono ?_
  rintro e x1 ⟨v1, rfl, ho, hb⟩
  obtain ⟨a1, c1, rfl, _, _, hs⟩ := Sl.own ho
  have HO1 := Lib.hid ho
  have HS1 := Lib.hid hs
  have HB1 := Lib.hid (HB0.out.trans (hb.mono HB0.out.size))
  have HA1 := Lib.hid (HA0.out.keep hb HA0.out.lt)
  have HQ1 : Hid (w.heap.size < x0.heap.size) := Lib.hid HA0.out.lt
  have hzs1 : Hid (x0.heap.size ≤ x1.heap.size) := Lib.hid hb.size
  clear ho hs hb P cc HW HS0 HB0 
  generalize hX : ([] ++ beOf (u64 r) 1) = X1 at *
  have HX1 := Lib.hid hX
  clear hX
  have cc : x1.cell? ⟨w.heap.size, 1, none⟩ = some (.int .i64 s) := HA1.out.cell 1
  have HW := Lib.hid (u64_wrap s)
  have P0 := rput_ok a1 1 c1 X1 (u64 s) 2 x1 HS1.out (by decide) (by decide) (by decide) (u64_lt s)
  simp only [Nat.reduceAdd, Nat.zero_add] at P0
  have P := Lib.hid P0
  clear P0
  go_wp2_with fail
  rw [HW.out]
  refine P.out.mono ?_
  rintro e x2 ⟨v2, rfl, ho, hb⟩
  obtain ⟨a2, c2, rfl, _, _, hs⟩ := Sl.own ho
  have HO2 := Lib.hid ho
  have HS2 := Lib.hid hs
  have HB2 := Lib.hid (HB1.out.trans (hb.mono HB1.out.size))
  have HA2 := Lib.hid (HA1.out.keep hb HA1.out.lt)
  have HQ2 : Hid (w.heap.size < x1.heap.size) := Lib.hid HA1.out.lt
  have hzs2 : Hid (x1.heap.size ≤ x2.heap.size) := Lib.hid hb.size
  clear ho hs hb P cc HW HS1 HB1 HO1
  generalize hX : (X1 ++ beOf (u64 s) 2) = X2 at *
  have HX2 := Lib.hid hX
  clear hX
  have cc : x2.cell? ⟨w.heap.size, 2, none⟩ = some (.int .i64 t) := HA2.out.cell 2
  have HW := Lib.hid (u64_wrap t)
  have P0 := rput_ok a2 3 c2 X2 (u64 t) 4 x2 HS2.out (by decide) (by decide) (by decide) (u64_lt t)
  simp only [Nat.reduceAdd, Nat.zero_add] at P0
  have P := Lib.hid P0
  clear P0
  go_wp2_with fail
  rw [HW.out]
  refine P.out.mono ?_
  rintro e x3 ⟨v3, rfl, ho, hb⟩
  obtain ⟨a3, c3, rfl, _, _, hs⟩ := Sl.own ho
  have HO3 := Lib.hid ho
  have HS3 := Lib.hid hs
  have HB3 := Lib.hid (HB2.out.trans (hb.mono HB2.out.size))
  have HA3 := Lib.hid (HA2.out.keep hb HA2.out.lt)
  have HQ3 : Hid (w.heap.size < x2.heap.size) := Lib.hid HA2.out.lt
  have hzs3 : Hid (x2.heap.size ≤ x3.heap.size) := Lib.hid hb.size
  clear ho hs hb P cc HW HS2 HB2 HO2
  generalize hX : (X2 ++ beOf (u64 t) 4) = X3 at *
  have HX3 := Lib.hid hX
  clear hX
  have cck : x3.cell? ⟨w.heap.size, 3, none⟩ = some (.int .i64 k) := HA3.out.cell 3
  have cca : x3.cell? ⟨w.heap.size, 4, none⟩ = some (.int .i64 a) := HA3.out.cell 4
  have ccb : x3.cell? ⟨w.heap.size, 5, none⟩ = some (.int .i64 b) := HA3.out.cell 5
  have HL := Lib.hid (lit_sl x3 [.int .u8 (IntKind.u8.wrap k), .int .u8 (IntKind.u8.wrap a), .int .u8 (IntKind.u8.wrap b)] (by simp))
  have HOi := Lib.hid (own_stay HO3.out ((Below.refl _ _).alloc (Nat.le_refl _) (.cells #[.int .u8 (IntKind.u8.wrap k), .int .u8 (IntKind.u8.wrap a), .int .u8 (IntKind.u8.wrap b)] 5)))
  have HAi := Lib.hid (HA3.out.alloc (.cells #[.int .u8 (IntKind.u8.wrap k), .int .u8 (IntKind.u8.wrap a), .int .u8 (IntKind.u8.wrap b)] 5))
  have HBi := Lib.hid (HB3.out.alloc HB3.out.size (.cells #[.int .u8 (IntKind.u8.wrap k), .int .u8 (IntKind.u8.wrap a), .int .u8 (IntKind.u8.wrap b)] 5))
  go_wp2_with (first
    | (at_builtin; refine app_any _ _ 27 5 i0 (.int .u8 0) 1 1 Try.underlying27 hi hz0 hz1 hz2 rfl (by decide) rfl rfl rfl HOi.out rfl HL.out (fun h => by cases h) (by simp [Value.oneCell']) ?c1 ?c2 ?c3 ?_))
  case c1 => decide
  case c2 => decide
  case c3 => simp; have := hzs3.out; omega
  intro v4 x4 ho hb
  rw [show ([.int .u8 (IntKind.u8.wrap k), .int .u8 (IntKind.u8.wrap a), .int .u8 (IntKind.u8.wrap b)] : List Value) = bcells (beOf (u64 k) 1 ++ beOf (u64 a) 1 ++ beOf (u64 b) 1) by rw [be1 (u64 k), be1 (u64 a), be1 (u64 b)]; simp only [oct1 k, oct1 a, oct1 b]; rfl, ← bcells_add] at ho
  obtain ⟨a4, c4, rfl, _, _, hs⟩ := Sl.own ho
  have HO4 := Lib.hid ho
  have HS4 := Lib.hid hs
  have HB4 := Lib.hid (HBi.out.trans (hb.mono (Nat.le_of_lt HQ3.out)))
  have HA4 := Lib.hid (HAi.out.keep hb HQ3.out)
  clear ho hs hb HL HOi HAi HBi HS3 HB3 HO3
  generalize hX : X3 ++ (beOf (u64 k) 1 ++ beOf (u64 a) 1 ++ beOf (u64 b) 1) = X4 at *
  have HX4 := Lib.hid hX
  clear hX
  have cc : x4.cell? ⟨w.heap.size, 6, none⟩ = some (.int .i64 n) := HA4.out.cell 6
  have HW := Lib.hid (u64_wrap n)
  have P0 := rput_ok a4 10 c4 X4 (u64 n) 8 x4 HS4.out (by decide) (by decide) (by decide) (u64_lt n)
  simp only [Nat.reduceAdd, Nat.zero_add] at P0
  have P := Lib.hid P0
  clear P0
  go_wp2_with fail
  rw [HW.out]
  refine P.out.mono ?_
  rintro e x5 ⟨v5, rfl, ho, hb⟩
  obtain ⟨a5, c5, rfl, _, _, hs⟩ := Sl.own ho
  have HO5 := Lib.hid ho
  have HS5 := Lib.hid hs
  have HB5 := Lib.hid (HB4.out.trans (hb.mono HB4.out.size))
  have HA5 := Lib.hid (HA4.out.keep hb HA4.out.lt)
  have HQ5 : Hid (w.heap.size < x4.heap.size) := Lib.hid HA4.out.lt
  have hzs5 : Hid (x4.heap.size ≤ x5.heap.size) := Lib.hid hb.size
  clear ho hs hb P cc HW HS4 HB4 HO4
  generalize hX : (X4 ++ beOf (u64 n) 8) = X5 at *
  have HX5 := Lib.hid hX
  clear hX
  have ccp : x5.cell? ⟨w.heap.size, 7, none⟩ = some (.int .i64 p) := HA5.out.cell 7
  have HL := Lib.hid (lit_sl x5 [.int .u8 (IntKind.u8.wrap p)] (by simp))
  have HOi := Lib.hid (own_stay HO5.out ((Below.refl _ _).alloc (Nat.le_refl _) (.cells #[.int .u8 (IntKind.u8.wrap p)] 5)))
  have HAi := Lib.hid (HA5.out.alloc (.cells #[.int .u8 (IntKind.u8.wrap p)] 5))
  have HBi := Lib.hid (HB5.out.alloc HB5.out.size (.cells #[.int .u8 (IntKind.u8.wrap p)] 5))
  go_wp2_with (first
    | (at_builtin; refine app_any _ _ 27 5 i0 (.int .u8 0) 1 1 Try.underlying27 hi hz0 hz1 hz2 rfl (by decide) rfl rfl rfl HOi.out rfl HL.out (fun h => by cases h) (by simp [Value.oneCell']) ?c1 ?c2 ?c3 ?_))
  case c1 => decide
  case c2 => decide
  case c3 => simp; have := hzs5.out; omega
  intro v6 x6 ho hb
  rw [show ([.int .u8 (IntKind.u8.wrap p)] : List Value) = bcells (beOf (u64 p) 1) by rw [be1 (u64 p)]; simp only [oct1 p]; rfl, ← bcells_add] at ho
  obtain ⟨a6, c6, rfl, _, _, hs⟩ := Sl.own ho
  have HO6 := Lib.hid ho
  have HS6 := Lib.hid hs
  have HB6 := Lib.hid (HBi.out.trans (hb.mono (Nat.le_of_lt HQ5.out)))
  have HA6 := Lib.hid (HAi.out.keep hb HQ5.out)
  clear ho hs hb HL HOi HAi HBi HS5 HB5 HO5
  generalize hX : X5 ++ (beOf (u64 p) 1) = X6 at *
  have HX6 := Lib.hid hX
  clear hX
  have cc : x6.cell? ⟨w.heap.size, 8, none⟩ = some (.int .i64 q) := HA6.out.cell 8
  have HW := Lib.hid (u64_wrap q)
  have P0 := rput_ok a6 19 c6 X6 (u64 q) 2 x6 HS6.out (by decide) (by decide) (by decide) (u64_lt q)
  simp only [Nat.reduceAdd, Nat.zero_add] at P0
  have P := Lib.hid P0
  clear P0
  go_wp2_with fail
  rw [HW.out]
  refine P.out.mono ?_
  rintro e x7 ⟨v7, rfl, ho, hb⟩
  obtain ⟨a7, c7, rfl, _, _, hs⟩ := Sl.own ho
  have HO7 := Lib.hid ho
  have HS7 := Lib.hid hs
  have HB7 := Lib.hid (HB6.out.trans (hb.mono HB6.out.size))
  have HA7 := Lib.hid (HA6.out.keep hb HA6.out.lt)
  have HQ7 : Hid (w.heap.size < x6.heap.size) := Lib.hid HA6.out.lt
  have hzs7 : Hid (x6.heap.size ≤ x7.heap.size) := Lib.hid hb.size
  clear ho hs hb P cc HW HS6 HB6 HO6
  generalize hX : (X6 ++ beOf (u64 q) 2) = X7 at *
  have HX7 := Lib.hid hX
  clear hX
  have HL := Lib.hid (lit_sl x7 [.int .u8 67] (by simp))
  have HOi := Lib.hid (own_stay HO7.out ((Below.refl _ _).alloc (Nat.le_refl _) (.cells #[.int .u8 67] 5)))
  have HAi := Lib.hid (HA7.out.alloc (.cells #[.int .u8 67] 5))
  have HBi := Lib.hid (HB7.out.alloc HB7.out.size (.cells #[.int .u8 67] 5))
  go_wp2_with (first
    | (at_builtin; refine app_any _ _ 27 5 i0 (.int .u8 0) 1 1 Try.underlying27 hi hz0 hz1 hz2 rfl (by decide) rfl rfl rfl HOi.out rfl HL.out (fun h => by cases h) (by simp [Value.oneCell']) ?c1 ?c2 ?c3 ?_))
  case c1 => decide
  case c2 => decide
  case c3 => simp; have := hzs7.out; omega
  intro v8 x8 ho hb
  rw [show ([.int .u8 67] : List Value) = bcells (beOf (u64 67) 1) by rw [be1 (u64 67)]; rfl, ← bcells_add] at ho
  obtain ⟨a8, c8, rfl, _, _, hs⟩ := Sl.own ho
  have HO8 := Lib.hid ho
  have HS8 := Lib.hid hs
  have HB8 := Lib.hid (HBi.out.trans (hb.mono (Nat.le_of_lt HQ7.out)))
  have HA8 := Lib.hid (HAi.out.keep hb HQ7.out)
  clear ho hs hb HL HOi HAi HBi HS7 HB7 HO7
  generalize hX : X7 ++ (beOf (u64 67) 1) = X8 at *
  have HX8 := Lib.hid hX
  clear hX
  have HX : encOf r s t k a b n p q = X8 := by
    unfold encOf
    rw [← HX8.out, ← HX7.out, ← HX6.out, ← HX5.out, ← HX4.out, ← HX3.out, ← HX2.out, ← HX1.out]
    simp only [List.nil_append, List.append_assoc]
  have HE := Lib.hid HX
  clear HX
  go_wp2_with fail
  go_ret
  exact ⟨a8, c8, rfl, by rw [HE.out]; exact HS8.out, HB8.out⟩
end Go.Proofs.Ytalbkpahphndiaa
