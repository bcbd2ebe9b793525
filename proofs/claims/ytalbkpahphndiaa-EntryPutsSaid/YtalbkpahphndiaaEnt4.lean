/- An entry's octets. -/
import Derived.Test.YtalbkpahphndiaaEff4
import Derived.Test.YtalbkpahphndiaaEnt3
import Derived.Test.YtalbkpahphndiaaLaw09l
import Derived.Test.YtalbkpahphndiaaRow
import Derived.Test.YtalbkpahphndiaaOps
import Derived.RegionTactic
import Derived.BigRegion
import Derived.ChangeAlike
namespace Go.Proofs.Ytalbkpahphndiaa
set_option linter.unusedVariables false
set_option linter.unusedSimpArgs false
open Go.ChangeShapes Go.WideShapes Go.ChangeAt Go.RowKit
def encNf (o k a n p q s l : Int) (fl : Nat) (b bl : Int) : List UInt8 := beOf (u64 o) 1 ++ encE k a n p q ++ beOf (u64 s) 1 ++ beOf (u64 l) 4 ++ beOf (u64 b) 1 ++ beOf (u64 bl) 4 ++ [UInt8.ofNat fl, 69, 69]
def encN (o k a n p q s l : Int) (ak gn : Bool) (b bl : Int) : List UInt8 := encNf o k a n p q s l (flagsOf ak gn) b bl
theorem lit1 (o : Int) : bcells (beOf (u64 o) 1) = [.int .u8 (o % 256)] := by
  have h : (UInt8.ofNat (u64 o % 256)).toNat = u64 o % 256 := by rw [UInt8.toNat_ofNat']; omega
  rw [be1]
  simp only [bcells, List.map_cons, List.map_nil, h]
  unfold u64
  congr 2
  omega
theorem encN_len (o k a n p q s l : Int) (ak gn : Bool) (b bl : Int) : (encN o k a n p q s l ak gn b bl).length = 27 := by simp [encN, encNf, beOf_len, encE_len]
set_option maxRecDepth 100000 in
set_option maxHeartbeats 8000000 in
theorem nput_no (o k a n p q s l : Int) (ak gn : Bool) (b bl : Int) (w : World) (hm : mayEnt o k a p q s l ak gn b bl = false) : Calls Try.prog 36 #[.agg #[.int .i64 o, .int .i64 k, .int .i64 a, .int .i64 n, .int .i64 p, .int .i64 q, .int .i64 s, .int .i64 l, .bool ak, .bool gn, .int .i64 b, .int .i64 bl]] w fun e w' => e = .returned (.slice none 0 0) ∧ Below w.heap.size w w' := by
  have A := Lib.hid (Blk.new w #[.int .i64 o, .int .i64 k, .int .i64 a, .int .i64 n, .int .i64 p, .int .i64 q, .int .i64 s, .int .i64 l, .bool ak, .bool gn, .int .i64 b, .int .i64 bl] 49)
  have HB := Lib.hid ((Below.refl w.heap.size w).alloc (Nat.le_refl _) (.cells #[.int .i64 o, .int .i64 k, .int .i64 a, .int .i64 n, .int .i64 p, .int .i64 q, .int .i64 s, .int .i64 l, .bool ak, .bool gn, .int .i64 b, .int .i64 bl] 49))
  have CK := Lib.hid (fun w => show Calls Try.prog 22 #[.agg #[.int .i64 o, .int .i64 k, .int .i64 a, .int .i64 n, .int .i64 p, .int .i64 q, .int .i64 s, .int .i64 l, .bool ak, .bool gn, .int .i64 b, .int .i64 bl]] w fun e w' => e = .returned (.bool false) ∧ Below w.heap.size w w' from by have := ecent_any o k a n p q s l ak gn b bl w; rwa [hm] at this)
  clear hm
  go_enter Try.func36, Try.ntmps36
  go_upto_region 1 with fail
  generalize w.alloc (.cells #[.int .i64 o, .int .i64 k, .int .i64 a, .int .i64 n, .int .i64 p, .int .i64 q, .int .i64 s, .int .i64 l, .bool ak, .bool gn, .int .i64 b, .int .i64 bl] 49) = W at *
  have c0 : W.cell? ⟨w.heap.size, 0, none⟩ = some (.int .i64 o) := A.out.cell 0
  have c1 : W.cell? ⟨w.heap.size, 1, none⟩ = some (.int .i64 k) := A.out.cell 1
  have c2 : W.cell? ⟨w.heap.size, 2, none⟩ = some (.int .i64 a) := A.out.cell 2
  have c3 : W.cell? ⟨w.heap.size, 3, none⟩ = some (.int .i64 n) := A.out.cell 3
  have c4 : W.cell? ⟨w.heap.size, 4, none⟩ = some (.int .i64 p) := A.out.cell 4
  have c5 : W.cell? ⟨w.heap.size, 5, none⟩ = some (.int .i64 q) := A.out.cell 5
  have c6 : W.cell? ⟨w.heap.size, 6, none⟩ = some (.int .i64 s) := A.out.cell 6
  have c7 : W.cell? ⟨w.heap.size, 7, none⟩ = some (.int .i64 l) := A.out.cell 7
  have c8 : W.cell? ⟨w.heap.size, 8, none⟩ = some (.bool ak) := A.out.cell 8
  have c9 : W.cell? ⟨w.heap.size, 9, none⟩ = some (.bool gn) := A.out.cell 9
  have c10 : W.cell? ⟨w.heap.size, 10, none⟩ = some (.int .i64 b) := A.out.cell 10
  have c11 : W.cell? ⟨w.heap.size, 11, none⟩ = some (.int .i64 bl) := A.out.cell 11
  go_wp2_with fail
  refine (CK.out _).mono ?_
  rintro e x0 ⟨rfl, hb0⟩
  go_wp2_with fail
  go_ret
  exact ⟨rfl, HB.out.trans (hb0.mono HB.out.size)⟩
set_option maxRecDepth 100000 in
set_option maxHeartbeats 8000000 in
theorem nput_yes (o k a n p q s l : Int) (ak gn : Bool) (b bl : Int) (w : World) (hm : mayEnt o k a p q s l ak gn b bl = true) : Calls Try.prog 36 #[.agg #[.int .i64 o, .int .i64 k, .int .i64 a, .int .i64 n, .int .i64 p, .int .i64 q, .int .i64 s, .int .i64 l, .bool ak, .bool gn, .int .i64 b, .int .i64 bl]] w fun e w' => ∃ a' c', e = .returned (.slice a' 27 c') ∧ Sl w' a' 27 1 (bcells (encN o k a n p q s l ak gn b bl)) ∧ (27 ≤ c' ∧ c' ≤ 9223372036854775807) ∧ Below w.heap.size w w' := by
  obtain ⟨i0, hi, hz0, hz1, hz2⟩ := info_parts u8_info
  have A := Lib.hid (Blk.new w #[.int .i64 o, .int .i64 k, .int .i64 a, .int .i64 n, .int .i64 p, .int .i64 q, .int .i64 s, .int .i64 l, .bool ak, .bool gn, .int .i64 b, .int .i64 bl] 49)
  have HB := Lib.hid ((Below.refl w.heap.size w).alloc (Nat.le_refl _) (.cells #[.int .i64 o, .int .i64 k, .int .i64 a, .int .i64 n, .int .i64 p, .int .i64 q, .int .i64 s, .int .i64 l, .bool ak, .bool gn, .int .i64 b, .int .i64 bl] 49))
  have he := ((ment_iff o k a p q s l ak gn b bl).1 hm).1
  have CK := Lib.hid (fun w => show Calls Try.prog 22 #[.agg #[.int .i64 o, .int .i64 k, .int .i64 a, .int .i64 n, .int .i64 p, .int .i64 q, .int .i64 s, .int .i64 l, .bool ak, .bool gn, .int .i64 b, .int .i64 bl]] w fun e w' => e = .returned (.bool true) ∧ Below w.heap.size w w' from by have := ecent_any o k a n p q s l ak gn b bl w; rwa [hm] at this)
  have CP := Lib.hid (fun w => eput_yes k a n p q w he)
  have CF := Lib.hid (fun w => flags_any o k a n p q s l ak gn b bl w)
  clear hm he
  go_enter Try.func36, Try.ntmps36
  go_upto_region 1 with fail
  generalize w.alloc (.cells #[.int .i64 o, .int .i64 k, .int .i64 a, .int .i64 n, .int .i64 p, .int .i64 q, .int .i64 s, .int .i64 l, .bool ak, .bool gn, .int .i64 b, .int .i64 bl] 49) = W at *
  have c0 : W.cell? ⟨w.heap.size, 0, none⟩ = some (.int .i64 o) := A.out.cell 0
  have c1 : W.cell? ⟨w.heap.size, 1, none⟩ = some (.int .i64 k) := A.out.cell 1
  have c2 : W.cell? ⟨w.heap.size, 2, none⟩ = some (.int .i64 a) := A.out.cell 2
  have c3 : W.cell? ⟨w.heap.size, 3, none⟩ = some (.int .i64 n) := A.out.cell 3
  have c4 : W.cell? ⟨w.heap.size, 4, none⟩ = some (.int .i64 p) := A.out.cell 4
  have c5 : W.cell? ⟨w.heap.size, 5, none⟩ = some (.int .i64 q) := A.out.cell 5
  have c6 : W.cell? ⟨w.heap.size, 6, none⟩ = some (.int .i64 s) := A.out.cell 6
  have c7 : W.cell? ⟨w.heap.size, 7, none⟩ = some (.int .i64 l) := A.out.cell 7
  have c8 : W.cell? ⟨w.heap.size, 8, none⟩ = some (.bool ak) := A.out.cell 8
  have c9 : W.cell? ⟨w.heap.size, 9, none⟩ = some (.bool gn) := A.out.cell 9
  have c10 : W.cell? ⟨w.heap.size, 10, none⟩ = some (.int .i64 b) := A.out.cell 10
  have c11 : W.cell? ⟨w.heap.size, 11, none⟩ = some (.int .i64 bl) := A.out.cell 11
  go_wp2_with fail
  refine (CK.out _).mono ?_
  rintro e x0 ⟨rfl, hb0⟩
  have HB0 := Lib.hid (HB.out.trans (hb0.mono HB.out.size))
  have A0 := Lib.hid (A.out.keep hb0 A.out.lt)
  clear c0 c1 c2 c3 c4 c5 c6 c7 c8 c9 c10 c11
  clear hb0 A HB
  have c0 : x0.cell? ⟨w.heap.size, 0, none⟩ = some (.int .i64 o) := A0.out.cell 0
  have c1 : x0.cell? ⟨w.heap.size, 1, none⟩ = some (.int .i64 k) := A0.out.cell 1
  have c2 : x0.cell? ⟨w.heap.size, 2, none⟩ = some (.int .i64 a) := A0.out.cell 2
  have c3 : x0.cell? ⟨w.heap.size, 3, none⟩ = some (.int .i64 n) := A0.out.cell 3
  have c4 : x0.cell? ⟨w.heap.size, 4, none⟩ = some (.int .i64 p) := A0.out.cell 4
  have c5 : x0.cell? ⟨w.heap.size, 5, none⟩ = some (.int .i64 q) := A0.out.cell 5
  have c6 : x0.cell? ⟨w.heap.size, 6, none⟩ = some (.int .i64 s) := A0.out.cell 6
  have c7 : x0.cell? ⟨w.heap.size, 7, none⟩ = some (.int .i64 l) := A0.out.cell 7
  have c8 : x0.cell? ⟨w.heap.size, 8, none⟩ = some (.bool ak) := A0.out.cell 8
  have c9 : x0.cell? ⟨w.heap.size, 9, none⟩ = some (.bool gn) := A0.out.cell 9
  have c10 : x0.cell? ⟨w.heap.size, 10, none⟩ = some (.int .i64 b) := A0.out.cell 10
  have c11 : x0.cell? ⟨w.heap.size, 11, none⟩ = some (.int .i64 bl) := A0.out.cell 11
  go_wp2_with fail
  refine (CP.out _).mono ?_
  rintro e x1 ⟨a1, c1', rfl, hs1, _, hb1⟩
  have HB1 := Lib.hid (HB0.out.trans (hb1.mono HB0.out.size))
  have A1 := Lib.hid (A0.out.keep hb1 A0.out.lt)
  have HS1 := Lib.hid hs1
  clear c0 c1 c2 c3 c4 c5 c6 c7 c8 c9 c10 c11
  clear hb1 A0 HB0 hs1
  have c0 : x1.cell? ⟨w.heap.size, 0, none⟩ = some (.int .i64 o) := A1.out.cell 0
  have c1 : x1.cell? ⟨w.heap.size, 1, none⟩ = some (.int .i64 k) := A1.out.cell 1
  have c2 : x1.cell? ⟨w.heap.size, 2, none⟩ = some (.int .i64 a) := A1.out.cell 2
  have c3 : x1.cell? ⟨w.heap.size, 3, none⟩ = some (.int .i64 n) := A1.out.cell 3
  have c4 : x1.cell? ⟨w.heap.size, 4, none⟩ = some (.int .i64 p) := A1.out.cell 4
  have c5 : x1.cell? ⟨w.heap.size, 5, none⟩ = some (.int .i64 q) := A1.out.cell 5
  have c6 : x1.cell? ⟨w.heap.size, 6, none⟩ = some (.int .i64 s) := A1.out.cell 6
  have c7 : x1.cell? ⟨w.heap.size, 7, none⟩ = some (.int .i64 l) := A1.out.cell 7
  have c8 : x1.cell? ⟨w.heap.size, 8, none⟩ = some (.bool ak) := A1.out.cell 8
  have c9 : x1.cell? ⟨w.heap.size, 9, none⟩ = some (.bool gn) := A1.out.cell 9
  have c10 : x1.cell? ⟨w.heap.size, 10, none⟩ = some (.int .i64 b) := A1.out.cell 10
  have c11 : x1.cell? ⟨w.heap.size, 11, none⟩ = some (.int .i64 bl) := A1.out.cell 11
  have HOL : Hid ((x1.alloc (.cells #[.int .u8 (o % 256)] 5)).ownsRow x1.heap.size 5 1 (.slice (some ⟨x1.heap.size, 0, none⟩) 1 1) 1 (bcells (beOf (u64 o) 1))) := Lib.hid (by rw [lit1]; exact own_lit x1 [.int .u8 (o % 256)] (by simp))
  have HSl := Lib.hid (HS1.out.keep ((Below.refl _ _).alloc (Nat.le_refl _) (.cells #[.int .u8 (o % 256)] 5)))
  have Al := Lib.hid (A1.out.alloc (.cells #[.int .u8 (o % 256)] 5))
  have HBl := Lib.hid (HB1.out.alloc HB1.out.size (.cells #[.int .u8 (o % 256)] 5))
  have hlt1 : w.heap.size < x1.heap.size := A1.out.lt
  have hnl : a1 = none → c1' = 0 := fun h0 => by
    rcases HS1.out.2 with h1 | ⟨b1, o1, h1, _⟩
    · omega
    · rw [h0] at h1; cases h1
  have hzl : x1.heap.size ≤ (x1.alloc (.cells #[.int .u8 (o % 256)] 5)).heap.size := by simp
  clear A1 HB1 HS1
  go_upto_region 5 with (first
    | (at_builtin; refine app_any _ _ 27 5 i0 (.int .u8 0) 1 1 Try.underlying27 hi hz0 hz1 hz2 rfl (by decide) rfl rfl rfl HOL.out rfl HSl.out hnl (fun u hu => bcells_one hu) ?c1 ?c2 hzl ?_))
  case c1 => decide
  case c2 => decide
  intro v2 x2 ho2 hb2
  rw [← bcells_add] at ho2
  obtain ⟨a2, c2', rfl, _, _, hs2⟩ := Sl.own ho2
  have HS2 := Lib.hid hs2
  have HB2 := Lib.hid (HBl.out.trans (hb2.mono (Nat.le_of_lt hlt1)))
  have A2 := Lib.hid (Al.out.keep hb2 hlt1)
  clear ho2 hb2 hs2 HOL HSl Al HBl c0 c1 c2 c3 c4 c5 c6 c7 c8 c9 c10 c11
  generalize hX : beOf (u64 o) 1 ++ encE k a n p q = X2 at *
  have HX2 := Lib.hid hX
  clear hX
  have cc : x2.cell? ⟨w.heap.size, 6, none⟩ = some (.int .i64 s) := A2.out.cell 6
  have HW := Lib.hid (u64_wrap s)
  have P0 := put_ok a2 14 c2' (bcells X2) (u64 s) 1 x2 HS2.out (fun u hu => bcells_one hu) (by decide) (by decide) (by decide) (u64_lt s)
  rw [← bcells_add] at P0
  simp only [Nat.reduceAdd] at P0
  have P := Lib.hid P0
  clear P0
  go_wp2_with fail
  rw [HW.out]
  refine P.out.mono ?_
  rintro e x3 ⟨v3, rfl, ho, hb⟩
  obtain ⟨a3, c3', rfl, _, _, hs⟩ := Sl.own ho
  have HS3 := Lib.hid hs
  have HO3 := Lib.hid ho
  have HB3 := Lib.hid (HB2.out.trans (hb.mono HB2.out.size))
  have A3 := Lib.hid (A2.out.keep hb A2.out.lt)
  have hq3 : x2.heap.size ≤ x3.heap.size := hb.size
  have hr3 : w.heap.size < x2.heap.size := A2.out.lt
  clear ho hs hb P cc HW HS2 HB2 A2
  generalize hX : X2 ++ beOf (u64 s) 1 = X3 at *
  have HX3 := Lib.hid hX
  clear hX
  have cc : x3.cell? ⟨w.heap.size, 7, none⟩ = some (.int .i64 l) := A3.out.cell 7
  have HW := Lib.hid (u64_wrap l)
  have P0 := put_ok a3 15 c3' (bcells X3) (u64 l) 4 x3 HS3.out (fun u hu => bcells_one hu) (by decide) (by decide) (by decide) (u64_lt l)
  rw [← bcells_add] at P0
  simp only [Nat.reduceAdd] at P0
  have P := Lib.hid P0
  clear P0
  go_wp2_with fail
  rw [HW.out]
  refine P.out.mono ?_
  rintro e x4 ⟨v4, rfl, ho, hb⟩
  obtain ⟨a4, c4', rfl, _, _, hs⟩ := Sl.own ho
  have HS4 := Lib.hid hs
  have HO4 := Lib.hid ho
  have HB4 := Lib.hid (HB3.out.trans (hb.mono HB3.out.size))
  have A4 := Lib.hid (A3.out.keep hb A3.out.lt)
  have hq4 : x3.heap.size ≤ x4.heap.size := hb.size
  have hr4 : w.heap.size < x3.heap.size := A3.out.lt
  clear ho hs hb P cc HW HS3 HB3 A3
  generalize hX : X3 ++ beOf (u64 l) 4 = X4 at *
  have HX4 := Lib.hid hX
  clear hX
  have cc : x4.cell? ⟨w.heap.size, 10, none⟩ = some (.int .i64 b) := A4.out.cell 10
  have HW := Lib.hid (u64_wrap b)
  have P0 := put_ok a4 19 c4' (bcells X4) (u64 b) 1 x4 HS4.out (fun u hu => bcells_one hu) (by decide) (by decide) (by decide) (u64_lt b)
  rw [← bcells_add] at P0
  simp only [Nat.reduceAdd] at P0
  have P := Lib.hid P0
  clear P0
  go_wp2_with fail
  rw [HW.out]
  refine P.out.mono ?_
  rintro e x5 ⟨v5, rfl, ho, hb⟩
  obtain ⟨a5, c5', rfl, _, _, hs⟩ := Sl.own ho
  have HS5 := Lib.hid hs
  have HO5 := Lib.hid ho
  have HB5 := Lib.hid (HB4.out.trans (hb.mono HB4.out.size))
  have A5 := Lib.hid (A4.out.keep hb A4.out.lt)
  have hq5 : x4.heap.size ≤ x5.heap.size := hb.size
  have hr5 : w.heap.size < x4.heap.size := A4.out.lt
  clear ho hs hb P cc HW HS4 HB4 A4
  generalize hX : X4 ++ beOf (u64 b) 1 = X5 at *
  have HX5 := Lib.hid hX
  clear hX
  have cc : x5.cell? ⟨w.heap.size, 11, none⟩ = some (.int .i64 bl) := A5.out.cell 11
  have HW := Lib.hid (u64_wrap bl)
  have P0 := put_ok a5 20 c5' (bcells X5) (u64 bl) 4 x5 HS5.out (fun u hu => bcells_one hu) (by decide) (by decide) (by decide) (u64_lt bl)
  rw [← bcells_add] at P0
  simp only [Nat.reduceAdd] at P0
  have P := Lib.hid P0
  clear P0
  go_wp2_with fail
  rw [HW.out]
  refine P.out.mono ?_
  rintro e x6 ⟨v6, rfl, ho, hb⟩
  obtain ⟨a6, c6', rfl, _, _, hs⟩ := Sl.own ho
  have HS6 := Lib.hid hs
  have HO6 := Lib.hid ho
  have HB6 := Lib.hid (HB5.out.trans (hb.mono HB5.out.size))
  have A6 := Lib.hid (A5.out.keep hb A5.out.lt)
  have hq6 : x5.heap.size ≤ x6.heap.size := hb.size
  have hr6 : w.heap.size < x5.heap.size := A5.out.lt
  clear ho hs hb P cc HW HS5 HB5 A5
  generalize hX : X5 ++ beOf (u64 bl) 4 = X6 at *
  have HX6 := Lib.hid hX
  clear hX
  have c0 : x6.cell? ⟨w.heap.size, 0, none⟩ = some (.int .i64 o) := A6.out.cell 0
  have c1 : x6.cell? ⟨w.heap.size, 1, none⟩ = some (.int .i64 k) := A6.out.cell 1
  have c2 : x6.cell? ⟨w.heap.size, 2, none⟩ = some (.int .i64 a) := A6.out.cell 2
  have c3 : x6.cell? ⟨w.heap.size, 3, none⟩ = some (.int .i64 n) := A6.out.cell 3
  have c4 : x6.cell? ⟨w.heap.size, 4, none⟩ = some (.int .i64 p) := A6.out.cell 4
  have c5 : x6.cell? ⟨w.heap.size, 5, none⟩ = some (.int .i64 q) := A6.out.cell 5
  have c6 : x6.cell? ⟨w.heap.size, 6, none⟩ = some (.int .i64 s) := A6.out.cell 6
  have c7 : x6.cell? ⟨w.heap.size, 7, none⟩ = some (.int .i64 l) := A6.out.cell 7
  have c8 : x6.cell? ⟨w.heap.size, 8, none⟩ = some (.bool ak) := A6.out.cell 8
  have c9 : x6.cell? ⟨w.heap.size, 9, none⟩ = some (.bool gn) := A6.out.cell 9
  have c10 : x6.cell? ⟨w.heap.size, 10, none⟩ = some (.int .i64 b) := A6.out.cell 10
  have c11 : x6.cell? ⟨w.heap.size, 11, none⟩ = some (.int .i64 bl) := A6.out.cell 11
  go_wp2_with fail
  refine (CF.out _).mono ?_
  rintro e x7 ⟨rfl, hb7⟩
  have HB7 := Lib.hid (HB6.out.trans (hb7.mono HB6.out.size))
  have HO7 := Lib.hid (own_stay HO6.out hb7)
  have hq7 : x5.heap.size ≤ x7.heap.size := Nat.le_trans hq6 hb7.size
  have hlf : ([.int .u8 (flagsOf ak gn : Nat), .int .u8 69, .int .u8 69] : List Value) = bcells [UInt8.ofNat (flagsOf ak gn), 69, 69] := by cases ak <;> cases gn <;> rfl
  have HLF := Lib.hid hlf
  generalize hfl : flagsOf ak gn = fl at *
  have HFL := Lib.hid hfl
  clear hfl
  have HL := Lib.hid (lit_sl x7 [.int .u8 (fl : Int), .int .u8 69, .int .u8 69] (by simp))
  have HOz := Lib.hid (own_stay HO7.out ((Below.refl _ _).alloc (Nat.le_refl _) (.cells #[.int .u8 (fl : Int), .int .u8 69, .int .u8 69] 5)))
  have HBz := Lib.hid (HB7.out.alloc HB7.out.size (.cells #[.int .u8 (fl : Int), .int .u8 69, .int .u8 69] 5))
  have hqz : x5.heap.size ≤ (x7.alloc (.cells #[.int .u8 (fl : Int), .int .u8 69, .int .u8 69] 5)).heap.size := by simp; omega
  clear hb7 HO6 HO7 hlf HB6 A6 c0 c1 c2 c3 c4 c5 c6 c7 c8 c9 c10 c11
  go_wp2_with (first
    | (at_builtin; refine app_any _ _ 27 5 i0 (.int .u8 0) 1 1 Try.underlying27 hi hz0 hz1 hz2 rfl (by decide) rfl rfl rfl HOz.out rfl HL.out (fun h => by cases h) (by simp [Value.oneCell']) ?c1 ?c2 hqz ?_))
  case c1 => decide
  case c2 => decide
  intro v8 x8 ho8 hb8
  rw [HLF.out, ← bcells_add] at ho8
  obtain ⟨a8, c8', rfl, hp1, hp2, hs8⟩ := Sl.own ho8
  have HS8 := Lib.hid hs8
  have HP := Lib.hid (And.intro hp1 hp2)
  have HB8 := Lib.hid (HBz.out.trans (hb8.mono (Nat.le_of_lt hr6)))
  clear ho8 hb8 hs8 hp1 hp2
  have HX : X6 ++ [UInt8.ofNat fl, 69, 69] = encNf o k a n p q s l fl b bl := by
    unfold encNf
    rw [← HX6.out, ← HX5.out, ← HX4.out, ← HX3.out, ← HX2.out]
  rw [HX] at HS8
  go_wp2_with fail
  go_ret
  exact ⟨a8, c8', rfl, by have := HS8.out; rw [← HFL.out] at this; exact this, ⟨HP.out.1, by have := HP.out.2; simpa [maxLen] using this⟩, HB8.out⟩
end Go.Proofs.Ytalbkpahphndiaa
