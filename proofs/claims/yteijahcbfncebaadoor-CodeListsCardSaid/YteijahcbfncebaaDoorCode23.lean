/- Steps, out of octets. -/
import Derived.Test.YteijahcbfncebaaDoorCode22
import Derived.Deep.DeepCutAuto
import Derived.Deep.LoopGhost
import Derived.RegionTactic
import Derived.BigRegion
import Derived.ChangeAlike
namespace Go.Proofs.YteijahcbfncebaaDoor
set_option linter.unusedVariables false
set_option linter.unusedSimpArgs false
open Go.ChangeShapes Go.WideShapes Go.ChangeAt Go.RowKit
theorem stp_whole : (Tryd.prog.info? 27).map (fun i => (i.zero.isSome, i.size)) = some (true, 13) := by kernel_rfl
theorem stp_info : (Tryd.prog.info? 27).map (fun i => (i.zero, i.size, i.bytes)) = some (some (.agg #[.int .i64 0, .int .i64 0, .int .i64 0, .int .i64 0, .int .i64 0, .int .i64 0, .int .i64 0, .int .i64 0, .int .i64 0, .int .i64 0, .int .i64 0, .int .i64 0, .int .i64 0]), 13, 104) := by kernel_rfl
def segS (bs : List UInt8) (i : Nat) : List UInt8 := (bs.drop (21 * i)).take 21
theorem segS_len {bs : List UInt8} {k i : Nat} (hl : bs.length = 21 * k) (hi : i < k) : (segS bs i).length = 21 := by
  unfold segS; rw [List.length_take, List.length_drop]; omega
def decXs (bs : List UInt8) : Nat → List Int
  | 0 => []
  | k + 1 => decXs bs k ++ decS (segS bs k)
theorem decS_len (x : List UInt8) : (decS x).length = 13 := by simp [decS]
theorem decS_fits {x : List UInt8} (h : x.length = 21) : ∀ z ∈ decS x, fits z = true := by
  obtain ⟨k, r, i, n, ck, a, b, cn, p, q, hd, _, hf⟩ := decS_parts h
  rw [hd]; exact hf
theorem readx_yes (a : Option Addr) (c : Nat) (x : List UInt8) (w : World) (h : Sl w a 21 1 (bcells x)) (hT : TabF w) (hc : chkX (decS x) = 0) :
    Calls Tryd.prog 11 #[.slice a 21 c] w fun e w' => e = .returned (.tuple #[.agg (ints (decS x)).toArray, .int .i64 0]) ∧ Below w.heap.size w w' := by
  have K := fun w' (hb : Below w.heap.size w w') => chkx_any (decS x) w' (decS_len x) (decS_fits (sl_one h)) (hT.keep hb (glob_lt hT))
  rw [hc] at K
  exact read31_yes a c x w h (Lib.hid K)
theorem readx_no (a : Option Addr) (c : Nat) (x : List UInt8) (w : World) (h : Sl w a 21 1 (bcells x)) (hT : TabF w) (hc : chkX (decS x) ≠ 0) :
    Calls Tryd.prog 11 #[.slice a 21 c] w fun e w' => e = .returned (.tuple #[.agg #[.int .i64 0, .int .i64 0, .int .i64 0, .int .i64 0, .int .i64 0, .int .i64 0, .int .i64 0, .int .i64 0, .int .i64 0, .int .i64 0, .int .i64 0, .int .i64 0, .int .i64 0], .int .i64 (chkX (decS x))]) ∧ Below w.heap.size w w' :=
  read31_no a c x w h hc (Lib.hid fun w' hb => chkx_any (decS x) w' (decS_len x) (decS_fits (sl_one h)) (hT.keep hb (glob_lt hT)))
theorem steps_len (a : Option Addr) (n c : Nat) (w : World) (hn : n % 21 ≠ 0) (hc : n ≤ 9223372036854775807) :
    Calls Tryd.prog 16 #[.slice a n c] w fun e w' => e = .returned (.tuple #[.slice none 0 0, .int .i64 16]) ∧ w' = w := by
  have e1 : ¬ (n : Int).tmod 21 = 0 := by rw [Int.tmod_eq_emod_of_nonneg (by omega)]; omega
  go_enter Tryd.func16, Tryd.ntmps16
  go_wp2_with fail
  go_ret2
  exact ⟨rfl, rfl⟩
theorem steps_big (a : Option Addr) (n c : Nat) (w : World) (hn : n % 21 = 0) (hb : 5376 < n) (hc : n ≤ 9223372036854775807) :
    Calls Tryd.prog 16 #[.slice a n c] w fun e w' => e = .returned (.tuple #[.slice none 0 0, .int .i64 3]) ∧ w' = w := by
  have e1 : (n : Int).tmod 21 = 0 := by rw [Int.tmod_eq_emod_of_nonneg (by omega)]; omega
  have e2 : (256 : Int) < (n : Int).tdiv 21 := by rw [Int.tdiv_eq_ediv_of_nonneg (by omega)]; omega
  go_enter Tryd.func16, Tryd.ntmps16
  go_wp2_with fail
  go_ret2
  exact ⟨rfl, rfl⟩
set_option maxRecDepth 100000 in
set_option maxHeartbeats 8000000 in
theorem steps_yes (a : Option Addr) (n c k : Nat) (bs : List UInt8) (w : World) (hs : Sl w a n 1 (bcells bs)) (hT : TabF w) (hnc : n ≤ c) (hc : c ≤ 9223372036854775807) (hk : k ≤ 256) (hn : n = 21 * k) (hok : ∀ i, i < k → chkX (decS (segS bs i)) = 0) :
    Calls Tryd.prog 16 #[.slice a n c] w fun e w' => ∃ v, e = .returned (.tuple #[v, .int .i64 0]) ∧ w'.ownsRow w.heap.size 27 13 v k (ints (decXs bs k)) ∧ Below w.heap.size w w' := by
  obtain ⟨i0, hi, hzz0, hzz1, hzz2⟩ := info_parts stp_info
  have HS := Lib.hid hs
  have HT := Lib.hid (fun w' (hb : Below w.heap.size w w') => hT.keep hb (glob_lt hT))
  have HOK := Lib.hid hok
  clear hs hok hT
  skip
  have HN := Lib.hid hn
  have e1 : (n : Int).tmod 21 = 0 := by rw [Int.tmod_eq_emod_of_nonneg (by omega)]; omega
  have e2 : ¬ (256 : Int) < (n : Int).tdiv 21 := by rw [Int.tdiv_eq_ediv_of_nonneg (by omega)]; omega
  clear hn
  go_enter Tryd.func16, Tryd.ntmps16
  go_upto_region 5 with fail
  clear e1 e2
  go_wp2_with fail
  go_loopg [4, 5] k (fun qq s4 s5 wr => ∃ i : Nat, qq + i = k ∧ s5 = .int .i64 ((21 * i : Nat) : Int) ∧ Hid (wr.ownsRow w.heap.size 27 13 s4 i (ints (decXs bs i))) ∧ Hid (Below w.heap.size w wr))
  case atStart => exact ⟨0, by omega, rfl, Lib.hid (World.ownsRow_nil _ _ _ _), Lib.hid (Below.refl _ _)⟩
  case round =>
    obtain ⟨i, hqi, rfl, HO, HB⟩ := hrel
    by_cases hin0 : i < k
    · have hik : i < k := by omega
      obtain ⟨z, hz⟩ : ∃ z, z = 21 * i := ⟨_, rfl⟩
      have hzn : z + 21 ≤ n := by have := HN.out; omega
      obtain ⟨_, bb, o, rfl, hblt, _⟩ := HS.out.byte (by omega)
      have hz0 : (0 : Int) ≤ z := by omega
      have hz1 : (z : Int) < n := by omega
      have hz2 : (z : Int) + 21 ≤ c := by omega
      have hseg : Sl wr (some ⟨bb, o + z, none⟩) 21 1 (bcells (segS bs i)) := by
        unfold segS
        rw [← hz]
        exact (sub_atS HS.out (i := z) (k := 21) hzn hnc (by omega)).keep HB.out
      rw [← hz]
      have HZ := Lib.hid hz
      have HQ := Lib.hid (And.intro hqi (And.intro hk (And.intro hik hzn)))
      clear hz hqi hk hik hzn
      have G := Lib.hid (readx_yes (some ⟨bb, o + z, none⟩) 21 (segS bs i) wr hseg (HT.out wr HB.out) (HOK.out i hin0))
      have LX : Hid ((ints (decS (segS bs i))).length = 13) := Lib.hid (by rw [ints_len, decS_len])
      have HD := Lib.hid (show decXs bs (i + 1) = decXs bs i ++ decS (segS bs i) from rfl)
      clear hseg
      generalize decS (segS bs i) = x at *
      have TX : RowT 27 (ints x).length := by rw [LX.out]; exact rowS
      have OX : Hid (∀ u ∈ ints x, u.oneCell' = true) := Lib.hid fun u hu => ints_one hu
      go_wp2_with fail
      refine G.out.mono ?_
      rintro e w3 ⟨rfl, hb3⟩
      have HB3 := Lib.hid (HB.out.trans (hb3.mono HB.out.size))
      have HO3 := Lib.hid (own_stay HO.out hb3)
      clear hb3 HO HB G
      have A := Lib.hid (Blk.new w3 (ints x).toArray 27)
      have HB4 := Lib.hid (HB3.out.alloc HB3.out.size (.cells (ints x).toArray 27))
      have HO4 := Lib.hid (own_stay HO3.out ((Below.refl _ _).alloc (Nat.le_refl _) (.cells (ints x).toArray 27)))
      rw [List.toList_toArray] at A
      clear HB3 HO3
      go_upto_region 10 with (first
        | ((with_reducible refine st_row_new (cs := ints x) TX OX.out ?_ ?_ ?_ ?_); (· first | rfl | simp); (· rfl); (· exact LX.out.symm); (simp only [Act.put, List.setIfInBounds_toArray, List.set_cons_zero, List.set_cons_succ])))
      have rx : (w3.alloc (.cells (ints x).toArray 27)).rangeAt w3.heap.size 0 (ints x) := A.out.range 0 _ (by simp)
      generalize hgx : w3.heap.size = gx at *
      generalize w3.alloc (.cells (ints x).toArray 27) = w4 at *
      clear hgx A
      have HB5 := Lib.hid (HB4.out.alloc HB4.out.size (.cells (ints x).toArray 27))
      have HO5 := Lib.hid (own_stay HO4.out ((Below.refl _ _).alloc (Nat.le_refl _) (.cells (ints x).toArray 27)))
      have HL5 : Hid (Sl (w4.alloc (.cells (ints x).toArray 27)) (some ⟨w4.heap.size, 0, none⟩) 1 13 (ints x)) := Lib.hid ⟨by rw [LX.out], Or.inr ⟨_, _, rfl, by simp, fun q hq => by
        rw [Nat.zero_add, cell_of_row _ _ q _ _ _ (heap_alloc_new _ _), List.getD_eq_getElem?_getD, List.getElem?_eq_getElem (by rw [LX.out]; omega)]
        simp [List.getElem?_eq_getElem (show q < (ints x).length by rw [LX.out]; omega)]⟩⟩
      clear HB4 HO4
      go_upto_region 8 with (first
        | ((with_reducible refine ld_row rx TX ?_ ?_ ?_); (· rfl); (· rfl); (simp only [Act.put, List.setIfInBounds_toArray, List.set_cons_zero, List.set_cons_succ]))
        | ((with_reducible refine bs_oneG Tryd.underlying41 stp_whole (by decide) (by decide) ?_ LX ?_); (· rfl); (simp only [Act.put, List.setIfInBounds_toArray, List.set_cons_zero, List.set_cons_succ]))
        | (at_builtin; refine app_any _ _ 41 27 i0 (.agg #[.int .i64 0, .int .i64 0, .int .i64 0, .int .i64 0, .int .i64 0, .int .i64 0, .int .i64 0, .int .i64 0, .int .i64 0, .int .i64 0, .int .i64 0, .int .i64 0, .int .i64 0]) 13 104 Tryd.underlying41 hi hzz0 hzz1 hzz2 rfl (by decide) rfl rfl rfl HO5.out rfl HL5.out (fun h => by cases h) (fun u hu => ints_one hu) ?c1 ?c2 HB5.out.size ?_))
      case c1 => simp only [maxLen]; have := HQ.out; omega
      case c2 => have := HQ.out; omega
      intro v6 w6 ho6 hb6
      rw [← ints_appG, ← HD.out] at ho6
      have HO6 := Lib.hid ho6
      have HB6 := Lib.hid (HB5.out.trans hb6)
      clear ho6 hb6 HO5 HB5
      go_wp2_with fail
      go_roundg (gk - 1)
      case measure => have := HQ.out; omega
      case rel =>
        refine ⟨i + 1, by have := HQ.out; omega, ?_, HO6, HB6⟩
        have h1 := HZ.out
        have h2 := HQ.out.2.2.2
        first
          | (rw [show (z : Int) + 21 = ((21 * (i + 1) : Nat) : Int) by omega]; done)
          | (congr 1; omega)
          | (trace_state; sorry)
    · have hik : i = k := by omega
      have hz : ((21 * i : Nat) : Int) = n := by have := HN.out; omega
      have hz' : (n : Int) ≤ ((21 * i : Nat) : Int) := by omega
      rw [hik] at HO
      generalize ((21 * i : Nat) : Int) = z at *
      clear hz
      go_wp2_with fail
      go_ret2
      exact ⟨_, rfl, HO.out, HB.out⟩
set_option maxRecDepth 100000 in
set_option maxHeartbeats 8000000 in
theorem steps_no (a : Option Addr) (n c k : Nat) (bs : List UInt8) (w : World) (hs : Sl w a n 1 (bcells bs)) (hT : TabF w) (hnc : n ≤ c) (hc : c ≤ 9223372036854775807) (hk : k ≤ 256) (hn : n = 21 * k) (j : Nat) (hj : j < k) (hok : ∀ i, i < j → chkX (decS (segS bs i)) = 0) (hno : chkX (decS (segS bs j)) ≠ 0) :
    Calls Tryd.prog 16 #[.slice a n c] w fun e w' => e = .returned (.tuple #[.slice none 0 0, .int .i64 (chkX (decS (segS bs j)))]) ∧ Below w.heap.size w w' := by
  obtain ⟨i0, hi, hzz0, hzz1, hzz2⟩ := info_parts stp_info
  have HS := Lib.hid hs
  have HT := Lib.hid (fun w' (hb : Below w.heap.size w w') => hT.keep hb (glob_lt hT))
  have HOK := Lib.hid hok
  clear hs hok hT
  have HNO := Lib.hid hno; clear hno
  have HN := Lib.hid hn
  have e1 : (n : Int).tmod 21 = 0 := by rw [Int.tmod_eq_emod_of_nonneg (by omega)]; omega
  have e2 : ¬ (256 : Int) < (n : Int).tdiv 21 := by rw [Int.tdiv_eq_ediv_of_nonneg (by omega)]; omega
  clear hn
  go_enter Tryd.func16, Tryd.ntmps16
  go_upto_region 5 with fail
  clear e1 e2
  go_wp2_with fail
  go_loopg [4, 5] j (fun qq s4 s5 wr => ∃ i : Nat, qq + i = j ∧ s5 = .int .i64 ((21 * i : Nat) : Int) ∧ Hid (wr.ownsRow w.heap.size 27 13 s4 i (ints (decXs bs i))) ∧ Hid (Below w.heap.size w wr))
  case atStart => exact ⟨0, by omega, rfl, Lib.hid (World.ownsRow_nil _ _ _ _), Lib.hid (Below.refl _ _)⟩
  case round =>
    obtain ⟨i, hqi, rfl, HO, HB⟩ := hrel
    by_cases hin0 : i < j
    · have hik : i < k := by omega
      obtain ⟨z, hz⟩ : ∃ z, z = 21 * i := ⟨_, rfl⟩
      have hzn : z + 21 ≤ n := by have := HN.out; omega
      obtain ⟨_, bb, o, rfl, hblt, _⟩ := HS.out.byte (by omega)
      have hz0 : (0 : Int) ≤ z := by omega
      have hz1 : (z : Int) < n := by omega
      have hz2 : (z : Int) + 21 ≤ c := by omega
      have hseg : Sl wr (some ⟨bb, o + z, none⟩) 21 1 (bcells (segS bs i)) := by
        unfold segS
        rw [← hz]
        exact (sub_atS HS.out (i := z) (k := 21) hzn hnc (by omega)).keep HB.out
      rw [← hz]
      have HZ := Lib.hid hz
      have HQ := Lib.hid (And.intro hqi (And.intro hk (And.intro hik hzn)))
      clear hz hqi hk hik hzn
      have G := Lib.hid (readx_yes (some ⟨bb, o + z, none⟩) 21 (segS bs i) wr hseg (HT.out wr HB.out) (HOK.out i hin0))
      have LX : Hid ((ints (decS (segS bs i))).length = 13) := Lib.hid (by rw [ints_len, decS_len])
      have HD := Lib.hid (show decXs bs (i + 1) = decXs bs i ++ decS (segS bs i) from rfl)
      clear hseg
      generalize decS (segS bs i) = x at *
      have TX : RowT 27 (ints x).length := by rw [LX.out]; exact rowS
      have OX : Hid (∀ u ∈ ints x, u.oneCell' = true) := Lib.hid fun u hu => ints_one hu
      go_wp2_with fail
      refine G.out.mono ?_
      rintro e w3 ⟨rfl, hb3⟩
      have HB3 := Lib.hid (HB.out.trans (hb3.mono HB.out.size))
      have HO3 := Lib.hid (own_stay HO.out hb3)
      clear hb3 HO HB G
      have A := Lib.hid (Blk.new w3 (ints x).toArray 27)
      have HB4 := Lib.hid (HB3.out.alloc HB3.out.size (.cells (ints x).toArray 27))
      have HO4 := Lib.hid (own_stay HO3.out ((Below.refl _ _).alloc (Nat.le_refl _) (.cells (ints x).toArray 27)))
      rw [List.toList_toArray] at A
      clear HB3 HO3
      go_upto_region 10 with (first
        | ((with_reducible refine st_row_new (cs := ints x) TX OX.out ?_ ?_ ?_ ?_); (· first | rfl | simp); (· rfl); (· exact LX.out.symm); (simp only [Act.put, List.setIfInBounds_toArray, List.set_cons_zero, List.set_cons_succ])))
      have rx : (w3.alloc (.cells (ints x).toArray 27)).rangeAt w3.heap.size 0 (ints x) := A.out.range 0 _ (by simp)
      generalize hgx : w3.heap.size = gx at *
      generalize w3.alloc (.cells (ints x).toArray 27) = w4 at *
      clear hgx A
      have HB5 := Lib.hid (HB4.out.alloc HB4.out.size (.cells (ints x).toArray 27))
      have HO5 := Lib.hid (own_stay HO4.out ((Below.refl _ _).alloc (Nat.le_refl _) (.cells (ints x).toArray 27)))
      have HL5 : Hid (Sl (w4.alloc (.cells (ints x).toArray 27)) (some ⟨w4.heap.size, 0, none⟩) 1 13 (ints x)) := Lib.hid ⟨by rw [LX.out], Or.inr ⟨_, _, rfl, by simp, fun q hq => by
        rw [Nat.zero_add, cell_of_row _ _ q _ _ _ (heap_alloc_new _ _), List.getD_eq_getElem?_getD, List.getElem?_eq_getElem (by rw [LX.out]; omega)]
        simp [List.getElem?_eq_getElem (show q < (ints x).length by rw [LX.out]; omega)]⟩⟩
      clear HB4 HO4
      go_upto_region 8 with (first
        | ((with_reducible refine ld_row rx TX ?_ ?_ ?_); (· rfl); (· rfl); (simp only [Act.put, List.setIfInBounds_toArray, List.set_cons_zero, List.set_cons_succ]))
        | ((with_reducible refine bs_oneG Tryd.underlying41 stp_whole (by decide) (by decide) ?_ LX ?_); (· rfl); (simp only [Act.put, List.setIfInBounds_toArray, List.set_cons_zero, List.set_cons_succ]))
        | (at_builtin; refine app_any _ _ 41 27 i0 (.agg #[.int .i64 0, .int .i64 0, .int .i64 0, .int .i64 0, .int .i64 0, .int .i64 0, .int .i64 0, .int .i64 0, .int .i64 0, .int .i64 0, .int .i64 0, .int .i64 0, .int .i64 0]) 13 104 Tryd.underlying41 hi hzz0 hzz1 hzz2 rfl (by decide) rfl rfl rfl HO5.out rfl HL5.out (fun h => by cases h) (fun u hu => ints_one hu) ?c1 ?c2 HB5.out.size ?_))
      case c1 => simp only [maxLen]; have := HQ.out; omega
      case c2 => have := HQ.out; omega
      intro v6 w6 ho6 hb6
      rw [← ints_appG, ← HD.out] at ho6
      have HO6 := Lib.hid ho6
      have HB6 := Lib.hid (HB5.out.trans hb6)
      clear ho6 hb6 HO5 HB5
      go_wp2_with fail
      go_roundg (gk - 1)
      case measure => have := HQ.out; omega
      case rel =>
        refine ⟨i + 1, by have := HQ.out; omega, ?_, HO6, HB6⟩
        have h1 := HZ.out
        have h2 := HQ.out.2.2.2
        first
          | (rw [show (z : Int) + 21 = ((21 * (i + 1) : Nat) : Int) by omega]; done)
          | (congr 1; omega)
          | (trace_state; sorry)
    · have hij : i = j := by omega
      subst hij
      have hik : i < k := by omega
      obtain ⟨z, hz⟩ : ∃ z, z = 21 * i := ⟨_, rfl⟩
      have hzn : z + 21 ≤ n := by have := HN.out; omega
      obtain ⟨_, bb, o, rfl, hblt, _⟩ := HS.out.byte (by omega)
      have hz0 : (0 : Int) ≤ z := by omega
      have hz1 : (z : Int) < n := by omega
      have hz2 : (z : Int) + 21 ≤ c := by omega
      have hseg : Sl wr (some ⟨bb, o + z, none⟩) 21 1 (bcells (segS bs i)) := by
        unfold segS
        rw [← hz]
        exact (sub_atS HS.out (i := z) (k := 21) hzn hnc (by omega)).keep HB.out
      rw [← hz]
      have HZ := Lib.hid hz
      have HQ := Lib.hid (And.intro hqi (And.intro hk (And.intro hik hzn)))
      clear hz hqi hk hik hzn
      have G := Lib.hid (readx_no (some ⟨bb, o + z, none⟩) 21 (segS bs i) wr hseg (HT.out wr HB.out) HNO.out)
      have hcb : (chkX (decS (segS bs i)) != 0) = true := by simpa using HNO.out
      clear hseg HNO
      obtain ⟨code, hcode⟩ : ∃ code, code = chkX (decS (segS bs i)) := ⟨_, rfl⟩
      have EC := Lib.hid hcode
      rw [← hcode] at G hcb
      clear hcode
      go_wp2_with fail
      refine G.out.mono ?_
      rintro e w3 ⟨rfl, hb3⟩
      go_wp2_with fail
      go_ret2
      exact ⟨by rw [← EC.out]; rfl, HB.out.trans ((hb3.mono HB.out.size).alloc (Nat.le_trans HB.out.size hb3.size) _)⟩
end Go.Proofs.YteijahcbfncebaaDoor
