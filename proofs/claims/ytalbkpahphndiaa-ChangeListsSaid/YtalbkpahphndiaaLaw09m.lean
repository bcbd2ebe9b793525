/- Lists of changes, out of octets. -/
import Derived.Test.YtalbkpahphndiaaChg8
import Derived.Test.YtalbkpahphndiaaChg6
import Derived.Test.YtalbkpahphndiaaVec2
import Derived.Test.YtalbkpahphndiaaLaw09l
import Derived.Test.YtalbkpahphndiaaVec3
import Derived.Deep.DeepCutAuto
import Derived.Test.YtalbkpahphndiaaLaw02c
import Derived.Deep.LoopGhost
import Derived.Test.YtalbkpahphndiaaChg4
import Derived.Test.YtalbkpahphndiaaMath9
import Derived.Test.YtalbkpahphndiaaChgEq
import Derived.Test.YtalbkpahphndiaaLaw02
import Derived.Test.YtalbkpahphndiaaHeld
import Derived.Test.YtalbkpahphndiaaRd
import Derived.Test.YtalbkpahphndiaaOct
import Derived.Test.YtalbkpahphndiaaApp
import Derived.Test.YtalbkpahphndiaaRow
import Derived.Test.YtalbkpahphndiaaOps
import Derived.RegionTactic
import Derived.BigRegion
import Derived.ChangeAlike
namespace Go.Proofs.Ytalbkpahphndiaa
set_option linter.unusedVariables false
set_option linter.unusedSimpArgs false
open Go.ChangeShapes Go.WideShapes Go.ChangeAt Go.RowKit
def seg9 (bs : List UInt8) (i : Nat) : List UInt8 := (bs.drop (1 + 22 * i)).take 22
def fldL (x : List UInt8) : List Int := [fld x 0 1, fld x 1 2, fld x 3 4, fld x 7 1, fld x 8 1, fld x 9 1, fld x 10 8, fld x 18 1, fld x 19 2]
def okSeg (x : List UInt8) : Bool := decide ((x.getD 21 0).toNat = 67) && mayChg (fld x 0 1) (fld x 1 2) (fld x 3 4) (fld x 7 1) (fld x 8 1) (fld x 9 1) (fld x 18 1) (fld x 19 2)
def decTo (bs : List UInt8) : Nat → List Int
  | 0 => []
  | k + 1 => decTo bs k ++ fldL (seg9 bs k)
theorem getx_ok (a : Option Addr) (c : Nat) (x : List UInt8) (w : World) (h : Sl w a 22 1 (bcells x)) (hm : okSeg x = true) :
    Calls Try.prog 13 #[.slice a 22 c] w fun e w' => e = .returned (.tuple #[.agg (ints (fldL x)).toArray, .int .i64 0]) ∧ Below w.heap.size w w' := by
  unfold okSeg at hm
  rw [Bool.and_eq_true, decide_eq_true_eq] at hm
  exact get_ok a c x w h hm.1 hm.2
theorem getx_no (a : Option Addr) (c : Nat) (x : List UInt8) (w : World) (h : Sl w a 22 1 (bcells x)) (hm : okSeg x = false) :
    Calls Try.prog 13 #[.slice a 22 c] w fun e w' => e = .returned (.tuple #[.agg #[.int .i64 0, .int .i64 0, .int .i64 0, .int .i64 0, .int .i64 0, .int .i64 0, .int .i64 0, .int .i64 0, .int .i64 0], .int .i64 16]) ∧ Below w.heap.size w w' := by
  by_cases h67 : (x.getD 21 0).toNat = 67
  · unfold okSeg at hm
    rw [decide_eq_true h67, Bool.true_and] at hm
    exact get_no a c x w h h67 hm
  · exact get_end a c x w h h67
set_option maxRecDepth 100000 in
set_option maxHeartbeats 8000000 in
theorem list_yes (a : Option Addr) (n c k : Nat) (bs : List UInt8) (w : World) (hs : Sl w a n 1 (bcells bs)) (hnc : n ≤ c) (hc : c ≤ 9223372036854775807) (hk : k ≤ 48) (hk1 : 1 ≤ k) (hb0 : (bs.getD 0 0).toNat = k) (hn : n = 1 + 22 * k) (hok : ∀ i, i < k → okSeg (seg9 bs i) = true) :
    Calls Try.prog 18 #[.slice a n c] w fun e w' => ∃ v, e = .returned (.tuple #[v, .int .i64 0]) ∧ w'.ownsRow w.heap.size 25 9 v k (ints (decTo bs k)) ∧ Below w.heap.size w w' := by
  obtain ⟨i0, hi, hz0, hz1, hz2⟩ := info_parts chg_info
  obtain ⟨_, b, off, rfl, hbl, hcell⟩ := hs.byte (by omega)
  have b0 : w.cell? ⟨b, off, none⟩ = some (.int .u8 (k : Int)) := by have := hcell 0 (by omega); rwa [hb0] at this
  have hbs : Hid (bs.length = n) := Lib.hid (sl_one hs)
  have HS := Lib.hid hs
  have HOK := Lib.hid hok
  have HCELL := Lib.hid hcell
  have hne : ¬ (n : Int) = 0 := by omega
  have hk48 : ¬ (48 : Int) < k := by omega
  have hnk : (n : Int) = 1 + 22 * k := by omega
  have HN := Lib.hid hn
  clear hs hok hcell hb0 hn
  skip
  go_enter Try.func18, Try.ntmps18
  go_upto_region 4 with fail
  clear hnk hne b0
  have hn1 : (1 : Int) ≤ n := by have := HN.out; omega
  have hnc' : (n : Int) ≤ c := by omega
  have hc1 : ¬ c = 1 := by have := HN.out; omega
  have HSR0 : Hid (Sl w (some ⟨b, off + 1, none⟩) (n - 1) 1 (bcells (bs.drop 1))) := Lib.hid (by
    have h1 := HS.out.sub (i := 1) (k := n - 1) (c := c) (by omega) hnc
    unfold restOf at h1
    rw [if_neg hc1, List.take_of_length_le (by rw [List.length_drop, hbs.out]; omega)] at h1
    simpa [add_plain] using h1)
  go_wp2_with fail
  go_loopg [4, 5] k (fun qq s4 s5 wr => ∃ i : Nat, qq + i = k ∧ (∃ ra m rc, s5 = .slice ra m rc ∧ m + 22 * i = 22 * k ∧ m ≤ rc ∧ rc ≤ 9223372036854775807 ∧ Hid (Sl w ra m 1 (bcells (bs.drop (1 + 22 * i))))) ∧ Hid (wr.ownsRow w.heap.size 25 9 s4 i (ints (decTo bs i))) ∧ Hid (Below w.heap.size w wr))
  case atStart => exact ⟨0, by omega, ⟨_, n - 1, c - 1, rfl, by have := HN.out; omega, by omega, by omega, HSR0⟩, Lib.hid (World.ownsRow_nil _ _ _ _), Lib.hid (Below.refl _ _)⟩
  case round =>
    clear HSR0
    obtain ⟨i, hqi, ⟨ra, m, rc, rfl, hm, hmr, hrc, HSR⟩, HO, HB⟩ := hrel
    by_cases hin0 : i < k
    · have hm22 : 22 ≤ m := by omega
      obtain ⟨_, bb, o, rfl, hblt, _⟩ := HSR.out.byte (by omega)
      have hm0 : (0 : Int) < m := by omega
      have hmn : ¬ (m : Int) = 0 := by omega
      have hr22 : (22 : Int) ≤ rc := by omega
      have hseg := (HSR.out.keep HB.out).front (k := 22) hm22
      have G := Lib.hid (getx_ok (some ⟨bb, o, none⟩) rc (seg9 bs i) wr hseg (HOK.out i hin0))
      have hX9 : Hid ((fldL (seg9 bs i)).length = 9) := Lib.hid rfl
      have HD := Lib.hid (show decTo bs (i + 1) = decTo bs i ++ fldL (seg9 bs i) from rfl)
      clear hseg
      generalize fldL (seg9 bs i) = X at *
      go_wp2_with fail
      refine G.out.mono ?_
      rintro e w3 ⟨rfl, hb3⟩
      have HB3 := Lib.hid (HB.out.trans (hb3.mono HB.out.size))
      have HO3 := Lib.hid (own_stay HO.out hb3)
      clear hb3 HO HB G
      have A := Lib.hid (Blk.new w3 (ints X).toArray 25)
      have HB4 := Lib.hid (HB3.out.alloc HB3.out.size (.cells (ints X).toArray 25))
      have HO4 := Lib.hid (own_stay HO3.out ((Below.refl _ _).alloc (Nat.le_refl _) (.cells (ints X).toArray 25)))
      rw [List.toList_toArray] at A
      clear HB3 HO3
      go_upto_region 10 with (first
        | ((with_reducible apply chg_store_new); (· rfl); (· first | rfl | simp); (· rfl); (· rfl); (· assumption); (simp only [Act.put, List.setIfInBounds_toArray, List.set_cons_zero, List.set_cons_succ])))
      have rx : (w3.alloc (.cells (ints X).toArray 25)).rangeAt w3.heap.size 0 (ints X) := Blk.cg A.out hX9
      generalize hgx : w3.heap.size = gx at *
      generalize w3.alloc (.cells (ints X).toArray 25) = w4 at *
      clear hgx A
      have hXc : Hid ((ints X).length = 9) := Lib.hid (by rw [ints_len]; exact hX9.out)
      have HB5 := Lib.hid (HB4.out.alloc HB4.out.size (.cells (ints X).toArray 25))
      have HO5 := Lib.hid (own_stay HO4.out ((Below.refl _ _).alloc (Nat.le_refl _) (.cells (ints X).toArray 25)))
      have HL5 : Hid (Sl (w4.alloc (.cells (ints X).toArray 25)) (some ⟨w4.heap.size, 0, none⟩) 1 9 (ints X)) := Lib.hid ⟨by rw [ints_len, hX9.out], Or.inr ⟨_, _, rfl, by simp, fun q hq => by
        rw [Nat.zero_add, cell_of_row _ _ q _ _ _ (heap_alloc_new _ _), List.getD_eq_getElem?_getD, List.getElem?_eq_getElem (by rw [hXc.out]; omega)]
        simp [List.getElem?_eq_getElem (show q < (ints X).length by rw [hXc.out]; omega)]⟩⟩
      clear HB4 HO4
      go_upto_region 6 with (first
        | ((with_reducible apply chg_load); (· rfl); (· (first | assumption)); (· assumption); (simp only [Act.put, List.setIfInBounds_toArray, List.set_cons_zero, List.set_cons_succ]))
        | ((with_reducible apply bs_one Try.underlying39 chg_whole (by decide) (by decide)); (· rfl); (· first | assumption); (simp only [Act.put, List.setIfInBounds_toArray, List.set_cons_zero, List.set_cons_succ]))
        | (at_builtin; refine app_any _ _ 39 25 i0 (.agg #[.int .i64 0, .int .i64 0, .int .i64 0, .int .i64 0, .int .i64 0, .int .i64 0, .int .i64 0, .int .i64 0, .int .i64 0]) 9 72 Try.underlying39 hi hz0 hz1 hz2 rfl (by decide) rfl rfl rfl HO5.out rfl HL5.out (fun h => by cases h) (fun u hu => ints_one hu) ?c1 ?c2 HB5.out.size ?_))
      case c1 => simp only [maxLen]; omega
      case c2 => omega
      intro v6 w6 ho6 hb6
      rw [← ints_app, ← HD.out] at ho6
      have HO6 := Lib.hid ho6
      have HB6 := Lib.hid (HB5.out.trans hb6)
      clear ho6 hb6 HO5 HB5
      go_upto_region 6 with fail
      by_cases hr : rc = 22
      · go_wp2_with fail
        go_roundg (gk - 1)
        case measure => omega
        case rel => exact ⟨i + 1, by omega, ⟨_, _, _, rfl, by omega, by omega, by omega, Lib.hid ⟨by rw [bcells_len, List.length_drop, hbs.out]; have := HN.out; omega, Or.inl (by omega)⟩⟩, HO6, HB6⟩
      · go_wp2_with fail
        go_roundg (gk - 1)
        case measure => omega
        case rel =>
          refine ⟨i + 1, by omega, ⟨_, _, _, rfl, by omega, by omega, by omega, Lib.hid ?_⟩, HO6, HB6⟩
          have h1 := HSR.out.sub (i := 22) (k := m - 22) (c := rc) (by omega) hmr
          unfold restOf at h1
          have hlen : (bs.drop (1 + 22 * i)).length = m := sl_one HSR.out
          rw [if_neg hr, List.take_of_length_le (by rw [List.length_drop, hlen]; omega), List.drop_drop, show 1 + 22 * i + 22 = 1 + 22 * (i + 1) by omega] at h1
          simpa [add_plain] using h1
    · have hik : i = k := by omega
      have hm0 : m = 0 := by omega
      subst hm0
      rw [hik] at HO
      go_wp2_with fail
      go_ret2
      exact ⟨_, rfl, HO.out, HB.out⟩
set_option maxRecDepth 100000 in
set_option maxHeartbeats 8000000 in
theorem list_no (a : Option Addr) (n c k : Nat) (bs : List UInt8) (w : World) (hs : Sl w a n 1 (bcells bs)) (hnc : n ≤ c) (hc : c ≤ 9223372036854775807) (hk : k ≤ 48) (hk1 : 1 ≤ k) (hb0 : (bs.getD 0 0).toNat = k) (hn : n = 1 + 22 * k) (j : Nat) (hj : j < k) (hok : ∀ i, i < j → okSeg (seg9 bs i) = true) (hno : okSeg (seg9 bs j) = false) :
    Calls Try.prog 18 #[.slice a n c] w fun e w' => e = .returned (.tuple #[.slice none 0 0, .int .i64 16]) ∧ Below w.heap.size w w' := by
  obtain ⟨i0, hi, hz0, hz1, hz2⟩ := info_parts chg_info
  obtain ⟨_, b, off, rfl, hbl, hcell⟩ := hs.byte (by omega)
  have b0 : w.cell? ⟨b, off, none⟩ = some (.int .u8 (k : Int)) := by have := hcell 0 (by omega); rwa [hb0] at this
  have hbs : Hid (bs.length = n) := Lib.hid (sl_one hs)
  have HS := Lib.hid hs
  have HOK := Lib.hid hok
  have HCELL := Lib.hid hcell
  have hne : ¬ (n : Int) = 0 := by omega
  have hk48 : ¬ (48 : Int) < k := by omega
  have hnk : (n : Int) = 1 + 22 * k := by omega
  have HN := Lib.hid hn
  clear hs hok hcell hb0 hn
  have HNO := Lib.hid hno; clear hno
  go_enter Try.func18, Try.ntmps18
  go_upto_region 4 with fail
  clear hnk hne b0
  have hn1 : (1 : Int) ≤ n := by have := HN.out; omega
  have hnc' : (n : Int) ≤ c := by omega
  have hc1 : ¬ c = 1 := by have := HN.out; omega
  have HSR0 : Hid (Sl w (some ⟨b, off + 1, none⟩) (n - 1) 1 (bcells (bs.drop 1))) := Lib.hid (by
    have h1 := HS.out.sub (i := 1) (k := n - 1) (c := c) (by omega) hnc
    unfold restOf at h1
    rw [if_neg hc1, List.take_of_length_le (by rw [List.length_drop, hbs.out]; omega)] at h1
    simpa [add_plain] using h1)
  go_wp2_with fail
  go_loopg [4, 5] j (fun qq s4 s5 wr => ∃ i : Nat, qq + i = j ∧ (∃ ra m rc, s5 = .slice ra m rc ∧ m + 22 * i = 22 * k ∧ m ≤ rc ∧ rc ≤ 9223372036854775807 ∧ Hid (Sl w ra m 1 (bcells (bs.drop (1 + 22 * i))))) ∧ Hid (wr.ownsRow w.heap.size 25 9 s4 i (ints (decTo bs i))) ∧ Hid (Below w.heap.size w wr))
  case atStart => exact ⟨0, by omega, ⟨_, n - 1, c - 1, rfl, by have := HN.out; omega, by omega, by omega, HSR0⟩, Lib.hid (World.ownsRow_nil _ _ _ _), Lib.hid (Below.refl _ _)⟩
  case round =>
    clear HSR0
    obtain ⟨i, hqi, ⟨ra, m, rc, rfl, hm, hmr, hrc, HSR⟩, HO, HB⟩ := hrel
    by_cases hin0 : i < j
    · have hm22 : 22 ≤ m := by omega
      obtain ⟨_, bb, o, rfl, hblt, _⟩ := HSR.out.byte (by omega)
      have hm0 : (0 : Int) < m := by omega
      have hmn : ¬ (m : Int) = 0 := by omega
      have hr22 : (22 : Int) ≤ rc := by omega
      have hseg := (HSR.out.keep HB.out).front (k := 22) hm22
      have G := Lib.hid (getx_ok (some ⟨bb, o, none⟩) rc (seg9 bs i) wr hseg (HOK.out i hin0))
      have hX9 : Hid ((fldL (seg9 bs i)).length = 9) := Lib.hid rfl
      have HD := Lib.hid (show decTo bs (i + 1) = decTo bs i ++ fldL (seg9 bs i) from rfl)
      clear hseg
      generalize fldL (seg9 bs i) = X at *
      go_wp2_with fail
      refine G.out.mono ?_
      rintro e w3 ⟨rfl, hb3⟩
      have HB3 := Lib.hid (HB.out.trans (hb3.mono HB.out.size))
      have HO3 := Lib.hid (own_stay HO.out hb3)
      clear hb3 HO HB G
      have A := Lib.hid (Blk.new w3 (ints X).toArray 25)
      have HB4 := Lib.hid (HB3.out.alloc HB3.out.size (.cells (ints X).toArray 25))
      have HO4 := Lib.hid (own_stay HO3.out ((Below.refl _ _).alloc (Nat.le_refl _) (.cells (ints X).toArray 25)))
      rw [List.toList_toArray] at A
      clear HB3 HO3
      go_upto_region 10 with (first
        | ((with_reducible apply chg_store_new); (· rfl); (· first | rfl | simp); (· rfl); (· rfl); (· assumption); (simp only [Act.put, List.setIfInBounds_toArray, List.set_cons_zero, List.set_cons_succ])))
      have rx : (w3.alloc (.cells (ints X).toArray 25)).rangeAt w3.heap.size 0 (ints X) := Blk.cg A.out hX9
      generalize hgx : w3.heap.size = gx at *
      generalize w3.alloc (.cells (ints X).toArray 25) = w4 at *
      clear hgx A
      have hXc : Hid ((ints X).length = 9) := Lib.hid (by rw [ints_len]; exact hX9.out)
      have HB5 := Lib.hid (HB4.out.alloc HB4.out.size (.cells (ints X).toArray 25))
      have HO5 := Lib.hid (own_stay HO4.out ((Below.refl _ _).alloc (Nat.le_refl _) (.cells (ints X).toArray 25)))
      have HL5 : Hid (Sl (w4.alloc (.cells (ints X).toArray 25)) (some ⟨w4.heap.size, 0, none⟩) 1 9 (ints X)) := Lib.hid ⟨by rw [ints_len, hX9.out], Or.inr ⟨_, _, rfl, by simp, fun q hq => by
        rw [Nat.zero_add, cell_of_row _ _ q _ _ _ (heap_alloc_new _ _), List.getD_eq_getElem?_getD, List.getElem?_eq_getElem (by rw [hXc.out]; omega)]
        simp [List.getElem?_eq_getElem (show q < (ints X).length by rw [hXc.out]; omega)]⟩⟩
      clear HB4 HO4
      go_upto_region 6 with (first
        | ((with_reducible apply chg_load); (· rfl); (· (first | assumption)); (· assumption); (simp only [Act.put, List.setIfInBounds_toArray, List.set_cons_zero, List.set_cons_succ]))
        | ((with_reducible apply bs_one Try.underlying39 chg_whole (by decide) (by decide)); (· rfl); (· first | assumption); (simp only [Act.put, List.setIfInBounds_toArray, List.set_cons_zero, List.set_cons_succ]))
        | (at_builtin; refine app_any _ _ 39 25 i0 (.agg #[.int .i64 0, .int .i64 0, .int .i64 0, .int .i64 0, .int .i64 0, .int .i64 0, .int .i64 0, .int .i64 0, .int .i64 0]) 9 72 Try.underlying39 hi hz0 hz1 hz2 rfl (by decide) rfl rfl rfl HO5.out rfl HL5.out (fun h => by cases h) (fun u hu => ints_one hu) ?c1 ?c2 HB5.out.size ?_))
      case c1 => simp only [maxLen]; omega
      case c2 => omega
      intro v6 w6 ho6 hb6
      rw [← ints_app, ← HD.out] at ho6
      have HO6 := Lib.hid ho6
      have HB6 := Lib.hid (HB5.out.trans hb6)
      clear ho6 hb6 HO5 HB5
      go_upto_region 6 with fail
      by_cases hr : rc = 22
      · go_wp2_with fail
        go_roundg (gk - 1)
        case measure => omega
        case rel => exact ⟨i + 1, by omega, ⟨_, _, _, rfl, by omega, by omega, by omega, Lib.hid ⟨by rw [bcells_len, List.length_drop, hbs.out]; have := HN.out; omega, Or.inl (by omega)⟩⟩, HO6, HB6⟩
      · go_wp2_with fail
        go_roundg (gk - 1)
        case measure => omega
        case rel =>
          refine ⟨i + 1, by omega, ⟨_, _, _, rfl, by omega, by omega, by omega, Lib.hid ?_⟩, HO6, HB6⟩
          have h1 := HSR.out.sub (i := 22) (k := m - 22) (c := rc) (by omega) hmr
          unfold restOf at h1
          have hlen : (bs.drop (1 + 22 * i)).length = m := sl_one HSR.out
          rw [if_neg hr, List.take_of_length_le (by rw [List.length_drop, hlen]; omega), List.drop_drop, show 1 + 22 * i + 22 = 1 + 22 * (i + 1) by omega] at h1
          simpa [add_plain] using h1
    · have hij : i = j := by omega
      subst hij
      have hm22 : 22 ≤ m := by omega
      obtain ⟨_, bb, o, rfl, hblt, _⟩ := HSR.out.byte (by omega)
      have hm0 : (0 : Int) < m := by omega
      have hmn : ¬ (m : Int) = 0 := by omega
      have hr22 : (22 : Int) ≤ rc := by omega
      have hseg := (HSR.out.keep HB.out).front (k := 22) hm22
      have G := Lib.hid (getx_no (some ⟨bb, o, none⟩) rc (seg9 bs i) wr hseg HNO.out)
      clear hseg
      go_wp2_with fail
      refine G.out.mono ?_
      rintro e w3 ⟨rfl, hb3⟩
      go_wp2_with fail
      go_ret2
      exact ⟨rfl, HB.out.trans ((hb3.mono HB.out.size).alloc (Nat.le_trans HB.out.size hb3.size) _)⟩
theorem list_zero (a : Option Addr) (c : Nat) (bs : List UInt8) (w : World) (hs : Sl w a 1 1 (bcells bs)) (hnc : 1 ≤ c) (hb0 : (bs.getD 0 0).toNat = 0) :
    Calls Try.prog 18 #[.slice a 1 c] w fun e w' => e = .returned (.tuple #[.slice none 0 0, .int .i64 0]) ∧ w = w' := by
  obtain ⟨_, b, off, rfl, hbl, hcell⟩ := hs.byte (by omega)
  have b0 : w.cell? ⟨b, off, none⟩ = some (.int .u8 0) := by have := hcell 0 (by omega); rwa [hb0] at this
  have hnc' : (1 : Int) ≤ c := by omega
  clear hs hcell hb0
  go_enter Try.func18, Try.ntmps18
  by_cases hc1 : c = 1
  · go_wp2_with fail
    go_loopg [4, 5] 0 (fun qq s4 s5 wr => qq = 0 ∧ s4 = .slice none 0 0 ∧ (∃ ra rc, s5 = .slice ra 0 rc) ∧ w = wr)
    case atStart => exact ⟨rfl, rfl, ⟨_, _, rfl⟩, rfl⟩
    case round =>
      obtain ⟨_, rfl, ⟨ra, rc, rfl⟩, rfl⟩ := hrel
      go_wp2_with fail
      go_ret2
      exact ⟨rfl, rfl⟩
  · go_wp2_with fail
    go_loopg [4, 5] 0 (fun qq s4 s5 wr => qq = 0 ∧ s4 = .slice none 0 0 ∧ (∃ ra rc, s5 = .slice ra 0 rc) ∧ w = wr)
    case atStart => exact ⟨rfl, rfl, ⟨_, _, rfl⟩, rfl⟩
    case round =>
      obtain ⟨_, rfl, ⟨ra, rc, rfl⟩, rfl⟩ := hrel
      go_wp2_with fail
      go_ret2
      exact ⟨rfl, rfl⟩
theorem list_empty (a : Option Addr) (c : Nat) (w : World) :
    Calls Try.prog 18 #[.slice a 0 c] w fun e w' => e = .returned (.tuple #[.slice none 0 0, .int .i64 16]) ∧ w = w' := by
  go_enter Try.func18, Try.ntmps18
  go_wp2_with fail
  go_ret2
  exact ⟨rfl, rfl⟩
theorem list_big (a : Option Addr) (n c : Nat) (bs : List UInt8) (w : World) (hs : Sl w a n 1 (bcells bs)) (hn : 1 ≤ n) (hb0 : 48 < (bs.getD 0 0).toNat) :
    Calls Try.prog 18 #[.slice a n c] w fun e w' => e = .returned (.tuple #[.slice none 0 0, .int .i64 16]) ∧ w = w' := by
  obtain ⟨_, b, off, rfl, hbl, hcell⟩ := hs.byte (by omega)
  have b0 : w.cell? ⟨b, off, none⟩ = some (.int .u8 ((bs.getD 0 0).toNat : Int)) := hcell 0 (by omega)
  have hx8 : (bs.getD 0 0).toNat < 256 := UInt8.toNat_lt _
  generalize (bs.getD 0 0).toNat = k at *
  have hk48 : (48 : Int) < k := by omega
  have hne : ¬ (n : Int) = 0 := by omega
  have hpos : (0 : Int) < n := by omega
  clear hs hcell hb0
  go_enter Try.func18, Try.ntmps18
  go_wp2_with fail
  go_ret2
  exact ⟨rfl, rfl⟩
theorem list_len (a : Option Addr) (n c : Nat) (bs : List UInt8) (w : World) (hs : Sl w a n 1 (bcells bs)) (hn : 1 ≤ n) (hb0 : (bs.getD 0 0).toNat ≤ 48) (hl : n ≠ 1 + 22 * (bs.getD 0 0).toNat) :
    Calls Try.prog 18 #[.slice a n c] w fun e w' => e = .returned (.tuple #[.slice none 0 0, .int .i64 16]) ∧ w = w' := by
  obtain ⟨_, b, off, rfl, hbl, hcell⟩ := hs.byte (by omega)
  have b0 : w.cell? ⟨b, off, none⟩ = some (.int .u8 ((bs.getD 0 0).toNat : Int)) := hcell 0 (by omega)
  generalize (bs.getD 0 0).toNat = k at *
  have hk48 : ¬ (48 : Int) < k := by omega
  have hne : ¬ (n : Int) = 0 := by omega
  have hpos : (0 : Int) < n := by omega
  have hnl : ¬ (n : Int) = 1 + 22 * k := by omega
  have hq : ((n : Int) != 1 + 22 * (k : Int)) = true := by simpa using hnl
  clear hs hcell hl
  go_enter Try.func18, Try.ntmps18
  go_wp2_with fail
  go_ret2
  exact ⟨rfl, rfl⟩
end Go.Proofs.Ytalbkpahphndiaa
