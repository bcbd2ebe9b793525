/- Frames: what puts them. -/
import Derived.Test.YtnlocomjmkgmkaaByt
import Derived.Test.YtnlocomjmkgmkaaLaw03
import Derived.Test.YtnlocomjmkgmkaaRef02
import Derived.Test.YtnlocomjmkgmkaaOps
import Derived.RegionTactic
import Derived.BigRegion
import Derived.ChangeAlike
namespace Go.Proofs.Ytnlocomjmkgmkaa
set_option linter.unusedVariables false
set_option linter.unusedSimpArgs false
open Go.ChangeShapes Go.WideShapes Go.ChangeAt Go.RowKit
set_option maxRecDepth 100000 in
set_option maxHeartbeats 4000000 in
theorem fput_yes (a : Option Addr) (n c : Nat) (bs : List UInt8) (w : World) (h : Sl w a n 1 (bcells bs)) (h1 : 1 ≤ n) (h2 : n ≤ 4096) :
    Calls Try.prog 7 #[.slice a n c] w fun e w' => ∃ a' c', e = .returned (.tuple #[.slice a' (n + 7) c', .int .i64 0]) ∧ w'.ownsRow w.heap.size 5 1 (.slice a' (n + 7) c') (n + 7) (bcells (frameOf bs)) ∧ Below w.heap.size w w' := by
  obtain ⟨i0, hi, hz0, hz1, hz2⟩ := info_parts u8i
  have hbl : bs.length = n := bsl_one h
  have P := Lib.hid (put_ok none 0 0 [] n 2 w ⟨rfl, Or.inl rfl⟩ (by simp) (by decide) (by decide) (by decide) (by omega))
  have CP := Lib.hid (fun w' (hb : Below w.heap.size w w') => cput_any a n c bs w' (h.keep hb) (by omega))
  have HBL := Lib.hid hbl
  have hn0 : ¬ (n : Int) = 0 := by omega
  have hn1 : ¬ (4096 : Int) < n := by omega
  have hmx : n ≤ 4096 := h2
  clear h hbl
  go_enter Try.func7, Try.ntmps7
  go_wp2_with fail
  refine P.out.mono ?_
  rintro e w1 ⟨v1, rfl, ho, hb⟩
  simp only [List.nil_append, Nat.zero_add] at ho
  obtain ⟨a1, c1', rfl, _, _, _⟩ := Sl.own ho
  have HO1 := Lib.hid ho
  have HB1 := Lib.hid hb
  clear ho hb P
  go_wp2_with fail
  refine (CP.out _ HB1.out).mono ?_
  rintro e w2 ⟨v2, rfl, ho, hb⟩
  obtain ⟨a2, c2', rfl, _, _, hs⟩ := Sl.own ho
  have HO2 := Lib.hid (own_stay HO1.out hb)
  have HB2 := Lib.hid (HB1.out.trans (hb.mono HB1.out.size))
  have HS2 := Lib.hid hs
  have hnl : a2 = none → c2' = 0 := sl_none ho
  have hq2 : w.heap.size ≤ w2.heap.size := HB2.out.size
  clear ho hb hs HO1 HB1 CP
  go_upto_region 7 with (first
    | (at_builtin; refine app_any _ _ 22 5 i0 (.int .u8 0) 1 1 Try.underlying22 hi hz0 hz1 hz2 rfl (by decide) rfl rfl rfl HO2.out rfl HS2.out hnl (fun u hu => bcells_one hu) ?c1 ?c2 hq2 ?_))
  case c1 => simp only [maxLen]; omega
  case c2 => omega
  intro v3 w3 ho hb
  rw [← bcells_snoc] at ho
  obtain ⟨a3, c3', rfl, _, _, _⟩ := Sl.own ho
  have HB3 := Lib.hid (HB2.out.trans hb)
  have HL := Lib.hid (blit_sl w3 (bcells [90]) (by decide))
  have HO3 := Lib.hid (own_stay ho ((Below.refl _ _).alloc (Nat.le_refl _) (.cells (bcells [90]).toArray 5)))
  have HB4 := Lib.hid (HB3.out.alloc HB3.out.size (.cells (bcells [90]).toArray 5))
  have hq4 : w.heap.size ≤ (w3.alloc (.cells (bcells [90]).toArray 5)).heap.size := HB4.out.size
  clear ho hb HO2 HB2 HS2 HB3
  go_wp2_with (first
    | (at_builtin; refine app_any _ _ 22 5 i0 (.int .u8 0) 1 1 Try.underlying22 hi hz0 hz1 hz2 rfl (by decide) rfl rfl rfl HO3.out rfl HL.out (fun h => by cases h) (fun u hu => bcells_one hu) ?d1 ?d2 hq4 ?_))
  case d1 => simp only [maxLen]; omega
  case d2 => omega
  intro v5 w5 ho hb
  rw [← bcells_snoc] at ho
  obtain ⟨a5, c5', rfl, _, _, _⟩ := Sl.own ho
  have HO5 := Lib.hid ho
  have HB5 := Lib.hid (HB4.out.trans hb)
  clear ho hb
  have hsz : 2 + (n + 4) + 1 = n + 7 := by omega
  have HF : Hid (beOf n 2 ++ crcPutOf bs ++ [90] = frameOf bs) := Lib.hid (by unfold frameOf; rw [HBL.out])
  go_wp2_with fail
  go_ret2
  exact ⟨a5, c5', by rw [← hsz]; rfl, by have := HO5.out; rw [HF.out] at this; rw [← hsz]; exact this, HB5.out⟩
theorem fput_nil (a : Option Addr) (c : Nat) (w : World) : Calls Try.prog 7 #[.slice a 0 c] w fun e w' => e = .returned (.tuple #[.slice none 0 0, .int .i64 4]) ∧ w = w' := by
  go_enter Try.func7, Try.ntmps7
  go_wp2_with fail
  go_ret2
  exact ⟨rfl, rfl⟩
theorem fput_long (a : Option Addr) (n c : Nat) (w : World) (h : 4096 < n) : Calls Try.prog 7 #[.slice a n c] w fun e w' => e = .returned (.tuple #[.slice none 0 0, .int .i64 5]) ∧ w = w' := by
  have hn0 : ¬ (n : Int) = 0 := by omega
  have hn1 : (4096 : Int) < n := by omega
  clear h
  go_enter Try.func7, Try.ntmps7
  go_wp2_with fail
  go_ret2
  exact ⟨rfl, rfl⟩
def sizeI (n : Int) : Int := if 1 ≤ n ∧ n ≤ 4096 then n + 7 else 0
theorem fsize_any (n : Int) (w : World) : Calls Try.prog 8 #[.int .i64 n] w fun e w' => e = .returned (.int .i64 (sizeI n)) ∧ w = w' := by
  by_cases h1 : n < 1
  · have E := Lib.hid (show sizeI n = 0 by unfold sizeI; rw [if_neg (by omega)])
    go_enter Try.func8, Try.ntmps8
    go_wp2_with fail
    go_ret
    exact ⟨by rw [E.out]; rfl, rfl⟩
  · by_cases h2 : 4096 < n
    · have E := Lib.hid (show sizeI n = 0 by unfold sizeI; rw [if_neg (by omega)])
      go_enter Try.func8, Try.ntmps8
      go_wp2_with fail
      go_ret
      exact ⟨by rw [E.out]; rfl, rfl⟩
    · have E := Lib.hid (show sizeI n = n + 7 by unfold sizeI; rw [if_pos (by omega)])
      go_enter Try.func8, Try.ntmps8
      go_wp2_with fail
      go_ret
      exact ⟨by rw [E.out]; rfl, rfl⟩
set_option maxRecDepth 100000 in
set_option maxHeartbeats 4000000 in
theorem rfput_any (a : Option Addr) (n c : Nat) (bs : List UInt8) (w : World) (h : Sl w a n 1 (bcells bs)) (hnl : a = none → c = 0) (h2 : n ≤ 4096) :
    Calls Try.prog 10 #[.slice a n c] w fun e w' => ∃ a' c', e = .returned (.slice a' (n + 7) c') ∧ w'.ownsRow w.heap.size 5 1 (.slice a' (n + 7) c') (n + 7) (bcells (frameOf bs)) ∧ Below w.heap.size w w' := by
  obtain ⟨i0, hi, hz0, hz1, hz2⟩ := info_parts u8i
  have hbl : bs.length = n := bsl_one h
  have P := Lib.hid (rput_ok none 0 0 [] n 2 w ⟨rfl, Or.inl rfl⟩ (by decide) (by decide) (by decide) (by omega))
  have HS := Lib.hid h
  have HBL := Lib.hid hbl
  have hmx : n ≤ 4096 := h2
  have HO0 := Lib.hid (bown_nil w w.heap.size 5 1)
  clear h hbl
  go_enter Try.func10, Try.ntmps10
  go_wp2_with fail
  refine P.out.mono ?_
  rintro e w1 ⟨v1, rfl, ho, hb⟩
  simp only [List.nil_append, Nat.zero_add] at ho
  obtain ⟨a1, c1', rfl, _, _, hs⟩ := Sl.own ho
  have HS1 := Lib.hid hs
  have hnl1 : a1 = none → c1' = 0 := sl_none ho
  have HO1 := Lib.hid (bown_nil w1 w.heap.size 5 1)
  have HB1 := Lib.hid hb
  have hq1 : w.heap.size ≤ w1.heap.size := hb.size
  clear ho hb hs P HO0
  go_upto_region 3 with (first
    | (at_builtin; refine app_any _ _ 22 5 i0 (.int .u8 0) 1 1 Try.underlying22 hi hz0 hz1 hz2 rfl (by decide) rfl rfl rfl HO1.out rfl HS1.out hnl1 (fun u hu => bcells_one hu) ?c1 ?c2 hq1 ?_))
  case c1 => simp only [maxLen]; omega
  case c2 => omega
  intro v2 w2 ho hb
  try simp only [List.nil_append, Nat.zero_add] at ho
  obtain ⟨a2, c2', rfl, _, _, _⟩ := Sl.own ho
  have HO2 := Lib.hid ho
  have HB2 := Lib.hid (HB1.out.trans hb)
  have HS2 := Lib.hid (HS.out.keep HB2.out)
  have hq2 : w.heap.size ≤ w2.heap.size := HB2.out.size
  clear ho hb HO1 HB1 HS1 hnl1
  go_upto_region 4 with (first
    | (at_builtin; refine app_any _ _ 22 5 i0 (.int .u8 0) 1 1 Try.underlying22 hi hz0 hz1 hz2 rfl (by decide) rfl rfl rfl HO2.out rfl HS2.out hnl (fun u hu => bcells_one hu) ?d1 ?d2 hq2 ?_))
  case d1 => simp only [maxLen]; omega
  case d2 => omega
  intro v3 w3 ho hb
  rw [← bcells_snoc] at ho
  obtain ⟨a3, c3', rfl, _, _, _⟩ := Sl.own ho
  have HO3 := Lib.hid ho
  have HB3 := Lib.hid (HB2.out.trans hb)
  have RS := Lib.hid (rsum_any a n c bs w3 (HS.out.keep HB3.out) (by omega))
  clear ho hb HO2 HB2 HS2 hq2
  go_wp2_with fail
  refine RS.out.mono ?_
  rintro e w4 ⟨rfl, rfl⟩
  have hcl := crcMore_lt 0 bs
  have P4 := Lib.hid (rput_ok none 0 0 [] (crcMore 0 bs) 4 w3 ⟨rfl, Or.inl rfl⟩ (by decide) (by decide) (by decide) (by omega))
  generalize hcm : crcMore 0 bs = cm at *
  have HCM := Lib.hid hcm
  clear hcm RS
  go_wp2_with fail
  refine P4.out.mono ?_
  rintro e w5 ⟨v5, rfl, ho, hb⟩
  simp only [List.nil_append, Nat.zero_add] at ho
  obtain ⟨a5, c5', rfl, _, _, hs⟩ := Sl.own ho
  have HS5 := Lib.hid hs
  have hnl5 : a5 = none → c5' = 0 := sl_none ho
  have HO5 := Lib.hid (own_stay HO3.out hb)
  have HB5 := Lib.hid (HB3.out.trans (hb.mono HB3.out.size))
  have hq5 : w.heap.size ≤ w5.heap.size := HB5.out.size
  clear ho hb hs P4 HO3 HB3
  go_upto_region 5 with (first
    | (at_builtin; refine app_any _ _ 22 5 i0 (.int .u8 0) 1 1 Try.underlying22 hi hz0 hz1 hz2 rfl (by decide) rfl rfl rfl HO5.out rfl HS5.out hnl5 (fun u hu => bcells_one hu) ?e1 ?e2 hq5 ?_))
  case e1 => simp only [maxLen]; omega
  case e2 => omega
  intro v6 w6 ho hb
  rw [← bcells_snoc] at ho
  obtain ⟨a6, c6', rfl, _, _, _⟩ := Sl.own ho
  have HB6 := Lib.hid (HB5.out.trans hb)
  have HL := Lib.hid (blit_sl w6 (bcells [90]) (by decide))
  have HO7 := Lib.hid (own_stay ho ((Below.refl _ _).alloc (Nat.le_refl _) (.cells (bcells [90]).toArray 5)))
  have HB7 := Lib.hid (HB6.out.alloc HB6.out.size (.cells (bcells [90]).toArray 5))
  have hq7 : w.heap.size ≤ (w6.alloc (.cells (bcells [90]).toArray 5)).heap.size := HB7.out.size
  clear ho hb HO5 HB5 HS5 HB6
  go_wp2_with (first
    | (at_builtin; refine app_any _ _ 22 5 i0 (.int .u8 0) 1 1 Try.underlying22 hi hz0 hz1 hz2 rfl (by decide) rfl rfl rfl HO7.out rfl HL.out (fun h => by cases h) (fun u hu => bcells_one hu) ?f1 ?f2 hq7 ?_))
  case f1 => simp only [maxLen]; omega
  case f2 => omega
  intro v8 w8 ho hb
  rw [← bcells_snoc] at ho
  obtain ⟨a8, c8', rfl, _, _, _⟩ := Sl.own ho
  have HO8 := Lib.hid ho
  have HB8 := Lib.hid (HB7.out.trans hb)
  clear ho hb
  have hsz : 2 + n + 4 + 1 = n + 7 := by omega
  have HF : Hid (beOf n 2 ++ (bs ++ beOf cm 4) ++ [90] = frameOf bs) := Lib.hid (by unfold frameOf crcPutOf; rw [HBL.out, HCM.out])
  go_wp2_with fail
  go_ret
  exact ⟨a8, c8', by rw [← hsz]; rfl, by have := HO8.out; rw [HF.out] at this; rw [← hsz]; exact this, HB8.out⟩
end Go.Proofs.Ytnlocomjmkgmkaa
