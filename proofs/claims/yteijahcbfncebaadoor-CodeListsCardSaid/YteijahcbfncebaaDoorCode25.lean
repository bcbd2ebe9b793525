/- The statement of lists of steps. -/
import Derived.Test.YteijahcbfncebaaDoorCode24
import Derived.Deep.DeepCutAuto
import Derived.Deep.LoopGhost
import Derived.RegionTactic
import Derived.BigRegion
import Derived.ChangeAlike
namespace Go.Proofs.YteijahcbfncebaaDoor
set_option linter.unusedVariables false
set_option linter.unusedSimpArgs false
open Go.ChangeShapes Go.WideShapes Go.ChangeAt Go.RowKit
set_option maxRecDepth 100000 in
set_option maxHeartbeats 8000000 in
theorem lists31_b16_long (a ba : Option Addr) (n0 n c nb cb : Nat) (L : List Int) (w : World) (hs : Sl w a n 13 (ints L)) (hn : n = min n0 300) (hnc : n0 ≤ c) (hnbm : nb ≤ 9223372036854775807) (hf : ∀ z ∈ L, fits z = true) (hT : TabF w) (hln : 256 < n) (hm16 : nb % 21 ≠ 0) (HBAD : Hid (∀ w', Below w.heap.size w w' → Calls Tryd.prog 16 #[.slice ba nb cb] w' fun e w'' => e = .returned (.tuple #[.slice none 0 0, .int .i64 16]) ∧ Below w'.heap.size w' w'')) :
    Calls Tryd.prog 5 #[.slice a n0 c, .slice ba nb cb] w fun e w' => e = .returned (.bool true) ∧ Below w.heap.size w w' := by
  obtain ⟨i0, hi, hz0, hz1, hz2⟩ := info_parts u8_info
  have hl : Hid (L.length = n * 13) := Lib.hid (by have := hs.1; rwa [ints_len] at this)
  have HS := Lib.hid hs
  have HF := Lib.hid hf
  have AL := Lib.hid (alive31 w hT)
  have HT := Lib.hid (fun w' (hb : Below w.heap.size w w') => hT.keep hb (glob_lt hT))
  have eb : ¬ (nb : Int).tmod 21 = 0 := by rw [Int.tmod_eq_emod_of_nonneg (by omega)]; omega
  clear hm16
  have HLN := Lib.hid hln
  have HMN := Lib.hid hn
  clear hs hf hT hnbm hln hn
  go_enter Tryd.func5, Tryd.ntmps5
  go_wp2_with fail
  refine AL.out.mono ?_
  rintro e w2 ⟨rfl, hb2⟩
  go_wp2_with fail
  refine (few31_any a n0 c _ hnc).mono ?_
  rintro e w2' ⟨rfl, hw2⟩
  subst hw2
  rw [← HMN.out]
  have HB2 := Lib.hid hb2
  clear hb2 AL
  go_wp2_with fail
  refine (all31_long a n c _ HLN.out).mono ?_
  rintro e w3 ⟨rfl, hw3⟩
  subst hw3
  have HB3 := HB2
  clear HB2
  go_wp2_with fail
  refine (HBAD.out _ HB3.out).mono ?_
  rintro e w4 ⟨rfl, hb4⟩
  have HB4 := Lib.hid (HB3.out.trans (hb4.mono HB3.out.size))
  clear hb4 HB3 HBAD
  go_upto_region 12 with fail
  clear eb
  have hln' : (256 : Int) < n := by have := HLN.out; omega
  go_wp2_with fail
  go_ret
  exact ⟨rfl, HB4.out⟩
set_option maxRecDepth 100000 in
set_option maxHeartbeats 8000000 in
theorem lists31_b16_no (a ba : Option Addr) (n0 n c nb cb : Nat) (L : List Int) (w : World) (hs : Sl w a n 13 (ints L)) (hn : n = min n0 300) (hnc : n0 ≤ c) (hnbm : nb ≤ 9223372036854775807) (hf : ∀ z ∈ L, fits z = true) (hT : TabF w) (hln : n ≤ 256) (j : Nat) (hj : j < n) (hok : ∀ i, i < j → chkX (rAt 13 L i) = 0) (hno : chkX (rAt 13 L j) ≠ 0) (hm16 : nb % 21 ≠ 0) (HBAD : Hid (∀ w', Below w.heap.size w w' → Calls Tryd.prog 16 #[.slice ba nb cb] w' fun e w'' => e = .returned (.tuple #[.slice none 0 0, .int .i64 16]) ∧ Below w'.heap.size w' w'')) :
    Calls Tryd.prog 5 #[.slice a n0 c, .slice ba nb cb] w fun e w' => e = .returned (.bool true) ∧ Below w.heap.size w w' := by
  obtain ⟨i0, hi, hz0, hz1, hz2⟩ := info_parts u8_info
  have hl : Hid (L.length = n * 13) := Lib.hid (by have := hs.1; rwa [ints_len] at this)
  have HS := Lib.hid hs
  have HF := Lib.hid hf
  have AL := Lib.hid (alive31 w hT)
  have HT := Lib.hid (fun w' (hb : Below w.heap.size w w') => hT.keep hb (glob_lt hT))
  have eb : ¬ (nb : Int).tmod 21 = 0 := by rw [Int.tmod_eq_emod_of_nonneg (by omega)]; omega
  clear hm16
  have HOK := Lib.hid hok
  clear hok
  have HNO := Lib.hid hno
  clear hno
  have HLN := Lib.hid hln
  have HMN := Lib.hid hn
  clear hs hf hT hnbm hln hn
  go_enter Tryd.func5, Tryd.ntmps5
  go_wp2_with fail
  refine AL.out.mono ?_
  rintro e w2 ⟨rfl, hb2⟩
  go_wp2_with fail
  refine (few31_any a n0 c _ hnc).mono ?_
  rintro e w2' ⟨rfl, hw2⟩
  subst hw2
  rw [← HMN.out]
  have HB2 := Lib.hid hb2
  clear hb2 AL
  go_wp2_with fail
  have CA := all31_no a n c L _ (HS.out.keep HB2.out) HF.out (HT.out _ HB2.out) HLN.out j hj HOK.out HNO.out
  obtain ⟨cj, hcj⟩ : ∃ cj, cj = chkX (rAt 13 L j) := ⟨_, rfl⟩
  have ECJ := Lib.hid hcj
  rw [← hcj] at CA HNO
  clear hcj
  refine CA.mono ?_
  rintro e w3 ⟨rfl, hb3⟩
  have HB3 := Lib.hid (HB2.out.trans (hb3.mono HB2.out.size))
  clear hb3 CA
  clear HB2
  go_wp2_with fail
  refine (HBAD.out _ HB3.out).mono ?_
  rintro e w4 ⟨rfl, hb4⟩
  have HB4 := Lib.hid (HB3.out.trans (hb4.mono HB3.out.size))
  clear hb4 HB3 HBAD
  go_upto_region 12 with fail
  clear eb
  have hln' : ¬ (256 : Int) < n := by have := HLN.out; omega
  have HSX := Lib.hid (HS.out.keep HB4.out)
  go_wp2_with fail
  clear hln'
  go_loopg [11, 12] j (fun qq s11 s12 wr => ∃ i : Nat, qq + i = j ∧ s12 = .int .i64 i ∧ Hid (wr.ownsRow w4.heap.size 5 1 s11 (21 * i) (bcells (encXs L i))) ∧ Hid (Below w4.heap.size w4 wr))
  case atStart => exact ⟨0, by omega, rfl, Lib.hid (World.ownsRow_nil _ _ _ _), Lib.hid (Below.refl _ _)⟩
  case round =>
    obtain ⟨i, hqi, rfl, HO, HBr⟩ := hrel
    by_cases hin0 : i < j
    · obtain ⟨b, off, rfl, hb, hr0⟩ := rAt_at HSX.out (show i < n by omega)
      have L13 : Hid ((rAt 13 L i).length = 13) := Lib.hid (rAt_len hl.out (by omega))
      have FI : Hid (∀ z ∈ rAt 13 L i, fits z = true) := Lib.hid fun z hz => HF.out z (rAt_mem hz)
      have rr := range_keepG hr0 HBr.out hb
      have RR := Lib.hid hr0
      have hi0 : (0 : Int) ≤ i := by omega
      have hin : (i : Int) < n := by omega
      have M := Lib.hid (fun w => show Calls Tryd.prog 8 #[.agg (ints (rAt 13 L i)).toArray] w fun e w' => e = .returned (.int .i64 0) ∧ Below w.heap.size w w' from by have := rchkx_any (rAt 13 L i) w L13.out FI.out; rwa [HOK.out i hin0] at this)
      have P := Lib.hid (fun w => rputx_any (rAt 13 L i) w L13.out)
      have HEN := Lib.hid (show encXs L (i + 1) = encXs L i ++ encX (rAt 13 L i) from rfl)
      have HQ := Lib.hid (And.intro hqi hin0)
      have hib : (i : Int) < 1000 := by have := HLN.out; omega
      clear hr0 hqi hin0
      generalize rAt 13 L i = x at *
      have TX : RowT 27 (ints x).length := by rw [ints_len, L13.out]; exact rowS
      go_wp2_with (first
        | ((with_reducible refine ld_row rr TX ?_ ?_ ?_); (· rfl); (· rfl); (simp only [Act.put, List.setIfInBounds_toArray, List.set_cons_zero, List.set_cons_succ])))
      refine (M.out _).mono ?_
      rintro e w6 ⟨rfl, hb6⟩
      have HO6 := Lib.hid (own_stay HO.out hb6)
      have HB6 := Lib.hid (HBr.out.trans (hb6.mono HBr.out.size))
      have rr6 := range_keepG RR.out HB6.out hb
      clear hb6 rr HO HBr
      go_wp2_with (first
        | ((with_reducible refine ld_row rr6 TX ?_ ?_ ?_); (· rfl); (· rfl); (simp only [Act.put, List.setIfInBounds_toArray, List.set_cons_zero, List.set_cons_succ])))
      refine (P.out _).mono ?_
      rintro e w7 ⟨a', c', rfl, hsb7, hb7⟩
      have HB7 := Lib.hid (HB6.out.trans (hb7.mono HB6.out.size))
      have HO7 := Lib.hid (own_stay HO6.out hb7)
      have HSB7 := Lib.hid hsb7
      have hnl : a' = none → c' = 0 := fun h0 => by
        rcases hsb7.2 with h1 | ⟨b1, o1, h1, _⟩
        · omega
        · rw [h0] at h1; cases h1
      clear hsb7 hb7 HO6 rr6
      go_wp2_with (first
        | (at_builtin; refine app_any _ _ 30 5 i0 (.int .u8 0) 1 1 Tryd.underlying30 hi hz0 hz1 hz2 rfl (by decide) rfl rfl rfl HO7.out rfl HSB7.out hnl (fun u hu => bcells_one hu) ?c1 ?c2 HB7.out.size ?_))
      case c1 => simp only [maxLen]; have := HQ.out; have := HLN.out; omega
      case c2 => have := HQ.out; have := HLN.out; omega
      intro v8 w8 ho8 hb8
      rw [← bcells_add, ← HEN.out, show 21 * i + 21 = 21 * (i + 1) by omega] at ho8
      have HO8 := Lib.hid ho8
      have HB8 := Lib.hid (HB7.out.trans hb8)
      clear ho8 hb8 HO7 HSB7
      go_wp2_with fail
      go_roundg (gk - 1)
      case measure => have := HQ.out; omega
      case rel => exact ⟨i + 1, by have := HQ.out; omega, by have h1 := HQ.out; have h2 := HLN.out; go_num, HO8, HB8⟩
    · have hij : i = j := by omega
      subst hij
      obtain ⟨b, off, rfl, hb, hr0⟩ := rAt_at HSX.out hj
      have L13 : Hid ((rAt 13 L i).length = 13) := Lib.hid (rAt_len hl.out hj)
      have FI : Hid (∀ z ∈ rAt 13 L i, fits z = true) := Lib.hid fun z hz => HF.out z (rAt_mem hz)
      have rr := range_keepG hr0 HBr.out hb
      have hi0 : (0 : Int) ≤ i := by omega
      have hin : (i : Int) < n := by omega
      have M := Lib.hid (fun w => show Calls Tryd.prog 8 #[.agg (ints (rAt 13 L i)).toArray] w fun e w' => e = .returned (.int .i64 cj) ∧ Below w.heap.size w w' from by have := rchkx_any (rAt 13 L i) w L13.out FI.out; rwa [← ECJ.out] at this)
      have hcb : (cj != 0) = true := by simpa using HNO.out
      clear hr0 hqi hin0 hj
      clear ECJ
      generalize rAt 13 L i = x at *
      have TX : RowT 27 (ints x).length := by rw [ints_len, L13.out]; exact rowS
      go_wp2_with (first
        | ((with_reducible refine ld_row rr TX ?_ ?_ ?_); (· rfl); (· rfl); (simp only [Act.put, List.setIfInBounds_toArray, List.set_cons_zero, List.set_cons_succ])))
      refine (M.out _).mono ?_
      rintro e w6 ⟨rfl, hb6⟩
      go_wp2_with fail
      go_ret
      exact ⟨rfl, HB4.out.trans ((HBr.out.trans (hb6.mono HBr.out.size)).mono HB4.out.size)⟩
set_option maxRecDepth 100000 in
set_option maxHeartbeats 8000000 in
theorem lists31_b16_yes (a ba : Option Addr) (n0 n c nb cb : Nat) (L : List Int) (w : World) (hs : Sl w a n 13 (ints L)) (hn : n = min n0 300) (hnc : n0 ≤ c) (hnbm : nb ≤ 9223372036854775807) (hf : ∀ z ∈ L, fits z = true) (hT : TabF w) (hln : n ≤ 256) (hok : ∀ i, i < n → chkX (rAt 13 L i) = 0) (hm16 : nb % 21 ≠ 0) (HBAD : Hid (∀ w', Below w.heap.size w w' → Calls Tryd.prog 16 #[.slice ba nb cb] w' fun e w'' => e = .returned (.tuple #[.slice none 0 0, .int .i64 16]) ∧ Below w'.heap.size w' w'')) :
    Calls Tryd.prog 5 #[.slice a n0 c, .slice ba nb cb] w fun e w' => e = .returned (.bool true) ∧ Below w.heap.size w w' := by
  obtain ⟨i0, hi, hz0, hz1, hz2⟩ := info_parts u8_info
  have hl : Hid (L.length = n * 13) := Lib.hid (by have := hs.1; rwa [ints_len] at this)
  have HS := Lib.hid hs
  have HF := Lib.hid hf
  have AL := Lib.hid (alive31 w hT)
  have HT := Lib.hid (fun w' (hb : Below w.heap.size w w') => hT.keep hb (glob_lt hT))
  have eb : ¬ (nb : Int).tmod 21 = 0 := by rw [Int.tmod_eq_emod_of_nonneg (by omega)]; omega
  clear hm16
  have HOK := Lib.hid hok
  clear hok
  have HLN := Lib.hid hln
  have HMN := Lib.hid hn
  clear hs hf hT hnbm hln hn
  go_enter Tryd.func5, Tryd.ntmps5
  go_wp2_with fail
  refine AL.out.mono ?_
  rintro e w2 ⟨rfl, hb2⟩
  go_wp2_with fail
  refine (few31_any a n0 c _ hnc).mono ?_
  rintro e w2' ⟨rfl, hw2⟩
  subst hw2
  rw [← HMN.out]
  have HB2 := Lib.hid hb2
  clear hb2 AL
  go_wp2_with fail
  refine (all31_yes a n c L _ (HS.out.keep HB2.out) HF.out (HT.out _ HB2.out) HLN.out HOK.out).mono ?_
  rintro e w3 ⟨pa, pc, rfl, hsp, hpc, hb3⟩
  have HPC := Lib.hid hpc
  clear hpc
  have HB3 := Lib.hid (HB2.out.trans (hb3.mono HB2.out.size))
  have HSP3 := Lib.hid hsp
  clear hb3 hsp
  clear HB2
  obtain ⟨np, hnp⟩ : ∃ np, np = 21 * n := ⟨_, rfl⟩
  have HNP := Lib.hid hnp
  rw [← hnp] at HSP3 HPC ⊢
  clear hnp
  go_wp2_with fail
  refine (HBAD.out _ HB3.out).mono ?_
  rintro e w4 ⟨rfl, hb4⟩
  have HB4 := Lib.hid (HB3.out.trans (hb4.mono HB3.out.size))
  have HSP4 := Lib.hid (HSP3.out.keep hb4)
  clear HSP3
  clear hb4 HB3 HBAD
  go_upto_region 12 with fail
  clear eb
  have hln' : ¬ (256 : Int) < n := by have := HLN.out; omega
  have HSX := Lib.hid (HS.out.keep HB4.out)
  go_wp2_with fail
  clear hln'
  go_loopg [11, 12] n (fun qq s11 s12 wr => ∃ i : Nat, qq + i = n ∧ s12 = .int .i64 i ∧ Hid (wr.ownsRow w4.heap.size 5 1 s11 (21 * i) (bcells (encXs L i))) ∧ Hid (Below w4.heap.size w4 wr))
  case atStart => exact ⟨0, by omega, rfl, Lib.hid (World.ownsRow_nil _ _ _ _), Lib.hid (Below.refl _ _)⟩
  case round =>
    obtain ⟨i, hqi, rfl, HO, HBr⟩ := hrel
    by_cases hin0 : i < n
    · obtain ⟨b, off, rfl, hb, hr0⟩ := rAt_at HSX.out (show i < n by omega)
      have L13 : Hid ((rAt 13 L i).length = 13) := Lib.hid (rAt_len hl.out (by omega))
      have FI : Hid (∀ z ∈ rAt 13 L i, fits z = true) := Lib.hid fun z hz => HF.out z (rAt_mem hz)
      have rr := range_keepG hr0 HBr.out hb
      have RR := Lib.hid hr0
      have hi0 : (0 : Int) ≤ i := by omega
      have hin : (i : Int) < n := by omega
      have M := Lib.hid (fun w => show Calls Tryd.prog 8 #[.agg (ints (rAt 13 L i)).toArray] w fun e w' => e = .returned (.int .i64 0) ∧ Below w.heap.size w w' from by have := rchkx_any (rAt 13 L i) w L13.out FI.out; rwa [HOK.out i hin0] at this)
      have P := Lib.hid (fun w => rputx_any (rAt 13 L i) w L13.out)
      have HEN := Lib.hid (show encXs L (i + 1) = encXs L i ++ encX (rAt 13 L i) from rfl)
      have HQ := Lib.hid (And.intro hqi hin0)
      have hib : (i : Int) < 1000 := by have := HLN.out; omega
      clear hr0 hqi hin0
      generalize rAt 13 L i = x at *
      have TX : RowT 27 (ints x).length := by rw [ints_len, L13.out]; exact rowS
      go_wp2_with (first
        | ((with_reducible refine ld_row rr TX ?_ ?_ ?_); (· rfl); (· rfl); (simp only [Act.put, List.setIfInBounds_toArray, List.set_cons_zero, List.set_cons_succ])))
      refine (M.out _).mono ?_
      rintro e w6 ⟨rfl, hb6⟩
      have HO6 := Lib.hid (own_stay HO.out hb6)
      have HB6 := Lib.hid (HBr.out.trans (hb6.mono HBr.out.size))
      have rr6 := range_keepG RR.out HB6.out hb
      clear hb6 rr HO HBr
      go_wp2_with (first
        | ((with_reducible refine ld_row rr6 TX ?_ ?_ ?_); (· rfl); (· rfl); (simp only [Act.put, List.setIfInBounds_toArray, List.set_cons_zero, List.set_cons_succ])))
      refine (P.out _).mono ?_
      rintro e w7 ⟨a', c', rfl, hsb7, hb7⟩
      have HB7 := Lib.hid (HB6.out.trans (hb7.mono HB6.out.size))
      have HO7 := Lib.hid (own_stay HO6.out hb7)
      have HSB7 := Lib.hid hsb7
      have hnl : a' = none → c' = 0 := fun h0 => by
        rcases hsb7.2 with h1 | ⟨b1, o1, h1, _⟩
        · omega
        · rw [h0] at h1; cases h1
      clear hsb7 hb7 HO6 rr6
      go_wp2_with (first
        | (at_builtin; refine app_any _ _ 30 5 i0 (.int .u8 0) 1 1 Tryd.underlying30 hi hz0 hz1 hz2 rfl (by decide) rfl rfl rfl HO7.out rfl HSB7.out hnl (fun u hu => bcells_one hu) ?c1 ?c2 HB7.out.size ?_))
      case c1 => simp only [maxLen]; have := HQ.out; have := HLN.out; omega
      case c2 => have := HQ.out; have := HLN.out; omega
      intro v8 w8 ho8 hb8
      rw [← bcells_add, ← HEN.out, show 21 * i + 21 = 21 * (i + 1) by omega] at ho8
      have HO8 := Lib.hid ho8
      have HB8 := Lib.hid (HB7.out.trans hb8)
      clear ho8 hb8 HO7 HSB7
      go_wp2_with fail
      go_roundg (gk - 1)
      case measure => have := HQ.out; omega
      case rel => exact ⟨i + 1, by have := HQ.out; omega, by have h1 := HQ.out; have h2 := HLN.out; go_num, HO8, HB8⟩
    · have hni : (n : Int) ≤ i := by omega
      have hin : i = n := by omega
      rw [hin] at HO
      obtain ⟨xa9, xc9, rfl, _, _, hxs9⟩ := Sl.own HO.out
      have HX9 := Lib.hid hxs9
      have HP9 := Lib.hid (HSP4.out.keep HBr.out)
      have HBB := Lib.hid (HB4.out.trans (HBr.out.mono HB4.out.size))
      have HI9 := Lib.hid hin
      clear hxs9 HO hqi hin0 hin
      rw [← HNP.out] at HX9 ⊢
      go_wp2_with fail
      have SF := Lib.hid (fun w' (hT' : TabF w') => steps_full pa n pc L w' hl.out HLN.out HF.out hT' HOK.out)
      rw [← HNP.out] at SF
      refine (SF.out _ (HT.out _ HBB.out) HP9.out HPC.out).mono ?_
      rintro e wa ⟨xb, xbc, rfl, hxb, hba⟩
      have HXB := Lib.hid hxb
      have cva := conv_bytes (HP9.out.keep hba) pc
      have cvb := conv_bytes (HX9.out.keep hba) xc9
      have HBa := Lib.hid (HBB.out.trans (hba.mono HBB.out.size))
      have HSa := Lib.hid (HS.out.keep HBa.out)
      clear hxb hba HX9 HP9 SF
      go_wp2_with fail
      refine (steps_same xb a n xbc c L _ HXB.out HSa.out (by have := HLN.out; omega) HF.out).mono ?_
      rintro e wb ⟨rfl, hbb⟩
      go_wp2_with fail
      go_ret
      exact ⟨rfl, HBa.out.trans (hbb.mono HBa.out.size)⟩
set_option maxRecDepth 100000 in
set_option maxHeartbeats 8000000 in
theorem lists31_b3_long (a ba : Option Addr) (n0 n c nb cb : Nat) (L : List Int) (w : World) (hs : Sl w a n 13 (ints L)) (hn : n = min n0 300) (hnc : n0 ≤ c) (hnbm : nb ≤ 9223372036854775807) (hf : ∀ z ∈ L, fits z = true) (hT : TabF w) (hln : 256 < n) (hm3 : nb % 21 = 0) (hbig : 5376 < nb) (HBAD : Hid (∀ w', Below w.heap.size w w' → Calls Tryd.prog 16 #[.slice ba nb cb] w' fun e w'' => e = .returned (.tuple #[.slice none 0 0, .int .i64 3]) ∧ Below w'.heap.size w' w'')) :
    Calls Tryd.prog 5 #[.slice a n0 c, .slice ba nb cb] w fun e w' => e = .returned (.bool true) ∧ Below w.heap.size w w' := by
  obtain ⟨i0, hi, hz0, hz1, hz2⟩ := info_parts u8_info
  have hl : Hid (L.length = n * 13) := Lib.hid (by have := hs.1; rwa [ints_len] at this)
  have HS := Lib.hid hs
  have HF := Lib.hid hf
  have AL := Lib.hid (alive31 w hT)
  have HT := Lib.hid (fun w' (hb : Below w.heap.size w w') => hT.keep hb (glob_lt hT))
  have eb : (nb : Int).tmod 21 = 0 := by rw [Int.tmod_eq_emod_of_nonneg (by omega)]; omega
  have eg : (5376 : Int) < nb := by omega
  clear hm3 hbig
  have HLN := Lib.hid hln
  have HMN := Lib.hid hn
  clear hs hf hT hnbm hln hn
  go_enter Tryd.func5, Tryd.ntmps5
  go_wp2_with fail
  refine AL.out.mono ?_
  rintro e w2 ⟨rfl, hb2⟩
  go_wp2_with fail
  refine (few31_any a n0 c _ hnc).mono ?_
  rintro e w2' ⟨rfl, hw2⟩
  subst hw2
  rw [← HMN.out]
  have HB2 := Lib.hid hb2
  clear hb2 AL
  go_wp2_with fail
  refine (all31_long a n c _ HLN.out).mono ?_
  rintro e w3 ⟨rfl, hw3⟩
  subst hw3
  have HB3 := HB2
  clear HB2
  go_wp2_with fail
  refine (HBAD.out _ HB3.out).mono ?_
  rintro e w4 ⟨rfl, hb4⟩
  have HB4 := Lib.hid (HB3.out.trans (hb4.mono HB3.out.size))
  clear hb4 HB3 HBAD
  go_upto_region 12 with fail
  clear eb eg
  have hln' : (256 : Int) < n := by have := HLN.out; omega
  go_wp2_with fail
  go_ret
  exact ⟨rfl, HB4.out⟩
set_option maxRecDepth 100000 in
set_option maxHeartbeats 8000000 in
theorem lists31_b3_no (a ba : Option Addr) (n0 n c nb cb : Nat) (L : List Int) (w : World) (hs : Sl w a n 13 (ints L)) (hn : n = min n0 300) (hnc : n0 ≤ c) (hnbm : nb ≤ 9223372036854775807) (hf : ∀ z ∈ L, fits z = true) (hT : TabF w) (hln : n ≤ 256) (j : Nat) (hj : j < n) (hok : ∀ i, i < j → chkX (rAt 13 L i) = 0) (hno : chkX (rAt 13 L j) ≠ 0) (hm3 : nb % 21 = 0) (hbig : 5376 < nb) (HBAD : Hid (∀ w', Below w.heap.size w w' → Calls Tryd.prog 16 #[.slice ba nb cb] w' fun e w'' => e = .returned (.tuple #[.slice none 0 0, .int .i64 3]) ∧ Below w'.heap.size w' w'')) :
    Calls Tryd.prog 5 #[.slice a n0 c, .slice ba nb cb] w fun e w' => e = .returned (.bool true) ∧ Below w.heap.size w w' := by
  obtain ⟨i0, hi, hz0, hz1, hz2⟩ := info_parts u8_info
  have hl : Hid (L.length = n * 13) := Lib.hid (by have := hs.1; rwa [ints_len] at this)
  have HS := Lib.hid hs
  have HF := Lib.hid hf
  have AL := Lib.hid (alive31 w hT)
  have HT := Lib.hid (fun w' (hb : Below w.heap.size w w') => hT.keep hb (glob_lt hT))
  have eb : (nb : Int).tmod 21 = 0 := by rw [Int.tmod_eq_emod_of_nonneg (by omega)]; omega
  have eg : (5376 : Int) < nb := by omega
  clear hm3 hbig
  have HOK := Lib.hid hok
  clear hok
  have HNO := Lib.hid hno
  clear hno
  have HLN := Lib.hid hln
  have HMN := Lib.hid hn
  clear hs hf hT hnbm hln hn
  go_enter Tryd.func5, Tryd.ntmps5
  go_wp2_with fail
  refine AL.out.mono ?_
  rintro e w2 ⟨rfl, hb2⟩
  go_wp2_with fail
  refine (few31_any a n0 c _ hnc).mono ?_
  rintro e w2' ⟨rfl, hw2⟩
  subst hw2
  rw [← HMN.out]
  have HB2 := Lib.hid hb2
  clear hb2 AL
  go_wp2_with fail
  have CA := all31_no a n c L _ (HS.out.keep HB2.out) HF.out (HT.out _ HB2.out) HLN.out j hj HOK.out HNO.out
  obtain ⟨cj, hcj⟩ : ∃ cj, cj = chkX (rAt 13 L j) := ⟨_, rfl⟩
  have ECJ := Lib.hid hcj
  rw [← hcj] at CA HNO
  clear hcj
  refine CA.mono ?_
  rintro e w3 ⟨rfl, hb3⟩
  have HB3 := Lib.hid (HB2.out.trans (hb3.mono HB2.out.size))
  clear hb3 CA
  clear HB2
  go_wp2_with fail
  refine (HBAD.out _ HB3.out).mono ?_
  rintro e w4 ⟨rfl, hb4⟩
  have HB4 := Lib.hid (HB3.out.trans (hb4.mono HB3.out.size))
  clear hb4 HB3 HBAD
  go_upto_region 12 with fail
  clear eb eg
  have hln' : ¬ (256 : Int) < n := by have := HLN.out; omega
  have HSX := Lib.hid (HS.out.keep HB4.out)
  go_wp2_with fail
  clear hln'
  go_loopg [11, 12] j (fun qq s11 s12 wr => ∃ i : Nat, qq + i = j ∧ s12 = .int .i64 i ∧ Hid (wr.ownsRow w4.heap.size 5 1 s11 (21 * i) (bcells (encXs L i))) ∧ Hid (Below w4.heap.size w4 wr))
  case atStart => exact ⟨0, by omega, rfl, Lib.hid (World.ownsRow_nil _ _ _ _), Lib.hid (Below.refl _ _)⟩
  case round =>
    obtain ⟨i, hqi, rfl, HO, HBr⟩ := hrel
    by_cases hin0 : i < j
    · obtain ⟨b, off, rfl, hb, hr0⟩ := rAt_at HSX.out (show i < n by omega)
      have L13 : Hid ((rAt 13 L i).length = 13) := Lib.hid (rAt_len hl.out (by omega))
      have FI : Hid (∀ z ∈ rAt 13 L i, fits z = true) := Lib.hid fun z hz => HF.out z (rAt_mem hz)
      have rr := range_keepG hr0 HBr.out hb
      have RR := Lib.hid hr0
      have hi0 : (0 : Int) ≤ i := by omega
      have hin : (i : Int) < n := by omega
      have M := Lib.hid (fun w => show Calls Tryd.prog 8 #[.agg (ints (rAt 13 L i)).toArray] w fun e w' => e = .returned (.int .i64 0) ∧ Below w.heap.size w w' from by have := rchkx_any (rAt 13 L i) w L13.out FI.out; rwa [HOK.out i hin0] at this)
      have P := Lib.hid (fun w => rputx_any (rAt 13 L i) w L13.out)
      have HEN := Lib.hid (show encXs L (i + 1) = encXs L i ++ encX (rAt 13 L i) from rfl)
      have HQ := Lib.hid (And.intro hqi hin0)
      have hib : (i : Int) < 1000 := by have := HLN.out; omega
      clear hr0 hqi hin0
      generalize rAt 13 L i = x at *
      have TX : RowT 27 (ints x).length := by rw [ints_len, L13.out]; exact rowS
      go_wp2_with (first
        | ((with_reducible refine ld_row rr TX ?_ ?_ ?_); (· rfl); (· rfl); (simp only [Act.put, List.setIfInBounds_toArray, List.set_cons_zero, List.set_cons_succ])))
      refine (M.out _).mono ?_
      rintro e w6 ⟨rfl, hb6⟩
      have HO6 := Lib.hid (own_stay HO.out hb6)
      have HB6 := Lib.hid (HBr.out.trans (hb6.mono HBr.out.size))
      have rr6 := range_keepG RR.out HB6.out hb
      clear hb6 rr HO HBr
      go_wp2_with (first
        | ((with_reducible refine ld_row rr6 TX ?_ ?_ ?_); (· rfl); (· rfl); (simp only [Act.put, List.setIfInBounds_toArray, List.set_cons_zero, List.set_cons_succ])))
      refine (P.out _).mono ?_
      rintro e w7 ⟨a', c', rfl, hsb7, hb7⟩
      have HB7 := Lib.hid (HB6.out.trans (hb7.mono HB6.out.size))
      have HO7 := Lib.hid (own_stay HO6.out hb7)
      have HSB7 := Lib.hid hsb7
      have hnl : a' = none → c' = 0 := fun h0 => by
        rcases hsb7.2 with h1 | ⟨b1, o1, h1, _⟩
        · omega
        · rw [h0] at h1; cases h1
      clear hsb7 hb7 HO6 rr6
      go_wp2_with (first
        | (at_builtin; refine app_any _ _ 30 5 i0 (.int .u8 0) 1 1 Tryd.underlying30 hi hz0 hz1 hz2 rfl (by decide) rfl rfl rfl HO7.out rfl HSB7.out hnl (fun u hu => bcells_one hu) ?c1 ?c2 HB7.out.size ?_))
      case c1 => simp only [maxLen]; have := HQ.out; have := HLN.out; omega
      case c2 => have := HQ.out; have := HLN.out; omega
      intro v8 w8 ho8 hb8
      rw [← bcells_add, ← HEN.out, show 21 * i + 21 = 21 * (i + 1) by omega] at ho8
      have HO8 := Lib.hid ho8
      have HB8 := Lib.hid (HB7.out.trans hb8)
      clear ho8 hb8 HO7 HSB7
      go_wp2_with fail
      go_roundg (gk - 1)
      case measure => have := HQ.out; omega
      case rel => exact ⟨i + 1, by have := HQ.out; omega, by have h1 := HQ.out; have h2 := HLN.out; go_num, HO8, HB8⟩
    · have hij : i = j := by omega
      subst hij
      obtain ⟨b, off, rfl, hb, hr0⟩ := rAt_at HSX.out hj
      have L13 : Hid ((rAt 13 L i).length = 13) := Lib.hid (rAt_len hl.out hj)
      have FI : Hid (∀ z ∈ rAt 13 L i, fits z = true) := Lib.hid fun z hz => HF.out z (rAt_mem hz)
      have rr := range_keepG hr0 HBr.out hb
      have hi0 : (0 : Int) ≤ i := by omega
      have hin : (i : Int) < n := by omega
      have M := Lib.hid (fun w => show Calls Tryd.prog 8 #[.agg (ints (rAt 13 L i)).toArray] w fun e w' => e = .returned (.int .i64 cj) ∧ Below w.heap.size w w' from by have := rchkx_any (rAt 13 L i) w L13.out FI.out; rwa [← ECJ.out] at this)
      have hcb : (cj != 0) = true := by simpa using HNO.out
      clear hr0 hqi hin0 hj
      clear ECJ
      generalize rAt 13 L i = x at *
      have TX : RowT 27 (ints x).length := by rw [ints_len, L13.out]; exact rowS
      go_wp2_with (first
        | ((with_reducible refine ld_row rr TX ?_ ?_ ?_); (· rfl); (· rfl); (simp only [Act.put, List.setIfInBounds_toArray, List.set_cons_zero, List.set_cons_succ])))
      refine (M.out _).mono ?_
      rintro e w6 ⟨rfl, hb6⟩
      go_wp2_with fail
      go_ret
      exact ⟨rfl, HB4.out.trans ((HBr.out.trans (hb6.mono HBr.out.size)).mono HB4.out.size)⟩
set_option maxRecDepth 100000 in
set_option maxHeartbeats 8000000 in
theorem lists31_b3_yes (a ba : Option Addr) (n0 n c nb cb : Nat) (L : List Int) (w : World) (hs : Sl w a n 13 (ints L)) (hn : n = min n0 300) (hnc : n0 ≤ c) (hnbm : nb ≤ 9223372036854775807) (hf : ∀ z ∈ L, fits z = true) (hT : TabF w) (hln : n ≤ 256) (hok : ∀ i, i < n → chkX (rAt 13 L i) = 0) (hm3 : nb % 21 = 0) (hbig : 5376 < nb) (HBAD : Hid (∀ w', Below w.heap.size w w' → Calls Tryd.prog 16 #[.slice ba nb cb] w' fun e w'' => e = .returned (.tuple #[.slice none 0 0, .int .i64 3]) ∧ Below w'.heap.size w' w'')) :
    Calls Tryd.prog 5 #[.slice a n0 c, .slice ba nb cb] w fun e w' => e = .returned (.bool true) ∧ Below w.heap.size w w' := by
  obtain ⟨i0, hi, hz0, hz1, hz2⟩ := info_parts u8_info
  have hl : Hid (L.length = n * 13) := Lib.hid (by have := hs.1; rwa [ints_len] at this)
  have HS := Lib.hid hs
  have HF := Lib.hid hf
  have AL := Lib.hid (alive31 w hT)
  have HT := Lib.hid (fun w' (hb : Below w.heap.size w w') => hT.keep hb (glob_lt hT))
  have eb : (nb : Int).tmod 21 = 0 := by rw [Int.tmod_eq_emod_of_nonneg (by omega)]; omega
  have eg : (5376 : Int) < nb := by omega
  clear hm3 hbig
  have HOK := Lib.hid hok
  clear hok
  have HLN := Lib.hid hln
  have HMN := Lib.hid hn
  clear hs hf hT hnbm hln hn
  go_enter Tryd.func5, Tryd.ntmps5
  go_wp2_with fail
  refine AL.out.mono ?_
  rintro e w2 ⟨rfl, hb2⟩
  go_wp2_with fail
  refine (few31_any a n0 c _ hnc).mono ?_
  rintro e w2' ⟨rfl, hw2⟩
  subst hw2
  rw [← HMN.out]
  have HB2 := Lib.hid hb2
  clear hb2 AL
  go_wp2_with fail
  refine (all31_yes a n c L _ (HS.out.keep HB2.out) HF.out (HT.out _ HB2.out) HLN.out HOK.out).mono ?_
  rintro e w3 ⟨pa, pc, rfl, hsp, hpc, hb3⟩
  have HPC := Lib.hid hpc
  clear hpc
  have HB3 := Lib.hid (HB2.out.trans (hb3.mono HB2.out.size))
  have HSP3 := Lib.hid hsp
  clear hb3 hsp
  clear HB2
  obtain ⟨np, hnp⟩ : ∃ np, np = 21 * n := ⟨_, rfl⟩
  have HNP := Lib.hid hnp
  rw [← hnp] at HSP3 HPC ⊢
  clear hnp
  go_wp2_with fail
  refine (HBAD.out _ HB3.out).mono ?_
  rintro e w4 ⟨rfl, hb4⟩
  have HB4 := Lib.hid (HB3.out.trans (hb4.mono HB3.out.size))
  have HSP4 := Lib.hid (HSP3.out.keep hb4)
  clear HSP3
  clear hb4 HB3 HBAD
  go_upto_region 12 with fail
  clear eb eg
  have hln' : ¬ (256 : Int) < n := by have := HLN.out; omega
  have HSX := Lib.hid (HS.out.keep HB4.out)
  go_wp2_with fail
  clear hln'
  go_loopg [11, 12] n (fun qq s11 s12 wr => ∃ i : Nat, qq + i = n ∧ s12 = .int .i64 i ∧ Hid (wr.ownsRow w4.heap.size 5 1 s11 (21 * i) (bcells (encXs L i))) ∧ Hid (Below w4.heap.size w4 wr))
  case atStart => exact ⟨0, by omega, rfl, Lib.hid (World.ownsRow_nil _ _ _ _), Lib.hid (Below.refl _ _)⟩
  case round =>
    obtain ⟨i, hqi, rfl, HO, HBr⟩ := hrel
    by_cases hin0 : i < n
    · obtain ⟨b, off, rfl, hb, hr0⟩ := rAt_at HSX.out (show i < n by omega)
      have L13 : Hid ((rAt 13 L i).length = 13) := Lib.hid (rAt_len hl.out (by omega))
      have FI : Hid (∀ z ∈ rAt 13 L i, fits z = true) := Lib.hid fun z hz => HF.out z (rAt_mem hz)
      have rr := range_keepG hr0 HBr.out hb
      have RR := Lib.hid hr0
      have hi0 : (0 : Int) ≤ i := by omega
      have hin : (i : Int) < n := by omega
      have M := Lib.hid (fun w => show Calls Tryd.prog 8 #[.agg (ints (rAt 13 L i)).toArray] w fun e w' => e = .returned (.int .i64 0) ∧ Below w.heap.size w w' from by have := rchkx_any (rAt 13 L i) w L13.out FI.out; rwa [HOK.out i hin0] at this)
      have P := Lib.hid (fun w => rputx_any (rAt 13 L i) w L13.out)
      have HEN := Lib.hid (show encXs L (i + 1) = encXs L i ++ encX (rAt 13 L i) from rfl)
      have HQ := Lib.hid (And.intro hqi hin0)
      have hib : (i : Int) < 1000 := by have := HLN.out; omega
      clear hr0 hqi hin0
      generalize rAt 13 L i = x at *
      have TX : RowT 27 (ints x).length := by rw [ints_len, L13.out]; exact rowS
      go_wp2_with (first
        | ((with_reducible refine ld_row rr TX ?_ ?_ ?_); (· rfl); (· rfl); (simp only [Act.put, List.setIfInBounds_toArray, List.set_cons_zero, List.set_cons_succ])))
      refine (M.out _).mono ?_
      rintro e w6 ⟨rfl, hb6⟩
      have HO6 := Lib.hid (own_stay HO.out hb6)
      have HB6 := Lib.hid (HBr.out.trans (hb6.mono HBr.out.size))
      have rr6 := range_keepG RR.out HB6.out hb
      clear hb6 rr HO HBr
      go_wp2_with (first
        | ((with_reducible refine ld_row rr6 TX ?_ ?_ ?_); (· rfl); (· rfl); (simp only [Act.put, List.setIfInBounds_toArray, List.set_cons_zero, List.set_cons_succ])))
      refine (P.out _).mono ?_
      rintro e w7 ⟨a', c', rfl, hsb7, hb7⟩
      have HB7 := Lib.hid (HB6.out.trans (hb7.mono HB6.out.size))
      have HO7 := Lib.hid (own_stay HO6.out hb7)
      have HSB7 := Lib.hid hsb7
      have hnl : a' = none → c' = 0 := fun h0 => by
        rcases hsb7.2 with h1 | ⟨b1, o1, h1, _⟩
        · omega
        · rw [h0] at h1; cases h1
      clear hsb7 hb7 HO6 rr6
      go_wp2_with (first
        | (at_builtin; refine app_any _ _ 30 5 i0 (.int .u8 0) 1 1 Tryd.underlying30 hi hz0 hz1 hz2 rfl (by decide) rfl rfl rfl HO7.out rfl HSB7.out hnl (fun u hu => bcells_one hu) ?c1 ?c2 HB7.out.size ?_))
      case c1 => simp only [maxLen]; have := HQ.out; have := HLN.out; omega
      case c2 => have := HQ.out; have := HLN.out; omega
      intro v8 w8 ho8 hb8
      rw [← bcells_add, ← HEN.out, show 21 * i + 21 = 21 * (i + 1) by omega] at ho8
      have HO8 := Lib.hid ho8
      have HB8 := Lib.hid (HB7.out.trans hb8)
      clear ho8 hb8 HO7 HSB7
      go_wp2_with fail
      go_roundg (gk - 1)
      case measure => have := HQ.out; omega
      case rel => exact ⟨i + 1, by have := HQ.out; omega, by have h1 := HQ.out; have h2 := HLN.out; go_num, HO8, HB8⟩
    · have hni : (n : Int) ≤ i := by omega
      have hin : i = n := by omega
      rw [hin] at HO
      obtain ⟨xa9, xc9, rfl, _, _, hxs9⟩ := Sl.own HO.out
      have HX9 := Lib.hid hxs9
      have HP9 := Lib.hid (HSP4.out.keep HBr.out)
      have HBB := Lib.hid (HB4.out.trans (HBr.out.mono HB4.out.size))
      have HI9 := Lib.hid hin
      clear hxs9 HO hqi hin0 hin
      rw [← HNP.out] at HX9 ⊢
      go_wp2_with fail
      have SF := Lib.hid (fun w' (hT' : TabF w') => steps_full pa n pc L w' hl.out HLN.out HF.out hT' HOK.out)
      rw [← HNP.out] at SF
      refine (SF.out _ (HT.out _ HBB.out) HP9.out HPC.out).mono ?_
      rintro e wa ⟨xb, xbc, rfl, hxb, hba⟩
      have HXB := Lib.hid hxb
      have cva := conv_bytes (HP9.out.keep hba) pc
      have cvb := conv_bytes (HX9.out.keep hba) xc9
      have HBa := Lib.hid (HBB.out.trans (hba.mono HBB.out.size))
      have HSa := Lib.hid (HS.out.keep HBa.out)
      clear hxb hba HX9 HP9 SF
      go_wp2_with fail
      refine (steps_same xb a n xbc c L _ HXB.out HSa.out (by have := HLN.out; omega) HF.out).mono ?_
      rintro e wb ⟨rfl, hbb⟩
      go_wp2_with fail
      go_ret
      exact ⟨rfl, HBa.out.trans (hbb.mono HBa.out.size)⟩
set_option maxRecDepth 100000 in
set_option maxHeartbeats 8000000 in
theorem lists31_bc_long (a ba : Option Addr) (n0 n c nb cb : Nat) (L : List Int) (w : World) (hs : Sl w a n 13 (ints L)) (hn : n = min n0 300) (hnc : n0 ≤ c) (hnbm : nb ≤ 9223372036854775807) (hf : ∀ z ∈ L, fits z = true) (hT : TabF w) (hln : 256 < n) (hmc : nb % 21 = 0) (hsm : nb ≤ 5376) (code : Int) (hcode : code ≠ 0) (HBAD : Hid (∀ w', Below w.heap.size w w' → Calls Tryd.prog 16 #[.slice ba nb cb] w' fun e w'' => e = .returned (.tuple #[.slice none 0 0, .int .i64 code]) ∧ Below w'.heap.size w' w'')) :
    Calls Tryd.prog 5 #[.slice a n0 c, .slice ba nb cb] w fun e w' => e = .returned (.bool true) ∧ Below w.heap.size w w' := by
  obtain ⟨i0, hi, hz0, hz1, hz2⟩ := info_parts u8_info
  have hl : Hid (L.length = n * 13) := Lib.hid (by have := hs.1; rwa [ints_len] at this)
  have HS := Lib.hid hs
  have HF := Lib.hid hf
  have AL := Lib.hid (alive31 w hT)
  have HT := Lib.hid (fun w' (hb : Below w.heap.size w w') => hT.keep hb (glob_lt hT))
  have eb : (nb : Int).tmod 21 = 0 := by rw [Int.tmod_eq_emod_of_nonneg (by omega)]; omega
  have eg : ¬ (5376 : Int) < nb := by omega
  have ec : (code == 0) = false := by simpa using hcode
  clear hmc hsm hcode
  have HLN := Lib.hid hln
  have HMN := Lib.hid hn
  clear hs hf hT hnbm hln hn
  go_enter Tryd.func5, Tryd.ntmps5
  go_wp2_with fail
  refine AL.out.mono ?_
  rintro e w2 ⟨rfl, hb2⟩
  go_wp2_with fail
  refine (few31_any a n0 c _ hnc).mono ?_
  rintro e w2' ⟨rfl, hw2⟩
  subst hw2
  rw [← HMN.out]
  have HB2 := Lib.hid hb2
  clear hb2 AL
  go_wp2_with fail
  refine (all31_long a n c _ HLN.out).mono ?_
  rintro e w3 ⟨rfl, hw3⟩
  subst hw3
  have HB3 := HB2
  clear HB2
  go_wp2_with fail
  refine (HBAD.out _ HB3.out).mono ?_
  rintro e w4 ⟨rfl, hb4⟩
  have HB4 := Lib.hid (HB3.out.trans (hb4.mono HB3.out.size))
  clear hb4 HB3 HBAD
  go_upto_region 12 with fail
  clear eb eg ec
  have hln' : (256 : Int) < n := by have := HLN.out; omega
  go_wp2_with fail
  go_ret
  exact ⟨rfl, HB4.out⟩
set_option maxRecDepth 100000 in
set_option maxHeartbeats 8000000 in
theorem lists31_bc_no (a ba : Option Addr) (n0 n c nb cb : Nat) (L : List Int) (w : World) (hs : Sl w a n 13 (ints L)) (hn : n = min n0 300) (hnc : n0 ≤ c) (hnbm : nb ≤ 9223372036854775807) (hf : ∀ z ∈ L, fits z = true) (hT : TabF w) (hln : n ≤ 256) (j : Nat) (hj : j < n) (hok : ∀ i, i < j → chkX (rAt 13 L i) = 0) (hno : chkX (rAt 13 L j) ≠ 0) (hmc : nb % 21 = 0) (hsm : nb ≤ 5376) (code : Int) (hcode : code ≠ 0) (HBAD : Hid (∀ w', Below w.heap.size w w' → Calls Tryd.prog 16 #[.slice ba nb cb] w' fun e w'' => e = .returned (.tuple #[.slice none 0 0, .int .i64 code]) ∧ Below w'.heap.size w' w'')) :
    Calls Tryd.prog 5 #[.slice a n0 c, .slice ba nb cb] w fun e w' => e = .returned (.bool true) ∧ Below w.heap.size w w' := by
  obtain ⟨i0, hi, hz0, hz1, hz2⟩ := info_parts u8_info
  have hl : Hid (L.length = n * 13) := Lib.hid (by have := hs.1; rwa [ints_len] at this)
  have HS := Lib.hid hs
  have HF := Lib.hid hf
  have AL := Lib.hid (alive31 w hT)
  have HT := Lib.hid (fun w' (hb : Below w.heap.size w w') => hT.keep hb (glob_lt hT))
  have eb : (nb : Int).tmod 21 = 0 := by rw [Int.tmod_eq_emod_of_nonneg (by omega)]; omega
  have eg : ¬ (5376 : Int) < nb := by omega
  have ec : (code == 0) = false := by simpa using hcode
  clear hmc hsm hcode
  have HOK := Lib.hid hok
  clear hok
  have HNO := Lib.hid hno
  clear hno
  have HLN := Lib.hid hln
  have HMN := Lib.hid hn
  clear hs hf hT hnbm hln hn
  go_enter Tryd.func5, Tryd.ntmps5
  go_wp2_with fail
  refine AL.out.mono ?_
  rintro e w2 ⟨rfl, hb2⟩
  go_wp2_with fail
  refine (few31_any a n0 c _ hnc).mono ?_
  rintro e w2' ⟨rfl, hw2⟩
  subst hw2
  rw [← HMN.out]
  have HB2 := Lib.hid hb2
  clear hb2 AL
  go_wp2_with fail
  have CA := all31_no a n c L _ (HS.out.keep HB2.out) HF.out (HT.out _ HB2.out) HLN.out j hj HOK.out HNO.out
  obtain ⟨cj, hcj⟩ : ∃ cj, cj = chkX (rAt 13 L j) := ⟨_, rfl⟩
  have ECJ := Lib.hid hcj
  rw [← hcj] at CA HNO
  clear hcj
  refine CA.mono ?_
  rintro e w3 ⟨rfl, hb3⟩
  have HB3 := Lib.hid (HB2.out.trans (hb3.mono HB2.out.size))
  clear hb3 CA
  clear HB2
  go_wp2_with fail
  refine (HBAD.out _ HB3.out).mono ?_
  rintro e w4 ⟨rfl, hb4⟩
  have HB4 := Lib.hid (HB3.out.trans (hb4.mono HB3.out.size))
  clear hb4 HB3 HBAD
  go_upto_region 12 with fail
  clear eb eg ec
  have hln' : ¬ (256 : Int) < n := by have := HLN.out; omega
  have HSX := Lib.hid (HS.out.keep HB4.out)
  go_wp2_with fail
  clear hln'
  go_loopg [11, 12] j (fun qq s11 s12 wr => ∃ i : Nat, qq + i = j ∧ s12 = .int .i64 i ∧ Hid (wr.ownsRow w4.heap.size 5 1 s11 (21 * i) (bcells (encXs L i))) ∧ Hid (Below w4.heap.size w4 wr))
  case atStart => exact ⟨0, by omega, rfl, Lib.hid (World.ownsRow_nil _ _ _ _), Lib.hid (Below.refl _ _)⟩
  case round =>
    obtain ⟨i, hqi, rfl, HO, HBr⟩ := hrel
    by_cases hin0 : i < j
    · obtain ⟨b, off, rfl, hb, hr0⟩ := rAt_at HSX.out (show i < n by omega)
      have L13 : Hid ((rAt 13 L i).length = 13) := Lib.hid (rAt_len hl.out (by omega))
      have FI : Hid (∀ z ∈ rAt 13 L i, fits z = true) := Lib.hid fun z hz => HF.out z (rAt_mem hz)
      have rr := range_keepG hr0 HBr.out hb
      have RR := Lib.hid hr0
      have hi0 : (0 : Int) ≤ i := by omega
      have hin : (i : Int) < n := by omega
      have M := Lib.hid (fun w => show Calls Tryd.prog 8 #[.agg (ints (rAt 13 L i)).toArray] w fun e w' => e = .returned (.int .i64 0) ∧ Below w.heap.size w w' from by have := rchkx_any (rAt 13 L i) w L13.out FI.out; rwa [HOK.out i hin0] at this)
      have P := Lib.hid (fun w => rputx_any (rAt 13 L i) w L13.out)
      have HEN := Lib.hid (show encXs L (i + 1) = encXs L i ++ encX (rAt 13 L i) from rfl)
      have HQ := Lib.hid (And.intro hqi hin0)
      have hib : (i : Int) < 1000 := by have := HLN.out; omega
      clear hr0 hqi hin0
      generalize rAt 13 L i = x at *
      have TX : RowT 27 (ints x).length := by rw [ints_len, L13.out]; exact rowS
      go_wp2_with (first
        | ((with_reducible refine ld_row rr TX ?_ ?_ ?_); (· rfl); (· rfl); (simp only [Act.put, List.setIfInBounds_toArray, List.set_cons_zero, List.set_cons_succ])))
      refine (M.out _).mono ?_
      rintro e w6 ⟨rfl, hb6⟩
      have HO6 := Lib.hid (own_stay HO.out hb6)
      have HB6 := Lib.hid (HBr.out.trans (hb6.mono HBr.out.size))
      have rr6 := range_keepG RR.out HB6.out hb
      clear hb6 rr HO HBr
      go_wp2_with (first
        | ((with_reducible refine ld_row rr6 TX ?_ ?_ ?_); (· rfl); (· rfl); (simp only [Act.put, List.setIfInBounds_toArray, List.set_cons_zero, List.set_cons_succ])))
      refine (P.out _).mono ?_
      rintro e w7 ⟨a', c', rfl, hsb7, hb7⟩
      have HB7 := Lib.hid (HB6.out.trans (hb7.mono HB6.out.size))
      have HO7 := Lib.hid (own_stay HO6.out hb7)
      have HSB7 := Lib.hid hsb7
      have hnl : a' = none → c' = 0 := fun h0 => by
        rcases hsb7.2 with h1 | ⟨b1, o1, h1, _⟩
        · omega
        · rw [h0] at h1; cases h1
      clear hsb7 hb7 HO6 rr6
      go_wp2_with (first
        | (at_builtin; refine app_any _ _ 30 5 i0 (.int .u8 0) 1 1 Tryd.underlying30 hi hz0 hz1 hz2 rfl (by decide) rfl rfl rfl HO7.out rfl HSB7.out hnl (fun u hu => bcells_one hu) ?c1 ?c2 HB7.out.size ?_))
      case c1 => simp only [maxLen]; have := HQ.out; have := HLN.out; omega
      case c2 => have := HQ.out; have := HLN.out; omega
      intro v8 w8 ho8 hb8
      rw [← bcells_add, ← HEN.out, show 21 * i + 21 = 21 * (i + 1) by omega] at ho8
      have HO8 := Lib.hid ho8
      have HB8 := Lib.hid (HB7.out.trans hb8)
      clear ho8 hb8 HO7 HSB7
      go_wp2_with fail
      go_roundg (gk - 1)
      case measure => have := HQ.out; omega
      case rel => exact ⟨i + 1, by have := HQ.out; omega, by have h1 := HQ.out; have h2 := HLN.out; go_num, HO8, HB8⟩
    · have hij : i = j := by omega
      subst hij
      obtain ⟨b, off, rfl, hb, hr0⟩ := rAt_at HSX.out hj
      have L13 : Hid ((rAt 13 L i).length = 13) := Lib.hid (rAt_len hl.out hj)
      have FI : Hid (∀ z ∈ rAt 13 L i, fits z = true) := Lib.hid fun z hz => HF.out z (rAt_mem hz)
      have rr := range_keepG hr0 HBr.out hb
      have hi0 : (0 : Int) ≤ i := by omega
      have hin : (i : Int) < n := by omega
      have M := Lib.hid (fun w => show Calls Tryd.prog 8 #[.agg (ints (rAt 13 L i)).toArray] w fun e w' => e = .returned (.int .i64 cj) ∧ Below w.heap.size w w' from by have := rchkx_any (rAt 13 L i) w L13.out FI.out; rwa [← ECJ.out] at this)
      have hcb : (cj != 0) = true := by simpa using HNO.out
      clear hr0 hqi hin0 hj
      clear ECJ
      generalize rAt 13 L i = x at *
      have TX : RowT 27 (ints x).length := by rw [ints_len, L13.out]; exact rowS
      go_wp2_with (first
        | ((with_reducible refine ld_row rr TX ?_ ?_ ?_); (· rfl); (· rfl); (simp only [Act.put, List.setIfInBounds_toArray, List.set_cons_zero, List.set_cons_succ])))
      refine (M.out _).mono ?_
      rintro e w6 ⟨rfl, hb6⟩
      go_wp2_with fail
      go_ret
      exact ⟨rfl, HB4.out.trans ((HBr.out.trans (hb6.mono HBr.out.size)).mono HB4.out.size)⟩
set_option maxRecDepth 100000 in
set_option maxHeartbeats 8000000 in
theorem lists31_bc_yes (a ba : Option Addr) (n0 n c nb cb : Nat) (L : List Int) (w : World) (hs : Sl w a n 13 (ints L)) (hn : n = min n0 300) (hnc : n0 ≤ c) (hnbm : nb ≤ 9223372036854775807) (hf : ∀ z ∈ L, fits z = true) (hT : TabF w) (hln : n ≤ 256) (hok : ∀ i, i < n → chkX (rAt 13 L i) = 0) (hmc : nb % 21 = 0) (hsm : nb ≤ 5376) (code : Int) (hcode : code ≠ 0) (HBAD : Hid (∀ w', Below w.heap.size w w' → Calls Tryd.prog 16 #[.slice ba nb cb] w' fun e w'' => e = .returned (.tuple #[.slice none 0 0, .int .i64 code]) ∧ Below w'.heap.size w' w'')) :
    Calls Tryd.prog 5 #[.slice a n0 c, .slice ba nb cb] w fun e w' => e = .returned (.bool true) ∧ Below w.heap.size w w' := by
  obtain ⟨i0, hi, hz0, hz1, hz2⟩ := info_parts u8_info
  have hl : Hid (L.length = n * 13) := Lib.hid (by have := hs.1; rwa [ints_len] at this)
  have HS := Lib.hid hs
  have HF := Lib.hid hf
  have AL := Lib.hid (alive31 w hT)
  have HT := Lib.hid (fun w' (hb : Below w.heap.size w w') => hT.keep hb (glob_lt hT))
  have eb : (nb : Int).tmod 21 = 0 := by rw [Int.tmod_eq_emod_of_nonneg (by omega)]; omega
  have eg : ¬ (5376 : Int) < nb := by omega
  have ec : (code == 0) = false := by simpa using hcode
  clear hmc hsm hcode
  have HOK := Lib.hid hok
  clear hok
  have HLN := Lib.hid hln
  have HMN := Lib.hid hn
  clear hs hf hT hnbm hln hn
  go_enter Tryd.func5, Tryd.ntmps5
  go_wp2_with fail
  refine AL.out.mono ?_
  rintro e w2 ⟨rfl, hb2⟩
  go_wp2_with fail
  refine (few31_any a n0 c _ hnc).mono ?_
  rintro e w2' ⟨rfl, hw2⟩
  subst hw2
  rw [← HMN.out]
  have HB2 := Lib.hid hb2
  clear hb2 AL
  go_wp2_with fail
  refine (all31_yes a n c L _ (HS.out.keep HB2.out) HF.out (HT.out _ HB2.out) HLN.out HOK.out).mono ?_
  rintro e w3 ⟨pa, pc, rfl, hsp, hpc, hb3⟩
  have HPC := Lib.hid hpc
  clear hpc
  have HB3 := Lib.hid (HB2.out.trans (hb3.mono HB2.out.size))
  have HSP3 := Lib.hid hsp
  clear hb3 hsp
  clear HB2
  obtain ⟨np, hnp⟩ : ∃ np, np = 21 * n := ⟨_, rfl⟩
  have HNP := Lib.hid hnp
  rw [← hnp] at HSP3 HPC ⊢
  clear hnp
  go_wp2_with fail
  refine (HBAD.out _ HB3.out).mono ?_
  rintro e w4 ⟨rfl, hb4⟩
  have HB4 := Lib.hid (HB3.out.trans (hb4.mono HB3.out.size))
  have HSP4 := Lib.hid (HSP3.out.keep hb4)
  clear HSP3
  clear hb4 HB3 HBAD
  go_upto_region 12 with fail
  clear eb eg ec
  have hln' : ¬ (256 : Int) < n := by have := HLN.out; omega
  have HSX := Lib.hid (HS.out.keep HB4.out)
  go_wp2_with fail
  clear hln'
  go_loopg [11, 12] n (fun qq s11 s12 wr => ∃ i : Nat, qq + i = n ∧ s12 = .int .i64 i ∧ Hid (wr.ownsRow w4.heap.size 5 1 s11 (21 * i) (bcells (encXs L i))) ∧ Hid (Below w4.heap.size w4 wr))
  case atStart => exact ⟨0, by omega, rfl, Lib.hid (World.ownsRow_nil _ _ _ _), Lib.hid (Below.refl _ _)⟩
  case round =>
    obtain ⟨i, hqi, rfl, HO, HBr⟩ := hrel
    by_cases hin0 : i < n
    · obtain ⟨b, off, rfl, hb, hr0⟩ := rAt_at HSX.out (show i < n by omega)
      have L13 : Hid ((rAt 13 L i).length = 13) := Lib.hid (rAt_len hl.out (by omega))
      have FI : Hid (∀ z ∈ rAt 13 L i, fits z = true) := Lib.hid fun z hz => HF.out z (rAt_mem hz)
      have rr := range_keepG hr0 HBr.out hb
      have RR := Lib.hid hr0
      have hi0 : (0 : Int) ≤ i := by omega
      have hin : (i : Int) < n := by omega
      have M := Lib.hid (fun w => show Calls Tryd.prog 8 #[.agg (ints (rAt 13 L i)).toArray] w fun e w' => e = .returned (.int .i64 0) ∧ Below w.heap.size w w' from by have := rchkx_any (rAt 13 L i) w L13.out FI.out; rwa [HOK.out i hin0] at this)
      have P := Lib.hid (fun w => rputx_any (rAt 13 L i) w L13.out)
      have HEN := Lib.hid (show encXs L (i + 1) = encXs L i ++ encX (rAt 13 L i) from rfl)
      have HQ := Lib.hid (And.intro hqi hin0)
      have hib : (i : Int) < 1000 := by have := HLN.out; omega
      clear hr0 hqi hin0
      generalize rAt 13 L i = x at *
      have TX : RowT 27 (ints x).length := by rw [ints_len, L13.out]; exact rowS
      go_wp2_with (first
        | ((with_reducible refine ld_row rr TX ?_ ?_ ?_); (· rfl); (· rfl); (simp only [Act.put, List.setIfInBounds_toArray, List.set_cons_zero, List.set_cons_succ])))
      refine (M.out _).mono ?_
      rintro e w6 ⟨rfl, hb6⟩
      have HO6 := Lib.hid (own_stay HO.out hb6)
      have HB6 := Lib.hid (HBr.out.trans (hb6.mono HBr.out.size))
      have rr6 := range_keepG RR.out HB6.out hb
      clear hb6 rr HO HBr
      go_wp2_with (first
        | ((with_reducible refine ld_row rr6 TX ?_ ?_ ?_); (· rfl); (· rfl); (simp only [Act.put, List.setIfInBounds_toArray, List.set_cons_zero, List.set_cons_succ])))
      refine (P.out _).mono ?_
      rintro e w7 ⟨a', c', rfl, hsb7, hb7⟩
      have HB7 := Lib.hid (HB6.out.trans (hb7.mono HB6.out.size))
      have HO7 := Lib.hid (own_stay HO6.out hb7)
      have HSB7 := Lib.hid hsb7
      have hnl : a' = none → c' = 0 := fun h0 => by
        rcases hsb7.2 with h1 | ⟨b1, o1, h1, _⟩
        · omega
        · rw [h0] at h1; cases h1
      clear hsb7 hb7 HO6 rr6
      go_wp2_with (first
        | (at_builtin; refine app_any _ _ 30 5 i0 (.int .u8 0) 1 1 Tryd.underlying30 hi hz0 hz1 hz2 rfl (by decide) rfl rfl rfl HO7.out rfl HSB7.out hnl (fun u hu => bcells_one hu) ?c1 ?c2 HB7.out.size ?_))
      case c1 => simp only [maxLen]; have := HQ.out; have := HLN.out; omega
      case c2 => have := HQ.out; have := HLN.out; omega
      intro v8 w8 ho8 hb8
      rw [← bcells_add, ← HEN.out, show 21 * i + 21 = 21 * (i + 1) by omega] at ho8
      have HO8 := Lib.hid ho8
      have HB8 := Lib.hid (HB7.out.trans hb8)
      clear ho8 hb8 HO7 HSB7
      go_wp2_with fail
      go_roundg (gk - 1)
      case measure => have := HQ.out; omega
      case rel => exact ⟨i + 1, by have := HQ.out; omega, by have h1 := HQ.out; have h2 := HLN.out; go_num, HO8, HB8⟩
    · have hni : (n : Int) ≤ i := by omega
      have hin : i = n := by omega
      rw [hin] at HO
      obtain ⟨xa9, xc9, rfl, _, _, hxs9⟩ := Sl.own HO.out
      have HX9 := Lib.hid hxs9
      have HP9 := Lib.hid (HSP4.out.keep HBr.out)
      have HBB := Lib.hid (HB4.out.trans (HBr.out.mono HB4.out.size))
      have HI9 := Lib.hid hin
      clear hxs9 HO hqi hin0 hin
      rw [← HNP.out] at HX9 ⊢
      go_wp2_with fail
      have SF := Lib.hid (fun w' (hT' : TabF w') => steps_full pa n pc L w' hl.out HLN.out HF.out hT' HOK.out)
      rw [← HNP.out] at SF
      refine (SF.out _ (HT.out _ HBB.out) HP9.out HPC.out).mono ?_
      rintro e wa ⟨xb, xbc, rfl, hxb, hba⟩
      have HXB := Lib.hid hxb
      have cva := conv_bytes (HP9.out.keep hba) pc
      have cvb := conv_bytes (HX9.out.keep hba) xc9
      have HBa := Lib.hid (HBB.out.trans (hba.mono HBB.out.size))
      have HSa := Lib.hid (HS.out.keep HBa.out)
      clear hxb hba HX9 HP9 SF
      go_wp2_with fail
      refine (steps_same xb a n xbc c L _ HXB.out HSa.out (by have := HLN.out; omega) HF.out).mono ?_
      rintro e wb ⟨rfl, hbb⟩
      go_wp2_with fail
      go_ret
      exact ⟨rfl, HBa.out.trans (hbb.mono HBa.out.size)⟩
set_option maxRecDepth 100000 in
set_option maxHeartbeats 8000000 in
theorem lists31_good_long (a ba : Option Addr) (n0 n c nb cb : Nat) (L : List Int) (w : World) (hs : Sl w a n 13 (ints L)) (hn : n = min n0 300) (hnc : n0 ≤ c) (hnbm : nb ≤ 9223372036854775807) (hf : ∀ z ∈ L, fits z = true) (hT : TabF w) (hln : 256 < n) (k : Nat) (X : List Int) (bs : List UInt8) (hk : k ≤ 256) (hX : ∀ i, i < k → chkX (rAt 13 X i) = 0) (hXf : ∀ z ∈ X, fits z = true) (hE : encXs X k = bs) (hnbk : nb = 21 * k) (hsb : Sl w ba nb 1 (bcells bs)) (HGOOD : Hid (∀ w', Below w.heap.size w w' → Calls Tryd.prog 16 #[.slice ba nb cb] w' fun e w'' => ∃ v, e = .returned (.tuple #[v, .int .i64 0]) ∧ w''.ownsRow w'.heap.size 27 13 v k (ints X) ∧ Below w'.heap.size w' w'')) :
    Calls Tryd.prog 5 #[.slice a n0 c, .slice ba nb cb] w fun e w' => e = .returned (.bool true) ∧ Below w.heap.size w w' := by
  obtain ⟨i0, hi, hz0, hz1, hz2⟩ := info_parts u8_info
  have hl : Hid (L.length = n * 13) := Lib.hid (by have := hs.1; rwa [ints_len] at this)
  have HS := Lib.hid hs
  have HF := Lib.hid hf
  have AL := Lib.hid (alive31 w hT)
  have HT := Lib.hid (fun w' (hb : Below w.heap.size w w') => hT.keep hb (glob_lt hT))
  have HX := Lib.hid hX
  have HXF := Lib.hid hXf
  have HE := Lib.hid hE
  have HSB := Lib.hid hsb
  have HKB := Lib.hid hk
  clear hX hE hsb hXf hk hnbk
  have HLN := Lib.hid hln
  have HMN := Lib.hid hn
  clear hs hf hT hnbm hln hn
  go_enter Tryd.func5, Tryd.ntmps5
  go_wp2_with fail
  refine AL.out.mono ?_
  rintro e w2 ⟨rfl, hb2⟩
  go_wp2_with fail
  refine (few31_any a n0 c _ hnc).mono ?_
  rintro e w2' ⟨rfl, hw2⟩
  subst hw2
  rw [← HMN.out]
  have HB2 := Lib.hid hb2
  clear hb2 AL
  go_wp2_with fail
  refine (all31_long a n c _ HLN.out).mono ?_
  rintro e w3 ⟨rfl, hw3⟩
  subst hw3
  have HB3 := HB2
  clear HB2
  go_wp2_with fail
  refine (HGOOD.out _ HB3.out).mono ?_
  rintro e w4 ⟨v, rfl, ho, hb4⟩
  obtain ⟨xa, xc, rfl, _, _, hxs⟩ := Sl.own ho
  have HB4 := Lib.hid (HB3.out.trans (hb4.mono HB3.out.size))
  have HXS := Lib.hid hxs
  clear hb4 ho HB3 HGOOD hxs
  go_wp2_with fail
  refine (all31_yes xa k xc X _ HXS.out HXF.out (HT.out _ HB4.out) HKB.out HX.out).mono ?_
  rintro e w5 ⟨ga, gc, rfl, hgs, _, hb5⟩
  rw [HE.out] at hgs
  have HB5 := Lib.hid (HB4.out.trans (hb5.mono HB4.out.size))
  have cv1 := conv_bytes hgs gc
  have cv2 := conv_bytes (HSB.out.keep HB5.out) cb
  clear hb5 hgs HB4 HXS
  go_upto_region 12 with fail
  clear cv1 cv2
  have hln' : (256 : Int) < n := by have := HLN.out; omega
  go_wp2_with fail
  go_ret
  exact ⟨rfl, HB5.out⟩
set_option maxRecDepth 100000 in
set_option maxHeartbeats 8000000 in
theorem lists31_good_no (a ba : Option Addr) (n0 n c nb cb : Nat) (L : List Int) (w : World) (hs : Sl w a n 13 (ints L)) (hn : n = min n0 300) (hnc : n0 ≤ c) (hnbm : nb ≤ 9223372036854775807) (hf : ∀ z ∈ L, fits z = true) (hT : TabF w) (hln : n ≤ 256) (j : Nat) (hj : j < n) (hok : ∀ i, i < j → chkX (rAt 13 L i) = 0) (hno : chkX (rAt 13 L j) ≠ 0) (k : Nat) (X : List Int) (bs : List UInt8) (hk : k ≤ 256) (hX : ∀ i, i < k → chkX (rAt 13 X i) = 0) (hXf : ∀ z ∈ X, fits z = true) (hE : encXs X k = bs) (hnbk : nb = 21 * k) (hsb : Sl w ba nb 1 (bcells bs)) (HGOOD : Hid (∀ w', Below w.heap.size w w' → Calls Tryd.prog 16 #[.slice ba nb cb] w' fun e w'' => ∃ v, e = .returned (.tuple #[v, .int .i64 0]) ∧ w''.ownsRow w'.heap.size 27 13 v k (ints X) ∧ Below w'.heap.size w' w'')) :
    Calls Tryd.prog 5 #[.slice a n0 c, .slice ba nb cb] w fun e w' => e = .returned (.bool true) ∧ Below w.heap.size w w' := by
  obtain ⟨i0, hi, hz0, hz1, hz2⟩ := info_parts u8_info
  have hl : Hid (L.length = n * 13) := Lib.hid (by have := hs.1; rwa [ints_len] at this)
  have HS := Lib.hid hs
  have HF := Lib.hid hf
  have AL := Lib.hid (alive31 w hT)
  have HT := Lib.hid (fun w' (hb : Below w.heap.size w w') => hT.keep hb (glob_lt hT))
  have HOK := Lib.hid hok
  clear hok
  have HNO := Lib.hid hno
  clear hno
  have HX := Lib.hid hX
  have HXF := Lib.hid hXf
  have HE := Lib.hid hE
  have HSB := Lib.hid hsb
  have HKB := Lib.hid hk
  clear hX hE hsb hXf hk hnbk
  have HLN := Lib.hid hln
  have HMN := Lib.hid hn
  clear hs hf hT hnbm hln hn
  go_enter Tryd.func5, Tryd.ntmps5
  go_wp2_with fail
  refine AL.out.mono ?_
  rintro e w2 ⟨rfl, hb2⟩
  go_wp2_with fail
  refine (few31_any a n0 c _ hnc).mono ?_
  rintro e w2' ⟨rfl, hw2⟩
  subst hw2
  rw [← HMN.out]
  have HB2 := Lib.hid hb2
  clear hb2 AL
  go_wp2_with fail
  have CA := all31_no a n c L _ (HS.out.keep HB2.out) HF.out (HT.out _ HB2.out) HLN.out j hj HOK.out HNO.out
  obtain ⟨cj, hcj⟩ : ∃ cj, cj = chkX (rAt 13 L j) := ⟨_, rfl⟩
  have ECJ := Lib.hid hcj
  rw [← hcj] at CA HNO
  clear hcj
  refine CA.mono ?_
  rintro e w3 ⟨rfl, hb3⟩
  have HB3 := Lib.hid (HB2.out.trans (hb3.mono HB2.out.size))
  clear hb3 CA
  clear HB2
  go_wp2_with fail
  refine (HGOOD.out _ HB3.out).mono ?_
  rintro e w4 ⟨v, rfl, ho, hb4⟩
  obtain ⟨xa, xc, rfl, _, _, hxs⟩ := Sl.own ho
  have HB4 := Lib.hid (HB3.out.trans (hb4.mono HB3.out.size))
  have HXS := Lib.hid hxs
  clear hb4 ho HB3 HGOOD hxs
  go_wp2_with fail
  refine (all31_yes xa k xc X _ HXS.out HXF.out (HT.out _ HB4.out) HKB.out HX.out).mono ?_
  rintro e w5 ⟨ga, gc, rfl, hgs, _, hb5⟩
  rw [HE.out] at hgs
  have HB5 := Lib.hid (HB4.out.trans (hb5.mono HB4.out.size))
  have cv1 := conv_bytes hgs gc
  have cv2 := conv_bytes (HSB.out.keep HB5.out) cb
  clear hb5 hgs HB4 HXS
  go_upto_region 12 with fail
  clear cv1 cv2
  have hln' : ¬ (256 : Int) < n := by have := HLN.out; omega
  have HSX := Lib.hid (HS.out.keep HB5.out)
  go_wp2_with fail
  clear hln'
  go_loopg [11, 12] j (fun qq s11 s12 wr => ∃ i : Nat, qq + i = j ∧ s12 = .int .i64 i ∧ Hid (wr.ownsRow w5.heap.size 5 1 s11 (21 * i) (bcells (encXs L i))) ∧ Hid (Below w5.heap.size w5 wr))
  case atStart => exact ⟨0, by omega, rfl, Lib.hid (World.ownsRow_nil _ _ _ _), Lib.hid (Below.refl _ _)⟩
  case round =>
    obtain ⟨i, hqi, rfl, HO, HBr⟩ := hrel
    by_cases hin0 : i < j
    · obtain ⟨b, off, rfl, hb, hr0⟩ := rAt_at HSX.out (show i < n by omega)
      have L13 : Hid ((rAt 13 L i).length = 13) := Lib.hid (rAt_len hl.out (by omega))
      have FI : Hid (∀ z ∈ rAt 13 L i, fits z = true) := Lib.hid fun z hz => HF.out z (rAt_mem hz)
      have rr := range_keepG hr0 HBr.out hb
      have RR := Lib.hid hr0
      have hi0 : (0 : Int) ≤ i := by omega
      have hin : (i : Int) < n := by omega
      have M := Lib.hid (fun w => show Calls Tryd.prog 8 #[.agg (ints (rAt 13 L i)).toArray] w fun e w' => e = .returned (.int .i64 0) ∧ Below w.heap.size w w' from by have := rchkx_any (rAt 13 L i) w L13.out FI.out; rwa [HOK.out i hin0] at this)
      have P := Lib.hid (fun w => rputx_any (rAt 13 L i) w L13.out)
      have HEN := Lib.hid (show encXs L (i + 1) = encXs L i ++ encX (rAt 13 L i) from rfl)
      have HQ := Lib.hid (And.intro hqi hin0)
      have hib : (i : Int) < 1000 := by have := HLN.out; omega
      clear hr0 hqi hin0
      generalize rAt 13 L i = x at *
      have TX : RowT 27 (ints x).length := by rw [ints_len, L13.out]; exact rowS
      go_wp2_with (first
        | ((with_reducible refine ld_row rr TX ?_ ?_ ?_); (· rfl); (· rfl); (simp only [Act.put, List.setIfInBounds_toArray, List.set_cons_zero, List.set_cons_succ])))
      refine (M.out _).mono ?_
      rintro e w6 ⟨rfl, hb6⟩
      have HO6 := Lib.hid (own_stay HO.out hb6)
      have HB6 := Lib.hid (HBr.out.trans (hb6.mono HBr.out.size))
      have rr6 := range_keepG RR.out HB6.out hb
      clear hb6 rr HO HBr
      go_wp2_with (first
        | ((with_reducible refine ld_row rr6 TX ?_ ?_ ?_); (· rfl); (· rfl); (simp only [Act.put, List.setIfInBounds_toArray, List.set_cons_zero, List.set_cons_succ])))
      refine (P.out _).mono ?_
      rintro e w7 ⟨a', c', rfl, hsb7, hb7⟩
      have HB7 := Lib.hid (HB6.out.trans (hb7.mono HB6.out.size))
      have HO7 := Lib.hid (own_stay HO6.out hb7)
      have HSB7 := Lib.hid hsb7
      have hnl : a' = none → c' = 0 := fun h0 => by
        rcases hsb7.2 with h1 | ⟨b1, o1, h1, _⟩
        · omega
        · rw [h0] at h1; cases h1
      clear hsb7 hb7 HO6 rr6
      go_wp2_with (first
        | (at_builtin; refine app_any _ _ 30 5 i0 (.int .u8 0) 1 1 Tryd.underlying30 hi hz0 hz1 hz2 rfl (by decide) rfl rfl rfl HO7.out rfl HSB7.out hnl (fun u hu => bcells_one hu) ?c1 ?c2 HB7.out.size ?_))
      case c1 => simp only [maxLen]; have := HQ.out; have := HLN.out; omega
      case c2 => have := HQ.out; have := HLN.out; omega
      intro v8 w8 ho8 hb8
      rw [← bcells_add, ← HEN.out, show 21 * i + 21 = 21 * (i + 1) by omega] at ho8
      have HO8 := Lib.hid ho8
      have HB8 := Lib.hid (HB7.out.trans hb8)
      clear ho8 hb8 HO7 HSB7
      go_wp2_with fail
      go_roundg (gk - 1)
      case measure => have := HQ.out; omega
      case rel => exact ⟨i + 1, by have := HQ.out; omega, by have h1 := HQ.out; have h2 := HLN.out; go_num, HO8, HB8⟩
    · have hij : i = j := by omega
      subst hij
      obtain ⟨b, off, rfl, hb, hr0⟩ := rAt_at HSX.out hj
      have L13 : Hid ((rAt 13 L i).length = 13) := Lib.hid (rAt_len hl.out hj)
      have FI : Hid (∀ z ∈ rAt 13 L i, fits z = true) := Lib.hid fun z hz => HF.out z (rAt_mem hz)
      have rr := range_keepG hr0 HBr.out hb
      have hi0 : (0 : Int) ≤ i := by omega
      have hin : (i : Int) < n := by omega
      have M := Lib.hid (fun w => show Calls Tryd.prog 8 #[.agg (ints (rAt 13 L i)).toArray] w fun e w' => e = .returned (.int .i64 cj) ∧ Below w.heap.size w w' from by have := rchkx_any (rAt 13 L i) w L13.out FI.out; rwa [← ECJ.out] at this)
      have hcb : (cj != 0) = true := by simpa using HNO.out
      clear hr0 hqi hin0 hj
      clear ECJ
      generalize rAt 13 L i = x at *
      have TX : RowT 27 (ints x).length := by rw [ints_len, L13.out]; exact rowS
      go_wp2_with (first
        | ((with_reducible refine ld_row rr TX ?_ ?_ ?_); (· rfl); (· rfl); (simp only [Act.put, List.setIfInBounds_toArray, List.set_cons_zero, List.set_cons_succ])))
      refine (M.out _).mono ?_
      rintro e w6 ⟨rfl, hb6⟩
      go_wp2_with fail
      go_ret
      exact ⟨rfl, HB5.out.trans ((HBr.out.trans (hb6.mono HBr.out.size)).mono HB5.out.size)⟩
set_option maxRecDepth 100000 in
set_option maxHeartbeats 8000000 in
theorem lists31_good_yes (a ba : Option Addr) (n0 n c nb cb : Nat) (L : List Int) (w : World) (hs : Sl w a n 13 (ints L)) (hn : n = min n0 300) (hnc : n0 ≤ c) (hnbm : nb ≤ 9223372036854775807) (hf : ∀ z ∈ L, fits z = true) (hT : TabF w) (hln : n ≤ 256) (hok : ∀ i, i < n → chkX (rAt 13 L i) = 0) (k : Nat) (X : List Int) (bs : List UInt8) (hk : k ≤ 256) (hX : ∀ i, i < k → chkX (rAt 13 X i) = 0) (hXf : ∀ z ∈ X, fits z = true) (hE : encXs X k = bs) (hnbk : nb = 21 * k) (hsb : Sl w ba nb 1 (bcells bs)) (HGOOD : Hid (∀ w', Below w.heap.size w w' → Calls Tryd.prog 16 #[.slice ba nb cb] w' fun e w'' => ∃ v, e = .returned (.tuple #[v, .int .i64 0]) ∧ w''.ownsRow w'.heap.size 27 13 v k (ints X) ∧ Below w'.heap.size w' w'')) :
    Calls Tryd.prog 5 #[.slice a n0 c, .slice ba nb cb] w fun e w' => e = .returned (.bool true) ∧ Below w.heap.size w w' := by
  obtain ⟨i0, hi, hz0, hz1, hz2⟩ := info_parts u8_info
  have hl : Hid (L.length = n * 13) := Lib.hid (by have := hs.1; rwa [ints_len] at this)
  have HS := Lib.hid hs
  have HF := Lib.hid hf
  have AL := Lib.hid (alive31 w hT)
  have HT := Lib.hid (fun w' (hb : Below w.heap.size w w') => hT.keep hb (glob_lt hT))
  have HOK := Lib.hid hok
  clear hok
  have HX := Lib.hid hX
  have HXF := Lib.hid hXf
  have HE := Lib.hid hE
  have HSB := Lib.hid hsb
  have HKB := Lib.hid hk
  clear hX hE hsb hXf hk hnbk
  have HLN := Lib.hid hln
  have HMN := Lib.hid hn
  clear hs hf hT hnbm hln hn
  go_enter Tryd.func5, Tryd.ntmps5
  go_wp2_with fail
  refine AL.out.mono ?_
  rintro e w2 ⟨rfl, hb2⟩
  go_wp2_with fail
  refine (few31_any a n0 c _ hnc).mono ?_
  rintro e w2' ⟨rfl, hw2⟩
  subst hw2
  rw [← HMN.out]
  have HB2 := Lib.hid hb2
  clear hb2 AL
  go_wp2_with fail
  refine (all31_yes a n c L _ (HS.out.keep HB2.out) HF.out (HT.out _ HB2.out) HLN.out HOK.out).mono ?_
  rintro e w3 ⟨pa, pc, rfl, hsp, hpc, hb3⟩
  have HPC := Lib.hid hpc
  clear hpc
  have HB3 := Lib.hid (HB2.out.trans (hb3.mono HB2.out.size))
  have HSP3 := Lib.hid hsp
  clear hb3 hsp
  clear HB2
  obtain ⟨np, hnp⟩ : ∃ np, np = 21 * n := ⟨_, rfl⟩
  have HNP := Lib.hid hnp
  rw [← hnp] at HSP3 HPC ⊢
  clear hnp
  go_wp2_with fail
  refine (HGOOD.out _ HB3.out).mono ?_
  rintro e w4 ⟨v, rfl, ho, hb4⟩
  obtain ⟨xa, xc, rfl, _, _, hxs⟩ := Sl.own ho
  have HB4 := Lib.hid (HB3.out.trans (hb4.mono HB3.out.size))
  have HSP4 := Lib.hid (HSP3.out.keep hb4)
  clear HSP3
  have HXS := Lib.hid hxs
  clear hb4 ho HB3 HGOOD hxs
  go_wp2_with fail
  refine (all31_yes xa k xc X _ HXS.out HXF.out (HT.out _ HB4.out) HKB.out HX.out).mono ?_
  rintro e w5 ⟨ga, gc, rfl, hgs, _, hb5⟩
  rw [HE.out] at hgs
  have HB5 := Lib.hid (HB4.out.trans (hb5.mono HB4.out.size))
  have HSP5 := Lib.hid (HSP4.out.keep hb5)
  clear HSP4
  have cv1 := conv_bytes hgs gc
  have cv2 := conv_bytes (HSB.out.keep HB5.out) cb
  clear hb5 hgs HB4 HXS
  go_upto_region 12 with fail
  clear cv1 cv2
  have hln' : ¬ (256 : Int) < n := by have := HLN.out; omega
  have HSX := Lib.hid (HS.out.keep HB5.out)
  go_wp2_with fail
  clear hln'
  go_loopg [11, 12] n (fun qq s11 s12 wr => ∃ i : Nat, qq + i = n ∧ s12 = .int .i64 i ∧ Hid (wr.ownsRow w5.heap.size 5 1 s11 (21 * i) (bcells (encXs L i))) ∧ Hid (Below w5.heap.size w5 wr))
  case atStart => exact ⟨0, by omega, rfl, Lib.hid (World.ownsRow_nil _ _ _ _), Lib.hid (Below.refl _ _)⟩
  case round =>
    obtain ⟨i, hqi, rfl, HO, HBr⟩ := hrel
    by_cases hin0 : i < n
    · obtain ⟨b, off, rfl, hb, hr0⟩ := rAt_at HSX.out (show i < n by omega)
      have L13 : Hid ((rAt 13 L i).length = 13) := Lib.hid (rAt_len hl.out (by omega))
      have FI : Hid (∀ z ∈ rAt 13 L i, fits z = true) := Lib.hid fun z hz => HF.out z (rAt_mem hz)
      have rr := range_keepG hr0 HBr.out hb
      have RR := Lib.hid hr0
      have hi0 : (0 : Int) ≤ i := by omega
      have hin : (i : Int) < n := by omega
      have M := Lib.hid (fun w => show Calls Tryd.prog 8 #[.agg (ints (rAt 13 L i)).toArray] w fun e w' => e = .returned (.int .i64 0) ∧ Below w.heap.size w w' from by have := rchkx_any (rAt 13 L i) w L13.out FI.out; rwa [HOK.out i hin0] at this)
      have P := Lib.hid (fun w => rputx_any (rAt 13 L i) w L13.out)
      have HEN := Lib.hid (show encXs L (i + 1) = encXs L i ++ encX (rAt 13 L i) from rfl)
      have HQ := Lib.hid (And.intro hqi hin0)
      have hib : (i : Int) < 1000 := by have := HLN.out; omega
      clear hr0 hqi hin0
      generalize rAt 13 L i = x at *
      have TX : RowT 27 (ints x).length := by rw [ints_len, L13.out]; exact rowS
      go_wp2_with (first
        | ((with_reducible refine ld_row rr TX ?_ ?_ ?_); (· rfl); (· rfl); (simp only [Act.put, List.setIfInBounds_toArray, List.set_cons_zero, List.set_cons_succ])))
      refine (M.out _).mono ?_
      rintro e w6 ⟨rfl, hb6⟩
      have HO6 := Lib.hid (own_stay HO.out hb6)
      have HB6 := Lib.hid (HBr.out.trans (hb6.mono HBr.out.size))
      have rr6 := range_keepG RR.out HB6.out hb
      clear hb6 rr HO HBr
      go_wp2_with (first
        | ((with_reducible refine ld_row rr6 TX ?_ ?_ ?_); (· rfl); (· rfl); (simp only [Act.put, List.setIfInBounds_toArray, List.set_cons_zero, List.set_cons_succ])))
      refine (P.out _).mono ?_
      rintro e w7 ⟨a', c', rfl, hsb7, hb7⟩
      have HB7 := Lib.hid (HB6.out.trans (hb7.mono HB6.out.size))
      have HO7 := Lib.hid (own_stay HO6.out hb7)
      have HSB7 := Lib.hid hsb7
      have hnl : a' = none → c' = 0 := fun h0 => by
        rcases hsb7.2 with h1 | ⟨b1, o1, h1, _⟩
        · omega
        · rw [h0] at h1; cases h1
      clear hsb7 hb7 HO6 rr6
      go_wp2_with (first
        | (at_builtin; refine app_any _ _ 30 5 i0 (.int .u8 0) 1 1 Tryd.underlying30 hi hz0 hz1 hz2 rfl (by decide) rfl rfl rfl HO7.out rfl HSB7.out hnl (fun u hu => bcells_one hu) ?c1 ?c2 HB7.out.size ?_))
      case c1 => simp only [maxLen]; have := HQ.out; have := HLN.out; omega
      case c2 => have := HQ.out; have := HLN.out; omega
      intro v8 w8 ho8 hb8
      rw [← bcells_add, ← HEN.out, show 21 * i + 21 = 21 * (i + 1) by omega] at ho8
      have HO8 := Lib.hid ho8
      have HB8 := Lib.hid (HB7.out.trans hb8)
      clear ho8 hb8 HO7 HSB7
      go_wp2_with fail
      go_roundg (gk - 1)
      case measure => have := HQ.out; omega
      case rel => exact ⟨i + 1, by have := HQ.out; omega, by have h1 := HQ.out; have h2 := HLN.out; go_num, HO8, HB8⟩
    · have hni : (n : Int) ≤ i := by omega
      have hin : i = n := by omega
      rw [hin] at HO
      obtain ⟨xa9, xc9, rfl, _, _, hxs9⟩ := Sl.own HO.out
      have HX9 := Lib.hid hxs9
      have HP9 := Lib.hid (HSP5.out.keep HBr.out)
      have HBB := Lib.hid (HB5.out.trans (HBr.out.mono HB5.out.size))
      have HI9 := Lib.hid hin
      clear hxs9 HO hqi hin0 hin
      rw [← HNP.out] at HX9 ⊢
      go_wp2_with fail
      have SF := Lib.hid (fun w' (hT' : TabF w') => steps_full pa n pc L w' hl.out HLN.out HF.out hT' HOK.out)
      rw [← HNP.out] at SF
      refine (SF.out _ (HT.out _ HBB.out) HP9.out HPC.out).mono ?_
      rintro e wa ⟨xb, xbc, rfl, hxb, hba⟩
      have HXB := Lib.hid hxb
      have cva := conv_bytes (HP9.out.keep hba) pc
      have cvb := conv_bytes (HX9.out.keep hba) xc9
      have HBa := Lib.hid (HBB.out.trans (hba.mono HBB.out.size))
      have HSa := Lib.hid (HS.out.keep HBa.out)
      clear hxb hba HX9 HP9 SF
      go_wp2_with fail
      refine (steps_same xb a n xbc c L _ HXB.out HSa.out (by have := HLN.out; omega) HF.out).mono ?_
      rintro e wb ⟨rfl, hbb⟩
      go_wp2_with fail
      go_ret
      exact ⟨rfl, HBa.out.trans (hbb.mono HBa.out.size)⟩
theorem lists31_walk (v0 v1 : Value) (w : World) (hL : laidMet Tryd.prog Rows.codeListsRow.laid w) (h0 : Arg Tryd.prog w 41 v0) (h1 : Arg Tryd.prog w 30 v1) : Calls Tryd.prog 5 #[v0, v1] w fun e w' => e = .returned (.bool true) ∧ Below w.heap.size w w' := by
  have hT : TabF w := tabF_of hL
  obtain ⟨a, n0, c, L0, rfl, hnc, hc, hs0, hf0⟩ := h0.rowsG (s := 13) (f := 5) Tryd.underlying41 flatS (by kernel_rfl) (by decide)
  obtain ⟨ba, nb, cb, bs, rfl, hbc, hcb, hnb, hbl, hsb⟩ := h1.bytes
  have hs := hs0.fewG (m := min n0 300) (Nat.min_le_left _ _)
  have hf : ∀ z ∈ L0.take (min n0 300 * 13), fits z = true := fun z hz => hf0 z (List.mem_of_mem_take hz)
  generalize L0.take (min n0 300 * 13) = L at *
  have hnn : min n0 300 = min n0 300 := rfl
  have hnbm : nb ≤ 9223372036854775807 := by omega
  have HTK := fun w' (hb : Below w.heap.size w w') => hT.keep hb (glob_lt hT)
  have hLc : 256 < min n0 300 ∨ (min n0 300 ≤ 256 ∧ ((∀ i, i < min n0 300 → chkX (rAt 13 L i) = 0) ∨ ∃ j, j < min n0 300 ∧ (∀ i, i < j → chkX (rAt 13 L i) = 0) ∧ chkX (rAt 13 L j) ≠ 0)) := by
    by_cases h : 256 < min n0 300
    · exact Or.inl h
    · refine Or.inr ⟨by omega, ?_⟩
      rcases first_badG (fun i => decide (chkX (rAt 13 L i) = 0)) (min n0 300) with hok | ⟨j, hj, hok, hno⟩
      · exact Or.inl fun i hi => of_decide_eq_true (hok i hi)
      · exact Or.inr ⟨j, hj, fun i hi => of_decide_eq_true (hok i hi), of_decide_eq_false hno⟩
  by_cases hm : nb % 21 = 0
  · by_cases hbig : 5376 < nb
    · have HBAD := Lib.hid (fun w' (_ : Below w.heap.size w w') => (steps_big ba nb cb w' hm hbig hnbm).mono fun e w'' h => (⟨h.1, by rw [h.2]; exact Below.refl _ _⟩ : e = .returned (.tuple #[.slice none 0 0, .int .i64 3]) ∧ Below w'.heap.size w' w''))
      rcases hLc with h | ⟨hln, h | ⟨j, hj, hok, hno⟩⟩
      · exact lists31_b3_long a ba n0 _ c nb cb L w hs hnn hnc hnbm hf hT h hm hbig HBAD
      · exact lists31_b3_yes a ba n0 _ c nb cb L w hs hnn hnc hnbm hf hT hln h hm hbig HBAD
      · exact lists31_b3_no a ba n0 _ c nb cb L w hs hnn hnc hnbm hf hT hln j hj hok hno hm hbig HBAD
    · obtain ⟨k, hk⟩ : ∃ k, nb = 21 * k := ⟨nb / 21, by omega⟩
      have hk256 : k ≤ 256 := by omega
      rcases first_badG (fun i => decide (chkX (decS (segS bs i)) = 0)) k with hok | ⟨j, hj, hok, hno⟩
      · have hok' : ∀ i, i < k → chkX (decS (segS bs i)) = 0 := fun i hi => of_decide_eq_true (hok i hi)
        have HGOOD := Lib.hid (fun w' (hb : Below w.heap.size w w') => steps_yes ba nb cb k bs w' (hsb.keep hb) (HTK w' hb) hbc hcb hk256 hk hok')
        have hX : ∀ i, i < k → chkX (rAt 13 (decXs bs k) i) = 0 := fun i hi => by rw [rAt_decXs bs k i hi]; exact hok' i hi
        have hXf := decXs_fits (bs := bs) (k := k) (by omega) k (Nat.le_refl _)
        have hE := list_back31 (bs := bs) (k := k) (by omega)
        rcases hLc with h | ⟨hln, h | ⟨j, hj, hok, hno⟩⟩
        · exact lists31_good_long a ba n0 _ c nb cb L w hs hnn hnc hnbm hf hT h k _ bs hk256 hX hXf hE hk hsb HGOOD
        · exact lists31_good_yes a ba n0 _ c nb cb L w hs hnn hnc hnbm hf hT hln h k _ bs hk256 hX hXf hE hk hsb HGOOD
        · exact lists31_good_no a ba n0 _ c nb cb L w hs hnn hnc hnbm hf hT hln j hj hok hno k _ bs hk256 hX hXf hE hk hsb HGOOD
      · have hok' : ∀ i, i < j → chkX (decS (segS bs i)) = 0 := fun i hi => of_decide_eq_true (hok i hi)
        have HBAD := Lib.hid (fun w' (hb : Below w.heap.size w w') => steps_no ba nb cb k bs w' (hsb.keep hb) (HTK w' hb) hbc hcb hk256 hk j hj hok' (of_decide_eq_false hno))
        rcases hLc with h | ⟨hln, h | ⟨j', hj', hok2, hno2⟩⟩
        · exact lists31_bc_long a ba n0 _ c nb cb L w hs hnn hnc hnbm hf hT h hm (by omega) _ (of_decide_eq_false hno) HBAD
        · exact lists31_bc_yes a ba n0 _ c nb cb L w hs hnn hnc hnbm hf hT hln h hm (by omega) _ (of_decide_eq_false hno) HBAD
        · exact lists31_bc_no a ba n0 _ c nb cb L w hs hnn hnc hnbm hf hT hln j' hj' hok2 hno2 hm (by omega) _ (of_decide_eq_false hno) HBAD
  · have HBAD := Lib.hid (fun w' (_ : Below w.heap.size w w') => (steps_len ba nb cb w' hm hnbm).mono fun e w'' h => (⟨h.1, by rw [h.2]; exact Below.refl _ _⟩ : e = .returned (.tuple #[.slice none 0 0, .int .i64 16]) ∧ Below w'.heap.size w' w''))
    rcases hLc with h | ⟨hln, h | ⟨j, hj, hok, hno⟩⟩
    · exact lists31_b16_long a ba n0 _ c nb cb L w hs hnn hnc hnbm hf hT h hm HBAD
    · exact lists31_b16_yes a ba n0 _ c nb cb L w hs hnn hnc hnbm hf hT hln h hm HBAD
    · exact lists31_b16_no a ba n0 _ c nb cb L w hs hnn hnc hnbm hf hT hln j hj hok hno hm HBAD
end Go.Proofs.YteijahcbfncebaaDoor
