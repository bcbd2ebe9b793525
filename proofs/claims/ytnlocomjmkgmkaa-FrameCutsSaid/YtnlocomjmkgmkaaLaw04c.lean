/- The statements of frames: frames that are cut. -/
import Derived.Test.YtnlocomjmkgmkaaLaw04g
import Derived.Test.YtnlocomjmkgmkaaFrmC
import Derived.Test.YtnlocomjmkgmkaaDelay
import Derived.Test.YtnlocomjmkgmkaaRed
import Derived.Test.YtnlocomjmkgmkaaLaw03
import Derived.Test.YtnlocomjmkgmkaaRef02
import Derived.Test.YtnlocomjmkgmkaaOps
import Derived.RegionTactic
import Derived.BigRegion
import Derived.ChangeAlike
namespace Go.Proofs.Ytnlocomjmkgmkaa
set_option linter.unusedVariables false
set_option linter.unusedSimpArgs false
open Go.ChangeShapes Go.WideShapes Go.ChangeAt Go.RowKit
theorem take_snoc (ps : List (List UInt8)) (i : Nat) (h : i < ps.length) : ps.take (i + 1) = ps.take i ++ [ps.getD i []] := by
  rw [List.take_add_one, List.getElem?_eq_getElem h, Option.toList_some, List.getD_eq_getElem?_getD, List.getElem?_eq_getElem h]; rfl
theorem part_cell {w wr : World} {a : Option Addr} {m : Nat} {ps : List (List UInt8)} {b off i : Nat} {v : Value} (h : Parts w a m ps) (ha : a = some ⟨b, off, none⟩) (hi : i < m) (hb : Below w.heap.size w wr) (hc : w.cell? ⟨b, off + i, none⟩ = some v) : wr.cell? ⟨b, off + i, none⟩ = some v :=
  (hb.cell (p := ⟨b, off + i, none⟩) (block_lt_of_cell hc)).trans hc
theorem sl_nil {w : World} {a : Option Addr} {n c sz : Nat} {xs : List Value} (h : Sl w a n sz xs) (hn : 1 ≤ n) : a = none → c = 0 := by
  intro h0
  rcases h.2 with h1 | ⟨b, o, h1, _⟩
  · omega
  · rw [h0] at h1; cases h1
set_option maxRecDepth 100000 in
set_option maxHeartbeats 8000000 in
theorem fcuts_small (a : Option Addr) (m c : Nat) (ps : List (List UInt8)) (cut0 z0 : Int) (w : World) (hp : Parts w a m ps) (hm : m ≤ 12) : Calls Try.prog 5 #[.slice a m c, .int .i64 cut0, .int .i64 z0] w fun e w' => e = .returned (.bool true) ∧ Below w.heap.size w w' := by
  obtain ⟨i0, hi, hz0, hz1, hz2⟩ := info_parts u8i
  obtain ⟨j0, ji, jz0, jz1, jz2⟩ := info_parts slices_info
  have HP := Lib.hid hp
  have HPL := Lib.hid hp.1
  have hm12 : ¬ (12 : Int) < m := by omega
  clear hp
  go_enter Try.func5, Try.ntmps5
  go_wp2_with fail
  refine (alive04 _).mono ?_
  rintro e w1 ⟨rfl, hb⟩
  have HB1 := Lib.hid hb
  clear hb
  go_wp2_with fail
  go_loopg [7, 9] m (fun q s7 s9 wr => ∃ i : Nat, q + i = m ∧ s9 = .int .i64 i ∧ Hid (wr.ownsRow w.heap.size 5 1 s7 (flatF (ps.take i)).length (bcells (flatF (ps.take i)))) ∧ Hid (Below w.heap.size w wr))
  case atStart => exact ⟨0, by omega, rfl, Lib.hid (bown_nil w1 w.heap.size 5 1), HB1⟩
  case round =>
    obtain ⟨i, hqi, rfl, HO, HB⟩ := hrel
    have hi0 : (0 : Int) ≤ i := by omega
    by_cases him : i < m
    · have hil : (i : Int) < m := by omega
      obtain ⟨b0, o0, ai, ni, ci, ha, hcell, hn47, hs⟩ := HP.out.at_ him
      have hc0 : wr.cell? ⟨b0, o0 + i, none⟩ = some (.slice ai ni ci) := part_cell HP.out ha him HB.out hcell
      have HSI := Lib.hid (hs.keep HB.out)
      have hpt : ps.take (i + 1) = ps.take i ++ [ps.getD i []] := take_snoc ps i (by rw [HPL.out]; exact him)
      have hfl : (flatF (ps.take i)).length ≤ 49236 := by have := flatF_len (ps.take i); rw [List.length_take] at this; omega
      have hpl : (ps.getD i []).length = ni := bsl_one hs
      generalize ps.getD i [] = p at *
      subst ha
      clear hs hcell
      by_cases g1 : 1 ≤ ni
      · by_cases g2 : ni ≤ 4096
        · have g1' : (1 : Int) ≤ ni := by omega
          have g2' : (ni : Int) ≤ 4096 := by omega
          have hgp : goodP p = true := (goodP_iff p).2 ⟨by omega, by omega⟩
          have HFT := Lib.hid (show flatF (ps.take i) ++ frameOf p = flatF (ps.take (i + 1)) by rw [hpt, flatF_snoc, if_pos hgp])
          have HFL := Lib.hid (show (flatF (ps.take i)).length + (ni + 7) = (flatF (ps.take (i + 1))).length by rw [← HFT.out, List.length_append, frameOf_len, hpl])
          have RP := Lib.hid (rfput_any ai ni ci p wr HSI.out (sl_nil HSI.out g1) g2)
          clear hpt hpl hgp g1 HSI
          go_wp2_with fail
          refine RP.out.mono ?_
          rintro e w2 ⟨a2, c2, rfl, ho2, hb2⟩
          have HO2 := Lib.hid (own_stay HO.out hb2)
          have HS2 := Lib.hid (sl_own' ho2)
          have hnl2 := sl_none ho2
          have HB2 := Lib.hid (HB.out.trans (hb2.mono HB.out.size))
          clear ho2 hb2 RP HO HB hc0
          generalize flatF (ps.take i) = FI at *
          go_wp2_with (first
            | (at_builtin; refine app_any _ _ 22 5 i0 (.int .u8 0) 1 1 Try.underlying22 hi hz0 hz1 hz2 rfl (by decide) rfl rfl rfl HO2.out rfl HS2.out hnl2 (fun u hu => bcells_one hu) ?c1 ?c2 HB2.out.size ?_))
          case c1 => simp only [maxLen]; omega
          case c2 => omega
          intro v3 w3 ho hb
          rw [← bcells_snoc, HFT.out, HFL.out] at ho
          have HO3 := Lib.hid ho
          have HB3 := Lib.hid (HB2.out.trans hb)
          clear ho hb HO2 HS2 HB2 HFT HFL
          go_wp2_with fail
          go_roundg (gk - 1)
          case measure => omega
          case rel => exact ⟨i + 1, by omega, by go_num, HO3, HB3⟩
        · have g1' : (1 : Int) ≤ ni := by omega
          have g2' : ¬ (ni : Int) ≤ 4096 := by omega
          have HFT := Lib.hid (show flatF (ps.take (i + 1)) = flatF (ps.take i) by rw [hpt, flatF_snoc, if_neg (by rw [goodP_iff]; omega), List.append_nil])
          have HO3 : Hid (wr.ownsRow w.heap.size 5 1 u7 (flatF (ps.take (i + 1))).length (bcells (flatF (ps.take (i + 1))))) := Lib.hid (by rw [HFT.out]; exact HO.out)
          clear hpt hpl g1 g2 HSI HFT
          go_wp2_with fail
          go_roundg (gk - 1)
          case measure => omega
          case rel => exact ⟨i + 1, by omega, by go_num, HO3, HB⟩
      · have g1' : ¬ (1 : Int) ≤ ni := by omega
        have HFT := Lib.hid (show flatF (ps.take (i + 1)) = flatF (ps.take i) by rw [hpt, flatF_snoc, if_neg (by rw [goodP_iff]; omega), List.append_nil])
        have HO3 : Hid (wr.ownsRow w.heap.size 5 1 u7 (flatF (ps.take (i + 1))).length (bcells (flatF (ps.take (i + 1))))) := Lib.hid (by rw [HFT.out]; exact HO.out)
        clear hpt hpl g1 HSI HFT
        go_wp2_with fail
        go_roundg (gk - 1)
        case measure => omega
        case rel => exact ⟨i + 1, by omega, by go_num, HO3, HB⟩
    · have hil : (m : Int) ≤ i := by omega
      have hie : i = m := by omega
      have htk : ps.take i = ps := by rw [hie]; exact List.take_of_length_le (by rw [HPL.out]; exact Nat.le_refl _)
      rw [htk] at HO
      have hfl : (flatF ps).length ≤ 49236 := by have := flatF_len ps; rw [HPL.out] at this; omega
      obtain ⟨aA, cA, rfl, hA1, hA2, hsA⟩ := Sl.own HO.out
      have hnA := sl_none HO.out
      have HSA := Lib.hid hsA
      have HAC := Lib.hid (And.intro hA1 hA2)
      have NR := Lib.hid (fun w => near_any cut0 0 ((flatF ps).length : Int) w)
      have hcb := clampI_bd cut0 0 ((flatF ps).length : Int) (by omega)
      obtain ⟨cut, hcut⟩ : ∃ k : Nat, clampI cut0 0 ((flatF ps).length : Int) = k := ⟨(clampI cut0 0 ((flatF ps).length : Int)).toNat, by omega⟩
      have hcl : cut ≤ (flatF ps).length := by omega
      rw [hcut] at NR
      have hfl' : ((flatF ps).length : Int) ≤ 49236 := by omega
      clear htk hsA hA1 hA2 HO hcb hcut hie
      go_wp2_with fail
      refine (NR.out _).mono ?_
      rintro e w2 ⟨rfl, rfl⟩
      clear NR
      go_wp2_with fail
      generalize wr = wA at *
      go_loopg [8, 10, 11] m (fun q s8 s10 s11 wr => ∃ (t : Nat) (xs : List Value), q + t = m ∧ s11 = .int .i64 t ∧ s10 = .int .i64 ((flatF (ps.take t)).length : Nat) ∧ Hid (wr.ownsRow wA.heap.size 22 1 s8 (wholeF cut 0 (ps.take t)).length xs) ∧ Hid (Pays wr s8 xs (wholeF cut 0 (ps.take t))) ∧ Hid (Below wA.heap.size wA wr))
      case atStart => exact ⟨0, [], by omega, rfl, rfl, Lib.hid (bown_nil wA wA.heap.size 22 1), Lib.hid ⟨rfl, fun i hi => by simp [wholeF] at hi⟩, Lib.hid (Below.refl _ _)⟩
      case round =>
        obtain ⟨t, xs, hqt, rfl, rfl, HO, HPY, HBy⟩ := hrel
        have ht0 : (0 : Int) ≤ t := by omega
        have HBw := Lib.hid (HB.out.trans (HBy.out.mono HB.out.size))
        by_cases htm : t < m
        · have htl : (t : Int) < m := by omega
          obtain ⟨b0, o0, ai, ni, ci, ha, hcell, hn47, hs⟩ := HP.out.at_ htm
          have hc0 : wr.cell? ⟨b0, o0 + t, none⟩ = some (.slice ai ni ci) := part_cell HP.out ha htm HBw.out hcell
          have HSI := Lib.hid (hs.keep HBw.out)
          have hpt : ps.take (t + 1) = ps.take t ++ [ps.getD t []] := take_snoc ps t (by rw [HPL.out]; exact htm)
          have hft : (flatF (ps.take t)).length ≤ 49236 := by have := flatF_len (ps.take t); rw [List.length_take] at this; omega
          have hwl : (wholeF cut 0 (ps.take t)).length ≤ 12 := by have := wholeF_len cut (ps.take t) 0; rw [List.length_take] at this; omega
          have hpl : (ps.getD t []).length = ni := bsl_one hs
          have hblt : ∀ ad, ai = some ad → 1 ≤ ni → ad.block < w.heap.size := fun ad ha2 hn => sl_blk hs (by omega) ad ha2
          have HBLT := Lib.hid hblt
          generalize ps.getD t [] = p at *
          subst ha
          clear hs hcell hblt
          by_cases g1 : 1 ≤ ni
          · by_cases g2 : ni ≤ 4096
            · have g1' : (1 : Int) ≤ ni := by omega
              have g2' : (ni : Int) ≤ 4096 := by omega
              have hgp : goodP p = true := (goodP_iff p).2 ⟨by omega, by omega⟩
              have HFL := Lib.hid (show (flatF (ps.take t)).length + ni + 7 = (flatF (ps.take (t + 1))).length by rw [hpt, flatF_snoc, if_pos hgp, List.length_append, frameOf_len, hpl]; omega)
              have hft' : ((flatF (ps.take t)).length : Int) ≤ 49236 := by omega
              by_cases k3 : (flatF (ps.take t)).length + ni + 7 ≤ cut
              · have k3' : ((flatF (ps.take t)).length : Int) + ni + 7 ≤ cut := by omega
                have HW := Lib.hid (show wholeF cut 0 (ps.take (t + 1)) = wholeF cut 0 (ps.take t) ++ [p] by rw [hpt, wholeF_yes cut p hgp _ _ (by rw [hpl]; omega)])
                have HNE : Hid (∀ ad, ai = some ad → u8.ownBlock ≠ some ad.block) := Lib.hid (fun ad ha2 e1 => by
                  have h1 := (HO.out.lt _ e1).1
                  have h2 := HBLT.out ad ha2 g1
                  have h3 := HB.out.size
                  omega)
                have HO2 := Lib.hid (own_stay HO.out ((Below.refl _ _).alloc (Nat.le_refl _) (.cells #[.slice ai ni ci] 22)))
                have HP2 := Lib.hid (HPY.out.keep ((Below.refl _ _).alloc (Nat.le_refl _) (.cells #[.slice ai ni ci] 22)))
                have HB2 := Lib.hid (HBy.out.alloc HBy.out.size (.cells #[.slice ai ni ci] 22))
                have HPL2 := Lib.hid (HSI.out.keep ((Below.refl _ _).alloc (Nat.le_refl _) (.cells #[.slice ai ni ci] 22)))
                have HNW := Lib.hid (fun (j : Nat) (u : Value) (hj : [Value.slice ai ni ci][j]? = some u) => cell_new1 wr (.slice ai ni ci) 22 j u hj)
                have hlt := sl_blk HPL2.out (show 0 < ni by omega)
                have HLT := Lib.hid hlt
                clear hpt hpl hgp HO HPY HBy HSI hlt HBw hft
                generalize wholeF cut 0 (ps.take t) = WT at *
                go_wp2_with (first
                  | (at_builtin; refine wpList_append_own_at _ rfl _ _ 34 rfl wA.heap.size 22 j0 (.slice none 0 0) 1 24 Try.underlying34 ji jz0 jz1 jz2 rfl (by decide) _ WT.length xs rfl HO2.out ⟨wr.heap.size, 0, none⟩ 1 1 [.slice ai ni ci] rfl rfl HNW.out (by simp [Value.oneCell']) ?c1 ?c2 HB2.out.size ?_))
                case c1 => simp only [maxLen]; omega
                case c2 => omega
                intro v3 w3 ho hg3 _ hv3
                have HB3 := Lib.hid (Below.grown HB2.out hg3 HB2.out.size fun q hq => (HO2.out.lt q hq).1)
                have hv4 : v3.ownBlock = u8.ownBlock ∨ v3.ownBlock = some (wr.alloc (.cells #[.slice ai ni ci] 22)).heap.size := by simpa using hv3
                have HP3 := Lib.hid (Pays.snoc (c := ci) HP2.out hg3 hv4 HPL2.out (by omega) HNE.out HLT.out)
                have hwl3 : WT.length + 1 = (WT ++ [p]).length := by simp
                rw [hwl3] at ho
                have HO3 := Lib.hid ho
                rw [← HW.out] at HO3 HP3
                clear ho hg3 hv3 hv4 HO2 HP2 HB2 HPL2 HNW HNE HW hwl3
                go_wp2_with fail
                go_roundg (gk - 1)
                case measure => omega
                case rel => exact ⟨t + 1, _, by omega, by go_num, by rw [← HFL.out]; go_num, HO3, HP3, HB3⟩
              · have k3' : ¬ ((flatF (ps.take t)).length : Int) + ni + 7 ≤ cut := by omega
                have HW := Lib.hid (show wholeF cut 0 (ps.take (t + 1)) = wholeF cut 0 (ps.take t) by rw [hpt, wholeF_no cut p _ _ (fun _ => by rw [hpl]; omega)])
                rw [← HW.out] at HO HPY
                clear hpt hpl hgp HSI HW hft
                go_wp2_with fail
                go_roundg (gk - 1)
                case measure => omega
                case rel => exact ⟨t + 1, xs, by omega, by go_num, by rw [← HFL.out]; go_num, HO, HPY, HBy⟩
            · have g1' : (1 : Int) ≤ ni := by omega
              have g2' : ¬ (ni : Int) ≤ 4096 := by omega
              have hng : ¬ goodP p = true := by rw [goodP_iff]; omega
              have HW := Lib.hid (show wholeF cut 0 (ps.take (t + 1)) = wholeF cut 0 (ps.take t) by rw [hpt, wholeF_no cut p _ _ (fun h => absurd h hng)])
              have HFT := Lib.hid (show flatF (ps.take (t + 1)) = flatF (ps.take t) by rw [hpt, flatF_snoc, if_neg hng, List.append_nil])
              rw [← HW.out] at HO HPY
              clear hpt hpl hng HSI HW g1 g2
              go_wp2_with fail
              go_roundg (gk - 1)
              case measure => omega
              case rel => exact ⟨t + 1, xs, by omega, by go_num, by rw [HFT.out], HO, HPY, HBy⟩
          · have g1' : ¬ (1 : Int) ≤ ni := by omega
            have hng : ¬ goodP p = true := by rw [goodP_iff]; omega
            have HW := Lib.hid (show wholeF cut 0 (ps.take (t + 1)) = wholeF cut 0 (ps.take t) by rw [hpt, wholeF_no cut p _ _ (fun h => absurd h hng)])
            have HFT := Lib.hid (show flatF (ps.take (t + 1)) = flatF (ps.take t) by rw [hpt, flatF_snoc, if_neg hng, List.append_nil])
            rw [← HW.out] at HO HPY
            clear hpt hpl hng HSI HW g1
            go_wp2_with fail
            go_roundg (gk - 1)
            case measure => omega
            case rel => exact ⟨t + 1, xs, by omega, by go_num, by rw [HFT.out], HO, HPY, HBy⟩
        · have htl : (m : Int) ≤ t := by omega
          have hte : t = m := by omega
          have htk : ps.take t = ps := by rw [hte]; exact List.take_of_length_le (by rw [HPL.out]; exact Nat.le_refl _)
          rw [htk] at HO HPY
          obtain ⟨vW, cW, rfl, _, _, _⟩ := Sl.own HO.out
          have HLW := Lib.hid (lists_own HO.out HPY.out)
          have hwl : (wholeF cut 0 ps).length ≤ 12 := by have := wholeF_len cut ps 0; rw [HPL.out] at this; omega
          have HSB := Lib.hid ((HSA.out.keep HBy.out).front4 (k := cut) hcl)
          have HCA := Lib.hid (cut_all · ps cut hcl)
          have hcc : (cut : Int) ≤ cA := by have := HAC.out.1; omega
          have hcl' : (cut : Int) ≤ 49236 := by omega
          have hcn : cut ≤ 49236 := by omega
          have HO2 := Lib.hid (bown_lit wr (bcells []) (by decide))
          have HS2 := Lib.hid (HSB.out.keep ((Below.refl _ _).alloc (Nat.le_refl _) (.cells (bcells []).toArray 5)))
          have HB2 := Lib.hid (((Below.refl wr.heap.size wr).alloc (Nat.le_refl _) (.cells (bcells []).toArray 5)))
          clear htk HO HPY HSA HSB hte
          go_upto_region 22 with (first
            | (at_builtin; refine app_any _ _ 22 5 i0 (.int .u8 0) 1 1 Try.underlying22 hi hz0 hz1 hz2 rfl (by decide) rfl rfl rfl HO2.out rfl HS2.out hnA (fun u hu => bcells_one hu) ?d1 ?d2 HB2.out.size ?_))
          case d1 => simp only [maxLen, bcells, List.map_nil, List.length_nil]; omega
          case d2 => simp only [bcells, List.map_nil, List.length_nil]; omega
          intro v3 w3 ho hb
          have ho2 : w3.ownsRow wr.heap.size 5 1 v3 (0 + cut) (bcells ((flatF ps).take cut)) := ho
          rw [Nat.zero_add] at ho2
          have HB3 := Lib.hid (HB2.out.trans hb)
          have HBW := Lib.hid (HBw.out)
          have hzb := clampI_bd z0 0 5000 (by decide)
          have NZ := Lib.hid (fun w => near_any z0 0 5000 w)
          obtain ⟨z, hz⟩ : ∃ k : Nat, clampI z0 0 5000 = k := ⟨(clampI z0 0 5000).toNat, by omega⟩
          rw [hz] at NZ hzb
          have hz5 : z ≤ 5000 := by omega
          have hz5' : (z : Int) ≤ 5000 := by omega
          have HO3 := Lib.hid (show w3.ownsRow wr.heap.size 5 1 v3 (cut + 0) (bcells ((flatF ps).take cut ++ List.replicate 0 0)) from by rw [List.replicate_zero, List.append_nil]; exact ho2)
          clear ho ho2 hb HO2 HS2 HB2 hz hzb
          generalize wr = wB at *
          go_wp2_with fail
          go_loopg [12, 13] z (fun q s12 s13 wr => ∃ j : Nat, q + j = z ∧ s13 = .int .i64 j ∧ Hid (wr.ownsRow wB.heap.size 5 1 s12 (cut + j) (bcells ((flatF ps).take cut ++ List.replicate j 0))) ∧ Hid (Below wB.heap.size wB wr))
          case atStart => exact ⟨0, by omega, rfl, HO3, HB3⟩
          case round =>
            obtain ⟨j, hqj, rfl, HO, HBz⟩ := hrel
            have hj0 : (0 : Int) ≤ j := by omega
            by_cases hjz : j < z
            · have hjl : (j : Int) < z := by omega
              have HRE := Lib.hid (show ((flatF ps).take cut ++ List.replicate j 0) ++ [0] = (flatF ps).take cut ++ List.replicate (j + 1) 0 by rw [List.append_assoc, List.replicate_succ'])
              have HL := Lib.hid (blit_sl wr (bcells [0]) (by decide))
              have HO2 := Lib.hid (own_stay HO.out ((Below.refl _ _).alloc (Nat.le_refl _) (.cells (bcells [0]).toArray 5)))
              have HB2 := Lib.hid (HBz.out.alloc HBz.out.size (.cells (bcells [0]).toArray 5))
              clear HO HBz
              go_wp2_with (first
                | (go_at_call 15; refine (NZ.out _).mono ?_; rintro e w5 ⟨rfl, rfl⟩)
                | (at_builtin; refine app_any _ _ 22 5 i0 (.int .u8 0) 1 1 Try.underlying22 hi hz0 hz1 hz2 rfl (by decide) rfl rfl rfl HO2.out rfl HL.out (fun h => by cases h) (fun u hu => bcells_one hu) ?e1 ?e2 HB2.out.size ?_))
              case e1 => (try simp only [maxLen, bcells, List.map_cons, List.map_nil, List.length_singleton]); omega
              case e2 => (try simp only [bcells, List.map_cons, List.map_nil, List.length_singleton]); omega
              intro v5 w5 ho hb
              rw [← bcells_snoc, HRE.out] at ho
              have HO5 := Lib.hid (show w5.ownsRow wB.heap.size 5 1 v5 (cut + (j + 1)) (bcells ((flatF ps).take cut ++ List.replicate (j + 1) 0)) from ho)
              have HB5 := Lib.hid (HB2.out.trans hb)
              clear ho hb HO2 HL HB2 HRE
              go_wp2_with fail
              go_roundg (gk - 1)
              case measure => omega
              case rel => exact ⟨j + 1, by omega, by go_num, HO5, HB5⟩
            · have hjl : (z : Int) ≤ j := by omega
              have hje : j = z := by omega
              rw [hje] at HO
              obtain ⟨vB, cB, rfl, hB1, hB2, hsB⟩ := Sl.own HO.out
              have FA := Lib.hid (fall_any vB (cut + z) cB ((flatF ps).take cut ++ List.replicate z 0) wr hsB hB1 (by simpa [maxLen] using hB2) (by omega))
              rw [HCA.out z] at FA
              have HLZ := Lib.hid (HLW.out.keep HBz.out)
              have HBa := Lib.hid (HBW.out.trans (HBz.out.mono HBW.out.size))
              clear HO hsB hB1 hB2 hje
              go_wp2_with (first
                | (go_at_call 15; refine (NZ.out _).mono ?_; rintro e w5 ⟨rfl, rfl⟩))
              refine FA.out.mono ?_
              rintro e w6 ⟨va, vc, xa, rfl, ho, hp, hb⟩
              have OC := Lib.hid (octets_same va vW (wholeF cut 0 ps).length vc cW (wholeF cut 0 ps) w6 (lists_own ho hp) (HLZ.out.keep hb) (by omega))
              have HB6 := Lib.hid (HBa.out.trans (hb.mono HBa.out.size))
              clear ho hp hb FA HLZ
              generalize (wholeF cut 0 ps).length = K at *
              go_wp2_with fail
              refine OC.out.mono ?_
              rintro e w7 ⟨rfl, hb⟩
              have HB7 := Lib.hid (HB6.out.trans (hb.mono HB6.out.size))
              clear hb OC
              go_wp2_with fail
              go_ret
              exact ⟨rfl, HB7.out⟩
set_option maxRecDepth 100000 in
set_option maxHeartbeats 8000000 in
theorem fcuts_big (a : Option Addr) (m c : Nat) (ps : List (List UInt8)) (cut0 z0 : Int) (w : World) (hp : Parts w a 12 ps) (hm : 12 < m) (hmc : m ≤ c) : Calls Try.prog 5 #[.slice a m c, .int .i64 cut0, .int .i64 z0] w fun e w' => e = .returned (.bool true) ∧ Below w.heap.size w w' := by
  obtain ⟨i0, hi, hz0, hz1, hz2⟩ := info_parts u8i
  obtain ⟨j0, ji, jz0, jz1, jz2⟩ := info_parts slices_info
  have HP := Lib.hid hp
  have HPL := Lib.hid hp.1
  have hm12 : (12 : Int) < m := by omega
  have h12c : (12 : Int) ≤ c := by omega
  clear hp
  go_enter Try.func5, Try.ntmps5
  go_wp2_with fail
  refine (alive04 _).mono ?_
  rintro e w1 ⟨rfl, hb⟩
  have HB1 := Lib.hid hb
  clear hb
  go_wp2_with fail
  go_loopg [7, 9] 12 (fun q s7 s9 wr => ∃ i : Nat, q + i = 12 ∧ s9 = .int .i64 i ∧ Hid (wr.ownsRow w.heap.size 5 1 s7 (flatF (ps.take i)).length (bcells (flatF (ps.take i)))) ∧ Hid (Below w.heap.size w wr))
  case atStart => exact ⟨0, by omega, rfl, Lib.hid (bown_nil w1 w.heap.size 5 1), HB1⟩
  case round =>
    obtain ⟨i, hqi, rfl, HO, HB⟩ := hrel
    have hi0 : (0 : Int) ≤ i := by omega
    by_cases him : i < 12
    · have hil : (i : Int) < 12 := by omega
      obtain ⟨b0, o0, ai, ni, ci, ha, hcell, hn47, hs⟩ := HP.out.at_ him
      have hc0 : wr.cell? ⟨b0, o0 + i, none⟩ = some (.slice ai ni ci) := part_cell HP.out ha him HB.out hcell
      have HSI := Lib.hid (hs.keep HB.out)
      have hpt : ps.take (i + 1) = ps.take i ++ [ps.getD i []] := take_snoc ps i (by rw [HPL.out]; exact him)
      have hfl : (flatF (ps.take i)).length ≤ 49236 := by have := flatF_len (ps.take i); rw [List.length_take] at this; omega
      have hpl : (ps.getD i []).length = ni := bsl_one hs
      generalize ps.getD i [] = p at *
      subst ha
      clear hs hcell
      by_cases g1 : 1 ≤ ni
      · by_cases g2 : ni ≤ 4096
        · have g1' : (1 : Int) ≤ ni := by omega
          have g2' : (ni : Int) ≤ 4096 := by omega
          have hgp : goodP p = true := (goodP_iff p).2 ⟨by omega, by omega⟩
          have HFT := Lib.hid (show flatF (ps.take i) ++ frameOf p = flatF (ps.take (i + 1)) by rw [hpt, flatF_snoc, if_pos hgp])
          have HFL := Lib.hid (show (flatF (ps.take i)).length + (ni + 7) = (flatF (ps.take (i + 1))).length by rw [← HFT.out, List.length_append, frameOf_len, hpl])
          have RP := Lib.hid (rfput_any ai ni ci p wr HSI.out (sl_nil HSI.out g1) g2)
          clear hpt hpl hgp g1 HSI
          go_wp2_with fail
          refine RP.out.mono ?_
          rintro e w2 ⟨a2, c2, rfl, ho2, hb2⟩
          have HO2 := Lib.hid (own_stay HO.out hb2)
          have HS2 := Lib.hid (sl_own' ho2)
          have hnl2 := sl_none ho2
          have HB2 := Lib.hid (HB.out.trans (hb2.mono HB.out.size))
          clear ho2 hb2 RP HO HB hc0
          generalize flatF (ps.take i) = FI at *
          go_wp2_with (first
            | (at_builtin; refine app_any _ _ 22 5 i0 (.int .u8 0) 1 1 Try.underlying22 hi hz0 hz1 hz2 rfl (by decide) rfl rfl rfl HO2.out rfl HS2.out hnl2 (fun u hu => bcells_one hu) ?c1 ?c2 HB2.out.size ?_))
          case c1 => simp only [maxLen]; omega
          case c2 => omega
          intro v3 w3 ho hb
          rw [← bcells_snoc, HFT.out, HFL.out] at ho
          have HO3 := Lib.hid ho
          have HB3 := Lib.hid (HB2.out.trans hb)
          clear ho hb HO2 HS2 HB2 HFT HFL
          go_wp2_with fail
          go_roundg (gk - 1)
          case measure => omega
          case rel => exact ⟨i + 1, by omega, by go_num, HO3, HB3⟩
        · have g1' : (1 : Int) ≤ ni := by omega
          have g2' : ¬ (ni : Int) ≤ 4096 := by omega
          have HFT := Lib.hid (show flatF (ps.take (i + 1)) = flatF (ps.take i) by rw [hpt, flatF_snoc, if_neg (by rw [goodP_iff]; omega), List.append_nil])
          have HO3 : Hid (wr.ownsRow w.heap.size 5 1 u7 (flatF (ps.take (i + 1))).length (bcells (flatF (ps.take (i + 1))))) := Lib.hid (by rw [HFT.out]; exact HO.out)
          clear hpt hpl g1 g2 HSI HFT
          go_wp2_with fail
          go_roundg (gk - 1)
          case measure => omega
          case rel => exact ⟨i + 1, by omega, by go_num, HO3, HB⟩
      · have g1' : ¬ (1 : Int) ≤ ni := by omega
        have HFT := Lib.hid (show flatF (ps.take (i + 1)) = flatF (ps.take i) by rw [hpt, flatF_snoc, if_neg (by rw [goodP_iff]; omega), List.append_nil])
        have HO3 : Hid (wr.ownsRow w.heap.size 5 1 u7 (flatF (ps.take (i + 1))).length (bcells (flatF (ps.take (i + 1))))) := Lib.hid (by rw [HFT.out]; exact HO.out)
        clear hpt hpl g1 HSI HFT
        go_wp2_with fail
        go_roundg (gk - 1)
        case measure => omega
        case rel => exact ⟨i + 1, by omega, by go_num, HO3, HB⟩
    · have hil : (12 : Int) ≤ i := by omega
      have hie : i = 12 := by omega
      have htk : ps.take i = ps := by rw [hie]; exact List.take_of_length_le (by rw [HPL.out]; exact Nat.le_refl _)
      rw [htk] at HO
      have hfl : (flatF ps).length ≤ 49236 := by have := flatF_len ps; rw [HPL.out] at this; omega
      obtain ⟨aA, cA, rfl, hA1, hA2, hsA⟩ := Sl.own HO.out
      have hnA := sl_none HO.out
      have HSA := Lib.hid hsA
      have HAC := Lib.hid (And.intro hA1 hA2)
      have NR := Lib.hid (fun w => near_any cut0 0 ((flatF ps).length : Int) w)
      have hcb := clampI_bd cut0 0 ((flatF ps).length : Int) (by omega)
      obtain ⟨cut, hcut⟩ : ∃ k : Nat, clampI cut0 0 ((flatF ps).length : Int) = k := ⟨(clampI cut0 0 ((flatF ps).length : Int)).toNat, by omega⟩
      have hcl : cut ≤ (flatF ps).length := by omega
      rw [hcut] at NR
      have hfl' : ((flatF ps).length : Int) ≤ 49236 := by omega
      clear htk hsA hA1 hA2 HO hcb hcut hie
      go_wp2_with fail
      refine (NR.out _).mono ?_
      rintro e w2 ⟨rfl, rfl⟩
      clear NR
      go_wp2_with fail
      generalize wr = wA at *
      go_loopg [8, 10, 11] 12 (fun q s8 s10 s11 wr => ∃ (t : Nat) (xs : List Value), q + t = 12 ∧ s11 = .int .i64 t ∧ s10 = .int .i64 ((flatF (ps.take t)).length : Nat) ∧ Hid (wr.ownsRow wA.heap.size 22 1 s8 (wholeF cut 0 (ps.take t)).length xs) ∧ Hid (Pays wr s8 xs (wholeF cut 0 (ps.take t))) ∧ Hid (Below wA.heap.size wA wr))
      case atStart => exact ⟨0, [], by omega, rfl, rfl, Lib.hid (bown_nil wA wA.heap.size 22 1), Lib.hid ⟨rfl, fun i hi => by simp [wholeF] at hi⟩, Lib.hid (Below.refl _ _)⟩
      case round =>
        obtain ⟨t, xs, hqt, rfl, rfl, HO, HPY, HBy⟩ := hrel
        have ht0 : (0 : Int) ≤ t := by omega
        have HBw := Lib.hid (HB.out.trans (HBy.out.mono HB.out.size))
        by_cases htm : t < 12
        · have htl : (t : Int) < 12 := by omega
          obtain ⟨b0, o0, ai, ni, ci, ha, hcell, hn47, hs⟩ := HP.out.at_ htm
          have hc0 : wr.cell? ⟨b0, o0 + t, none⟩ = some (.slice ai ni ci) := part_cell HP.out ha htm HBw.out hcell
          have HSI := Lib.hid (hs.keep HBw.out)
          have hpt : ps.take (t + 1) = ps.take t ++ [ps.getD t []] := take_snoc ps t (by rw [HPL.out]; exact htm)
          have hft : (flatF (ps.take t)).length ≤ 49236 := by have := flatF_len (ps.take t); rw [List.length_take] at this; omega
          have hwl : (wholeF cut 0 (ps.take t)).length ≤ 12 := by have := wholeF_len cut (ps.take t) 0; rw [List.length_take] at this; omega
          have hpl : (ps.getD t []).length = ni := bsl_one hs
          have hblt : ∀ ad, ai = some ad → 1 ≤ ni → ad.block < w.heap.size := fun ad ha2 hn => sl_blk hs (by omega) ad ha2
          have HBLT := Lib.hid hblt
          generalize ps.getD t [] = p at *
          subst ha
          clear hs hcell hblt
          by_cases g1 : 1 ≤ ni
          · by_cases g2 : ni ≤ 4096
            · have g1' : (1 : Int) ≤ ni := by omega
              have g2' : (ni : Int) ≤ 4096 := by omega
              have hgp : goodP p = true := (goodP_iff p).2 ⟨by omega, by omega⟩
              have HFL := Lib.hid (show (flatF (ps.take t)).length + ni + 7 = (flatF (ps.take (t + 1))).length by rw [hpt, flatF_snoc, if_pos hgp, List.length_append, frameOf_len, hpl]; omega)
              have hft' : ((flatF (ps.take t)).length : Int) ≤ 49236 := by omega
              by_cases k3 : (flatF (ps.take t)).length + ni + 7 ≤ cut
              · have k3' : ((flatF (ps.take t)).length : Int) + ni + 7 ≤ cut := by omega
                have HW := Lib.hid (show wholeF cut 0 (ps.take (t + 1)) = wholeF cut 0 (ps.take t) ++ [p] by rw [hpt, wholeF_yes cut p hgp _ _ (by rw [hpl]; omega)])
                have HNE : Hid (∀ ad, ai = some ad → u8.ownBlock ≠ some ad.block) := Lib.hid (fun ad ha2 e1 => by
                  have h1 := (HO.out.lt _ e1).1
                  have h2 := HBLT.out ad ha2 g1
                  have h3 := HB.out.size
                  omega)
                have HO2 := Lib.hid (own_stay HO.out ((Below.refl _ _).alloc (Nat.le_refl _) (.cells #[.slice ai ni ci] 22)))
                have HP2 := Lib.hid (HPY.out.keep ((Below.refl _ _).alloc (Nat.le_refl _) (.cells #[.slice ai ni ci] 22)))
                have HB2 := Lib.hid (HBy.out.alloc HBy.out.size (.cells #[.slice ai ni ci] 22))
                have HPL2 := Lib.hid (HSI.out.keep ((Below.refl _ _).alloc (Nat.le_refl _) (.cells #[.slice ai ni ci] 22)))
                have HNW := Lib.hid (fun (j : Nat) (u : Value) (hj : [Value.slice ai ni ci][j]? = some u) => cell_new1 wr (.slice ai ni ci) 22 j u hj)
                have hlt := sl_blk HPL2.out (show 0 < ni by omega)
                have HLT := Lib.hid hlt
                clear hpt hpl hgp HO HPY HBy HSI hlt HBw hft
                generalize wholeF cut 0 (ps.take t) = WT at *
                go_wp2_with (first
                  | (at_builtin; refine wpList_append_own_at _ rfl _ _ 34 rfl wA.heap.size 22 j0 (.slice none 0 0) 1 24 Try.underlying34 ji jz0 jz1 jz2 rfl (by decide) _ WT.length xs rfl HO2.out ⟨wr.heap.size, 0, none⟩ 1 1 [.slice ai ni ci] rfl rfl HNW.out (by simp [Value.oneCell']) ?c1 ?c2 HB2.out.size ?_))
                case c1 => simp only [maxLen]; omega
                case c2 => omega
                intro v3 w3 ho hg3 _ hv3
                have HB3 := Lib.hid (Below.grown HB2.out hg3 HB2.out.size fun q hq => (HO2.out.lt q hq).1)
                have hv4 : v3.ownBlock = u8.ownBlock ∨ v3.ownBlock = some (wr.alloc (.cells #[.slice ai ni ci] 22)).heap.size := by simpa using hv3
                have HP3 := Lib.hid (Pays.snoc (c := ci) HP2.out hg3 hv4 HPL2.out (by omega) HNE.out HLT.out)
                have hwl3 : WT.length + 1 = (WT ++ [p]).length := by simp
                rw [hwl3] at ho
                have HO3 := Lib.hid ho
                rw [← HW.out] at HO3 HP3
                clear ho hg3 hv3 hv4 HO2 HP2 HB2 HPL2 HNW HNE HW hwl3
                go_wp2_with fail
                go_roundg (gk - 1)
                case measure => omega
                case rel => exact ⟨t + 1, _, by omega, by go_num, by rw [← HFL.out]; go_num, HO3, HP3, HB3⟩
              · have k3' : ¬ ((flatF (ps.take t)).length : Int) + ni + 7 ≤ cut := by omega
                have HW := Lib.hid (show wholeF cut 0 (ps.take (t + 1)) = wholeF cut 0 (ps.take t) by rw [hpt, wholeF_no cut p _ _ (fun _ => by rw [hpl]; omega)])
                rw [← HW.out] at HO HPY
                clear hpt hpl hgp HSI HW hft
                go_wp2_with fail
                go_roundg (gk - 1)
                case measure => omega
                case rel => exact ⟨t + 1, xs, by omega, by go_num, by rw [← HFL.out]; go_num, HO, HPY, HBy⟩
            · have g1' : (1 : Int) ≤ ni := by omega
              have g2' : ¬ (ni : Int) ≤ 4096 := by omega
              have hng : ¬ goodP p = true := by rw [goodP_iff]; omega
              have HW := Lib.hid (show wholeF cut 0 (ps.take (t + 1)) = wholeF cut 0 (ps.take t) by rw [hpt, wholeF_no cut p _ _ (fun h => absurd h hng)])
              have HFT := Lib.hid (show flatF (ps.take (t + 1)) = flatF (ps.take t) by rw [hpt, flatF_snoc, if_neg hng, List.append_nil])
              rw [← HW.out] at HO HPY
              clear hpt hpl hng HSI HW g1 g2
              go_wp2_with fail
              go_roundg (gk - 1)
              case measure => omega
              case rel => exact ⟨t + 1, xs, by omega, by go_num, by rw [HFT.out], HO, HPY, HBy⟩
          · have g1' : ¬ (1 : Int) ≤ ni := by omega
            have hng : ¬ goodP p = true := by rw [goodP_iff]; omega
            have HW := Lib.hid (show wholeF cut 0 (ps.take (t + 1)) = wholeF cut 0 (ps.take t) by rw [hpt, wholeF_no cut p _ _ (fun h => absurd h hng)])
            have HFT := Lib.hid (show flatF (ps.take (t + 1)) = flatF (ps.take t) by rw [hpt, flatF_snoc, if_neg hng, List.append_nil])
            rw [← HW.out] at HO HPY
            clear hpt hpl hng HSI HW g1
            go_wp2_with fail
            go_roundg (gk - 1)
            case measure => omega
            case rel => exact ⟨t + 1, xs, by omega, by go_num, by rw [HFT.out], HO, HPY, HBy⟩
        · have htl : (12 : Int) ≤ t := by omega
          have hte : t = 12 := by omega
          have htk : ps.take t = ps := by rw [hte]; exact List.take_of_length_le (by rw [HPL.out]; exact Nat.le_refl _)
          rw [htk] at HO HPY
          obtain ⟨vW, cW, rfl, _, _, _⟩ := Sl.own HO.out
          have HLW := Lib.hid (lists_own HO.out HPY.out)
          have hwl : (wholeF cut 0 ps).length ≤ 12 := by have := wholeF_len cut ps 0; rw [HPL.out] at this; omega
          have HSB := Lib.hid ((HSA.out.keep HBy.out).front4 (k := cut) hcl)
          have HCA := Lib.hid (cut_all · ps cut hcl)
          have hcc : (cut : Int) ≤ cA := by have := HAC.out.1; omega
          have hcl' : (cut : Int) ≤ 49236 := by omega
          have hcn : cut ≤ 49236 := by omega
          have HO2 := Lib.hid (bown_lit wr (bcells []) (by decide))
          have HS2 := Lib.hid (HSB.out.keep ((Below.refl _ _).alloc (Nat.le_refl _) (.cells (bcells []).toArray 5)))
          have HB2 := Lib.hid (((Below.refl wr.heap.size wr).alloc (Nat.le_refl _) (.cells (bcells []).toArray 5)))
          clear htk HO HPY HSA HSB hte
          go_upto_region 22 with (first
            | (at_builtin; refine app_any _ _ 22 5 i0 (.int .u8 0) 1 1 Try.underlying22 hi hz0 hz1 hz2 rfl (by decide) rfl rfl rfl HO2.out rfl HS2.out hnA (fun u hu => bcells_one hu) ?d1 ?d2 HB2.out.size ?_))
          case d1 => simp only [maxLen, bcells, List.map_nil, List.length_nil]; omega
          case d2 => simp only [bcells, List.map_nil, List.length_nil]; omega
          intro v3 w3 ho hb
          have ho2 : w3.ownsRow wr.heap.size 5 1 v3 (0 + cut) (bcells ((flatF ps).take cut)) := ho
          rw [Nat.zero_add] at ho2
          have HB3 := Lib.hid (HB2.out.trans hb)
          have HBW := Lib.hid (HBw.out)
          have hzb := clampI_bd z0 0 5000 (by decide)
          have NZ := Lib.hid (fun w => near_any z0 0 5000 w)
          obtain ⟨z, hz⟩ : ∃ k : Nat, clampI z0 0 5000 = k := ⟨(clampI z0 0 5000).toNat, by omega⟩
          rw [hz] at NZ hzb
          have hz5 : z ≤ 5000 := by omega
          have hz5' : (z : Int) ≤ 5000 := by omega
          have HO3 := Lib.hid (show w3.ownsRow wr.heap.size 5 1 v3 (cut + 0) (bcells ((flatF ps).take cut ++ List.replicate 0 0)) from by rw [List.replicate_zero, List.append_nil]; exact ho2)
          clear ho ho2 hb HO2 HS2 HB2 hz hzb
          generalize wr = wB at *
          go_wp2_with fail
          go_loopg [12, 13] z (fun q s12 s13 wr => ∃ j : Nat, q + j = z ∧ s13 = .int .i64 j ∧ Hid (wr.ownsRow wB.heap.size 5 1 s12 (cut + j) (bcells ((flatF ps).take cut ++ List.replicate j 0))) ∧ Hid (Below wB.heap.size wB wr))
          case atStart => exact ⟨0, by omega, rfl, HO3, HB3⟩
          case round =>
            obtain ⟨j, hqj, rfl, HO, HBz⟩ := hrel
            have hj0 : (0 : Int) ≤ j := by omega
            by_cases hjz : j < z
            · have hjl : (j : Int) < z := by omega
              have HRE := Lib.hid (show ((flatF ps).take cut ++ List.replicate j 0) ++ [0] = (flatF ps).take cut ++ List.replicate (j + 1) 0 by rw [List.append_assoc, List.replicate_succ'])
              have HL := Lib.hid (blit_sl wr (bcells [0]) (by decide))
              have HO2 := Lib.hid (own_stay HO.out ((Below.refl _ _).alloc (Nat.le_refl _) (.cells (bcells [0]).toArray 5)))
              have HB2 := Lib.hid (HBz.out.alloc HBz.out.size (.cells (bcells [0]).toArray 5))
              clear HO HBz
              go_wp2_with (first
                | (go_at_call 15; refine (NZ.out _).mono ?_; rintro e w5 ⟨rfl, rfl⟩)
                | (at_builtin; refine app_any _ _ 22 5 i0 (.int .u8 0) 1 1 Try.underlying22 hi hz0 hz1 hz2 rfl (by decide) rfl rfl rfl HO2.out rfl HL.out (fun h => by cases h) (fun u hu => bcells_one hu) ?e1 ?e2 HB2.out.size ?_))
              case e1 => (try simp only [maxLen, bcells, List.map_cons, List.map_nil, List.length_singleton]); omega
              case e2 => (try simp only [bcells, List.map_cons, List.map_nil, List.length_singleton]); omega
              intro v5 w5 ho hb
              rw [← bcells_snoc, HRE.out] at ho
              have HO5 := Lib.hid (show w5.ownsRow wB.heap.size 5 1 v5 (cut + (j + 1)) (bcells ((flatF ps).take cut ++ List.replicate (j + 1) 0)) from ho)
              have HB5 := Lib.hid (HB2.out.trans hb)
              clear ho hb HO2 HL HB2 HRE
              go_wp2_with fail
              go_roundg (gk - 1)
              case measure => omega
              case rel => exact ⟨j + 1, by omega, by go_num, HO5, HB5⟩
            · have hjl : (z : Int) ≤ j := by omega
              have hje : j = z := by omega
              rw [hje] at HO
              obtain ⟨vB, cB, rfl, hB1, hB2, hsB⟩ := Sl.own HO.out
              have FA := Lib.hid (fall_any vB (cut + z) cB ((flatF ps).take cut ++ List.replicate z 0) wr hsB hB1 (by simpa [maxLen] using hB2) (by omega))
              rw [HCA.out z] at FA
              have HLZ := Lib.hid (HLW.out.keep HBz.out)
              have HBa := Lib.hid (HBW.out.trans (HBz.out.mono HBW.out.size))
              clear HO hsB hB1 hB2 hje
              go_wp2_with (first
                | (go_at_call 15; refine (NZ.out _).mono ?_; rintro e w5 ⟨rfl, rfl⟩))
              refine FA.out.mono ?_
              rintro e w6 ⟨va, vc, xa, rfl, ho, hp, hb⟩
              have OC := Lib.hid (octets_same va vW (wholeF cut 0 ps).length vc cW (wholeF cut 0 ps) w6 (lists_own ho hp) (HLZ.out.keep hb) (by omega))
              have HB6 := Lib.hid (HBa.out.trans (hb.mono HBa.out.size))
              clear ho hp hb FA HLZ
              generalize (wholeF cut 0 ps).length = K at *
              go_wp2_with fail
              refine OC.out.mono ?_
              rintro e w7 ⟨rfl, hb⟩
              have HB7 := Lib.hid (HB6.out.trans (hb.mono HB6.out.size))
              clear hb OC
              go_wp2_with fail
              go_ret
              exact ⟨rfl, HB7.out⟩
theorem fcuts_law (v0 v1 v2 : Value) (w : World) (h0 : Arg Try.prog w 34 v0) (h1 : Arg Try.prog w 3 v1) (h2 : Arg Try.prog w 3 v2) : Calls Try.prog 5 #[v0, v1, v2] w fun e w' => e = .returned (.bool true) ∧ Below w.heap.size w w' := by
  obtain ⟨a, m, c, ps, rfl, hmc, _, _, hp, _⟩ := h0.parts
  obtain ⟨cut0, rfl, _⟩ := h1.int Try.underlying3
  obtain ⟨z0, rfl, _⟩ := h2.int Try.underlying3
  by_cases hm : m ≤ 12
  · exact fcuts_small a m c ps cut0 z0 w hp hm
  · refine fcuts_big a m c (ps.take 12) cut0 z0 w ⟨by rw [List.length_take, hp.1]; omega, hp.2.imp (fun h => by omega) ?_⟩ (by omega) hmc
    rintro ⟨b, off, ha, hb, hc⟩
    refine ⟨b, off, ha, hb, fun i hi => ?_⟩
    obtain ⟨ai, ni, ci, h1, h2, h3⟩ := hc i (by omega)
    refine ⟨ai, ni, ci, h1, h2, ?_⟩
    rw [List.getD_eq_getElem?_getD, List.getElem?_take_of_lt hi, ← List.getD_eq_getElem?_getD]
    exact h3
end Go.Proofs.Ytnlocomjmkgmkaa
