/- The statements of frames: one that is alive. -/
import Derived.Test.YtnlocomjmkgmkaaFrm4
import Derived.Test.YtnlocomjmkgmkaaAppB
import Derived.Test.YtnlocomjmkgmkaaLaw03
import Derived.Test.YtnlocomjmkgmkaaRef02
import Derived.Test.YtnlocomjmkgmkaaOps
import Derived.RegionTactic
import Derived.BigRegion
import Derived.ChangeAlike
namespace Go.Proofs.Ytnlocomjmkgmkaa
set_option linter.unusedVariables false
set_option linter.unusedSimpArgs false
open Go.ChangeShapes Go.WideShapes Go.ChangeAt Go.RowKit
theorem allF_two : allF (frameOf [9] ++ frameOf [9]) = [[9], [9]] := by
  have h := getF_frame [9] (frameOf [9]) (by decide) (by decide)
  rw [allF_some h.1, h.2.1, h.2.2]
  have h2 := getF_frame [9] [] (by decide) (by decide)
  rw [List.append_nil] at h2
  rw [allF_some h2.1, h2.2.1, h2.2.2, allF_none (by
    rcases hg : getF [] with _ | m
    · rfl
    · have := (getF_some hg).2.2.2; simp at this)]
set_option maxRecDepth 100000 in
set_option maxHeartbeats 4000000 in
theorem alive04 (w : World) : Calls Try.prog 6 #[] w fun e w' => e = .returned (.bool true) ∧ Below w.heap.size w w' := by
  obtain ⟨i0, hi, hz0, hz1, hz2⟩ := info_parts u8i
  have HB0 := Lib.hid ((Below.refl w.heap.size w).alloc (Nat.le_refl _) (.cells (bcells [9]).toArray 5))
  have P := Lib.hid (fput_yes (some ⟨w.heap.size, 0, none⟩) 1 1 [9] (w.alloc (.cells (bcells [9]).toArray 5)) (blit_sl w (bcells [9]) (by decide)) (by decide) (by decide))
  go_enter Try.func6, Try.ntmps6
  go_wp2_with fail
  refine P.out.mono ?_
  rintro e w1 ⟨a1, c1, rfl, ho, hb⟩
  have HO1 := Lib.hid (own_base2 ho HB0.out.size)
  have HB1 := Lib.hid (HB0.out.trans (hb.mono HB0.out.size))
  clear ho hb P HB0
  have HL := Lib.hid (blit_sl w1 (bcells [1]) (by decide))
  have HO2 := Lib.hid (own_stay HO1.out ((Below.refl _ _).alloc (Nat.le_refl _) (.cells (bcells [1]).toArray 5)))
  have HB2 := Lib.hid (HB1.out.alloc HB1.out.size (.cells (bcells [1]).toArray 5))
  clear HO1 HB1
  go_wp2_with (first
    | (at_builtin; refine app_both _ _ 22 5 i0 (.int .u8 0) 1 Try.underlying22 hi hz0 hz1 hz2 rfl rfl rfl rfl HO2.out (by decide) rfl HL.out (by decide) (fun u hu => bcells_one hu) ?c1 ?c2 HB2.out.size ?_))
  case c1 => decide
  case c2 => decide
  intro v3 w3 hn ho hb _
  rw [← bcells_snoc] at hn
  obtain ⟨a3, c3, rfl, hc31, hc32, hs3⟩ := Sl.own hn
  have HO3 := Lib.hid ho
  have HB3 := Lib.hid (HB2.out.trans hb)
  have hf := getF_frame [9] [1] (by decide) (by decide)
  have G := Lib.hid (fget_any a3 9 c3 (frameOf [9] ++ [1]) w3 hs3 hc31 (by simpa [maxLen] using hc32) (by decide))
  clear hn ho hb hs3 hc31 hc32 HO2 HB2 HL
  go_wp2_with fail
  refine G.out.mono ?_
  rintro e w4 ⟨hsome, _, hb⟩
  obtain ⟨a4, c4, rfl, ho⟩ := hsome 1 hf.1
  rw [show [(9 : UInt8)].length = 1 from rfl] at hf
  rw [hf.2.1] at ho
  have HX4 := Lib.hid (sl_own' ho)
  have hne4 : ∀ ad, a4 = some ad → (Value.slice a1 8 c1).ownBlock ≠ some ad.block := fun ad ha e1 => by
    subst ha
    have h1 := (HO3.out.lt _ e1).2
    rcases ho.2 with ⟨h0, _⟩ | ⟨gq, cap, cur, h0, h2, _⟩
    · cases h0
    · injection h0 with e2
      injection e2 with e2
      subst e2
      simp only at h1
      omega
  have HNE := Lib.hid hne4
  have HO4 := Lib.hid (own_stay HO3.out hb)
  have HB4 := Lib.hid (HB3.out.trans (hb.mono HB3.out.size))
  have HS4 := Lib.hid (sl_own' HO4.out)
  clear hsome hf hb ho HO3 HB3 G hne4
  go_wp2_with (first
    | (at_builtin; refine app_both _ _ 22 5 i0 (.int .u8 0) 1 Try.underlying22 hi hz0 hz1 hz2 rfl rfl rfl rfl HO4.out (by decide) rfl HS4.out (by decide) (fun u hu => bcells_one hu) ?d1 ?d2 HB4.out.size ?_))
  case d1 => decide
  case d2 => decide
  intro v5 w5 hn _ hb hg5
  rw [← bcells_snoc] at hn
  obtain ⟨a5, c5, rfl, hc51, hc52, hs5⟩ := Sl.own hn
  have HX5 := Lib.hid (HX4.out.grownNe hg5 HNE.out)
  have HB5 := Lib.hid (HB4.out.trans hb)
  have A := Lib.hid (fall_any a5 16 c5 (frameOf [9] ++ frameOf [9]) w5 hs5 hc51 (by simpa [maxLen] using hc52) (by decide))
  rw [allF_two] at A
  clear hn hb hg5 hs5 hc51 hc52 HO4 HB4 HS4 HX4 HNE
  go_wp2_with fail
  refine A.out.mono ?_
  rintro e w6 ⟨va, vc, xs, rfl, _, _, hb⟩
  have HB6 := Lib.hid (HB5.out.trans (hb.mono HB5.out.size))
  obtain ⟨_, b6, o6, rfl, _, hcell⟩ := (HX5.out.keep hb).byte (by decide)
  have c6 : w6.cell? ⟨b6, o6, none⟩ = some (.int .u8 9) := hcell 0 (by decide)
  have FS := Lib.hid (fun w => fsize_any 1 w)
  rw [show sizeI 1 = 8 from rfl] at FS
  clear hb hcell HX5 HB5 A
  go_wp2_with fail
  refine (FS.out _).mono ?_
  rintro e w7 ⟨rfl, rfl⟩
  go_wp2_with fail
  go_ret
  exact ⟨rfl, HB6.out⟩
end Go.Proofs.Ytnlocomjmkgmkaa
