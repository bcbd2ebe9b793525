/- Lists of changes with one more, or one less, by the page. -/
import Derived.Test.YtcfipimhpeblbaaStm14
import Derived.Deep.DeepCutAuto
import Derived.Maps.AppendAt
import Derived.Test.YtcfipimhpeblbaaRow
import Derived.Test.YtcfipimhpeblbaaOps
import Derived.RegionTactic
import Derived.BigRegion
import Derived.ChangeAlike
namespace Go.Proofs.Ytcfipimhpeblbaa
set_option linter.unusedVariables false
set_option linter.unusedSimpArgs false
open Go.ChangeShapes Go.WideShapes Go.ChangeAt Go.RowKit
theorem Blk.keepB {w w' : World} {g B t : Nat} {cs : List Value} (h : Blk w g cs t) (hb : Below B w w') (hg : g < B) : Blk w' g cs t := h.keep hb hg
set_option maxRecDepth 100000 in
set_option maxHeartbeats 4000000 in
theorem rputS_any (a : Option Addr) (n c : Nat) (L cv : List Int) (w : World) (HS : Hid (Sl w a n 9 (ints L))) (hnil : a = none → c = 0) (hnc : n ≤ c) (hn : n ≤ 1000) (lc : cv.length = 9) :
    Calls Try.prog 29 #[.slice a n c, .agg (ints cv).toArray] w fun e w' => ∃ v, e = .returned v ∧ w'.ownsRow w.heap.size 36 9 v (n + 1) (ints (putC L n cv)) ∧ Below w.heap.size w w' := by
  obtain ⟨i0, hi0, hz0, hz1, hz2⟩ := info_partsP chg_infoP
  have HI := Lib.hid hi0
  have HL : Hid (L.length = n * 9) := Lib.hid (by have := HS.out.1; rwa [ints_len] at this)
  have HB := Lib.hid ((Below.refl w.heap.size w).alloc (Nat.le_refl _) (.cells (ints cv).toArray 36))
  have A : Hid (Blk (w.alloc (.cells (ints cv).toArray 36)) w.heap.size (ints cv) 36) := Lib.hid (Blk.new w (ints cv).toArray 36)
  have ER : Hid (((ints cv).drop 0).take (ints cv).length = ints cv) := Lib.hid (by simp)
  have LC : Hid ((ints cv).length = 9) := Lib.hid (by rw [ints_len, lc])
  have OC : Hid (∀ u ∈ ints cv, u.oneCell' = true) := Lib.hid fun u hu => ints_one hu
  have TA : Hid (RowT 36 (ints cv).length) := Lib.hid (by rw [ints_len, lc]; exact rowChg)
  have HS0 := Lib.hid (HS.out.keep HB.out)
  clear hi0
  go_enter Try.func29, Try.ntmps29
  go_upto_region 3 with fail
  generalize hg0 : w.heap.size = g0 at *
  have HG0 := Lib.hid hg0
  have hsz : (w.alloc (.cells (ints cv).toArray 36)).heap.size = g0 + 1 := by rw [← hg0]; simp
  have HSZ := Lib.hid hsz
  generalize w.alloc (.cells (ints cv).toArray 36) = w1 at *
  clear hg0 hsz
  go_loopg [5, 6] n (fun q s5 s6 wr => ∃ (i : Nat), q + i = n ∧ s6 = .int .i64 i ∧ s5 = .int .i64 (putAt L cv i) ∧ Hid (Below w1.heap.size w1 wr))
  case atStart => exact ⟨0, rfl, rfl, rfl, Lib.hid (Below.refl _ _)⟩
  case round =>
    obtain ⟨i, hqi, rfl, rfl, hbr⟩ := hrel
    by_cases hi : i < n
    · have hin : (i : Int) < n := by omega
      have hi0 : (0 : Int) ≤ i := by omega
      obtain ⟨b, off, rfl, hlc, hra⟩ := rAt_at (HS0.out.keep hbr.out) hi
      have TO : Hid (RowT 36 (ints (rAt 9 L i)).length) := Lib.hid (by rw [ints_len, rAt_len HL.out hi]; exact rowChg)
      have A2 := Lib.hid (A.out.keep hbr.out A.out.lt)
      have hp := putAt_le L cv i
      have CL := Lib.hid (fun w => rsless cv (rAt 9 L i) lc (rAt_len HL.out hi) w)
      have ST : Hid (putAt L cv (i + 1) = if lessC cv (rAt 9 L i) = true then putAt L cv i else i + 1) := Lib.hid rfl
      generalize lessC cv (rAt 9 L i) = v at *
      generalize ints (rAt 9 L i) = X at *
      generalize hy : putAt L cv i = y at *
      go_upto_region 5 with fail
      refine held_begin (fun w' => Below wr.heap.size wr w') 7 [false, false, false, false, false, false, false] (by kernel_rfl) rfl (by rfl) ?_
      have hHeld : Below wr.heap.size wr wr.drew := (Below.refl _ _).drew
      refine held_take (v := .agg (ints cv).toArray) 0 14 [true, false, false, false, false, false, false] rfl (by rfl) (by rfl) (by kernel_rfl) (by kernel_rfl) (by kernel_rfl) (by rfl) (fun _ _ _ h => h) (fun w' h => run_op_load rfl rfl ((A2.out.keep h A2.out.lt).range 0 (ints cv) ER.out) Try.underlying36 rfl TA.out.2) hHeld ?_
      simp only [Act.put, List.setIfInBounds_toArray, List.set_cons_zero, List.set_cons_succ]
      refine held_take (v := ?_) 1 15 [true, true, false, false, false, false, false] rfl (by rfl) (by rfl) (by kernel_rfl) (by kernel_rfl) (by kernel_rfl) (by rfl) (fun _ _ _ h => h) ?_ hHeld ?_
      rotate_left
      · intro w hSw; go_simp <;> with_reducible rfl
      simp only [Act.put, List.setIfInBounds_toArray, List.set_cons_zero, List.set_cons_succ]
      refine held_take (v := ?_) 2 16 [true, true, true, false, false, false, false] rfl (by rfl) (by rfl) (by kernel_rfl) (by kernel_rfl) (by kernel_rfl) (by rfl) (fun _ _ _ h => h) ?_ hHeld ?_
      rotate_left
      · intro w hSw; go_simp <;> with_reducible rfl
      simp only [Act.put, List.setIfInBounds_toArray, List.set_cons_zero, List.set_cons_succ]
      refine held_take (v := .pointer (some ⟨b, off + i * 9, none⟩)) 3 17 [true, true, true, true, false, false, false] rfl (by rfl) (by rfl) (by kernel_rfl) (by kernel_rfl) (by kernel_rfl) (by rfl) (fun _ _ _ h => h) (fun w' h => by first | (go_simp; done) | (go_simp; omega) | (go_simp <;> rfl)) hHeld ?_
      simp only [Act.put, List.setIfInBounds_toArray, List.set_cons_zero, List.set_cons_succ]
      refine held_take (v := .agg X.toArray) 4 18 [true, true, true, true, true, false, false] rfl (by rfl) (by rfl) (by kernel_rfl) (by kernel_rfl) (by kernel_rfl) (by rfl) (fun _ _ _ h => h) (fun w' h => run_op_load rfl rfl (range_keepG hra h hlc) Try.underlying36 rfl TO.out.2) hHeld ?_
      simp only [Act.put, List.setIfInBounds_toArray, List.set_cons_zero, List.set_cons_succ]
      refine held_call 5 19 [true, true, true, true, true, true, false] (by kernel_rfl) rfl (by rfl) (by rfl) (by rfl) (by go_simp) ((CL.out _).mono ?_)
      rintro e w4 ⟨rfl, hb4⟩
      refine ⟨_, rfl, hHeld.trans (hb4.mono hHeld.size), fun hHeld => ?_⟩
      simp only [Act.put, List.setIfInBounds_toArray, List.set_cons_zero, List.set_cons_succ]
      refine held_take (v := ?_) 6 20 [true, true, true, true, true, true, true] rfl (by rfl) (by rfl) (by kernel_rfl) (by kernel_rfl) (by kernel_rfl) (by rfl) (fun _ _ _ h => h) ?_ hHeld ?_
      rotate_left
      · intro w hSw; go_simp <;> with_reducible rfl
      simp only [Act.put, List.setIfInBounds_toArray, List.set_cons_zero, List.set_cons_succ]
      refine held_done (by kernel_rfl) ?_
      have HB2 := Lib.hid (hbr.out.trans (hHeld.mono hbr.out.size))
      clear hHeld hbr
      cases v
      · have e : putAt L cv (i + 1) = i + 1 := by rw [ST.out]; rfl
        have HE := Lib.hid e
        clear e hy
        go_wp2_with fail
        go_roundg (gk - 1)
        case measure => omega
        case rel => exact ⟨i + 1, by omega, by go_num, by rw [HE.out]; go_num, HB2⟩
      · have e : putAt L cv (i + 1) = y := by rw [ST.out]; rfl
        have HE := Lib.hid e
        clear e hy
        go_wp2_with fail
        go_roundg (gk - 1)
        case measure => omega
        case rel => exact ⟨i + 1, by omega, by go_num, by rw [HE.out], HB2⟩
    · have hin : ¬ (i : Int) < n := by omega
      have hie : i = n := by omega
      subst hie
      clear hi hqi
      have hk := putAt_le L cv i
      have HF : Hid (∀ (w' : World) (v : Value), w'.ownsRow w1.heap.size 36 9 v (putAt L cv i + 1 + (i - putAt L cv i)) (ints (L.take (putAt L cv i * 9)) ++ (ints cv ++ ints (L.drop (putAt L cv i * 9)))) → w'.ownsRow g0 36 9 v (i + 1) (ints (putC L i cv))) := Lib.hid (fun w' v ho => by
        rw [show putAt L cv i + 1 + (i - putAt L cv i) = i + 1 by omega] at ho
        unfold putC
        rw [ints_appG, ints_appG, List.append_assoc]
        exact own_base ho (HG0.out ▸ HB.out.size))
      generalize hpk : putAt L cv i = k at *
      have HBX := hbr
      have A2 := Lib.hid (A.out.keep hbr.out A.out.lt)
      have hSr := HS0.out.keep hbr.out
      have S8 := Lib.hid (hSr.fewG hk)
      have S10 := Lib.hid (sl_rest hSr hk hnc)
      have O8 : Hid (∀ u ∈ ints (L.take (k * 9)), u.oneCell' = true) := Lib.hid fun u hu => ints_one hu
      have O10 : Hid (∀ u ∈ ints (L.drop (k * 9)), u.oneCell' = true) := Lib.hid fun u hu => ints_one hu
      have N8 := Lib.hid hnil
      have N10 : Hid (cutAt a c k = none → c - k = 0) := Lib.hid (fun h => by
        have : a = none := by
          unfold cutAt at h
          split at h
          · exact h
          · cases a with
            | none => rfl
            | some _ => cases h
        have := hnil this
        omega)
      have CA : Hid (i - k = 0 ∨ ∀ ad, cutAt a c k = some ad → ad.block < w1.heap.size) := Lib.hid (by
        rcases HS0.out.2 with h | ⟨b, off, e2, hlt, _⟩
        · exact Or.inl (by omega)
        · refine Or.inr (fun ad e => ?_)
          rw [e2] at e
          unfold cutAt at e
          split at e
          · cases e; exact hlt
          · rw [Option.map_some, add_plain] at e; cases e; exact hlt)
      have hkI : (k : Int) ≤ i := by omega
      have hnI : (i : Int) ≤ c := by omega
      have hk0 : (0 : Int) ≤ k := by omega
      clear hbr hSr HS0 HS hpk
      generalize ints (L.take (k * 9)) = X8 at *
      generalize ints (L.drop (k * 9)) = X10 at *
      generalize ints cv = XC at *
      rcases a with _ | ad
      · obtain rfl : c = 0 := hnil rfl
        obtain rfl : i = 0 := by omega
        obtain rfl : k = 0 := by omega
        have S10 : Hid (Sl wr none 0 9 X10) := Lib.hid S10.out
        clear CA N10
        go_upto_region 9 with (at_builtin; refine app_any _ _ 24 36 i0 (.agg #[.int .i64 0, .int .i64 0, .int .i64 0, .int .i64 0, .int .i64 0, .int .i64 0, .int .i64 0, .int .i64 0, .int .i64 0]) 9 72 Try.underlying24 HI.out hz0 hz1 hz2 rfl (by decide) rfl rfl rfl (World.ownsRow_nil _ _ _ _) rfl S8.out (fun _ => rfl) O8.out (by simp only [maxLen]; omega) (by omega) HBX.out.size ?_)
        intro v8 w8 hown8 hb8
        have HO8 : Hid (w8.ownsRow w1.heap.size 36 9 v8 0 X8) := Lib.hid (by simpa using hown8)
        have HS10 := Lib.hid (slKeepB S10.out (Or.inl rfl) hb8)
        have A3 := Lib.hid (A2.out.keepB hb8 A.out.lt)
        have HBY := Lib.hid (HBX.out.trans hb8)
        clear hown8 hb8 HBX S8 S10 A2
        have r3 := A3.out.range 0 XC ER.out
        have HB9 := Lib.hid (HBY.out.alloc HBY.out.size (.cells XC.toArray 36))
        have S9 : Hid (Sl (w8.alloc (.cells XC.toArray 36)) (some ⟨w8.heap.size, 0, none⟩) 1 9 XC) := Lib.hid (sl_pre (S := []) (t := 36) (by have := Blk.new w8 XC.toArray 36; simpa using this) LC.out)
        have HO9 : Hid ((w8.alloc (.cells XC.toArray 36)).ownsRow w1.heap.size 36 9 v8 0 X8) := Lib.hid (own_stay HO8.out ((Below.refl _ _).alloc (Nat.le_refl _) _))
        have HS11 := Lib.hid (slKeepB HS10.out (Or.inl rfl) ((Below.refl w1.heap.size w8).alloc HBY.out.size (.cells XC.toArray 36)))
        have TA2 := TA.out
        have HBX := HB9
        go_upto_region 10 with (first
          | ((with_reducible refine ld_row r3 TA2 ?_ ?_ ?_); (· rfl); (· rfl); (simp only [Act.put, List.setIfInBounds_toArray, List.set_cons_zero, List.set_cons_succ]))
          | ((with_reducible refine bs_oneG Try.underlying24 (sz := 9) (by kernel_rfl) (by decide) (by decide) ?_ LC ?_); (· rfl); (simp only [Act.put, List.setIfInBounds_toArray, List.set_cons_zero, List.set_cons_succ]))
          | (at_builtin; refine app_any _ _ 24 36 i0 (.agg #[.int .i64 0, .int .i64 0, .int .i64 0, .int .i64 0, .int .i64 0, .int .i64 0, .int .i64 0, .int .i64 0, .int .i64 0]) 9 72 Try.underlying24 HI.out hz0 hz1 hz2 rfl (by decide) rfl rfl rfl HO9.out rfl S9.out (fun h => by cases h) OC.out (by simp only [maxLen]; omega) (by omega) HBX.out.size ?_))
        intro v9 w9 hown9 hb9
        have HO10 : Hid (w9.ownsRow w1.heap.size 36 9 v9 (0 + 1) (X8 ++ XC)) := Lib.hid hown9
        have HS12 := Lib.hid (slKeepB HS11.out (Or.inl rfl) hb9)
        have HBX := Lib.hid (HB9.out.trans hb9)
        clear hown9 hb9 HB9 HS11 HO9 S9 r3 HS10 HO8 HBY A3
        go_wp2_with (at_builtin; refine app_any _ _ 24 36 i0 (.agg #[.int .i64 0, .int .i64 0, .int .i64 0, .int .i64 0, .int .i64 0, .int .i64 0, .int .i64 0, .int .i64 0, .int .i64 0]) 9 72 Try.underlying24 HI.out hz0 hz1 hz2 rfl (by decide) rfl rfl rfl HO10.out rfl HS12.out (fun _ => rfl) O10.out (by simp only [maxLen]; omega) (by omega) HBX.out.size ?_)
        intro v10 w10 hown10 hb10
        have HO11 := Lib.hid (HF.out w10 v10 (by simpa using hown10))
        have HB11 := Lib.hid (HBX.out.trans hb10)
        clear hown10 hb10
        go_wp2_with fail
        go_ret
        have hge := HG0.out
        subst hge
        exact ⟨_, rfl, HO11.out, HB.out.trans (HB11.out.mono HB.out.size)⟩
      · by_cases hck : c = k
        · have e : cutAt (some ad) c k = some ad := if_pos hck
          rw [e] at S10
          clear e N10 CA N8
          have e1 : k = i := by omega
          subst e1
          have e2 : k = c := hck.symm
          subst e2
          have S10 : Hid (Sl wr (some ad) 0 9 X10) := Lib.hid (by have := S10.out; rwa [Nat.sub_self] at this)
          go_upto_region 9 with (at_builtin; refine app_any _ _ 24 36 i0 (.agg #[.int .i64 0, .int .i64 0, .int .i64 0, .int .i64 0, .int .i64 0, .int .i64 0, .int .i64 0, .int .i64 0, .int .i64 0]) 9 72 Try.underlying24 HI.out hz0 hz1 hz2 rfl (by decide) rfl rfl rfl (World.ownsRow_nil _ _ _ _) rfl S8.out (fun h => by cases h) O8.out (by simp only [maxLen]; omega) (by omega) HBX.out.size ?_)
          intro v8 w8 hown8 hb8
          have HO8 : Hid (w8.ownsRow w1.heap.size 36 9 v8 k X8) := Lib.hid (by simpa using hown8)
          have HS10 := Lib.hid (slKeepB S10.out (Or.inl rfl) hb8)
          have A3 := Lib.hid (A2.out.keepB hb8 A.out.lt)
          have HBY := Lib.hid (HBX.out.trans hb8)
          clear hown8 hb8 HBX S8 S10 A2
          have r3 := A3.out.range 0 XC ER.out
          have HB9 := Lib.hid (HBY.out.alloc HBY.out.size (.cells XC.toArray 36))
          have S9 : Hid (Sl (w8.alloc (.cells XC.toArray 36)) (some ⟨w8.heap.size, 0, none⟩) 1 9 XC) := Lib.hid (sl_pre (S := []) (t := 36) (by have := Blk.new w8 XC.toArray 36; simpa using this) LC.out)
          have HO9 : Hid ((w8.alloc (.cells XC.toArray 36)).ownsRow w1.heap.size 36 9 v8 k X8) := Lib.hid (own_stay HO8.out ((Below.refl _ _).alloc (Nat.le_refl _) _))
          have HS11 := Lib.hid (slKeepB HS10.out (Or.inl rfl) ((Below.refl w1.heap.size w8).alloc HBY.out.size (.cells XC.toArray 36)))
          have TA2 := TA.out
          have HBX := HB9
          go_upto_region 10 with (first
            | ((with_reducible refine ld_row r3 TA2 ?_ ?_ ?_); (· rfl); (· rfl); (simp only [Act.put, List.setIfInBounds_toArray, List.set_cons_zero, List.set_cons_succ]))
            | ((with_reducible refine bs_oneG Try.underlying24 (sz := 9) (by kernel_rfl) (by decide) (by decide) ?_ LC ?_); (· rfl); (simp only [Act.put, List.setIfInBounds_toArray, List.set_cons_zero, List.set_cons_succ]))
            | (at_builtin; refine app_any _ _ 24 36 i0 (.agg #[.int .i64 0, .int .i64 0, .int .i64 0, .int .i64 0, .int .i64 0, .int .i64 0, .int .i64 0, .int .i64 0, .int .i64 0]) 9 72 Try.underlying24 HI.out hz0 hz1 hz2 rfl (by decide) rfl rfl rfl HO9.out rfl S9.out (fun h => by cases h) OC.out (by simp only [maxLen]; omega) (by omega) HBX.out.size ?_))
          intro v9 w9 hown9 hb9
          have HO10 : Hid (w9.ownsRow w1.heap.size 36 9 v9 (k + 1) (X8 ++ XC)) := Lib.hid hown9
          have HS12 := Lib.hid (slKeepB HS11.out (Or.inl rfl) hb9)
          have HBX := Lib.hid (HB9.out.trans hb9)
          clear hown9 hb9 HB9 HS11 HO9 S9 r3 HS10 HO8 HBY A3
          go_wp2_with (at_builtin; refine app_any _ _ 24 36 i0 (.agg #[.int .i64 0, .int .i64 0, .int .i64 0, .int .i64 0, .int .i64 0, .int .i64 0, .int .i64 0, .int .i64 0, .int .i64 0]) 9 72 Try.underlying24 HI.out hz0 hz1 hz2 rfl (by decide) rfl rfl rfl HO10.out rfl HS12.out (fun h => by cases h) O10.out (by simp only [maxLen]; omega) (by omega) HBX.out.size ?_)
          intro v10 w10 hown10 hb10
          have HO11 := Lib.hid (HF.out w10 v10 (by simpa using hown10))
          have HB11 := Lib.hid (HBX.out.trans hb10)
          clear hown10 hb10
          go_wp2_with fail
          go_ret
          have hge := HG0.out
          subst hge
          exact ⟨_, rfl, HO11.out, HB.out.trans (HB11.out.mono HB.out.size)⟩
        · have e : cutAt (some ad) c k = some (ad.add (k * 9)) := if_neg hck
          rw [e] at S10 N10 CA
          have hckI : (k : Int) < c := by omega
          clear e
          go_upto_region 9 with (at_builtin; refine app_any _ _ 24 36 i0 (.agg #[.int .i64 0, .int .i64 0, .int .i64 0, .int .i64 0, .int .i64 0, .int .i64 0, .int .i64 0, .int .i64 0, .int .i64 0]) 9 72 Try.underlying24 HI.out hz0 hz1 hz2 rfl (by decide) rfl rfl rfl (World.ownsRow_nil _ _ _ _) rfl S8.out N8.out O8.out (by simp only [maxLen]; omega) (by omega) HBX.out.size ?_)
          intro v8 w8 hown8 hb8
          have HO8 : Hid (w8.ownsRow w1.heap.size 36 9 v8 k X8) := Lib.hid (by simpa using hown8)
          have HS10 := Lib.hid (slKeepB S10.out CA.out hb8)
          have A3 := Lib.hid (A2.out.keepB hb8 A.out.lt)
          have HBY := Lib.hid (HBX.out.trans hb8)
          clear hown8 hb8 HBX S8 S10 A2
          have r3 := A3.out.range 0 XC ER.out
          have HB9 := Lib.hid (HBY.out.alloc HBY.out.size (.cells XC.toArray 36))
          have S9 : Hid (Sl (w8.alloc (.cells XC.toArray 36)) (some ⟨w8.heap.size, 0, none⟩) 1 9 XC) := Lib.hid (sl_pre (S := []) (t := 36) (by have := Blk.new w8 XC.toArray 36; simpa using this) LC.out)
          have HO9 : Hid ((w8.alloc (.cells XC.toArray 36)).ownsRow w1.heap.size 36 9 v8 k X8) := Lib.hid (own_stay HO8.out ((Below.refl _ _).alloc (Nat.le_refl _) _))
          have HS11 := Lib.hid (slKeepB HS10.out CA.out ((Below.refl w1.heap.size w8).alloc HBY.out.size (.cells XC.toArray 36)))
          have TA2 := TA.out
          have HBX := HB9
          go_upto_region 10 with (first
            | ((with_reducible refine ld_row r3 TA2 ?_ ?_ ?_); (· rfl); (· rfl); (simp only [Act.put, List.setIfInBounds_toArray, List.set_cons_zero, List.set_cons_succ]))
            | ((with_reducible refine bs_oneG Try.underlying24 (sz := 9) (by kernel_rfl) (by decide) (by decide) ?_ LC ?_); (· rfl); (simp only [Act.put, List.setIfInBounds_toArray, List.set_cons_zero, List.set_cons_succ]))
            | (at_builtin; refine app_any _ _ 24 36 i0 (.agg #[.int .i64 0, .int .i64 0, .int .i64 0, .int .i64 0, .int .i64 0, .int .i64 0, .int .i64 0, .int .i64 0, .int .i64 0]) 9 72 Try.underlying24 HI.out hz0 hz1 hz2 rfl (by decide) rfl rfl rfl HO9.out rfl S9.out (fun h => by cases h) OC.out (by simp only [maxLen]; omega) (by omega) HBX.out.size ?_))
          intro v9 w9 hown9 hb9
          have HO10 : Hid (w9.ownsRow w1.heap.size 36 9 v9 (k + 1) (X8 ++ XC)) := Lib.hid hown9
          have HS12 := Lib.hid (slKeepB HS11.out CA.out hb9)
          have HBX := Lib.hid (HB9.out.trans hb9)
          clear hown9 hb9 HB9 HS11 HO9 S9 r3 HS10 HO8 HBY A3
          go_wp2_with (at_builtin; refine app_any _ _ 24 36 i0 (.agg #[.int .i64 0, .int .i64 0, .int .i64 0, .int .i64 0, .int .i64 0, .int .i64 0, .int .i64 0, .int .i64 0, .int .i64 0]) 9 72 Try.underlying24 HI.out hz0 hz1 hz2 rfl (by decide) rfl rfl rfl HO10.out rfl HS12.out N10.out O10.out (by simp only [maxLen]; omega) (by omega) HBX.out.size ?_)
          intro v10 w10 hown10 hb10
          have HO11 := Lib.hid (HF.out w10 v10 (by simpa using hown10))
          have HB11 := Lib.hid (HBX.out.trans hb10)
          clear hown10 hb10
          go_wp2_with fail
          go_ret
          have hge := HG0.out
          subst hge
          exact ⟨_, rfl, HO11.out, HB.out.trans (HB11.out.mono HB.out.size)⟩
def withTo (L : List Int) (i : Int) : Nat → List Int
  | 0 => []
  | k + 1 => if (k : Int) = i then withTo L i k else withTo L i k ++ rAt 9 L k
def cntTo7 (i : Int) : Nat → Nat
  | 0 => 0
  | k + 1 => if (k : Int) = i then cntTo7 i k else cntTo7 i k + 1
theorem cntTo7_le (i : Int) : ∀ k, cntTo7 i k ≤ k
  | 0 => Nat.le_refl _
  | k + 1 => by
    have := cntTo7_le i k
    unfold cntTo7
    split <;> omega
set_option maxRecDepth 100000 in
set_option maxHeartbeats 4000000 in
theorem rwithS_any (a : Option Addr) (n c : Nat) (L : List Int) (x : Int) (w : World) (HS : Hid (Sl w a n 9 (ints L))) (hn : n ≤ 1000) :
    Calls Try.prog 31 #[.slice a n c, .int .i64 x] w fun e w' => ∃ v, e = .returned v ∧ w'.ownsRow w.heap.size 36 9 v (cntTo7 x n) (ints (withTo L x n)) ∧ Below w.heap.size w w' := by
  obtain ⟨i0, hi0, hz0, hz1, hz2⟩ := info_partsP chg_infoP
  have HI := Lib.hid hi0
  have HL : Hid (L.length = n * 9) := Lib.hid (by have := HS.out.1; rwa [ints_len] at this)
  clear hi0
  go_enter Try.func31, Try.ntmps31
  go_upto_region 3 with fail
  go_loopg [5, 6] n (fun q s5 s6 wr => ∃ (i : Nat) (v : Value), q + i = n ∧ s6 = .int .i64 i ∧ s5 = v ∧ Hid (wr.ownsRow w.heap.size 36 9 v (cntTo7 x i) (ints (withTo L x i))) ∧ Hid (Below w.heap.size w wr))
  case atStart => exact ⟨0, _, rfl, rfl, rfl, Lib.hid (World.ownsRow_nil _ _ _ _), Lib.hid (Below.refl _ _)⟩
  case round =>
    obtain ⟨i, v, hqi, rfl, rfl, HO, HBX⟩ := hrel
    by_cases hi : i < n
    · have hin : (i : Int) < n := by omega
      have hi0 : (0 : Int) ≤ i := by omega
      by_cases hx : (i : Int) = x
      · have hxb : ((i : Int) != x) = false := by simp [hx]
        have e1 : cntTo7 x (i + 1) = cntTo7 x i := if_pos hx
        have e2 : withTo L x (i + 1) = withTo L x i := if_pos hx
        have HO2 := HO
        rw [← e1, ← e2] at HO2
        clear e1 e2
        clear hx HO
        go_wp2_with fail
        go_roundg (gk - 1)
        case measure => omega
        case rel => exact ⟨i + 1, _, by omega, by go_num, rfl, HO2, HBX⟩
      · have hxb : ((i : Int) != x) = true := by simpa using hx
        have e1 : Hid (cntTo7 x (i + 1) = cntTo7 x i + 1) := Lib.hid (if_neg hx)
        have e2 : Hid (ints (withTo L x (i + 1)) = ints (withTo L x i) ++ ints (rAt 9 L i)) := Lib.hid (by rw [← ints_appG]; exact congrArg ints (if_neg hx))
        obtain ⟨b, off, rfl, hlc, hra⟩ := rAt_at (HS.out.keep HBX.out) hi
        have TO : RowT 36 (ints (rAt 9 L i)).length := by rw [ints_len, rAt_len HL.out hi]; exact rowChg
        have LX : Hid ((ints (rAt 9 L i)).length = 9) := Lib.hid (by rw [ints_len, rAt_len HL.out hi])
        have OX : Hid (∀ u ∈ ints (rAt 9 L i), u.oneCell' = true) := Lib.hid fun u hu => ints_one hu
        have hcn := cntTo7_le x i
        clear hx
        generalize ints (rAt 9 L i) = X at *
        have HBW := HBX
        have HBX := Lib.hid (HBW.out.alloc HBW.out.size (.cells X.toArray 36))
        have S9 : Hid (Sl (wr.alloc (.cells X.toArray 36)) (some ⟨wr.heap.size, 0, none⟩) 1 9 X) := Lib.hid (sl_pre (S := []) (t := 36) (by have := Blk.new wr X.toArray 36; simpa using this) LX.out)
        have HO9 := Lib.hid (own_stay HO.out ((Below.refl wr.heap.size wr).alloc (Nat.le_refl _) (.cells X.toArray 36)))
        go_wp2_with (first
          | ((with_reducible refine ld_row hra TO ?_ ?_ ?_); (· rfl); (· rfl); (simp only [Act.put, List.setIfInBounds_toArray, List.set_cons_zero, List.set_cons_succ]))
          | ((with_reducible refine bs_oneG Try.underlying24 (sz := 9) (by kernel_rfl) (by decide) (by decide) ?_ LX ?_); (· rfl); (simp only [Act.put, List.setIfInBounds_toArray, List.set_cons_zero, List.set_cons_succ]))
          | (at_builtin; refine app_any _ _ 24 36 i0 (.agg #[.int .i64 0, .int .i64 0, .int .i64 0, .int .i64 0, .int .i64 0, .int .i64 0, .int .i64 0, .int .i64 0, .int .i64 0]) 9 72 Try.underlying24 HI.out hz0 hz1 hz2 rfl (by decide) rfl rfl rfl HO9.out rfl S9.out (fun h => by cases h) OX.out (by simp only [maxLen]; omega) (by omega) HBX.out.size ?_))
        intro v2 w2 hown2 hb2
        have HO2 : Hid (w2.ownsRow w.heap.size 36 9 v2 (cntTo7 x (i + 1)) (ints (withTo L x (i + 1)))) := Lib.hid (by rw [e1.out, e2.out]; exact hown2)
        have HB2 := Lib.hid (HBX.out.trans hb2)
        clear hown2 hb2 HBX HBW HO HO9 S9 hra
        go_wp2_with fail
        go_roundg (gk - 1)
        case measure => omega
        case rel => exact ⟨i + 1, _, by omega, by go_num, rfl, HO2, HB2⟩
    · have hin : ¬ (i : Int) < n := by omega
      have hie : i = n := by omega
      subst hie
      go_wp2_with fail
      go_ret
      exact ⟨_, rfl, HO.out, HBX.out⟩
end Go.Proofs.Ytcfipimhpeblbaa
