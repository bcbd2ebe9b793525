/- The statements of disks: DiskFronts. -/
import Derived.Test.YteebmpbplenikaaDsk11
import Derived.RegionTactic
import Derived.BigRegion
import Derived.ChangeAlike
import Derived.Laws.IdiomCopy
import Derived.Deep.LoopGhost
import Derived.Deep.DeepCutAuto
namespace Go.Proofs.Yteebmpbplenikaa
set_option linter.unusedVariables false
set_option linter.unusedSimpArgs false
open Go.ChangeShapes Go.WideShapes Go.ChangeAt Go.RowKit
theorem seg_get {bs ys : List UInt8} {o p : Nat} (ho : o + ys.length ≤ bs.length) : (setSeg bs o ys).getD p 0 = if o ≤ p ∧ p < o + ys.length then ys.getD (p - o) 0 else bs.getD p 0 := by
  unfold setSeg
  have hl : (bs.take o).length = o := by rw [List.length_take]; omega
  rw [List.getD_eq_getElem?_getD, List.append_assoc]
  by_cases h1 : p < o
  · rw [List.getElem?_append_left (by omega), List.getElem?_take_of_lt h1, if_neg (by omega), List.getD_eq_getElem?_getD]
  · rw [List.getElem?_append_right (by omega), hl]
    by_cases h2 : p < o + ys.length
    · rw [List.getElem?_append_left (by omega), if_pos ⟨by omega, h2⟩, List.getD_eq_getElem?_getD]
    · rw [List.getElem?_append_right (by omega), List.getElem?_drop, if_neg (by omega), List.getD_eq_getElem?_getD]
      congr 2
      omega
theorem zeros_get (m p : Nat) : (List.replicate m (0 : UInt8)).getD p 0 = 0 := by
  rw [List.getD_eq_getElem?_getD, List.getElem?_replicate]
  split <;> rfl
set_option maxRecDepth 100000 in
set_option maxHeartbeats 4000000 in
theorem fronts_len (z zi arm : Int) (ab : Option Addr) (nb cb : Nat) (w : World) (hnb : nb ≠ 32) :
    Calls Try.prog 5 #[.int .i64 z, .int .i64 zi, .slice ab nb cb, .int .i64 arm] w fun e w' => e = .returned (.bool true) ∧ Below w.heap.size w w' := by
  have CN := Lib.hid (fun w => near_any z 1 20 w)
  have hy : 1 ≤ clampI z 1 20 ∧ clampI z 1 20 ≤ 20 := by unfold clampI; split <;> (try split) <;> omega
  generalize clampI z 1 20 = y at *
  have ey1 : wrap64 (y - 1) = y - 1 := IntWalk.wrap64_in (y - 1) ⟨by omega, by omega⟩
  have CI := Lib.hid (fun w => near_any zi 0 (y - 1) w)
  generalize clampI zi 0 (y - 1) = yi at *
  have hne : ((nb : Int) != 32) = true := by simp only [bne_iff_ne, ne_eq]; omega
  clear hy hnb
  go_enter Try.func5, Try.ntmps5
  go_wp2_with fail
  refine (alive11 _).mono ?_
  rintro e w1 ⟨rfl, hb1⟩
  have HB1 := Lib.hid hb1
  clear hb1
  go_wp2_with fail
  refine (CN.out _).mono ?_
  rintro e w1' ⟨rfl, rfl⟩
  go_wp2_with fail
  refine (CI.out _).mono ?_
  rintro e w1' ⟨rfl, rfl⟩
  go_wp2_with fail
  go_ret
  exact ⟨rfl, HB1.out⟩
set_option maxRecDepth 100000 in
set_option maxHeartbeats 4000000 in
theorem fronts_full (z zi arm : Int) (ab : Option Addr) (cb : Nat) (xs : List UInt8) (w : World) (hx : Sl w ab 32 1 (bcells xs)) (hcb : 32 ≤ cb) (hfa : arm ≤ 9223372036854775807) (harm : arm < 0) :
    Calls Try.prog 5 #[.int .i64 z, .int .i64 zi, .slice ab 32 cb, .int .i64 arm] w fun e w' => e = .returned (.bool true) ∧ Below w.heap.size w w' := by
  have hxl : xs.length = 32 := sl_oneD hx
  have CN := Lib.hid (fun w => near_any z 1 20 w)
  have hy : 1 ≤ clampI z 1 20 ∧ clampI z 1 20 ≤ 20 := by unfold clampI; split <;> (try split) <;> omega
  generalize clampI z 1 20 = y at *
  have CI := Lib.hid (fun w => near_any zi 0 (y - 1) w)
  have hyi : 0 ≤ clampI zi 0 (y - 1) ∧ clampI zi 0 (y - 1) ≤ y - 1 := by unfold clampI; split <;> (try split) <;> omega
  generalize clampI zi 0 (y - 1) = yi at *
  have CD := Lib.hid (fun w => new_any2 y w)
  have hcy : (clampI y 0 256).toNat = y.toNat := by unfold clampI; rw [if_neg (by omega), if_neg (by omega)]
  rw [hcy] at CD
  obtain ⟨n, hn⟩ : ∃ n, n = y.toNat := ⟨_, rfl⟩
  obtain ⟨i, hi⟩ : ∃ i, i = yi.toNat := ⟨_, rfl⟩
  obtain ⟨mm, hmm⟩ : ∃ mm : Nat, mm = 32 * n := ⟨_, rfl⟩
  obtain ⟨o, ho⟩ : ∃ o : Nat, o = 32 * i := ⟨_, rfl⟩
  rw [← hn] at CD
  have hin : i < n := by omega
  have hiy : ((i : Nat) : Int) = yi := by omega
  have ey : wrap64 (32 * y) = (mm : Int) := (show wrap64 (32 * y) = 32 * y from IntWalk.wrap64_in (32 * y) ⟨by omega, by omega⟩).trans (by omega)
  have eo : wrap64 (32 * yi) = (o : Int) := (show wrap64 (32 * yi) = 32 * yi from IntWalk.wrap64_in (32 * yi) ⟨by omega, by omega⟩).trans (by omega)
  have ey1 : wrap64 (y - 1) = y - 1 := IntWalk.wrap64_in (y - 1) ⟨by omega, by omega⟩
  have ook : wrap64 ((o : Int) + 32) = (o : Int) + 32 := IntWalk.wrap64_in _ ⟨by omega, by omega⟩
  have HH := Lib.hid (And.intro hmm (And.intro ho (And.intro hin (And.intro hiy (show n ≤ 20 by omega)))))
  have HX := Lib.hid hx
  have HXL := Lib.hid hxl
  have a1 : arm < 0 := harm
  have HARM := Lib.hid harm
  have HFA := Lib.hid hfa
  have HCB := Lib.hid hcb
  clear hy hyi hcy hn hi hmm ho hin hiy hx hxl hcb hfa harm
  go_enter Try.func5, Try.ntmps5
  go_wp2_with fail
  refine (alive11 _).mono ?_
  rintro e w1 ⟨rfl, hb1⟩
  have HB1 := Lib.hid hb1
  have HX1 := Lib.hid (HX.out.keep hb1)
  clear hb1 HX
  go_wp2_with fail
  refine (CN.out _).mono ?_
  rintro e w1' ⟨rfl, rfl⟩
  go_wp2_with fail
  refine (CI.out _).mono ?_
  rintro e w1' ⟨rfl, rfl⟩
  go_wp2_with fail
  refine (CD.out w1).mono ?_
  rintro e w2 ⟨g, a, rfl, hg, ha, hd, hb⟩
  have HD2 := Lib.hid hd
  have HX2 := Lib.hid (HX1.out.keep hb)
  have HB2 := Lib.hid (HB1.out.trans (hb.mono HB1.out.size))
  have HLO : Hid (∀ k, dkp g a k → w1.heap.size ≤ k) := Lib.hid (by
    rintro k (e | ⟨s, hs, e⟩)
    · rw [e]; exact hg
    · rw [e]; exact (ha s hs).1)
  have HNX : Hid (∀ x, ab = some x → ¬ dkp g a x.block) := Lib.hid (fun x hx hk => by
    have h1 := HLO.out _ hk
    rcases HX1.out.2 with h0 | ⟨b1, o1, hab, hb1, _⟩
    · omega
    · rw [hx] at hab; cases hab
      have h1' : w1.heap.size ≤ b1 := h1
      omega)
  have HLW : Hid (∀ k, dkp g a k → w.heap.size ≤ k) := Lib.hid (fun k hk => Nat.le_trans HB1.out.size (HLO.out k hk))
  clear hg ha hd hb HB1 HX1
  go_wp2_with fail
  refine (arm_any HD2.out arm HFA.out).mono ?_
  rintro e w3 ⟨rfl, hd3, ho3⟩
  rw [show armS false (-1) arm = (-1) by unfold armS; simp; have := HARM.out; omega] at hd3
  have HD3 := Lib.hid hd3
  have HX3 := Lib.hid (HX2.out.only ho3 HNX.out)
  have HB3 := Lib.hid (HB2.out.trans (ho3.toBelow HLW.out HB2.out.size))
  clear hd3 ho3 HD2 HX2 HB2
  have WR := Lib.hid (by
    have hd3 := HD3.out
    have harm := HARM.out
    exact write_full hd3 i HH.out.2.2.1 ab cb xs HX3.out)
  rw [HH.out.2.2.2.1] at WR
  go_wp2_with fail
  refine WR.out.mono ?_
  rintro e w4 ⟨rfl, hd4, ho4⟩
  have HD4 := Lib.hid hd4
  have HX4 := Lib.hid (HX3.out.only ho4 HNX.out)
  have HB4 := Lib.hid (HB3.out.trans (ho4.toBelow HLW.out HB3.out.size))
  clear hd4 ho4 HD3 HX3 HB3 WR
  go_wp2_with fail
  refine (all_any HD4.out).mono ?_
  rintro e w5 ⟨v, rfl, hv, hb5⟩
  obtain ⟨va, vc, rfl, _, _, hvs⟩ := Sl.own hv
  have HD5 := Lib.hid (HD4.out.keep hb5)
  have HX5 := Lib.hid (HX4.out.keep hb5)
  have HB5 := Lib.hid (HB4.out.trans (hb5.mono HB4.out.size))
  rw [← HH.out.1] at hvs ⊢
  obtain ⟨_, vb, vo, rfl, _, hcl⟩ := hvs.byte (by have := HH.out.1; have := HH.out.2.2.1; omega)
  obtain ⟨_, b1, o1, rfl, _, hxc⟩ := HX5.out.byte (by decide)
  have HCL := Lib.hid hcl
  have HXC := Lib.hid hxc
  have HV := Lib.hid (show ∀ p, p < mm → (setSeg (List.replicate mm 0) (32 * i) xs).getD p 0 = if o ≤ p ∧ p < o + 32 then xs.getD (p - o) 0 else 0 from fun p hp => by
    have h1 := HH.out
    have hl : (xs).length = 32 := HXL.out
    rw [seg_get (by rw [List.length_replicate, hl]; omega), hl, ← h1.2.1, zeros_get]
    skip)
  clear hv hvs hb5 hcl hxc HD4 HX4 HB4
  go_upto_region 16 with fail
  clear ey ey1 a1
  have DD := Lib.hid (ddead_any HD5.out)
  have HMB := Lib.hid (show mm ≤ 640 by have := HH.out; omega)
  go_wp2_with fail
  go_loopg [13] mm (fun qq s13 wr => ∃ p : Nat, qq + p = mm ∧ s13 = .int .i64 p ∧ w5 = wr)
  case atStart => exact ⟨0, by omega, rfl, rfl⟩
  case round =>
    obtain ⟨p, hqp, rfl, rfl⟩ := hrel
    by_cases hp : p < mm
    · have cp := HCL.out p hp
      rw [HV.out p hp] at cp
      have i0 : (0 : Int) ≤ p := by omega
      have i1 : (p : Int) < mm := by omega
      have i2 : (p : Int) < 1000 := by have := HMB.out; omega
      have HQ := Lib.hid (And.intro hqp hp)
      by_cases c1 : p < o
      · rw [if_neg (by omega)] at cp
        have cp : w5.cell? ⟨vb, vo + p, none⟩ = some (.int .u8 0) := cp
        have j1 : (p : Int) < o := by omega
        clear hqp hp c1
        go_wp2_with fail
        go_roundg (gk - 1)
        case measure => have := HQ.out; omega
        case rel => exact ⟨p + 1, by have := HQ.out; omega, by go_num, rfl⟩
      · by_cases c2 : p < o + 32
        · rw [if_pos (by omega)] at cp
          have cx := HXC.out (p - o) (by omega)
          have j1 : ¬ (p : Int) < o := by omega
          have j2 : (p : Int) < (o : Int) + 32 := by omega
          have k0 : (0 : Int) ≤ (p : Int) - o := by omega
          have k1 : (p : Int) - o < 32 := by omega
          generalize (xs.getD (p - o) 0).toNat = xv at *
          clear hqp hp c1 c2
          go_wp2_with fail
          go_roundg (gk - 1)
          case measure => have := HQ.out; omega
          case rel => exact ⟨p + 1, by have := HQ.out; omega, by go_num, rfl⟩
        · rw [if_neg (by omega)] at cp
          have cp : w5.cell? ⟨vb, vo + p, none⟩ = some (.int .u8 0) := cp
          have j1 : ¬ (p : Int) < o := by omega
          have j2 : ¬ (p : Int) < (o : Int) + 32 := by omega
          clear hqp hp c1 c2
          go_wp2_with fail
          go_roundg (gk - 1)
          case measure => have := HQ.out; omega
          case rel => exact ⟨p + 1, by have := HQ.out; omega, by go_num, rfl⟩
    · have hpm : (mm : Int) ≤ p := by omega
      go_wp2_with (go_at_call 19; refine DD.out.mono ?_; rintro e w6 ⟨rfl, rfl⟩)
      go_ret
      exact ⟨rfl, HB5.out⟩
set_option maxRecDepth 100000 in
set_option maxHeartbeats 4000000 in
theorem fronts_more (z zi arm : Int) (ab : Option Addr) (cb : Nat) (xs : List UInt8) (w : World) (hx : Sl w ab 32 1 (bcells xs)) (hcb : 32 ≤ cb) (hfa : arm ≤ 9223372036854775807) (harm : 32 ≤ arm) :
    Calls Try.prog 5 #[.int .i64 z, .int .i64 zi, .slice ab 32 cb, .int .i64 arm] w fun e w' => e = .returned (.bool true) ∧ Below w.heap.size w w' := by
  have hxl : xs.length = 32 := sl_oneD hx
  have CN := Lib.hid (fun w => near_any z 1 20 w)
  have hy : 1 ≤ clampI z 1 20 ∧ clampI z 1 20 ≤ 20 := by unfold clampI; split <;> (try split) <;> omega
  generalize clampI z 1 20 = y at *
  have CI := Lib.hid (fun w => near_any zi 0 (y - 1) w)
  have hyi : 0 ≤ clampI zi 0 (y - 1) ∧ clampI zi 0 (y - 1) ≤ y - 1 := by unfold clampI; split <;> (try split) <;> omega
  generalize clampI zi 0 (y - 1) = yi at *
  have CD := Lib.hid (fun w => new_any2 y w)
  have hcy : (clampI y 0 256).toNat = y.toNat := by unfold clampI; rw [if_neg (by omega), if_neg (by omega)]
  rw [hcy] at CD
  obtain ⟨n, hn⟩ : ∃ n, n = y.toNat := ⟨_, rfl⟩
  obtain ⟨i, hi⟩ : ∃ i, i = yi.toNat := ⟨_, rfl⟩
  obtain ⟨mm, hmm⟩ : ∃ mm : Nat, mm = 32 * n := ⟨_, rfl⟩
  obtain ⟨o, ho⟩ : ∃ o : Nat, o = 32 * i := ⟨_, rfl⟩
  rw [← hn] at CD
  have hin : i < n := by omega
  have hiy : ((i : Nat) : Int) = yi := by omega
  have ey : wrap64 (32 * y) = (mm : Int) := (show wrap64 (32 * y) = 32 * y from IntWalk.wrap64_in (32 * y) ⟨by omega, by omega⟩).trans (by omega)
  have eo : wrap64 (32 * yi) = (o : Int) := (show wrap64 (32 * yi) = 32 * yi from IntWalk.wrap64_in (32 * yi) ⟨by omega, by omega⟩).trans (by omega)
  have ey1 : wrap64 (y - 1) = y - 1 := IntWalk.wrap64_in (y - 1) ⟨by omega, by omega⟩
  have ook : wrap64 ((o : Int) + 32) = (o : Int) + 32 := IntWalk.wrap64_in _ ⟨by omega, by omega⟩
  have HH := Lib.hid (And.intro hmm (And.intro ho (And.intro hin (And.intro hiy (show n ≤ 20 by omega)))))
  have HX := Lib.hid hx
  have HXL := Lib.hid hxl
  have a1 : (0 : Int) ≤ arm := by omega
  have a2 : ¬ arm < 32 := by omega
  have HARM := Lib.hid harm
  have HFA := Lib.hid hfa
  have HCB := Lib.hid hcb
  clear hy hyi hcy hn hi hmm ho hin hiy hx hxl hcb hfa harm
  go_enter Try.func5, Try.ntmps5
  go_wp2_with fail
  refine (alive11 _).mono ?_
  rintro e w1 ⟨rfl, hb1⟩
  have HB1 := Lib.hid hb1
  have HX1 := Lib.hid (HX.out.keep hb1)
  clear hb1 HX
  go_wp2_with fail
  refine (CN.out _).mono ?_
  rintro e w1' ⟨rfl, rfl⟩
  go_wp2_with fail
  refine (CI.out _).mono ?_
  rintro e w1' ⟨rfl, rfl⟩
  go_wp2_with fail
  refine (CD.out w1).mono ?_
  rintro e w2 ⟨g, a, rfl, hg, ha, hd, hb⟩
  have HD2 := Lib.hid hd
  have HX2 := Lib.hid (HX1.out.keep hb)
  have HB2 := Lib.hid (HB1.out.trans (hb.mono HB1.out.size))
  have HLO : Hid (∀ k, dkp g a k → w1.heap.size ≤ k) := Lib.hid (by
    rintro k (e | ⟨s, hs, e⟩)
    · rw [e]; exact hg
    · rw [e]; exact (ha s hs).1)
  have HNX : Hid (∀ x, ab = some x → ¬ dkp g a x.block) := Lib.hid (fun x hx hk => by
    have h1 := HLO.out _ hk
    rcases HX1.out.2 with h0 | ⟨b1, o1, hab, hb1, _⟩
    · omega
    · rw [hx] at hab; cases hab
      have h1' : w1.heap.size ≤ b1 := h1
      omega)
  have HLW : Hid (∀ k, dkp g a k → w.heap.size ≤ k) := Lib.hid (fun k hk => Nat.le_trans HB1.out.size (HLO.out k hk))
  clear hg ha hd hb HB1 HX1
  go_wp2_with fail
  refine (arm_any HD2.out arm HFA.out).mono ?_
  rintro e w3 ⟨rfl, hd3, ho3⟩
  rw [show armS false (-1) arm = arm by unfold armS; simp; have := HARM.out; omega] at hd3
  have HD3 := Lib.hid hd3
  have HX3 := Lib.hid (HX2.out.only ho3 HNX.out)
  have HB3 := Lib.hid (HB2.out.trans (ho3.toBelow HLW.out HB2.out.size))
  clear hd3 ho3 HD2 HX2 HB2
  have WR := Lib.hid (by
    have hd3 := HD3.out
    have harm := HARM.out
    exact write_more hd3 harm i HH.out.2.2.1 ab cb xs HX3.out)
  rw [HH.out.2.2.2.1] at WR
  go_wp2_with fail
  refine WR.out.mono ?_
  rintro e w4 ⟨rfl, hd4, ho4⟩
  have HD4 := Lib.hid hd4
  have HX4 := Lib.hid (HX3.out.only ho4 HNX.out)
  have HB4 := Lib.hid (HB3.out.trans (ho4.toBelow HLW.out HB3.out.size))
  clear hd4 ho4 HD3 HX3 HB3 WR
  go_wp2_with fail
  refine (all_any HD4.out).mono ?_
  rintro e w5 ⟨v, rfl, hv, hb5⟩
  obtain ⟨va, vc, rfl, _, _, hvs⟩ := Sl.own hv
  have HD5 := Lib.hid (HD4.out.keep hb5)
  have HX5 := Lib.hid (HX4.out.keep hb5)
  have HB5 := Lib.hid (HB4.out.trans (hb5.mono HB4.out.size))
  rw [← HH.out.1] at hvs ⊢
  obtain ⟨_, vb, vo, rfl, _, hcl⟩ := hvs.byte (by have := HH.out.1; have := HH.out.2.2.1; omega)
  obtain ⟨_, b1, o1, rfl, _, hxc⟩ := HX5.out.byte (by decide)
  have HCL := Lib.hid hcl
  have HXC := Lib.hid hxc
  have HV := Lib.hid (show ∀ p, p < mm → (setSeg (List.replicate mm 0) (32 * i) xs).getD p 0 = if o ≤ p ∧ p < o + 32 then xs.getD (p - o) 0 else 0 from fun p hp => by
    have h1 := HH.out
    have hl : (xs).length = 32 := HXL.out
    rw [seg_get (by rw [List.length_replicate, hl]; omega), hl, ← h1.2.1, zeros_get]
    skip)
  clear hv hvs hb5 hcl hxc HD4 HX4 HB4
  go_upto_region 16 with fail
  clear ey ey1 a1 a2
  have DD := Lib.hid (ddead_any HD5.out)
  have HMB := Lib.hid (show mm ≤ 640 by have := HH.out; omega)
  go_wp2_with fail
  go_loopg [13] mm (fun qq s13 wr => ∃ p : Nat, qq + p = mm ∧ s13 = .int .i64 p ∧ w5 = wr)
  case atStart => exact ⟨0, by omega, rfl, rfl⟩
  case round =>
    obtain ⟨p, hqp, rfl, rfl⟩ := hrel
    by_cases hp : p < mm
    · have cp := HCL.out p hp
      rw [HV.out p hp] at cp
      have i0 : (0 : Int) ≤ p := by omega
      have i1 : (p : Int) < mm := by omega
      have i2 : (p : Int) < 1000 := by have := HMB.out; omega
      have HQ := Lib.hid (And.intro hqp hp)
      by_cases c1 : p < o
      · rw [if_neg (by omega)] at cp
        have cp : w5.cell? ⟨vb, vo + p, none⟩ = some (.int .u8 0) := cp
        have j1 : (p : Int) < o := by omega
        clear hqp hp c1
        go_wp2_with fail
        go_roundg (gk - 1)
        case measure => have := HQ.out; omega
        case rel => exact ⟨p + 1, by have := HQ.out; omega, by go_num, rfl⟩
      · by_cases c2 : p < o + 32
        · rw [if_pos (by omega)] at cp
          have cx := HXC.out (p - o) (by omega)
          have j1 : ¬ (p : Int) < o := by omega
          have j2 : (p : Int) < (o : Int) + 32 := by omega
          have k0 : (0 : Int) ≤ (p : Int) - o := by omega
          have k1 : (p : Int) - o < 32 := by omega
          generalize (xs.getD (p - o) 0).toNat = xv at *
          clear hqp hp c1 c2
          go_wp2_with fail
          go_roundg (gk - 1)
          case measure => have := HQ.out; omega
          case rel => exact ⟨p + 1, by have := HQ.out; omega, by go_num, rfl⟩
        · rw [if_neg (by omega)] at cp
          have cp : w5.cell? ⟨vb, vo + p, none⟩ = some (.int .u8 0) := cp
          have j1 : ¬ (p : Int) < o := by omega
          have j2 : ¬ (p : Int) < (o : Int) + 32 := by omega
          clear hqp hp c1 c2
          go_wp2_with fail
          go_roundg (gk - 1)
          case measure => have := HQ.out; omega
          case rel => exact ⟨p + 1, by have := HQ.out; omega, by go_num, rfl⟩
    · have hpm : (mm : Int) ≤ p := by omega
      go_wp2_with (go_at_call 19; refine DD.out.mono ?_; rintro e w6 ⟨rfl, rfl⟩)
      go_ret
      exact ⟨rfl, HB5.out⟩
set_option maxRecDepth 100000 in
set_option maxHeartbeats 4000000 in
theorem fronts_cut (z zi arm : Int) (ab : Option Addr) (cb : Nat) (xs : List UInt8) (w : World) (hx : Sl w ab 32 1 (bcells xs)) (hcb : 32 ≤ cb) (hfa : arm ≤ 9223372036854775807) (kk : Nat) (harm : arm = kk) (hkk : kk < 32) :
    Calls Try.prog 5 #[.int .i64 z, .int .i64 zi, .slice ab 32 cb, .int .i64 arm] w fun e w' => e = .returned (.bool true) ∧ Below w.heap.size w w' := by
  have hxl : xs.length = 32 := sl_oneD hx
  have CN := Lib.hid (fun w => near_any z 1 20 w)
  have hy : 1 ≤ clampI z 1 20 ∧ clampI z 1 20 ≤ 20 := by unfold clampI; split <;> (try split) <;> omega
  generalize clampI z 1 20 = y at *
  have CI := Lib.hid (fun w => near_any zi 0 (y - 1) w)
  have hyi : 0 ≤ clampI zi 0 (y - 1) ∧ clampI zi 0 (y - 1) ≤ y - 1 := by unfold clampI; split <;> (try split) <;> omega
  generalize clampI zi 0 (y - 1) = yi at *
  have CD := Lib.hid (fun w => new_any2 y w)
  have hcy : (clampI y 0 256).toNat = y.toNat := by unfold clampI; rw [if_neg (by omega), if_neg (by omega)]
  rw [hcy] at CD
  obtain ⟨n, hn⟩ : ∃ n, n = y.toNat := ⟨_, rfl⟩
  obtain ⟨i, hi⟩ : ∃ i, i = yi.toNat := ⟨_, rfl⟩
  obtain ⟨mm, hmm⟩ : ∃ mm : Nat, mm = 32 * n := ⟨_, rfl⟩
  obtain ⟨o, ho⟩ : ∃ o : Nat, o = 32 * i := ⟨_, rfl⟩
  rw [← hn] at CD
  have hin : i < n := by omega
  have hiy : ((i : Nat) : Int) = yi := by omega
  have ey : wrap64 (32 * y) = (mm : Int) := (show wrap64 (32 * y) = 32 * y from IntWalk.wrap64_in (32 * y) ⟨by omega, by omega⟩).trans (by omega)
  have eo : wrap64 (32 * yi) = (o : Int) := (show wrap64 (32 * yi) = 32 * yi from IntWalk.wrap64_in (32 * yi) ⟨by omega, by omega⟩).trans (by omega)
  have ey1 : wrap64 (y - 1) = y - 1 := IntWalk.wrap64_in (y - 1) ⟨by omega, by omega⟩
  have ook : wrap64 ((o : Int) + (kk : Int)) = (o : Int) + (kk : Int) := IntWalk.wrap64_in _ ⟨by omega, by omega⟩
  have HH := Lib.hid (And.intro hmm (And.intro ho (And.intro hin (And.intro hiy (show n ≤ 20 by omega)))))
  have HX := Lib.hid hx
  have HXL := Lib.hid hxl
  have a1 : (0 : Int) ≤ kk := Int.natCast_nonneg kk
  have a2 : (kk : Int) < 32 := Int.ofNat_lt.2 hkk
  have a3 : ((kk : Int) == 32) = false := beq_eq_false_iff_ne.2 (Int.ne_of_lt a2)
  have HKK := Lib.hid hkk
  subst harm
  have HARM := Lib.hid (show True from trivial)
  have HFA := Lib.hid hfa
  have HCB := Lib.hid hcb
  clear hy hyi hcy hn hi hmm ho hin hiy hx hxl hcb hfa hkk
  go_enter Try.func5, Try.ntmps5
  go_wp2_with fail
  refine (alive11 _).mono ?_
  rintro e w1 ⟨rfl, hb1⟩
  have HB1 := Lib.hid hb1
  have HX1 := Lib.hid (HX.out.keep hb1)
  clear hb1 HX
  go_wp2_with fail
  refine (CN.out _).mono ?_
  rintro e w1' ⟨rfl, rfl⟩
  go_wp2_with fail
  refine (CI.out _).mono ?_
  rintro e w1' ⟨rfl, rfl⟩
  go_wp2_with fail
  refine (CD.out w1).mono ?_
  rintro e w2 ⟨g, a, rfl, hg, ha, hd, hb⟩
  have HD2 := Lib.hid hd
  have HX2 := Lib.hid (HX1.out.keep hb)
  have HB2 := Lib.hid (HB1.out.trans (hb.mono HB1.out.size))
  have HLO : Hid (∀ k, dkp g a k → w1.heap.size ≤ k) := Lib.hid (by
    rintro k (e | ⟨s, hs, e⟩)
    · rw [e]; exact hg
    · rw [e]; exact (ha s hs).1)
  have HNX : Hid (∀ x, ab = some x → ¬ dkp g a x.block) := Lib.hid (fun x hx hk => by
    have h1 := HLO.out _ hk
    rcases HX1.out.2 with h0 | ⟨b1, o1, hab, hb1, _⟩
    · omega
    · rw [hx] at hab; cases hab
      have h1' : w1.heap.size ≤ b1 := h1
      omega)
  have HLW : Hid (∀ k, dkp g a k → w.heap.size ≤ k) := Lib.hid (fun k hk => Nat.le_trans HB1.out.size (HLO.out k hk))
  clear hg ha hd hb HB1 HX1
  go_wp2_with fail
  refine (arm_any HD2.out (kk : Int) HFA.out).mono ?_
  rintro e w3 ⟨rfl, hd3, ho3⟩
  rw [show armS false (-1) (kk : Int) = (kk : Int) by unfold armS; simp] at hd3
  have HD3 := Lib.hid hd3
  have HX3 := Lib.hid (HX2.out.only ho3 HNX.out)
  have HB3 := Lib.hid (HB2.out.trans (ho3.toBelow HLW.out HB2.out.size))
  clear hd3 ho3 HD2 HX2 HB2
  have WR := Lib.hid (by
    have hd3 := HD3.out
    have hkk := HKK.out
    exact write_cut kk hd3 hkk i HH.out.2.2.1 ab cb HCB.out xs HX3.out)
  rw [HH.out.2.2.2.1] at WR
  go_wp2_with fail
  refine WR.out.mono ?_
  rintro e w4 ⟨rfl, hd4, ho4⟩
  have HD4 := Lib.hid hd4
  have HX4 := Lib.hid (HX3.out.only ho4 HNX.out)
  have HB4 := Lib.hid (HB3.out.trans (ho4.toBelow HLW.out HB3.out.size))
  clear hd4 ho4 HD3 HX3 HB3 WR
  go_wp2_with fail
  refine (all_any HD4.out).mono ?_
  rintro e w5 ⟨v, rfl, hv, hb5⟩
  obtain ⟨va, vc, rfl, _, _, hvs⟩ := Sl.own hv
  have HD5 := Lib.hid (HD4.out.keep hb5)
  have HX5 := Lib.hid (HX4.out.keep hb5)
  have HB5 := Lib.hid (HB4.out.trans (hb5.mono HB4.out.size))
  rw [← HH.out.1] at hvs ⊢
  obtain ⟨_, vb, vo, rfl, _, hcl⟩ := hvs.byte (by have := HH.out.1; have := HH.out.2.2.1; omega)
  obtain ⟨_, b1, o1, rfl, _, hxc⟩ := HX5.out.byte (by decide)
  have HCL := Lib.hid hcl
  have HXC := Lib.hid hxc
  have HV := Lib.hid (show ∀ p, p < mm → (setSeg (List.replicate mm 0) (32 * i) (xs.take kk)).getD p 0 = if o ≤ p ∧ p < o + kk then xs.getD (p - o) 0 else 0 from fun p hp => by
    have h1 := HH.out
    have hl : ((xs.take kk)).length = kk := by rw [List.length_take, HXL.out]; have := HKK.out; omega
    rw [seg_get (by rw [List.length_replicate, hl]; have := HKK.out; omega), hl, ← h1.2.1, zeros_get]
    by_cases hc : o ≤ p ∧ p < o + kk
    · rw [if_pos hc, if_pos hc, List.getD_eq_getElem?_getD, List.getElem?_take_of_lt (by omega), List.getD_eq_getElem?_getD]
    · rw [if_neg hc, if_neg hc])
  clear hv hvs hb5 hcl hxc HD4 HX4 HB4
  go_upto_region 16 with fail
  clear ey ey1
  have DD := Lib.hid (ddead_any HD5.out)
  have HMB := Lib.hid (show mm ≤ 640 by have := HH.out; omega)
  go_wp2_with fail
  go_loopg [13] mm (fun qq s13 wr => ∃ p : Nat, qq + p = mm ∧ s13 = .int .i64 p ∧ w5 = wr)
  case atStart => exact ⟨0, by omega, rfl, rfl⟩
  case round =>
    obtain ⟨p, hqp, rfl, rfl⟩ := hrel
    by_cases hp : p < mm
    · have cp := HCL.out p hp
      rw [HV.out p hp] at cp
      have i0 : (0 : Int) ≤ p := by omega
      have i1 : (p : Int) < mm := by omega
      have i2 : (p : Int) < 1000 := by have := HMB.out; omega
      have HQ := Lib.hid (And.intro hqp hp)
      by_cases c1 : p < o
      · rw [if_neg (by omega)] at cp
        have cp : w5.cell? ⟨vb, vo + p, none⟩ = some (.int .u8 0) := cp
        have j1 : (p : Int) < o := by omega
        clear hqp hp c1
        go_wp2_with fail
        go_roundg (gk - 1)
        case measure => have := HQ.out; omega
        case rel => exact ⟨p + 1, by have := HQ.out; omega, by go_num, rfl⟩
      · by_cases c2 : p < o + kk
        · rw [if_pos (by omega)] at cp
          have cx := HXC.out (p - o) (by have := HKK.out; omega)
          have j1 : ¬ (p : Int) < o := by omega
          have j2 : (p : Int) < (o : Int) + (kk : Int) := by omega
          have k0 : (0 : Int) ≤ (p : Int) - o := by omega
          have k1 : (p : Int) - o < 32 := by have := HKK.out; omega
          generalize (xs.getD (p - o) 0).toNat = xv at *
          clear hqp hp c1 c2
          go_wp2_with fail
          go_roundg (gk - 1)
          case measure => have := HQ.out; omega
          case rel => exact ⟨p + 1, by have := HQ.out; omega, by go_num, rfl⟩
        · rw [if_neg (by omega)] at cp
          have cp : w5.cell? ⟨vb, vo + p, none⟩ = some (.int .u8 0) := cp
          have j1 : ¬ (p : Int) < o := by omega
          have j2 : ¬ (p : Int) < (o : Int) + (kk : Int) := by omega
          clear hqp hp c1 c2
          go_wp2_with fail
          go_roundg (gk - 1)
          case measure => have := HQ.out; omega
          case rel => exact ⟨p + 1, by have := HQ.out; omega, by go_num, rfl⟩
    · have hpm : (mm : Int) ≤ p := by omega
      go_wp2_with (go_at_call 19; refine DD.out.mono ?_; rintro e w6 ⟨rfl, rfl⟩)
      go_ret
      exact ⟨rfl, HB5.out⟩
theorem fronts_walk (v0 v1 v2 v3 : Value) (w : World) (h0 : Arg Try.prog w 3 v0) (h1 : Arg Try.prog w 3 v1) (h2 : Arg Try.prog w 33 v2) (h3 : Arg Try.prog w 3 v3) : Calls Try.prog 5 #[v0, v1, v2, v3] w fun e w' => e = .returned (.bool true) ∧ Below w.heap.size w w' := by
  obtain ⟨z, rfl, _⟩ := h0.int Try.underlying3
  obtain ⟨zi, rfl, _⟩ := h1.int Try.underlying3
  obtain ⟨ab, nb, cb, xs, rfl, hnc, hcm, _, hbl, hx⟩ := h2.bytes
  obtain ⟨arm, rfl, hfa⟩ := h3.int Try.underlying3
  have hfa2 : arm ≤ 9223372036854775807 := ((fits_iff arm).1 (fits_wf hfa)).2
  by_cases hnb : nb = 32
  · subst hnb
    by_cases c1 : arm < 0
    · exact fronts_full z zi arm ab cb xs w hx hnc hfa2 c1
    · by_cases c2 : 32 ≤ arm
      · exact fronts_more z zi arm ab cb xs w hx hnc hfa2 c2
      · obtain ⟨kk, hkk⟩ := Int.eq_ofNat_of_zero_le (show 0 ≤ arm by omega)
        exact fronts_cut z zi arm ab cb xs w hx hnc hfa2 kk hkk (by omega)
  · exact fronts_len z zi arm ab nb cb w hnb
end Go.Proofs.Yteebmpbplenikaa
