/- The statements of disks: one that is alive; DiskRuns. -/
import Derived.Test.YteebmpbplenikaaDsk10
import Derived.RegionTactic
import Derived.BigRegion
import Derived.ChangeAlike
import Derived.Laws.IdiomCopy
import Derived.Deep.LoopGhost
import Derived.Deep.DeepCutAuto
namespace Go.Proofs.Yteebmpbplenikaa
set_option linter.unusedVariables false
set_option linter.unusedSimpArgs false
open Go.ChangeShapes Go.WideShapes Go.ChangeAt Go.RowKit
/-- so many ones, then zeros. -/
def ones (j : Nat) : List UInt8 := List.replicate j 1 ++ List.replicate (32 - j) 0
theorem ones_len {j : Nat} (h : j ≤ 32) : (ones j).length = 32 := by unfold ones; simp; omega
theorem ones_set {j : Nat} (h : j < 32) : (ones j).set j 1 = ones (j + 1) := by
  unfold ones
  rw [List.set_append_right _ _ (by simp)]
  simp only [List.length_replicate, Nat.sub_self]
  rw [show 32 - j = (32 - (j + 1)) + 1 by omega, List.replicate_succ, List.set_cons_zero, List.replicate_succ', List.append_assoc]
  rfl
def z96 : List UInt8 := List.replicate 96 0
def d1 : List UInt8 := setSeg z96 0 (ones 32)
def d2 : List UInt8 := setSeg d1 32 ((ones 32).take 8)
theorem clamp3 : (clampI 3 0 256).toNat = 3 := by decide
theorem mid_d2 : (d2.drop (32 * 1)).take 32 = ones 8 := by kernel_rfl
set_option maxRecDepth 100000 in
set_option maxHeartbeats 4000000 in
theorem alive11 (w : World) : Calls Try.prog 6 #[] w fun e w' => e = .returned (.bool true) ∧ Below w.heap.size w w' := by
  have N := Lib.hid (new_any2 3 w)
  rw [clamp3] at N
  have MK : ∀ w, (Instr.makeSlice 33 (.int .i64 32) (.int .i64 32)).run Try.prog w = .ok (.slice (some ⟨w.heap.size, 0, none⟩) 32 32) (w.alloc (.cells (bcells (ones 0)).toArray 5)) := fun w => by
    have h := byte_info
    cases hq : Try.prog.info? 5 with
    | none => rw [hq] at h; cases h
    | some i =>
      rw [hq] at h
      simp only [Option.map_some, Option.some.injEq, Prod.mk.injEq] at h
      obtain ⟨h1, h2, h3⟩ := h
      have := run_makeSlice (P := Try.prog) w 33 5 i _ Try.underlying33 hq h1 .i64 .i64 32 32 (by omega) (Int.le_refl _) (by rw [h2]; decide) (by rw [h3]; decide) (by omega)
      rw [h2, show (Value.int .u8 0).cells = #[.int .u8 0] from rfl, madeU8] at this
      exact this
  have HMK := Lib.hid MK
  clear MK
  go_enter Try.func6, Try.ntmps6
  go_wp2_with fail
  refine N.out.mono ?_
  rintro e w1 ⟨g, a, rfl, hg, ha, hd, hb⟩
  have HB1 := Lib.hid hb
  have HD1 := Lib.hid hd
  have HG := Lib.hid hg
  have HA := Lib.hid ha
  have hao := (Below.refl w1.heap.size w1).alloc (Nat.le_refl _) (.cells (bcells (ones 0)).toArray 5)
  have HB2 := Lib.hid (hb.trans (hao.mono hb.size))
  have HD2 := Lib.hid (hd.keep hao)
  have HO2 : Hid (Blk (w1.alloc (.cells (bcells (ones 0)).toArray 5)) w1.heap.size (bcells (ones 0)) 5) := Lib.hid (by have := Blk.new w1 (bcells (ones 0)).toArray 5; rwa [List.toList_toArray] at this)
  have MK1 := HMK.out w1
  have HGO : Hid (¬ dkp g a w1.heap.size) := Lib.hid (by
    rintro (e | ⟨s, hs, e⟩)
    · have := hd.head.lt; omega
    · have := (ha s hs).2; omega)
  have HLO : Hid (w.heap.size ≤ w1.heap.size) := Lib.hid hb.size
  clear hb hd hg ha hao N HMK HD1 HB1
  generalize (bcells (ones 0)).toArray = Z at *
  go_upto_region 3 with fail
  clear MK1
  generalize w1.heap.size = go at *
  generalize w1.alloc (.cells Z 5) = w2 at *
  go_wp2_with fail
  go_loopg [3] 32 (fun qq s3 wr => ∃ j : Nat, qq + j = 32 ∧ s3 = .int .i64 j ∧ Hid (Blk wr go (bcells (ones j)) 5) ∧ Hid (Only (fun k => k = go) w2 wr))
  case atStart => exact ⟨0, by omega, rfl, HO2, Lib.hid (Only.refl _ _)⟩
  case round =>
    obtain ⟨j, hqj, rfl, HO, HF⟩ := hrel
    by_cases hj : j < 32
    · obtain ⟨ov, cx⟩ : ∃ ov, wr.cell? ⟨go, j, none⟩ = some ov := ⟨_, by rw [HO.out.cell j, List.getElem?_eq_getElem (show j < (bcells (ones j)).length by rw [bcells_len, ones_len (by omega)]; exact hj)]⟩
      have fx := HO.out.froz j
      have hN := HO.out.set j (.int .u8 1)
      have e1 : (bcells (ones j)).set j (.int .u8 1) = bcells (ones (j + 1)) := by rw [← ones_set hj]; unfold bcells; rw [List.map_set]; rfl
      rw [e1] at hN
      have HN := Lib.hid hN
      have HFN := Lib.hid (HF.out.setCell (g := go) rfl j (.int .u8 1))
      have i0 : (0 : Int) ≤ j := by omega
      have i1 : (j : Int) < 32 := by omega
      have HQ := Lib.hid (And.intro hqj hj)
      clear hqj hj hN e1
      go_wp2_with fail
      go_roundg (gk - 1)
      case measure => have := HQ.out; omega
      case rel => exact ⟨j + 1, by have := HQ.out; omega, by go_num, HN, HFN⟩
    · have hj32 : j = 32 := by omega
      subst hj32
      clear HO2 hqj hj
      have HD3 := Lib.hid (HD2.out.only HF.out (fun k hk e => HGO.out (e ▸ hk)))
      have HB3 := Lib.hid (HB2.out.trans (HF.out.toBelow (B := w.heap.size) (fun k hk => by rw [hk]; exact HLO.out) HB2.out.size))
      have HLD : Hid (∀ k, dkp g a k → w.heap.size ≤ k) := Lib.hid (by
        rintro k (e | ⟨s, hs, e⟩)
        · rw [e]; exact HG.out
        · rw [e]; exact (HA.out s hs).1)
      have hsl : Sl wr (some ⟨go, 0, none⟩) 32 1 (bcells (ones 32)) := sl_of_range (HO.out.range 0 _ (by simp)) (by decide) HO.out.lt
      have HS3 := Lib.hid hsl
      have HNG : Hid (∀ x, (some ⟨go, 0, none⟩ : Option Addr) = some x → ¬ dkp g a x.block) := Lib.hid (fun x hx => by cases hx; exact HGO.out)
      clear hsl HD2 HB2 HF HO
      go_wp2_with fail
      refine (arm_any HD3.out 40 (by decide)).mono ?_
      rintro e w4 ⟨rfl, hd4, ho4⟩
      have HD4 : Hid (Dsk w4 g a 3 3 z96 40 false 0) := Lib.hid hd4
      have HS4 := Lib.hid (HS3.out.only ho4 HNG.out)
      have HB4 := Lib.hid (HB3.out.trans (ho4.toBelow HLD.out HB3.out.size))
      clear hd4 ho4 HD3 HS3 HB3
      go_wp2_with fail
      refine (write_more HD4.out (by decide) 0 (by decide) (some ⟨go, 0, none⟩) 32 (ones 32) HS4.out).mono ?_
      rintro e w5 ⟨rfl, hd5, ho5⟩
      have HD5 : Hid (Dsk w5 g a 3 3 d1 ((8 : Nat) : Int) false (wrap64 (0 + 32))) := Lib.hid hd5
      have HS5 := Lib.hid (HS4.out.only ho5 HNG.out)
      have HB5 := Lib.hid (HB4.out.trans (ho5.toBelow HLD.out HB4.out.size))
      clear hd5 ho5 HD4 HS4 HB4
      go_wp2_with fail
      refine (write_cut 8 HD5.out (by decide) 1 (by decide) (some ⟨go, 0, none⟩) 32 (by decide) (ones 32) HS5.out).mono ?_
      rintro e w6 ⟨rfl, hd6, ho6⟩
      have HD6 : Hid (Dsk w6 g a 3 3 d2 (-1) true 40) := Lib.hid (by
        have e40 : wrap64 (wrap64 (0 + 32) + ((8 : Nat) : Int)) = 40 := by decide +kernel
        rw [e40] at hd6
        exact hd6)
      have HB6 := Lib.hid (HB5.out.trans (ho6.toBelow HLD.out HB5.out.size))
      clear hd6 ho6 HD5 HS5 HB5
      go_wp2_with fail
      refine (dread_no HD6.out 0 (by rfl)).mono ?_
      rintro e w7 ⟨rfl, rfl⟩
      go_wp2_with fail
      refine (revive_any HD6.out).mono ?_
      rintro e w8 ⟨rfl, hd8, ho8⟩
      have HD8 := Lib.hid hd8
      have HB8 := Lib.hid (HB6.out.trans (ho8.toBelow HLD.out HB6.out.size))
      clear hd8 ho8 HD6 HB6
      go_wp2_with fail
      refine (dread_yes HD8.out 1 (by decide)).mono ?_
      rintro e w9 ⟨v, rfl, hv, hb9⟩
      rw [mid_d2] at hv
      obtain ⟨va, vc, rfl, _, _, hvs⟩ := Sl.own hv
      obtain ⟨_, vb, vo, rfl, _, hcl⟩ := hvs.byte (by decide)
      have c7 : w9.cell? ⟨vb, vo + 7, none⟩ = some (.int .u8 1) := hcl 7 (by decide)
      have c8 : w9.cell? ⟨vb, vo + 8, none⟩ = some (.int .u8 0) := hcl 8 (by decide)
      have HD9 := Lib.hid (HD8.out.keep hb9)
      have HB9 := Lib.hid (HB8.out.trans (hb9.mono HB8.out.size))
      clear hv hvs hcl hb9 HD8 HB8
      have CW := Lib.hid (dwritten_any HD9.out)
      go_wp2_with (go_at_call 20; refine CW.out.mono ?_; rintro e w10 ⟨rfl, rfl⟩)
      go_ret
      exact ⟨rfl, HB9.out⟩
theorem two_begin {w w1 w2 : World} {k g n c kc : Nat} {ka a : Option Addr} {bs : List UInt8} {l t : Int} {dead : Bool} (hb1 : Below w.heap.size w w1) (hb2 : Below w1.heap.size w1 w2) (hk : w.heap.size ≤ k) (hka : ∀ s, ka = some s → w.heap.size ≤ s.block ∧ s.block < w1.heap.size) (hB : Bok w1 k ka (32 * n) kc bs l dead t)
    (hg : w1.heap.size ≤ g) (ha : ∀ s, a = some s → w1.heap.size ≤ s.block ∧ s.block < w2.heap.size) (hD : Dsk w2 g a n c bs l dead t) : Two w2 w.heap.size g a n c k ka kc bs l dead t := by
  have hkl := hB.head.lt
  have hgl := hD.head.lt
  have s1 := hb1.size
  have s2 := hb2.size
  refine ⟨hD, hB.only (p := fun _ => False) (Only.ofBelow' hb2) fun _ _ => id, by omega, fun s hs => ?_, fun t ht => ?_, fun s t hs ht => ?_, by omega, hk, fun s hs => ?_, fun t ht => (hka t ht).1, by omega, ?_⟩
  · have := (ha s hs).1; omega
  · have := (hka t ht).2; omega
  · have := (hka t ht).2; have := (ha s hs).1; omega
  · have := (ha s hs).1; omega
  · rintro j ((rfl | ⟨s, hs, rfl⟩) | (rfl | ⟨s, hs, rfl⟩))
    · exact hgl
    · exact (ha s hs).2
    · omega
    · have := (hka s hs).2; omega
theorem clamp_twice (z : Int) : clampI (clampI z 0 256) 0 256 = clampI z 0 256 := by
  have hr : 0 ≤ clampI z 0 256 ∧ clampI z 0 256 ≤ 256 := by unfold clampI; split <;> (try split) <;> omega
  generalize clampI z 0 256 = y at *
  unfold clampI
  rw [if_neg (by omega), if_neg (by omega)]
set_option maxRecDepth 100000 in
set_option maxHeartbeats 4000000 in
theorem runs11_walk (v0 v1 : Value) (w : World) (h0 : Arg Try.prog w 3 v0) (h1 : Arg Try.prog w 22 v1) : Calls Try.prog 3 #[v0, v1] w fun e w' => e = .returned (.bool true) ∧ Below w.heap.size w w' := by
  obtain ⟨z, rfl, _⟩ := h0.int Try.underlying3
  obtain ⟨ao, no, co, rfl, hnc, hcm, hop⟩ := h1.ops11
  have HOP := Lib.hid hop
  have CN := Lib.hid (fun w => near_any z 0 256 w)
  have HY := Lib.hid (clamp_twice z)
  have CB := Lib.hid (fun w => begin_any (clampI z 0 256) w)
  have CD := Lib.hid (fun w => new_any2 (clampI z 0 256) w)
  rw [HY.out] at CB CD
  generalize clampI z 0 256 = y at *
  clear HY hop h0 h1
  go_enter Try.func3, Try.ntmps3
  go_wp2_with fail
  refine (alive11 _).mono ?_
  rintro e w1 ⟨rfl, hb1⟩
  have HB1 := Lib.hid hb1
  clear hb1
  go_wp2_with fail
  refine (CN.out _).mono ?_
  rintro e w1' ⟨rfl, rfl⟩
  go_wp2_with fail
  refine (CB.out w1).mono ?_
  rintro e w2 ⟨k, ka, rfl, hk, hka, hB, hb2⟩
  have R2 := Lib.hid (And.intro hk (And.intro hka (And.intro hB hb2)))
  clear hk hka hB hb2
  go_wp2_with fail
  refine (CD.out w2).mono ?_
  rintro e w3 ⟨g, a, rfl, hg, ha, hD, hb3⟩
  have TT := Lib.hid (two_begin R2.out.2.2.2 hb3 R2.out.1 R2.out.2.1 R2.out.2.2.1 hg ha hD)
  have HB3 := Lib.hid (HB1.out.trans ((R2.out.2.2.2.trans (hb3.mono R2.out.2.2.2.size)).mono HB1.out.size))
  clear hg ha hD hb3
  go_wp2_with fail
  refine (few11_any ao no co w3 hnc).mono ?_
  rintro e w3' ⟨rfl, hw3⟩
  rw [hw3]
  clear hw3
  go_wp2_with fail
  have T2 : Two w3 w.heap.size g a y.toNat y.toNat k ka (32 * y.toNat) (List.replicate (32 * y.toNat) 0) (-1) false 0 := ⟨TT.out.d, TT.out.b, TT.out.kg, TT.out.ak, TT.out.kag, TT.out.aka, Nat.le_trans HB1.out.size TT.out.lg, Nat.le_trans HB1.out.size TT.out.lk, fun s hs => Nat.le_trans HB1.out.size (TT.out.la s hs), fun s hs => Nat.le_trans HB1.out.size (TT.out.lka s hs), HB3.out.size, TT.out.top⟩
  refine (brun_any T2 ao (min no 50) co (Nat.min_le_right _ _) ?_).mono ?_
  · rcases HOP.out with h0 | ⟨b, off, ha, ho⟩
    · exact Or.inl (by omega)
    · exact Or.inr ⟨b, off, ha, (ho.keep HB3.out).few (Nat.min_le_left _ _)⟩
  · rintro e w4 ⟨rfl, _, hb4, _⟩
    have HB4 := Lib.hid (HB3.out.trans hb4)
    go_wp2_with fail
    go_ret
    exact ⟨rfl, HB4.out⟩
end Go.Proofs.Yteebmpbplenikaa
