/- Frames: all that octets begin with. -/
import Derived.Test.YtnlocomjmkgmkaaFrmA
import Derived.Lib.SmallJoins
import Derived.Test.YtnlocomjmkgmkaaLaw03
import Derived.Test.YtnlocomjmkgmkaaRef02
import Derived.Test.YtnlocomjmkgmkaaOps
import Derived.RegionTactic
import Derived.BigRegion
import Derived.ChangeAlike
namespace Go.Proofs.Ytnlocomjmkgmkaa
set_option linter.unusedVariables false
set_option linter.unusedSimpArgs false
open Go.ChangeShapes Go.WideShapes Go.ChangeAt Go.RowKit
theorem sl_own' {w : World} {base : Nat} {e : TypeId} {sz : Nat} {a : Option Addr} {c : Nat} {n : Nat} {xs : List Value} (h : w.ownsRow base e sz (.slice a n c) n xs) : Sl w a n sz xs := by
  obtain ⟨a', c', e1, _, _, hs⟩ := Sl.own h
  injection e1 with e1
  subst e1
  exact hs
theorem allF_len : ∀ (t : Nat) (bs : List UInt8), bs.length ≤ t → sumF (allF bs) ≤ t ∧ 8 * (allF bs).length ≤ t := by
  intro t
  induction t using Nat.strongRecOn with
  | _ t ih =>
    intro bs h
    rcases hg : getF bs with _ | m
    · rw [allF_none hg]; exact ⟨Nat.zero_le _, Nat.zero_le _⟩
    · obtain ⟨_, h1, h2, h3⟩ := getF_some hg
      have := ih (t - (m + 7)) (by omega) (bs.drop (m + 7)) (by rw [List.length_drop]; omega)
      rw [allF_some hg]
      have hl : ((bs.drop 2).take m).length = m := by rw [List.length_take, List.length_drop]; omega
      simp only [sumF, List.map_cons, List.sum_cons, List.length_cons, hl] at this ⊢
      omega
set_option maxRecDepth 100000 in
set_option maxHeartbeats 4000000 in
theorem fall_any (a : Option Addr) (n c : Nat) (bs : List UInt8) (w : World) (h : Sl w a n 1 (bcells bs)) (hnc : n ≤ c) (hc : c ≤ 9223372036854775807) (hn20 : n ≤ 1048576) :
    Calls Try.prog 12 #[.slice a n c] w fun e w' => ∃ va vc xs, e = .returned (.tuple #[.slice va (allF bs).length vc, .int .i64 (sumF (allF bs) : Nat)]) ∧ w'.ownsRow w.heap.size 22 1 (.slice va (allF bs).length vc) (allF bs).length xs ∧ Pays w' (.slice va (allF bs).length vc) xs (allF bs) ∧ Below w.heap.size w w' := by
  obtain ⟨i0, hi, hz0, hz1, hz2⟩ := info_parts slices_info
  have hbl : bs.length = n := bsl_one h
  have HS := Lib.hid h
  have HBL := Lib.hid hbl
  have hlen : ∀ (t : Nat) (bs : List UInt8), bs.length ≤ t → sumF (allF bs) ≤ t ∧ 8 * (allF bs).length ≤ t := by
    intro t
    induction t with
    | zero => intro bs h; have : bs = [] := List.eq_nil_of_length_eq_zero (by omega); subst this; exact ⟨Nat.le_refl _, Nat.le_refl _⟩
    | succ t ih => exact fun bs h => allF_len _ bs h
  clear h hbl hlen
  go_enter Try.func12, Try.ntmps12
  go_wp2_with fail
  go_loopg [4, 5] n (fun q s4 s5 wr => ∃ (t : Nat) (done : List (List UInt8)) (xs : List Value), q + t = n ∧ s5 = .int .i64 t ∧ Hid (sumF done = t) ∧ Hid (allF bs = done ++ allF (bs.drop t)) ∧ 8 * done.length ≤ t ∧ Hid (wr.ownsRow w.heap.size 22 1 s4 done.length xs) ∧ Hid (Pays wr s4 xs done) ∧ Hid (Below w.heap.size w wr))
  case atStart => exact ⟨0, [], [], by omega, rfl, Lib.hid rfl, Lib.hid rfl, by simp, Lib.hid (bown_nil w w.heap.size 22 1), Lib.hid ⟨rfl, fun i hi => by simp at hi⟩, Lib.hid (Below.refl _ _)⟩
  case round =>
    obtain ⟨t, done, xs, hqt, rfl, HSUM, HALL, h8, HO, HP, HB⟩ := hrel
    have htn : t ≤ n := by omega
    have hti : (0 : Int) ≤ t := by omega
    have htn' : (t : Int) ≤ n := by omega
    have htc : (t : Int) ≤ c := by omega
    by_cases hct : c = t
    · have hnt : n = t := by omega
      have HN : Hid (getF (bs.drop t) = none) := Lib.hid (by
        rw [List.drop_of_length_le (by rw [HBL.out]; omega)]
        rcases hg : getF [] with _ | m
        · rfl
        · have := (getF_some hg).2.2.2; simp at this)
      subst hct
      subst hnt
      have G := Lib.hid (fun w => fget_short a 0 0 w (by decide))
      go_wp2_with fail
      refine (G.out _).mono ?_
      rintro e w1 ⟨rfl, rfl⟩
      obtain ⟨va, vc, rfl, _, _, _⟩ := Sl.own HO.out
      have HD : Hid (allF bs = done) := Lib.hid (by rw [HALL.out, allF_none HN.out, List.append_nil])
      go_wp2_with fail
      go_ret2
      rw [HD.out, HSUM.out]
      exact ⟨va, vc, xs, rfl, HO.out, HP.out, HB.out⟩
    · have HSL := Lib.hid (show Sl wr (Option.map (fun x => x.add t) a) (n - t) 1 (bcells (bs.drop t)) from by
        have := (HS.out.keep HB.out).sub (i := t) (k := n - t) (by omega) hnc
        unfold restOf at this
        rw [if_neg hct, List.take_of_length_le (by rw [List.length_drop, HBL.out]; exact Nat.le_refl _)] at this
        exact this)
      have G := Lib.hid (fget_any (Option.map (fun x => x.add t) a) (n - t) (c - t) (bs.drop t) wr HSL.out (by omega) (by omega) (by omega))
      clear HSL
      go_wp2_with fail
      refine G.out.mono ?_
      rintro e w1 ⟨hsome, hnone, hb⟩
      have HO1 := Lib.hid (own_stay HO.out hb)
      have HP1 := Lib.hid (HP.out.keep hb)
      have HB1 := Lib.hid (HB.out.trans (hb.mono HB.out.size))
      rcases hg : getF (bs.drop t) with _ | m
      · obtain rfl := hnone hg
        have HN := Lib.hid hg
        clear hsome hnone hg hb
        obtain ⟨va, vc, rfl, _, _, _⟩ := Sl.own HO1.out
        have HD : Hid (allF bs = done) := Lib.hid (by rw [HALL.out, allF_none HN.out, List.append_nil])
        go_wp2_with fail
        go_ret2
        rw [HD.out, HSUM.out]
        exact ⟨va, vc, xs, rfl, HO1.out, HP1.out, HB1.out⟩
      · obtain ⟨a', c', rfl, ho⟩ := hsome m hg
        have HG := Lib.hid hg
        obtain ⟨_, hm1, hm2, hm3⟩ := getF_some hg
        rw [List.length_drop, HBL.out] at hm3
        have HPL : Hid (Sl w1 a' m 1 (bcells (((bs.drop t).drop 2).take m))) := Lib.hid (sl_own' ho)
        have HNE : Hid (∀ ad, a' = some ad → u4.ownBlock ≠ some ad.block) := Lib.hid (by
          intro ad ha e1
          subst ha
          have h1 := (HO.out.lt _ e1).2
          rcases ho.2 with ⟨h0, _⟩ | ⟨gq, cap, cur, h0, h2, _⟩
          · cases h0
          · injection h0 with e2
            injection e2 with e2
            subst e2
            simp only at h1
            omega)
        clear hsome hnone hg hb ho
        have hnews : ∀ (j : Nat) (u : Value), [Value.slice a' m c'][j]? = some u → (w1.alloc (.cells #[.slice a' m c'] 22)).cell? ((⟨w1.heap.size, 0, none⟩ : Addr).add j) = some u := fun j u hj => cell_new1 w1 _ _ j u hj
        have HNW := Lib.hid hnews
        have HO2 := Lib.hid (own_stay HO1.out ((Below.refl _ _).alloc (Nat.le_refl _) (.cells #[.slice a' m c'] 22)))
        have HP2 := Lib.hid (HP1.out.keep ((Below.refl _ _).alloc (Nat.le_refl _) (.cells #[.slice a' m c'] 22)))
        have HB2 := Lib.hid (HB1.out.alloc HB1.out.size (.cells #[.slice a' m c'] 22))
        have HPL2 := Lib.hid (HPL.out.keep ((Below.refl _ _).alloc (Nat.le_refl _) (.cells #[.slice a' m c'] 22)))
        clear hnews HO1 HP1 HB1 HPL
        go_upto_region 7 with (first
          | (at_builtin; refine wpList_append_own_at _ rfl _ _ 34 rfl w.heap.size 22 i0 (.slice none 0 0) 1 24 Try.underlying34 hi hz0 hz1 hz2 rfl (by decide) _ done.length xs rfl HO2.out ⟨w1.heap.size, 0, none⟩ 1 1 [.slice a' m c'] rfl rfl HNW.out (by simp [Value.oneCell']) ?c1 ?c2 HB2.out.size ?_))
        case c1 => simp only [maxLen]; omega
        case c2 => omega
        intro v3 w3 ho hg3 _ hv3
        have HB3 := Lib.hid (Below.grown HB2.out hg3 HB2.out.size fun q hq => (HO2.out.lt q hq).1)
        have hlt : ∀ ad, a' = some ad → ad.block < (w1.alloc (.cells #[.slice a' m c'] 22)).heap.size := sl_blk HPL2.out (show 0 < m by omega)
        have hv4 : v3.ownBlock = u4.ownBlock ∨ v3.ownBlock = some (w1.alloc (.cells #[.slice a' m c'] 22)).heap.size := by simpa using hv3
        have HP3 := Lib.hid (Pays.snoc (c := c') HP2.out hg3 hv4 HPL2.out (by omega) HNE.out hlt)
        clear hlt hv4
        have HO3 := Lib.hid ho
        clear ho hg3 hv3 HO2 HP2 HB2 HPL2 HNW HNE
        have hpl : (((bs.drop t).drop 2).take m).length = m := by rw [List.length_take, List.length_drop, List.length_drop, HBL.out]; omega
        have HSUM3 : Hid (sumF (done ++ [((bs.drop t).drop 2).take m]) = t + (m + 7)) := Lib.hid (by rw [sumF_snoc, HSUM.out, hpl])
        have HALL3 : Hid (allF bs = (done ++ [((bs.drop t).drop 2).take m]) ++ allF (bs.drop (t + (m + 7)))) := Lib.hid (by rw [HALL.out, allF_some HG.out, show (bs.drop t).drop (m + 7) = bs.drop (t + (m + 7)) by rw [List.drop_drop], List.append_assoc, List.singleton_append])
        have hdl : (done ++ [((bs.drop t).drop 2).take m]).length = done.length + 1 := by simp
        rw [← hdl] at HO3
        clear hpl HSUM HALL HG HP HO HB HS
        generalize done ++ [((bs.drop t).drop 2).take m] = D3 at *
        have hm7 : (m : Int) + 7 ≤ 1048576 := by omega
        have htt : (t : Int) ≤ 1048576 := by omega
        go_wp2_with fail
        go_roundg (gk - (m + 7))
        case measure => omega
        case rel => exact ⟨t + (m + 7), D3, _, by omega, by go_num, HSUM3, HALL3, by omega, HO3, HP3, HB3⟩
set_option maxRecDepth 100000 in
set_option maxHeartbeats 4000000 in
theorem rfall_any (a : Option Addr) (n c : Nat) (bs : List UInt8) (w : World) (h : Sl w a n 1 (bcells bs)) (hnc : n ≤ c) (hc : c ≤ 9223372036854775807) (hn20 : n ≤ 1048576) :
    Calls Try.prog 13 #[.slice a n c] w fun e w' => ∃ va vc xs, e = .returned (.tuple #[.slice va (allF bs).length vc, .int .i64 (sumF (allF bs) : Nat)]) ∧ w'.ownsRow w.heap.size 22 1 (.slice va (allF bs).length vc) (allF bs).length xs ∧ Pays w' (.slice va (allF bs).length vc) xs (allF bs) ∧ Below w.heap.size w w' := by
  obtain ⟨i0, hi, hz0, hz1, hz2⟩ := info_parts slices_info
  have hbl : bs.length = n := bsl_one h
  have HS := Lib.hid h
  have HBL := Lib.hid hbl
  have hlen : ∀ (t : Nat) (bs : List UInt8), bs.length ≤ t → sumF (allF bs) ≤ t ∧ 8 * (allF bs).length ≤ t := by
    intro t
    induction t with
    | zero => intro bs h; have : bs = [] := List.eq_nil_of_length_eq_zero (by omega); subst this; exact ⟨Nat.le_refl _, Nat.le_refl _⟩
    | succ t ih => exact fun bs h => allF_len _ bs h
  clear h hbl hlen
  go_enter Try.func13, Try.ntmps13
  go_wp2_with fail
  go_loopg [4, 5] n (fun q s4 s5 wr => ∃ (t : Nat) (done : List (List UInt8)) (xs : List Value), q + t = n ∧ s5 = .int .i64 t ∧ Hid (sumF done = t) ∧ Hid (allF bs = done ++ allF (bs.drop t)) ∧ 8 * done.length ≤ t ∧ Hid (wr.ownsRow w.heap.size 22 1 s4 done.length xs) ∧ Hid (Pays wr s4 xs done) ∧ Hid (Below w.heap.size w wr))
  case atStart => exact ⟨0, [], [], by omega, rfl, Lib.hid rfl, Lib.hid rfl, by simp, Lib.hid (bown_nil w w.heap.size 22 1), Lib.hid ⟨rfl, fun i hi => by simp at hi⟩, Lib.hid (Below.refl _ _)⟩
  case round =>
    obtain ⟨t, done, xs, hqt, rfl, HSUM, HALL, h8, HO, HP, HB⟩ := hrel
    have htn : t ≤ n := by omega
    have hti : (0 : Int) ≤ t := by omega
    have htn' : (t : Int) ≤ n := by omega
    have htc : (t : Int) ≤ c := by omega
    by_cases hct : c = t
    · have hnt : n = t := by omega
      have HN : Hid (getF (bs.drop t) = none) := Lib.hid (by
        rw [List.drop_of_length_le (by rw [HBL.out]; omega)]
        rcases hg : getF [] with _ | m
        · rfl
        · have := (getF_some hg).2.2.2; simp at this)
      subst hct
      subst hnt
      have G := Lib.hid (fun w => rfget_short a 0 0 w (by decide))
      go_wp2_with fail
      refine (G.out _).mono ?_
      rintro e w1 ⟨rfl, rfl⟩
      obtain ⟨va, vc, rfl, _, _, _⟩ := Sl.own HO.out
      have HD : Hid (allF bs = done) := Lib.hid (by rw [HALL.out, allF_none HN.out, List.append_nil])
      go_wp2_with fail
      go_ret2
      rw [HD.out, HSUM.out]
      exact ⟨va, vc, xs, rfl, HO.out, HP.out, HB.out⟩
    · have HSL := Lib.hid (show Sl wr (Option.map (fun x => x.add t) a) (n - t) 1 (bcells (bs.drop t)) from by
        have := (HS.out.keep HB.out).sub (i := t) (k := n - t) (by omega) hnc
        unfold restOf at this
        rw [if_neg hct, List.take_of_length_le (by rw [List.length_drop, HBL.out]; exact Nat.le_refl _)] at this
        exact this)
      have G := Lib.hid (rfget_any (Option.map (fun x => x.add t) a) (n - t) (c - t) (bs.drop t) wr HSL.out (by omega) (by omega) (by omega))
      have HSL2 := HSL
      clear HSL
      go_wp2_with fail
      refine G.out.mono ?_
      rintro e w1 ⟨hsome, hnone, hb⟩
      have HO1 := Lib.hid (own_stay HO.out hb)
      have HP1 := Lib.hid (HP.out.keep hb)
      have HB1 := Lib.hid (HB.out.trans (hb.mono HB.out.size))
      rcases hg : getF (bs.drop t) with _ | m
      · obtain rfl := hnone hg
        have HN := Lib.hid hg
        clear hsome hnone hg hb
        obtain ⟨va, vc, rfl, _, _, _⟩ := Sl.own HO1.out
        have HD : Hid (allF bs = done) := Lib.hid (by rw [HALL.out, allF_none HN.out, List.append_nil])
        go_wp2_with fail
        go_ret2
        rw [HD.out, HSUM.out]
        exact ⟨va, vc, xs, rfl, HO1.out, HP1.out, HB1.out⟩
      · obtain ⟨bb, off, hab, rfl⟩ := hsome m hg
        have HG := Lib.hid hg
        obtain ⟨_, hm1, hm2, hm3⟩ := getF_some hg
        rw [List.length_drop, HBL.out] at hm3
        have HPL : Hid (Sl w1 (some (⟨bb, off + 2, none⟩ : Addr)) m 1 (bcells (((bs.drop t).drop 2).take m))) := Lib.hid (by
          have hs := HSL2.out
          rw [hab] at hs
          have := hs.sub (c := c - t) (i := 2) (k := m) (by omega) (by omega)
          unfold restOf at this
          rw [if_neg (by omega)] at this
          simpa [add_plain] using this.keep hb)
        have HNE : Hid (∀ ad, (some (⟨bb, off + 2, none⟩ : Addr)) = some ad → u4.ownBlock ≠ some ad.block) := Lib.hid (by
          intro ad ha e1
          injection ha with ha
          subst ha
          have h1 := (HO.out.lt _ e1).1
          obtain ⟨_, b2, o2, e2, hb2, _⟩ := HS.out.byte (by omega)
          rw [e2] at hab
          simp only [Option.map_some, Option.some.injEq] at hab
          have h2 : b2 = bb := by have := congrArg Addr.block hab; simpa [add_plain] using this
          simp only at h1
          omega)
        clear hsome hnone hg hb
        have hnews : ∀ (j : Nat) (u : Value), [Value.slice (some (⟨bb, off + 2, none⟩ : Addr)) m (c - t - 2)][j]? = some u → (w1.alloc (.cells #[.slice (some (⟨bb, off + 2, none⟩ : Addr)) m (c - t - 2)] 22)).cell? ((⟨w1.heap.size, 0, none⟩ : Addr).add j) = some u := fun j u hj => cell_new1 w1 _ _ j u hj
        have HNW := Lib.hid hnews
        have HO2 := Lib.hid (own_stay HO1.out ((Below.refl _ _).alloc (Nat.le_refl _) (.cells #[.slice (some (⟨bb, off + 2, none⟩ : Addr)) m (c - t - 2)] 22)))
        have HP2 := Lib.hid (HP1.out.keep ((Below.refl _ _).alloc (Nat.le_refl _) (.cells #[.slice (some (⟨bb, off + 2, none⟩ : Addr)) m (c - t - 2)] 22)))
        have HB2 := Lib.hid (HB1.out.alloc HB1.out.size (.cells #[.slice (some (⟨bb, off + 2, none⟩ : Addr)) m (c - t - 2)] 22))
        have HPL2 := Lib.hid (HPL.out.keep ((Below.refl _ _).alloc (Nat.le_refl _) (.cells #[.slice (some (⟨bb, off + 2, none⟩ : Addr)) m (c - t - 2)] 22)))
        clear hnews HO1 HP1 HB1 HPL
        go_upto_region 7 with (first
          | (at_builtin; refine wpList_append_own_at _ rfl _ _ 34 rfl w.heap.size 22 i0 (.slice none 0 0) 1 24 Try.underlying34 hi hz0 hz1 hz2 rfl (by decide) _ done.length xs rfl HO2.out ⟨w1.heap.size, 0, none⟩ 1 1 [.slice (some (⟨bb, off + 2, none⟩ : Addr)) m (c - t - 2)] rfl rfl HNW.out (by simp [Value.oneCell']) ?c1 ?c2 HB2.out.size ?_))
        case c1 => simp only [maxLen]; omega
        case c2 => omega
        intro v3 w3 ho hg3 _ hv3
        have HB3 := Lib.hid (Below.grown HB2.out hg3 HB2.out.size fun q hq => (HO2.out.lt q hq).1)
        have hlt : ∀ ad, (some (⟨bb, off + 2, none⟩ : Addr)) = some ad → ad.block < (w1.alloc (.cells #[.slice (some (⟨bb, off + 2, none⟩ : Addr)) m (c - t - 2)] 22)).heap.size := sl_blk HPL2.out (show 0 < m by omega)
        have hv4 : v3.ownBlock = u4.ownBlock ∨ v3.ownBlock = some (w1.alloc (.cells #[.slice (some (⟨bb, off + 2, none⟩ : Addr)) m (c - t - 2)] 22)).heap.size := by simpa using hv3
        have HP3 := Lib.hid (Pays.snoc (c := (c - t - 2)) HP2.out hg3 hv4 HPL2.out (by omega) HNE.out hlt)
        clear hlt hv4
        have HO3 := Lib.hid ho
        clear ho hg3 hv3 HO2 HP2 HB2 HPL2 HNW HNE
        have hpl : (((bs.drop t).drop 2).take m).length = m := by rw [List.length_take, List.length_drop, List.length_drop, HBL.out]; omega
        have HSUM3 : Hid (sumF (done ++ [((bs.drop t).drop 2).take m]) = t + (m + 7)) := Lib.hid (by rw [sumF_snoc, HSUM.out, hpl])
        have HALL3 : Hid (allF bs = (done ++ [((bs.drop t).drop 2).take m]) ++ allF (bs.drop (t + (m + 7)))) := Lib.hid (by rw [HALL.out, allF_some HG.out, show (bs.drop t).drop (m + 7) = bs.drop (t + (m + 7)) by rw [List.drop_drop], List.append_assoc, List.singleton_append])
        have hdl : (done ++ [((bs.drop t).drop 2).take m]).length = done.length + 1 := by simp
        rw [← hdl] at HO3
        clear hpl HSUM HALL HG HP HO HB HS
        generalize done ++ [((bs.drop t).drop 2).take m] = D3 at *
        have hm7 : (m : Int) + 7 ≤ 1048576 := by omega
        have htt : (t : Int) ≤ 1048576 := by omega
        go_wp2_with fail
        go_roundg (gk - (m + 7))
        case measure => omega
        case rel => exact ⟨t + (m + 7), D3, _, by omega, by go_num, HSUM3, HALL3, by omega, HO3, HP3, HB3⟩
end Go.Proofs.Ytnlocomjmkgmkaa
