/- The statements of frames: what gets them. -/
import Derived.Test.YtnlocomjmkgmkaaLaw04
import Derived.Test.YtnlocomjmkgmkaaQt
import Derived.Test.YtnlocomjmkgmkaaUpto
import Derived.Test.YtnlocomjmkgmkaaLaw03
import Derived.Test.YtnlocomjmkgmkaaRef02
import Derived.Test.YtnlocomjmkgmkaaOps
import Derived.RegionTactic
import Derived.BigRegion
import Derived.ChangeAlike
namespace Go.Proofs.Ytnlocomjmkgmkaa
set_option linter.unusedVariables false
set_option linter.unusedSimpArgs false
open Go.ChangeShapes Go.WideShapes Go.ChangeAt Go.RowKit
/-- a list of octets as it lies in memory. -/
def Lists (w : World) (a : Option Addr) (m : Nat) (ps : List (List UInt8)) : Prop :=
  ps.length = m ∧ (m = 0 ∨ ∃ b off, a = some ⟨b, off, none⟩ ∧ b < w.heap.size ∧ ∀ i, i < m → ∃ ai ni ci, w.cell? ⟨b, off + i, none⟩ = some (.slice ai ni ci) ∧ Sl w ai ni 1 (bcells (ps.getD i [])))
theorem Lists.keep {w w' : World} {a : Option Addr} {m : Nat} {ps : List (List UInt8)} (h : Lists w a m ps) (hb : Below w.heap.size w w') : Lists w' a m ps := by
  refine ⟨h.1, h.2.imp id ?_⟩
  rintro ⟨b, off, rfl, hlt, hc⟩
  refine ⟨b, off, rfl, Nat.lt_of_lt_of_le hlt hb.size, fun i hi => ?_⟩
  obtain ⟨ai, ni, ci, h1, h2⟩ := hc i hi
  exact ⟨ai, ni, ci, (hb.cell (p := ⟨b, off + i, none⟩) hlt).trans h1, h2.keep hb⟩
theorem lists_own {w : World} {base : Nat} {va : Option Addr} {vc : Nat} {xs : List Value} {ps : List (List UInt8)} (ho : w.ownsRow base 22 1 (.slice va ps.length vc) ps.length xs) (hp : Pays w (.slice va ps.length vc) xs ps) : Lists w va ps.length ps := by
  refine ⟨rfl, ?_⟩
  have hs := (sl_own' ho).2
  rcases hs with h0 | ⟨b, off, rfl, hlt, hc⟩
  · exact Or.inl h0
  · refine Or.inr ⟨b, off, rfl, hlt, fun i hi => ?_⟩
    obtain ⟨ai, ni, ci, h1, _, h3, _⟩ := hp.2 i hi
    refine ⟨ai, ni, ci, ?_, h3⟩
    rw [hc i (by omega), List.getD_eq_getElem?_getD, h1]; rfl
set_option maxRecDepth 100000 in
set_option maxHeartbeats 4000000 in
/-- lists of octets that are the same are told to be so. -/
theorem octets_same (a1 a2 : Option Addr) (m c1 c2 : Nat) (ps : List (List UInt8)) (w : World) (h1 : Lists w a1 m ps) (h2 : Lists w a2 m ps) (hm : m ≤ 140737488355328) : Calls Try.prog 14 #[.slice a1 m c1, .slice a2 m c2] w fun e w' => e = .returned (.bool true) ∧ Below w.heap.size w w' := by
  have H1 := Lib.hid h1
  have H2 := Lib.hid h2
  clear h1 h2
  go_enter Try.func14, Try.ntmps14
  go_wp2_with fail
  go_loopg [5] m (fun q s5 wr => ∃ i : Nat, q + i = m ∧ s5 = .int .i64 i ∧ Hid (Below w.heap.size w wr))
  case atStart => exact ⟨0, by omega, rfl, Lib.hid (Below.refl _ _)⟩
  case round =>
    obtain ⟨i, hqi, rfl, HB⟩ := hrel
    have hi0 : (0 : Int) ≤ i := by omega
    by_cases hi : i < m
    · have hil : (i : Int) < m := by omega
      have hg1 := (H1.out.keep HB.out).2
      have hg2 := (H2.out.keep HB.out).2
      rcases hg1 with h0 | ⟨b1, o1, rfl, hb1, hc1⟩
      · omega
      rcases hg2 with h0 | ⟨b2, o2, rfl, hb2, hc2⟩
      · omega
      obtain ⟨x1, n1, k1, e1, s1⟩ := hc1 i hi
      obtain ⟨x2, n2, k2, e2, s2⟩ := hc2 i hi
      generalize ps.getD i [] = p at *
      have L1 := Lib.hid (fun w' (hw : Below wr.heap.size wr w') => (hw.cell (p := ⟨b1, o1 + i, none⟩) hb1).trans e1)
      have L2 := Lib.hid (fun w' (hw : Below wr.heap.size wr w') => (hw.cell (p := ⟨b2, o2 + i, none⟩) hb2).trans e2)
      have K1 := Lib.hid (fun w' (hw : Below wr.heap.size wr w') => conv_bytes (s1.keep hw) k1)
      have K2 := Lib.hid (fun w' (hw : Below wr.heap.size wr w') => conv_bytes (s2.keep hw) k2)
      clear hc1 hc2 e1 e2 s1 s2
      go_upto_region 6 with fail
      refine q_begin (by kernel_rfl) (by kernel_rfl) ?_
      repeat (first
        | go_big_quiet_skip
        | ((with_reducible apply q_at (ad := ⟨b1, o1 + i, none⟩)); (· rfl); (· rfl); (· exact Try.underlying22); (· rfl); (· exact L1.out); (simp only [Act.put, List.setIfInBounds_toArray, List.set_cons_zero, List.set_cons_succ]))
        | ((with_reducible apply q_at (ad := ⟨b2, o2 + i, none⟩)); (· rfl); (· rfl); (· exact Try.underlying22); (· rfl); (· exact L2.out); (simp only [Act.put, List.setIfInBounds_toArray, List.set_cons_zero, List.set_cons_succ]))
        | ((with_reducible apply q_conv); (· rfl); (· rfl); (· exact K1.out); (simp only [Act.put, List.setIfInBounds_toArray, List.set_cons_zero, List.set_cons_succ]))
        | ((with_reducible apply q_conv); (· rfl); (· rfl); (· exact K2.out); (simp only [Act.put, List.setIfInBounds_toArray, List.set_cons_zero, List.set_cons_succ]))
        | (go_big_quiet_want; go_big_quiet_op; (first | go_big_quiet_on | (apply Exists.intro; refine ⟨fun _ _ => rfl, ?_⟩; go_big_quiet_on))))
      refine q_end ?_
      intro w2 hb
      have HB2 := Lib.hid (HB.out.trans (hb.mono HB.out.size))
      clear hb
      go_wp2_with fail
      go_roundg (gk - 1)
      case measure => omega
      case rel => exact ⟨i + 1, by omega, by go_num, HB2⟩
    · have hil : (m : Int) ≤ i := by omega
      go_wp2_with fail
      go_ret
      exact ⟨rfl, HB.out⟩
set_option maxRecDepth 100000 in
set_option maxHeartbeats 8000000 in
theorem fgets_walk (a : Option Addr) (n c : Nat) (bs : List UInt8) (w : World) (hs : Sl w a n 1 (bcells bs)) (hnc : n ≤ c) (hc : c ≤ 9223372036854775807) (hn20 : n ≤ 1048576) : Calls Try.prog 4 #[.slice a n c] w fun e w' => e = .returned (.bool true) ∧ Below w.heap.size w w' := by
  have HS := Lib.hid hs
  have HBL := Lib.hid (bsl_one hs)
  clear hs
  go_enter Try.func4, Try.ntmps4
  go_wp2_with fail
  refine (alive04 _).mono ?_
  rintro e w1 ⟨rfl, hb⟩
  have HB1 := Lib.hid hb
  have G := Lib.hid (fget_any a n c bs w1 (HS.out.keep hb) hnc hc (by omega))
  clear hb
  go_wp2_with fail
  refine G.out.mono ?_
  rintro e w2 ⟨hsome, hnone, hb2⟩
  have HB2 := Lib.hid (HB1.out.trans (hb2.mono HB1.out.size))
  have R := Lib.hid (rfget_any a n c bs w2 (HS.out.keep HB2.out) hnc hc (by omega))
  clear G HB1
  rcases hg : getF bs with _ | m
  · obtain rfl := hnone hg
    have HG := Lib.hid hg
    clear hsome hnone hg hb2
    go_wp2_with fail
    refine R.out.mono ?_
    rintro e w3 ⟨_, hnone, hb3⟩
    obtain rfl := hnone HG.out
    have HB3 := Lib.hid (HB2.out.trans (hb3.mono HB2.out.size))
    have HX3 : Hid (Sl w3 none 0 1 (bcells [])) := Lib.hid ⟨rfl, Or.inl rfl⟩
    have HY3 : Hid (Sl w3 none 0 1 (bcells [])) := Lib.hid ⟨rfl, Or.inl rfl⟩
    clear hnone R HB2
    have AA := Lib.hid (fall_any a n c bs w3 (HS.out.keep HB3.out) hnc hc hn20)
    clear hb3
    go_wp2_with fail
    refine AA.out.mono ?_
    rintro e w4 ⟨va, vc, xs, rfl, ho, hp, hb4⟩
    have HB4 := Lib.hid (HB3.out.trans (hb4.mono HB3.out.size))
    have HL4 := Lib.hid (lists_own ho hp)
    have HX4 := Lib.hid (HX3.out.keep hb4)
    have HY4 := Lib.hid (HY3.out.keep hb4)
    have RA := Lib.hid (rfall_any a n c bs w4 (HS.out.keep HB4.out) hnc hc hn20)
    clear ho hp hb4 AA HX3 HY3 HB3
    go_wp2_with fail
    refine RA.out.mono ?_
    rintro e w5 ⟨va5, vc5, xs5, rfl, ho, hp, hb5⟩
    have HB5 := Lib.hid (HB4.out.trans (hb5.mono HB4.out.size))
    have HL5 := Lib.hid (HL4.out.keep hb5)
    have HM5 := Lib.hid (lists_own ho hp)
    have k1 := conv_bytes (HX4.out.keep hb5) 0
    have k2 := conv_bytes (HY4.out.keep hb5) 0
    have hal : (allF bs).length ≤ 140737488355328 := by have := (allF_len n bs (by rw [HBL.out]; exact Nat.le_refl _)).2; omega
    have OC := Lib.hid (octets_same va va5 (allF bs).length vc vc5 (allF bs) w5 HL5.out HM5.out hal)
    clear ho hp hb5 RA HX4 HY4 HB4 HL4 HL5 HM5 hal
    generalize (allF bs).length = K at *
    generalize sumF (allF bs) = SS at *
    go_wp2_with fail
    refine OC.out.mono ?_
    rintro e w6 ⟨rfl, hb6⟩
    have HB6 := Lib.hid (HB5.out.trans (hb6.mono HB5.out.size))
    clear hb6 OC
    go_wp2_with fail
    go_ret
    exact ⟨rfl, HB6.out⟩
  · obtain ⟨a3, c3, rfl, ho2⟩ := hsome m hg
    have HG := Lib.hid hg
    obtain ⟨_, hm1, hm2, hm3⟩ := getF_some hg
    rw [HBL.out] at hm3
    have HX2 := Lib.hid (sl_own' ho2)
    clear hsome hnone hg hb2 ho2
    go_wp2_with fail
    refine R.out.mono ?_
    rintro e w3 ⟨hsome, _, hb3⟩
    obtain ⟨bb, off, rfl, rfl⟩ := hsome m HG.out
    have HB3 := Lib.hid (HB2.out.trans (hb3.mono HB2.out.size))
    have HX3 := Lib.hid (HX2.out.keep hb3)
    have HY3 : Hid (Sl w3 (some ⟨bb, off + 2, none⟩) m 1 (bcells ((bs.drop 2).take m))) := Lib.hid (by
      have := (HS.out.sub (i := 2) (k := m) (by omega) hnc).keep HB3.out
      unfold restOf at this
      rw [if_neg (by omega)] at this
      simpa [add_plain] using this)
    clear hsome R HB2 HX2
    generalize (bs.drop 2).take m = PL at *
    have hmg : (0 : Int) < (m : Int) + 7 := by omega
    have AA := Lib.hid (fall_any (some ⟨bb, off, none⟩) n c bs w3 (HS.out.keep HB3.out) hnc hc hn20)
    clear hb3
    go_wp2_with fail
    refine AA.out.mono ?_
    rintro e w4 ⟨va, vc, xs, rfl, ho, hp, hb4⟩
    have HB4 := Lib.hid (HB3.out.trans (hb4.mono HB3.out.size))
    have HL4 := Lib.hid (lists_own ho hp)
    have HX4 := Lib.hid (HX3.out.keep hb4)
    have HY4 := Lib.hid (HY3.out.keep hb4)
    have RA := Lib.hid (rfall_any (some ⟨bb, off, none⟩) n c bs w4 (HS.out.keep HB4.out) hnc hc hn20)
    clear ho hp hb4 AA HX3 HY3 HB3
    go_wp2_with fail
    refine RA.out.mono ?_
    rintro e w5 ⟨va5, vc5, xs5, rfl, ho, hp, hb5⟩
    have HB5 := Lib.hid (HB4.out.trans (hb5.mono HB4.out.size))
    have HL5 := Lib.hid (HL4.out.keep hb5)
    have HM5 := Lib.hid (lists_own ho hp)
    have k1 := conv_bytes (HX4.out.keep hb5) c3
    have k2 := conv_bytes (HY4.out.keep hb5) (c - 2)
    have hal : (allF bs).length ≤ 140737488355328 := by have := (allF_len n bs (by rw [HBL.out]; exact Nat.le_refl _)).2; omega
    have OC := Lib.hid (octets_same va va5 (allF bs).length vc vc5 (allF bs) w5 HL5.out HM5.out hal)
    clear ho hp hb5 RA HX4 HY4 HB4 HL4 HL5 HM5 hal
    generalize (allF bs).length = K at *
    generalize sumF (allF bs) = SS at *
    go_wp2_with fail
    refine OC.out.mono ?_
    rintro e w6 ⟨rfl, hb6⟩
    have HB6 := Lib.hid (HB5.out.trans (hb6.mono HB5.out.size))
    clear hb6 OC
    go_wp2_with fail
    go_ret
    exact ⟨rfl, HB6.out⟩
theorem fgets_law (v0 : Value) (w : World) (h0 : ArgUp Try.prog w 22 v0 1048576) : Calls Try.prog 4 #[v0] w fun e w' => e = .returned (.bool true) ∧ Below w.heap.size w w' := by
  obtain ⟨a, n, c, bs, rfl, hnc, hc, hn, _, _, hs⟩ := h0.bytes
  exact fgets_walk a n c bs w hs hnc hc hn
end Go.Proofs.Ytnlocomjmkgmkaa
