/- The laws of purse: what is given, and paid. -/
import Derived.Test.YtdphejjiiogikaaLaw14
import Derived.Test.YtdphejjiiogikaaPBook
namespace Go.Proofs.Ytdphejjiiogikaa
set_option linter.unusedVariables false
set_option linter.unusedSimpArgs false
open Go.ChangeShapes Go.WideShapes Go.ChangeAt Go.RowKit
theorem sl_of_own {w : World} {base : Nat} {e : TypeId} {sz : Nat} {a : Option Addr} {c : Nat} {n : Nat} {xs : List Value} (h : w.ownsRow base e sz (.slice a n c) n xs) : Sl w a n sz xs := by
  obtain ⟨a', c', he, _, _, hs⟩ := Sl.own h
  injection he with e1 e2 e3
  subst e1
  exact hs
theorem wf_of_fits {n : Int} (h : fits n = true) : (Lit.int .i64 n).wf = true := by
  rw [fits_iff] at h
  simp only [Lit.wf, IntKind.min, IntKind.max, IntKind.signed, IntKind.bits, Bool.and_eq_true, decide_eq_true_eq, if_true]
  omega
theorem ok_ints : ∀ (m : Nat) (l : List Int), l.length = m → (∀ k, fits (l.getD k 0) = true) → OkAll (List.replicate m (some .i64)) (ints l)
  | 0, l, hl, _ => by cases l <;> simp_all [OkAll, ints]
  | m + 1, l, hl, hf => by
    cases l with
    | nil => simp at hl
    | cons z l =>
      rw [List.replicate_succ]
      refine ⟨⟨z, rfl, wf_of_fits (by simpa using hf 0)⟩, ok_ints m l (by simpa using hl) fun k => by simpa using hf (k + 1)⟩
theorem set_fits {l : List Int} (hf : ∀ k, fits (l.getD k 0) = true) (k : Nat) (z : Int) (hz : fits z = true) : ∀ j, fits ((l.set k z).getD j 0) = true := fun j => by
  by_cases h : k = j
  · subst h
    by_cases hk : k < l.length
    · simp [List.getD_eq_getElem?_getD, hk, hz]
    · rw [List.set_eq_of_length_le (by omega)]; exact hf k
  · have : (l.set k z).getD j 0 = l.getD j 0 := by simp [List.getD_eq_getElem?_getD, List.getElem?_set_ne h]
    rw [this]; exact hf j
theorem set_back {l : List Int} {k : Nat} {x y : Int} (hk : k < l.length) (hx : l.getD k 0 = x) : (l.set k y).set k x = l := by
  rw [List.set_set]
  apply List.ext_getElem?
  intro j
  by_cases h : k = j
  · subst h
    rw [List.getElem?_set_self hk, ← hx, List.getD_eq_getElem?_getD, List.getElem?_eq_getElem hk]; rfl
  · rw [List.getElem?_set_ne h]
theorem getD_set {l : List Int} {k : Nat} {y : Int} (hk : k < l.length) : (l.set k y).getD k 0 = y := by simp [List.getD_eq_getElem?_getD, hk]
set_option maxRecDepth 100000 in
set_option maxHeartbeats 4000000 in
theorem back_walk (v0 v1 v2 : Value) (w : World) (h0 : Arg Try.prog w 25 v0) (h1 : Arg Try.prog w 3 v1) (h2 : Arg Try.prog w 2 v2) :
    Calls Try.prog 8 #[v0, v1, v2] w fun e w' => e = .returned (.bool true) ∧ Below w.heap.size w w' := by
  obtain ⟨s, p, u, a, n, c, xs, rfl, hbk⟩ := h0.book
  obtain ⟨i, rfl, hi⟩ := h1.int Try.underlying3
  obtain ⟨m, rfl, hm⟩ := h2.int Try.underlying2
  clear h0 h1 h2
  have h8 := Lib.hid hbk.l8
  have HS := Lib.hid hbk.sl
  have HO := Lib.hid hbk.one
  have HFs := Lib.hid hbk.fs
  have HFp := Lib.hid hbk.fp
  have HF := Lib.hid hbk.fu
  have hok := Lib.hid hbk.ok
  have o8s : Ok8 s := ok_ints 8 s h8.out.s8 HFs.out
  have o8p : Ok8 p := ok_ints 8 p h8.out.p8 HFp.out
  have o8u : Ok8 u := ok_ints 8 u h8.out.u8 HF.out
  have hn : n * 56 ≤ 140737488355328 := Nat.le_trans hbk.bytes (by decide)
  clear hbk
  have B1 := Blk.new w (bkc s p u (.slice a n c)).toArray 25
  rw [List.toList_toArray] at B1
  have hb1 := (Below.refl w.heap.size w).alloc (Nat.le_refl _) (.cells (bkc s p u (.slice a n c)).toArray 25)
  go_enter Try.func8, Try.ntmps8
  go_wp2_with fail
  refine (alive14 _).mono ?_
  rintro e w1 ⟨rfl, hba⟩
  have B2 := B1.keep hba B1.lt
  have HB := Lib.hid (hb1.trans (hba.mono (by simp)))
  have hl := B2.lt
  clear B1 hb1 hba
  go_wp2_with ((with_reducible apply bk_load); (· rfl); (· assumption); (· (first | assumption | (apply hset_u; assumption) | (apply hset_s; assumption) | (apply hset_p; assumption))); (simp only [Act.put, List.setIfInBounds_toArray, List.set_cons_zero, List.set_cons_succ]))
  by_cases hr : 0 ≤ i ∧ i < 8 ∧ 0 ≤ m ∧ m ≤ 1099511627776
  · obtain ⟨k, rfl⟩ : ∃ k : Nat, i = k := ⟨i.toNat, by omega⟩
    obtain ⟨hi0, hi8, hm0, hm1⟩ := hr
    have hk : k < 8 := by omega
    have hku : k < u.length := by rw [h8.out.u8]; exact hk
    have hfx := HF.out k
    obtain ⟨x, hx⟩ : ∃ x, u.getD k 0 = x := ⟨_, rfl⟩
    rw [hx] at hfx
    by_cases ho : x + m ≤ 1099511627776
    · have hfm : fits (x + m) = true := by rw [fits_iff] at *; omega
      refine (give_ok s p u a n c k xs m x w1 h8 (HS.out.keep HB.out) HO.out hn hk hm0 hm1 hx hfx ho).mono ?_
      rintro e w2 ⟨va, vc, rfl, ho2, hb2⟩
      have hs2 := hb2.size
      have HB3 := Lib.hid (below_al (HB.out.trans (hb2.mono HB.out.size)) (Nat.le_trans HB.out.size hs2) (.cells (bkc s p (u.set k (x + m)) (.slice va n vc)).toArray 25))
      have C3 := Blk.new w2 (bkc s p (u.set k (x + m)) (.slice va n vc)).toArray 25
      rw [List.toList_toArray] at C3
      have B3 := (B2.keep hb2 hl).alloc (.cells (bkc s p (u.set k (x + m)) (.slice va n vc)).toArray 25)
      have hlB := B3.lt
      have h8g := hset_u h8 k (x + m)
      have HO3 := Lib.hid (own_alloc ho2 (.cells (bkc s p (u.set k (x + m)) (.slice va n vc)).toArray 25))
      clear ho2 hb2 B2
      go_wp2_with (first
        | ((with_reducible apply bk_store_new); (· rfl); (· first | rfl | simp); (· rfl); (· rfl); (· (first | assumption | (apply hset_u; assumption) | (apply hset_s; assumption) | (apply hset_p; assumption))); (simp only [Act.put, List.setIfInBounds_toArray, List.set_cons_zero, List.set_cons_succ]))
        | ((with_reducible apply bk_load); (· rfl); (· assumption); (· (first | assumption | (apply hset_u; assumption) | (apply hset_s; assumption) | (apply hset_p; assumption))); (simp only [Act.put, List.setIfInBounds_toArray, List.set_cons_zero, List.set_cons_succ])))
      generalize hg3 : w2.heap.size = g3 at *
      generalize w2.alloc (.cells (bkc s p (u.set k (x + m)) (.slice va n vc)).toArray 25) = W3 at *
      by_cases hp : m ≤ x + m
      · have P := Lib.hid (pay_ok s p (u.set k (x + m)) va n vc k xs m (x + m) W3 h8g (sl_of_own HO3.out) HO.out hn hk hm0 hm1 (getD_set hku) hfm hp)
        rw [show x + m - m = x by omega, set_back hku hx] at P
        refine P.out.mono ?_
        rintro e w4 ⟨va2, vc2, rfl, ho4, hb4⟩
        have B4 := (B3.keep hb4 hlB).alloc (.cells (bkc s p u (.slice va2 n vc2)).toArray 25)
        have D4 := Blk.new w4 (bkc s p u (.slice va2 n vc2)).toArray 25
        rw [List.toList_toArray] at D4
        have hs4 := hb4.size
        have HB4 := Lib.hid (below_al (HB3.out.trans (hb4.mono HB3.out.size)) (Nat.le_trans HB3.out.size hs4) (.cells (bkc s p u (.slice va2 n vc2)).toArray 25))
        have HO4 := Lib.hid (own_alloc ho4 (.cells (bkc s p u (.slice va2 n vc2)).toArray 25))
        have hA := Lib.hid (sl_of_own HO4.out)
        have hB := Lib.hid (HS.out.keep HB4.out)
        clear ho4 hb4 P HO4 HO3 B3 C3 HB HB3 hx
        go_wp2_with (first
          | ((with_reducible apply bk_store_new); (· rfl); (· first | rfl | simp); (· rfl); (· rfl); (· (first | assumption | (apply hset_u; assumption) | (apply hset_s; assumption) | (apply hset_p; assumption))); (simp only [Act.put, List.setIfInBounds_toArray, List.set_cons_zero, List.set_cons_succ]))
          | ((with_reducible apply bk_load); (· rfl); (· assumption); (· (first | assumption | (apply hset_u; assumption) | (apply hset_s; assumption) | (apply hset_p; assumption))); (simp only [Act.put, List.setIfInBounds_toArray, List.set_cons_zero, List.set_cons_succ]))
          | ((with_reducible apply bk_load_g); (· rfl); (· rfl); (· assumption); (· (first | assumption | (apply hset_u; assumption) | (apply hset_s; assumption) | (apply hset_p; assumption))); (simp only [Act.put, List.setIfInBounds_toArray, List.set_cons_zero, List.set_cons_succ])))
        generalize w4.alloc (.cells (bkc s p u (.slice va2 n vc2)).toArray 25) = W4 at *
        refine (pbook_true s p u va2 a n vc2 c xs W4 h8 o8s o8p o8u hA hB hok hn).mono ?_
        rintro e w5 ⟨rfl, hb5⟩
        have HB5 := Lib.hid (HB4.out.trans (hb5.mono HB4.out.size))
        clear hb5
        go_wp2_with fail
        go_ret
        exact ⟨rfl, HB5.out⟩
      · have hp' : x + m < m := by omega
        have hneg : x < 0 := by omega
        refine (pay_short s p (u.set k (x + m)) va n vc k m (x + m) W3 h8g hk hm0 hm1 (getD_set hku) hp').mono ?_
        rintro e w4 ⟨rfl, hb4⟩
        have B4 := (B3.keep hb4 hlB).alloc (.cells (bkc zero8 zero8 zero8 (.slice none 0 0)).toArray 25)
        have hs4 := hb4.size
        have HB4 := Lib.hid (below_al (HB3.out.trans (hb4.mono HB3.out.size)) (Nat.le_trans HB3.out.size hs4) (.cells (bkc zero8 zero8 zero8 (.slice none 0 0)).toArray 25))
        have cu := (B4.cell (16 + k)).trans (bkc_u h8.out _ hk)
        rw [hx] at cu
        have hk0 : (0 : Int) ≤ k := by omega
        have hk8 : (k : Int) < 8 := by omega
        have hz8 := Lib.hid L8.zero
        clear hb4 B3 C3 HB HB3 hx hp
        go_wp2_with ((with_reducible apply bk_store_new); (· rfl); (· first | rfl | simp); (· rfl); (· rfl); (· (first | assumption | (apply hset_u; assumption) | (apply hset_s; assumption) | (apply hset_p; assumption))); (simp only [Act.put, List.setIfInBounds_toArray, List.set_cons_zero, List.set_cons_succ]))
        go_ret
        exact ⟨rfl, HB4.out⟩
    · have ho : 1099511627776 < x + m := by omega
      refine (give_over s p u a n c k m x w1 h8 hk hm0 hm1 hx hfx ho).mono ?_
      rintro e w2 ⟨rfl, hb2⟩
      have hs2 := hb2.size
      have HB3 := Lib.hid (below_al (HB.out.trans (hb2.mono HB.out.size)) (Nat.le_trans HB.out.size hs2) (.cells (bkc zero8 zero8 zero8 (.slice none 0 0)).toArray 25))
      have hz8 := Lib.hid L8.zero
      clear hb2 hx
      go_wp2_with ((with_reducible apply bk_store_new); (· rfl); (· first | rfl | simp); (· rfl); (· rfl); (· (first | assumption | (apply hset_u; assumption) | (apply hset_s; assumption) | (apply hset_p; assumption))); (simp only [Act.put, List.setIfInBounds_toArray, List.set_cons_zero, List.set_cons_succ]))
      go_ret
      exact ⟨rfl, HB3.out⟩
  · refine (give_bad s p u a n c i m w1 hr).mono ?_
    rintro e w2 ⟨rfl, hb2⟩
    have hs2 := hb2.size
    have HB3 := Lib.hid (below_al (HB.out.trans (hb2.mono HB.out.size)) (Nat.le_trans HB.out.size hs2) (.cells (bkc zero8 zero8 zero8 (.slice none 0 0)).toArray 25))
    have hz8 := Lib.hid L8.zero
    clear hb2 hr
    go_wp2_with ((with_reducible apply bk_store_new); (· rfl); (· first | rfl | simp); (· rfl); (· rfl); (· (first | assumption | (apply hset_u; assumption) | (apply hset_s; assumption) | (apply hset_p; assumption))); (simp only [Act.put, List.setIfInBounds_toArray, List.set_cons_zero, List.set_cons_succ]))
    go_ret
    exact ⟨rfl, HB3.out⟩
end Go.Proofs.Ytdphejjiiogikaa
