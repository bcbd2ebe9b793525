/- The laws of purse: each gives, or pays, just that. -/
import Derived.Test.YtdphejjiiogikaaLaw14b
namespace Go.Proofs.Ytdphejjiiogikaa
set_option linter.unusedVariables false
set_option linter.unusedSimpArgs false
open Go.ChangeShapes Go.WideShapes Go.ChangeAt Go.RowKit
theorem buyer_yes (i : Int) (w : World) (h0 : 0 ≤ i) (h1 : i < 8) : Calls Try.prog 21 #[.int .i64 i] w fun e w' => e = .returned (.bool true) ∧ w = w' := by
  go_enter Try.func21, Try.ntmps21
  go_wp2
  go_ret
  exact ⟨rfl, rfl⟩
theorem buyer_no (i : Int) (w : World) (h : i < 0 ∨ 7 < i) : Calls Try.prog 21 #[.int .i64 i] w fun e w' => e = .returned (.bool false) ∧ w = w' := by
  by_cases h0 : 0 ≤ i
  · have h1 : ¬ i < 8 := by omega
    clear h
    go_enter Try.func21, Try.ntmps21
    go_wp2
    go_ret
    exact ⟨rfl, rfl⟩
  · clear h
    go_enter Try.func21, Try.ntmps21
    go_wp2
    go_ret
    exact ⟨rfl, rfl⟩
theorem ok8_zero : Ok8 zero8 := ok_ints 8 zero8 rfl (fun k => by by_cases h : k < 8 <;> (unfold zero8; simp only [List.getD_eq_getElem?_getD, List.getElem?_replicate, h, if_true, if_false, Option.getD_some, Option.getD_none]; rfl))
theorem pbook_zero (w : World) : Calls Try.prog 13 #[.agg (bkc zero8 zero8 zero8 (.slice none 0 0)).toArray, .agg #[.int .i64 0, .int .i64 0, .int .i64 0, .int .i64 0, .int .i64 0, .int .i64 0, .int .i64 0, .int .i64 0, .int .i64 0, .int .i64 0, .int .i64 0, .int .i64 0, .int .i64 0, .int .i64 0, .int .i64 0, .int .i64 0, .int .i64 0, .int .i64 0, .int .i64 0, .int .i64 0, .int .i64 0, .int .i64 0, .int .i64 0, .int .i64 0, .slice none 0 0]] w fun e w' => e = .returned (.bool true) ∧ Below w.heap.size w w' := by
  have := pbook_true zero8 zero8 zero8 none none 0 0 0 [] w (Lib.hid L8.zero) ok8_zero ok8_zero ok8_zero (Lib.hid ⟨rfl, Or.inl rfl⟩) (Lib.hid ⟨rfl, Or.inl rfl⟩) (Lib.hid (fun i hi => absurd hi (Nat.not_lt_zero _))) (by decide)
  rw [zero_cells] at this ⊢
  exact this
/-- a variable that was just made, one cell of which is written. -/
theorem blk_new_set_u {s p u : List Int} (h8 : Hid (L8 s p u)) (W : World) (o : Value) (k : Nat) (hk : k < 8) (z : Int) (t : TypeId) : Blk (W.alloc (.cells ((bkc s p u o).toArray.setIfInBounds (16 + k) (.int .i64 z)) t)) W.heap.size (bkc s p (u.set k z) o) t := by
  have := Blk.new W ((bkc s p u o).toArray.setIfInBounds (16 + k) (.int .i64 z)) t
  have e : ((bkc s p u o).toArray.setIfInBounds (16 + k) (.int .i64 z)).toList = bkc s p (u.set k z) o := by rw [List.setIfInBounds_toArray, List.toList_toArray, bkc_set_u h8.out o hk]
  rwa [e] at this
theorem ok8_set {u : List Int} (hl : u.length = 8) (hf : ∀ k, fits (u.getD k 0) = true) (k : Nat) (z : Int) (hz : fits z = true) : Ok8 (u.set k z) := ok_ints 8 _ (by simp [hl]) (set_fits hf k z hz)
theorem Blk.set_below {w : World} {g : Nat} {cs vs : List Value} {t : TypeId} {g' : Nat} (h : Blk w g cs t) (hne : g ≠ g') : ∀ (o : Nat), Blk (w.setCells g' o vs) g cs t := by
  induction vs generalizing w with
  | nil => intro o; exact h
  | cons v r ih => intro o; exact ih (h.set_other hne o v) (o + 1)
set_option maxRecDepth 100000 in
set_option maxHeartbeats 4000000 in
theorem gives_walk (v0 v1 v2 : Value) (w : World) (h0 : Arg Try.prog w 25 v0) (h1 : Arg Try.prog w 3 v1) (h2 : Arg Try.prog w 2 v2) :
    Calls Try.prog 6 #[v0, v1, v2] w fun e w' => e = .returned (.bool true) ∧ Below w.heap.size w w' := by
  obtain ⟨s, p, u, a, n, c, xs, rfl, hbk⟩ := h0.book
  obtain ⟨i, rfl, hi⟩ := h1.int Try.underlying3
  obtain ⟨m, rfl, hm⟩ := h2.int Try.underlying2
  clear h0 h1 h2
  have h8 := Lib.hid hbk.l8
  have HS := Lib.hid hbk.sl
  have HO := Lib.hid hbk.one
  have HFs := Lib.hid hbk.fs
  have HFp := Lib.hid hbk.fp
  have HF := Lib.hid hbk.fu
  have hok := Lib.hid hbk.ok
  have o8s : Ok8 s := ok_ints 8 s h8.out.s8 HFs.out
  have o8p : Ok8 p := ok_ints 8 p h8.out.p8 HFp.out
  have o8u : Ok8 u := ok_ints 8 u h8.out.u8 HF.out
  have hn : n * 56 ≤ 140737488355328 := Nat.le_trans hbk.bytes (by decide)
  clear hbk
  have B1 := Blk.new w (bkc s p u (.slice a n c)).toArray 25
  rw [List.toList_toArray] at B1
  have hb1 := (Below.refl w.heap.size w).alloc (Nat.le_refl _) (.cells (bkc s p u (.slice a n c)).toArray 25)
  go_enter Try.func6, Try.ntmps6
  go_wp2_with fail
  refine (alive14 _).mono ?_
  rintro e w1 ⟨rfl, hba⟩
  have B2 := B1.keep hba B1.lt
  have HB := Lib.hid (hb1.trans (hba.mono (by simp)))
  have hl := B2.lt
  clear B1 hb1 hba
  go_wp2_with ((with_reducible apply bk_load); (· rfl); (· assumption); (· (first | assumption | (apply hset_u; assumption) | (apply hset_s; assumption) | (apply hset_p; assumption))); (simp only [Act.put, List.setIfInBounds_toArray, List.set_cons_zero, List.set_cons_succ]))
  by_cases hr : 0 ≤ i ∧ i < 8 ∧ 0 ≤ m ∧ m ≤ 1099511627776
  · obtain ⟨k, rfl⟩ : ∃ k : Nat, i = k := ⟨i.toNat, by omega⟩
    obtain ⟨hi0, hi8, hm0, hm1⟩ := hr
    have hk : k < 8 := by omega
    have hku : k < u.length := by rw [h8.out.u8]; exact hk
    have hfx := HF.out k
    obtain ⟨x, hx⟩ : ∃ x, u.getD k 0 = x := ⟨_, rfl⟩
    rw [hx] at hfx
    obtain ⟨hxl, hxu⟩ := (fits_iff x).1 hfx
    by_cases ho : x + m ≤ 1099511627776
    · by_cases hp : m ≤ x
      · refine (give_ok s p u a n c k xs m x w1 h8 (HS.out.keep HB.out) HO.out hn hk hm0 hm1 hx hfx ho).mono ?_
        rintro e w2 ⟨va, vc, rfl, ho2, hb2⟩
        have hs2 := hb2.size
        have B3 := (B2.keep hb2 hl)
        have HB3 := Lib.hid (below_al (HB.out.trans (hb2.mono HB.out.size)) (Nat.le_trans HB.out.size hs2) (.cells (bkc s p (u.set k (x + m)) (.slice va n vc)).toArray 25))
        have C3 := Blk.new w2 (bkc s p (u.set k (x + m)) (.slice va n vc)).toArray 25
        rw [List.toList_toArray] at C3
        have B3' := B3.alloc (.cells (bkc s p (u.set k (x + m)) (.slice va n vc)).toArray 25)
        have hlB := B3'.lt
        have hlC := C3.lt
        have h8g := hset_u h8 k (x + m)
        have HO3 := Lib.hid (own_alloc ho2 (.cells (bkc s p (u.set k (x + m)) (.slice va n vc)).toArray 25))
        clear ho2
        have HS3 := Lib.hid (HS.out.keep HB3.out)
        clear B3 hb2
        go_wp2_with (first
          | ((with_reducible apply bk_store_new); (· rfl); (· first | rfl | simp); (· rfl); (· rfl); (· (first | assumption | (apply hset_u; assumption) | (apply hset_s; assumption) | (apply hset_p; assumption))); (simp only [Act.put, List.setIfInBounds_toArray, List.set_cons_zero, List.set_cons_succ]))
          | ((with_reducible apply bk_load); (· rfl); (· assumption); (· (first | assumption | (apply hset_u; assumption) | (apply hset_s; assumption) | (apply hset_p; assumption))); (simp only [Act.put, List.setIfInBounds_toArray, List.set_cons_zero, List.set_cons_succ])))
        generalize hg3 : w2.heap.size = g3 at *
        generalize w2.alloc (.cells (bkc s p (u.set k (x + m)) (.slice va n vc)).toArray 25) = W3 at *
        refine (pay_ok s p u a n c k xs m x W3 h8 HS3.out HO.out hn hk hm0 hm1 hx hfx hp).mono ?_
        rintro e w4 ⟨va2, vc2, rfl, ho4, hb4⟩
        have hs4 := hb4.size
        have HB4 := Lib.hid (below_al (HB3.out.trans (hb4.mono HB3.out.size)) (Nat.le_trans HB3.out.size hs4) (.cells (bkc s p (u.set k (x - m)) (.slice va2 n vc2)).toArray 25))
        have B4 := (B3'.keep hb4 hlB).alloc (.cells (bkc s p (u.set k (x - m)) (.slice va2 n vc2)).toArray 25)
        have C4 := (C3.keep hb4 hlC).alloc (.cells (bkc s p (u.set k (x - m)) (.slice va2 n vc2)).toArray 25)
        have D4 := Blk.new w4 (bkc s p (u.set k (x - m)) (.slice va2 n vc2)).toArray 25
        rw [List.toList_toArray] at D4
        have h8p := hset_u h8 k (x - m)
        have HO5 := Lib.hid (own_alloc ho4 (.cells (bkc s p (u.set k (x - m)) (.slice va2 n vc2)).toArray 25))
        clear ho4
        have HO4 := Lib.hid (own_alloc (own_keep HO3.out hb4) (.cells (bkc s p (u.set k (x - m)) (.slice va2 n vc2)).toArray 25))
        clear B3' C3 hb4 HB3 B2 HB
        go_wp2_with (first
          | ((with_reducible apply bk_store_new); (· rfl); (· first | rfl | simp); (· rfl); (· rfl); (· (first | assumption | (apply hset_u; assumption) | (apply hset_s; assumption) | (apply hset_p; assumption))); (simp only [Act.put, List.setIfInBounds_toArray, List.set_cons_zero, List.set_cons_succ]))
          | ((with_reducible apply bk_load); (· rfl); (· assumption); (· (first | assumption | (apply hset_u; assumption) | (apply hset_s; assumption) | (apply hset_p; assumption))); (simp only [Act.put, List.setIfInBounds_toArray, List.set_cons_zero, List.set_cons_succ])))
        generalize hg4 : w4.heap.size = g4 at *
        generalize w4.alloc (.cells (bkc s p (u.set k (x - m)) (.slice va2 n vc2)).toArray 25) = W4 at *
        have hk0 : (0 : Int) ≤ k := by omega
        have hk8 : (k : Int) < 8 := by omega
        have hbuy := Lib.hid (fun W => buyer_yes (k : Int) W hk0 hk8)
        have hlim : x ≤ 1099511627776 - m := by omega
        have B5 := B4.alloc (.cells (bkc s p u (.slice a n c)).toArray 25)
        have C5 := C4.alloc (.cells (bkc s p u (.slice a n c)).toArray 25)
        have D5 := D4.alloc (.cells (bkc s p u (.slice a n c)).toArray 25)
        have E5 := Blk.new W4 (bkc s p u (.slice a n c)).toArray 25
        rw [List.toList_toArray] at E5
        have hsz4 := HB4.out.size
        have HB5 := Lib.hid (below_al HB4.out hsz4 (.cells (bkc s p u (.slice a n c)).toArray 25))
        have hlB4 := B4.lt
        have hlC4 := C4.lt
        have hlD4 := D4.lt
        go_upto_region 10 with (first
          | (go_at_call 21; refine (hbuy.out _).mono ?_; rintro e w' ⟨rfl, rfl⟩)
          | ((with_reducible apply bk_store_new); (· rfl); (· first | rfl | simp); (· rfl); (· rfl); (· (first | assumption | (apply hset_u; assumption) | (apply hset_s; assumption) | (apply hset_p; assumption))); (simp only [Act.put, List.setIfInBounds_toArray, List.set_cons_zero, List.set_cons_succ]))
          | ((with_reducible apply bk_load); (· rfl); (· assumption); (· (first | assumption | (apply hset_u; assumption) | (apply hset_s; assumption) | (apply hset_p; assumption))); (simp only [Act.put, List.setIfInBounds_toArray, List.set_cons_zero, List.set_cons_succ]))
          | ((with_reducible apply bk_load_g); (· rfl); (· rfl); (· assumption); (· (first | assumption | (apply hset_u; assumption) | (apply hset_s; assumption) | (apply hset_p; assumption))); (simp only [Act.put, List.setIfInBounds_toArray, List.set_cons_zero, List.set_cons_succ])))
        have HV5 := Lib.hid ((Below.refl W4.heap.size W4).alloc (Nat.le_refl _) (.cells (bkc s p u (.slice a n c)).toArray 25))
        have slx4 := Lib.hid (sl_of_own HO4.out)
        have sly4 := Lib.hid (sl_of_own HO5.out)
        have hne5 : w.heap.size ≠ W4.heap.size := by omega
        have hne45 : g4 ≠ W4.heap.size := by omega
        clear B4 C4 D4
        generalize hg5e : W4.heap.size = g5 at *
        generalize W4.alloc (.cells (bkc s p u (.slice a n c)).toArray 25) = W5 at *
        have cu5 := (B5.cell (16 + k)).trans (bkc_u h8.out _ hk)
        rw [hx] at cu5
        have cw5 := (E5.cell (16 + k)).trans (bkc_u h8.out _ hk)
        rw [hx] at cw5
        have fw5 := E5.froz (16 + k)
        have E6a := E5.set (16 + k) (.int .i64 (x + m))
        rw [bkc_set_u h8.out _ hk] at E6a
        have B6a := B5.set_other (g' := g5) (by omega) (16 + k) (.int .i64 (x + m))
        have C6a := C5.set_other (g' := g5) (by omega) (16 + k) (.int .i64 (x + m))
        have D6a := D5.set_other (g' := g5) (by omega) (16 + k) (.int .i64 (x + m))
        have HB6a := Lib.hid (below_set HB5.out (by omega : w.heap.size ≤ g5) (16 + k) (.int .i64 (x + m)))
        have hfxm : fits (x + m) = true := by rw [fits_iff] at *; omega
        have o8x := ok8_set h8.out.u8 HF.out k (x + m) hfxm
        go_wp2_with (first
          | ((with_reducible apply bk_load); (· rfl); (· assumption); (· (first | assumption | (apply hset_u; assumption) | (apply hset_s; assumption) | (apply hset_p; assumption))); (simp only [Act.put, List.setIfInBounds_toArray, List.set_cons_zero, List.set_cons_succ]))
          | ((with_reducible apply bk_load_g); (· rfl); (· rfl); (· assumption); (· (first | assumption | (apply hset_u; assumption) | (apply hset_s; assumption) | (apply hset_p; assumption))); (simp only [Act.put, List.setIfInBounds_toArray, List.set_cons_zero, List.set_cons_succ])))
        have HV6a := Lib.hid (below_set HV5.out (Nat.le_refl g5) (16 + k) (.int .i64 (x + m)))
        refine (pbook_true s p (u.set k (x + m)) va a n vc c xs _ h8g o8s o8p o8x (Lib.hid (slx4.out.keep (by rw [hg5e]; exact HV6a.out))) (Lib.hid (HS.out.keep HB6a.out)) hok hn).mono ?_
        rintro e W6 ⟨rfl, hb6⟩
        have B6 := B6a.keep hb6 B6a.lt
        have D6 := D6a.keep hb6 D6a.lt
        have E6 := E6a.keep hb6 E6a.lt
        have HB6 := Lib.hid (HB6a.out.trans (hb6.mono HB6a.out.size))
        have HV6 := Lib.hid (HV6a.out.trans (hb6.mono (Nat.le_of_lt E6a.lt)))
        have hEl : (bkc s p (u.set k (x + m)) (.slice a n c)).length = 25 := bkc_len h8g.out _
        have hg5 : w.heap.size ≤ g5 := by omega
        clear B5 C5 D5 E5 HB5 hb6 cu5 cw5 fw5 B6a C6a D6a E6a HB6a HV5 HV6a
        have cu := (B6.cell (16 + k)).trans (bkc_u h8.out _ hk)
        rw [hx] at cu
        have E7 := E6.setAll (bkc s p u (.slice a n c)) ((bkc_len h8.out _).trans hEl.symm)
        have B7 := B6.set_below (vs := (bkc s p u (.slice a n c))) hne5 0
        have D7 := D6.set_below (vs := (bkc s p u (.slice a n c))) hne45 0
        have cu7 := (B7.cell (16 + k)).trans (bkc_u h8.out _ hk)
        rw [hx] at cu7
        have cw7 := (E7.cell (16 + k)).trans (bkc_u h8.out _ hk)
        rw [hx] at cw7
        have fw7 := E7.froz (16 + k)
        have E8 := E7.set (16 + k) (.int .i64 (x - m))
        rw [bkc_set_u h8.out _ hk] at E8
        have D8 := D7.set_other hne45 (16 + k) (.int .i64 (x - m))
        have HB8 := Lib.hid (below_set (below_sets hg5 (bkc s p u (.slice a n c)) 0 _ HB6.out) hg5 (16 + k) (.int .i64 (x - m)))
        have hB8 := Lib.hid (HS.out.keep HB8.out)
        have HV8 := Lib.hid (below_set (below_sets (Nat.le_refl g5) (bkc s p u (.slice a n c)) 0 _ HV6.out) (Nat.le_refl g5) (16 + k) (.int .i64 (x - m)))
        have hA8 := Lib.hid (sly4.out.keep (by rw [hg5e]; exact HV8.out))
        have hsub : IntKind.i64.wrap (x - m) = x - m := IntWalk.i64_in _ (by rw [fits_iff] at hfx; omega)
        have o8y := ok8_set h8.out.u8 HF.out k (x - m) (by rw [fits_iff] at *; omega)
        clear E7 B7 D7
        go_wp2_with (first
          | ((with_reducible apply bk_store); (· rfl); (· rfl); (· assumption); (· exact hEl); (· (first | assumption | (apply hset_u; assumption) | (apply hset_s; assumption) | (apply hset_p; assumption))); (simp only [Act.put, List.setIfInBounds_toArray, List.set_cons_zero, List.set_cons_succ]))
          | ((with_reducible apply bk_load); (· rfl); (· assumption); (· (first | assumption | (apply hset_u; assumption) | (apply hset_s; assumption) | (apply hset_p; assumption))); (simp only [Act.put, List.setIfInBounds_toArray, List.set_cons_zero, List.set_cons_succ]))
          | ((with_reducible apply bk_load_g); (· rfl); (· rfl); (· assumption); (· (first | assumption | (apply hset_u; assumption) | (apply hset_s; assumption) | (apply hset_p; assumption))); (simp only [Act.put, List.setIfInBounds_toArray, List.set_cons_zero, List.set_cons_succ])))
        refine (pbook_true s p (u.set k (x - m)) va2 a n vc2 c xs _ h8p o8s o8p o8y hA8 hB8 hok hn).mono ?_
        rintro e w9 ⟨rfl, hb9⟩
        have HB9 := Lib.hid (HB8.out.trans (hb9.mono HB8.out.size))
        clear hb9
        go_wp2_with fail
        go_ret
        exact ⟨rfl, HB9.out⟩
      · have hp : x < m := by omega
        refine (give_ok s p u a n c k xs m x w1 h8 (HS.out.keep HB.out) HO.out hn hk hm0 hm1 hx hfx ho).mono ?_
        rintro e w2 ⟨va, vc, rfl, ho2, hb2⟩
        have hs2 := hb2.size
        have B3 := (B2.keep hb2 hl)
        have HB3 := Lib.hid (below_al (HB.out.trans (hb2.mono HB.out.size)) (Nat.le_trans HB.out.size hs2) (.cells (bkc s p (u.set k (x + m)) (.slice va n vc)).toArray 25))
        have C3 := Blk.new w2 (bkc s p (u.set k (x + m)) (.slice va n vc)).toArray 25
        rw [List.toList_toArray] at C3
        have B3' := B3.alloc (.cells (bkc s p (u.set k (x + m)) (.slice va n vc)).toArray 25)
        have hlB := B3'.lt
        have hlC := C3.lt
        have h8g := hset_u h8 k (x + m)
        have HO3 := Lib.hid (own_alloc ho2 (.cells (bkc s p (u.set k (x + m)) (.slice va n vc)).toArray 25))
        clear ho2
        have HS3 := Lib.hid (HS.out.keep HB3.out)
        clear B3 hb2
        go_wp2_with (first
          | ((with_reducible apply bk_store_new); (· rfl); (· first | rfl | simp); (· rfl); (· rfl); (· (first | assumption | (apply hset_u; assumption) | (apply hset_s; assumption) | (apply hset_p; assumption))); (simp only [Act.put, List.setIfInBounds_toArray, List.set_cons_zero, List.set_cons_succ]))
          | ((with_reducible apply bk_load); (· rfl); (· assumption); (· (first | assumption | (apply hset_u; assumption) | (apply hset_s; assumption) | (apply hset_p; assumption))); (simp only [Act.put, List.setIfInBounds_toArray, List.set_cons_zero, List.set_cons_succ])))
        generalize hg3 : w2.heap.size = g3 at *
        generalize w2.alloc (.cells (bkc s p (u.set k (x + m)) (.slice va n vc)).toArray 25) = W3 at *
        refine (pay_short s p u a n c k m x W3 h8 hk hm0 hm1 hx hp).mono ?_
        rintro e w4 ⟨rfl, hb4⟩
        have hs4 := hb4.size
        have HB4 := Lib.hid (below_al (HB3.out.trans (hb4.mono HB3.out.size)) (Nat.le_trans HB3.out.size hs4) (.cells (bkc zero8 zero8 zero8 (.slice none 0 0)).toArray 25))
        have B4 := (B3'.keep hb4 hlB).alloc (.cells (bkc zero8 zero8 zero8 (.slice none 0 0)).toArray 25)
        have C4 := (C3.keep hb4 hlC).alloc (.cells (bkc zero8 zero8 zero8 (.slice none 0 0)).toArray 25)
        have D4 := Blk.new w4 (bkc zero8 zero8 zero8 (.slice none 0 0)).toArray 25
        rw [List.toList_toArray] at D4
        have h8p := Lib.hid L8.zero
        have HO4 := Lib.hid (own_alloc (own_keep HO3.out hb4) (.cells (bkc zero8 zero8 zero8 (.slice none 0 0)).toArray 25))
        clear B3' C3 hb4 HB3 B2 HB
        go_wp2_with (first
          | ((with_reducible apply bk_store_new); (· rfl); (· first | rfl | simp); (· rfl); (· rfl); (· (first | assumption | (apply hset_u; assumption) | (apply hset_s; assumption) | (apply hset_p; assumption))); (simp only [Act.put, List.setIfInBounds_toArray, List.set_cons_zero, List.set_cons_succ]))
          | ((with_reducible apply bk_load); (· rfl); (· assumption); (· (first | assumption | (apply hset_u; assumption) | (apply hset_s; assumption) | (apply hset_p; assumption))); (simp only [Act.put, List.setIfInBounds_toArray, List.set_cons_zero, List.set_cons_succ])))
        generalize hg4 : w4.heap.size = g4 at *
        generalize w4.alloc (.cells (bkc zero8 zero8 zero8 (.slice none 0 0)).toArray 25) = W4 at *
        have hk0 : (0 : Int) ≤ k := by omega
        have hk8 : (k : Int) < 8 := by omega
        have hbuy := Lib.hid (fun W => buyer_yes (k : Int) W hk0 hk8)
        have hlim : x ≤ 1099511627776 - m := by omega
        have B5 := B4.alloc (.cells (bkc s p u (.slice a n c)).toArray 25)
        have C5 := C4.alloc (.cells (bkc s p u (.slice a n c)).toArray 25)
        have D5 := D4.alloc (.cells (bkc s p u (.slice a n c)).toArray 25)
        have E5 := Blk.new W4 (bkc s p u (.slice a n c)).toArray 25
        rw [List.toList_toArray] at E5
        have hsz4 := HB4.out.size
        have HB5 := Lib.hid (below_al HB4.out hsz4 (.cells (bkc s p u (.slice a n c)).toArray 25))
        have hlB4 := B4.lt
        have hlC4 := C4.lt
        have hlD4 := D4.lt
        go_upto_region 10 with (first
          | (go_at_call 21; refine (hbuy.out _).mono ?_; rintro e w' ⟨rfl, rfl⟩)
          | ((with_reducible apply bk_store_new); (· rfl); (· first | rfl | simp); (· rfl); (· rfl); (· (first | assumption | (apply hset_u; assumption) | (apply hset_s; assumption) | (apply hset_p; assumption))); (simp only [Act.put, List.setIfInBounds_toArray, List.set_cons_zero, List.set_cons_succ]))
          | ((with_reducible apply bk_load); (· rfl); (· assumption); (· (first | assumption | (apply hset_u; assumption) | (apply hset_s; assumption) | (apply hset_p; assumption))); (simp only [Act.put, List.setIfInBounds_toArray, List.set_cons_zero, List.set_cons_succ]))
          | ((with_reducible apply bk_load_g); (· rfl); (· rfl); (· assumption); (· (first | assumption | (apply hset_u; assumption) | (apply hset_s; assumption) | (apply hset_p; assumption))); (simp only [Act.put, List.setIfInBounds_toArray, List.set_cons_zero, List.set_cons_succ])))
        have HV5 := Lib.hid ((Below.refl W4.heap.size W4).alloc (Nat.le_refl _) (.cells (bkc s p u (.slice a n c)).toArray 25))
        have slx4 := Lib.hid (sl_of_own HO4.out)
        have hne5 : w.heap.size ≠ W4.heap.size := by omega
        have hne45 : g4 ≠ W4.heap.size := by omega
        clear B4 C4 D4
        generalize hg5e : W4.heap.size = g5 at *
        generalize W4.alloc (.cells (bkc s p u (.slice a n c)).toArray 25) = W5 at *
        have cu5 := (B5.cell (16 + k)).trans (bkc_u h8.out _ hk)
        rw [hx] at cu5
        have cw5 := (E5.cell (16 + k)).trans (bkc_u h8.out _ hk)
        rw [hx] at cw5
        have fw5 := E5.froz (16 + k)
        have E6a := E5.set (16 + k) (.int .i64 (x + m))
        rw [bkc_set_u h8.out _ hk] at E6a
        have B6a := B5.set_other (g' := g5) (by omega) (16 + k) (.int .i64 (x + m))
        have C6a := C5.set_other (g' := g5) (by omega) (16 + k) (.int .i64 (x + m))
        have D6a := D5.set_other (g' := g5) (by omega) (16 + k) (.int .i64 (x + m))
        have HB6a := Lib.hid (below_set HB5.out (by omega : w.heap.size ≤ g5) (16 + k) (.int .i64 (x + m)))
        have hfxm : fits (x + m) = true := by rw [fits_iff] at *; omega
        have o8x := ok8_set h8.out.u8 HF.out k (x + m) hfxm
        go_wp2_with (first
          | ((with_reducible apply bk_load); (· rfl); (· assumption); (· (first | assumption | (apply hset_u; assumption) | (apply hset_s; assumption) | (apply hset_p; assumption))); (simp only [Act.put, List.setIfInBounds_toArray, List.set_cons_zero, List.set_cons_succ]))
          | ((with_reducible apply bk_load_g); (· rfl); (· rfl); (· assumption); (· (first | assumption | (apply hset_u; assumption) | (apply hset_s; assumption) | (apply hset_p; assumption))); (simp only [Act.put, List.setIfInBounds_toArray, List.set_cons_zero, List.set_cons_succ])))
        have HV6a := Lib.hid (below_set HV5.out (Nat.le_refl g5) (16 + k) (.int .i64 (x + m)))
        refine (pbook_true s p (u.set k (x + m)) va a n vc c xs _ h8g o8s o8p o8x (Lib.hid (slx4.out.keep (by rw [hg5e]; exact HV6a.out))) (Lib.hid (HS.out.keep HB6a.out)) hok hn).mono ?_
        rintro e W6 ⟨rfl, hb6⟩
        have B6 := B6a.keep hb6 B6a.lt
        have D6 := D6a.keep hb6 D6a.lt
        have E6 := E6a.keep hb6 E6a.lt
        have HB6 := Lib.hid (HB6a.out.trans (hb6.mono HB6a.out.size))
        have HV6 := Lib.hid (HV6a.out.trans (hb6.mono (Nat.le_of_lt E6a.lt)))
        have hEl : (bkc s p (u.set k (x + m)) (.slice a n c)).length = 25 := bkc_len h8g.out _
        have hg5 : w.heap.size ≤ g5 := by omega
        clear B5 C5 D5 E5 HB5 hb6 cu5 cw5 fw5 B6a C6a D6a E6a HB6a HV5 HV6a
        have cu := (B6.cell (16 + k)).trans (bkc_u h8.out _ hk)
        rw [hx] at cu
        go_wp2_with (first
          | ((with_reducible apply bk_load); (· rfl); (· assumption); (· (first | assumption | (apply hset_u; assumption) | (apply hset_s; assumption) | (apply hset_p; assumption))); (simp only [Act.put, List.setIfInBounds_toArray, List.set_cons_zero, List.set_cons_succ]))
          | ((with_reducible apply bk_load_g); (· rfl); (· rfl); (· assumption); (· (first | assumption | (apply hset_u; assumption) | (apply hset_s; assumption) | (apply hset_p; assumption))); (simp only [Act.put, List.setIfInBounds_toArray, List.set_cons_zero, List.set_cons_succ])))
        refine (pbook_zero _).mono ?_
        rintro e w8 ⟨rfl, hb8⟩
        have HB8 := Lib.hid (HB6.out.trans (hb8.mono HB6.out.size))
        clear hb8
        go_wp2_with fail
        go_ret
        exact ⟨rfl, HB8.out⟩
    · have ho : 1099511627776 < x + m := by omega
      by_cases hp : m ≤ x
      · refine (give_over s p u a n c k m x w1 h8 hk hm0 hm1 hx hfx ho).mono ?_
        rintro e w2 ⟨rfl, hb2⟩
        have hs2 := hb2.size
        have B3 := (B2.keep hb2 hl)
        have HB3 := Lib.hid (below_al (HB.out.trans (hb2.mono HB.out.size)) (Nat.le_trans HB.out.size hs2) (.cells (bkc zero8 zero8 zero8 (.slice none 0 0)).toArray 25))
        have C3 := Blk.new w2 (bkc zero8 zero8 zero8 (.slice none 0 0)).toArray 25
        rw [List.toList_toArray] at C3
        have B3' := B3.alloc (.cells (bkc zero8 zero8 zero8 (.slice none 0 0)).toArray 25)
        have hlB := B3'.lt
        have hlC := C3.lt
        have h8g := Lib.hid L8.zero
        have HS3 := Lib.hid (HS.out.keep HB3.out)
        clear B3 hb2
        go_wp2_with (first
          | ((with_reducible apply bk_store_new); (· rfl); (· first | rfl | simp); (· rfl); (· rfl); (· (first | assumption | (apply hset_u; assumption) | (apply hset_s; assumption) | (apply hset_p; assumption))); (simp only [Act.put, List.setIfInBounds_toArray, List.set_cons_zero, List.set_cons_succ]))
          | ((with_reducible apply bk_load); (· rfl); (· assumption); (· (first | assumption | (apply hset_u; assumption) | (apply hset_s; assumption) | (apply hset_p; assumption))); (simp only [Act.put, List.setIfInBounds_toArray, List.set_cons_zero, List.set_cons_succ])))
        generalize hg3 : w2.heap.size = g3 at *
        generalize w2.alloc (.cells (bkc zero8 zero8 zero8 (.slice none 0 0)).toArray 25) = W3 at *
        refine (pay_ok s p u a n c k xs m x W3 h8 HS3.out HO.out hn hk hm0 hm1 hx hfx hp).mono ?_
        rintro e w4 ⟨va2, vc2, rfl, ho4, hb4⟩
        have hs4 := hb4.size
        have HB4 := Lib.hid (below_al (HB3.out.trans (hb4.mono HB3.out.size)) (Nat.le_trans HB3.out.size hs4) (.cells (bkc s p (u.set k (x - m)) (.slice va2 n vc2)).toArray 25))
        have B4 := (B3'.keep hb4 hlB).alloc (.cells (bkc s p (u.set k (x - m)) (.slice va2 n vc2)).toArray 25)
        have C4 := (C3.keep hb4 hlC).alloc (.cells (bkc s p (u.set k (x - m)) (.slice va2 n vc2)).toArray 25)
        have D4 := Blk.new w4 (bkc s p (u.set k (x - m)) (.slice va2 n vc2)).toArray 25
        rw [List.toList_toArray] at D4
        have h8p := hset_u h8 k (x - m)
        have HO5 := Lib.hid (own_alloc ho4 (.cells (bkc s p (u.set k (x - m)) (.slice va2 n vc2)).toArray 25))
        clear ho4
        clear B3' C3 hb4 HB3 B2 HB
        go_wp2_with (first
          | ((with_reducible apply bk_store_new); (· rfl); (· first | rfl | simp); (· rfl); (· rfl); (· (first | assumption | (apply hset_u; assumption) | (apply hset_s; assumption) | (apply hset_p; assumption))); (simp only [Act.put, List.setIfInBounds_toArray, List.set_cons_zero, List.set_cons_succ]))
          | ((with_reducible apply bk_load); (· rfl); (· assumption); (· (first | assumption | (apply hset_u; assumption) | (apply hset_s; assumption) | (apply hset_p; assumption))); (simp only [Act.put, List.setIfInBounds_toArray, List.set_cons_zero, List.set_cons_succ])))
        generalize hg4 : w4.heap.size = g4 at *
        generalize w4.alloc (.cells (bkc s p (u.set k (x - m)) (.slice va2 n vc2)).toArray 25) = W4 at *
        have hk0 : (0 : Int) ≤ k := by omega
        have hk8 : (k : Int) < 8 := by omega
        have hbuy := Lib.hid (fun W => buyer_yes (k : Int) W hk0 hk8)
        have hlim : 1099511627776 - m < x := by omega
        have B5 := B4.alloc (.cells (bkc s p u (.slice a n c)).toArray 25)
        have C5 := C4.alloc (.cells (bkc s p u (.slice a n c)).toArray 25)
        have D5 := D4.alloc (.cells (bkc s p u (.slice a n c)).toArray 25)
        have E5 := Blk.new W4 (bkc s p u (.slice a n c)).toArray 25
        rw [List.toList_toArray] at E5
        have hsz4 := HB4.out.size
        have HB5 := Lib.hid (below_al HB4.out hsz4 (.cells (bkc s p u (.slice a n c)).toArray 25))
        have hlB4 := B4.lt
        have hlC4 := C4.lt
        have hlD4 := D4.lt
        go_upto_region 10 with (first
          | (go_at_call 21; refine (hbuy.out _).mono ?_; rintro e w' ⟨rfl, rfl⟩)
          | ((with_reducible apply bk_store_new); (· rfl); (· first | rfl | simp); (· rfl); (· rfl); (· (first | assumption | (apply hset_u; assumption) | (apply hset_s; assumption) | (apply hset_p; assumption))); (simp only [Act.put, List.setIfInBounds_toArray, List.set_cons_zero, List.set_cons_succ]))
          | ((with_reducible apply bk_load); (· rfl); (· assumption); (· (first | assumption | (apply hset_u; assumption) | (apply hset_s; assumption) | (apply hset_p; assumption))); (simp only [Act.put, List.setIfInBounds_toArray, List.set_cons_zero, List.set_cons_succ]))
          | ((with_reducible apply bk_load_g); (· rfl); (· rfl); (· assumption); (· (first | assumption | (apply hset_u; assumption) | (apply hset_s; assumption) | (apply hset_p; assumption))); (simp only [Act.put, List.setIfInBounds_toArray, List.set_cons_zero, List.set_cons_succ])))
        have HV5 := Lib.hid ((Below.refl W4.heap.size W4).alloc (Nat.le_refl _) (.cells (bkc s p u (.slice a n c)).toArray 25))
        have sly4 := Lib.hid (sl_of_own HO5.out)
        have hne5 : w.heap.size ≠ W4.heap.size := by omega
        have hne45 : g4 ≠ W4.heap.size := by omega
        clear B4 C4 D4
        generalize hg5e : W4.heap.size = g5 at *
        generalize W4.alloc (.cells (bkc s p u (.slice a n c)).toArray 25) = W5 at *
        have cu5 := (B5.cell (16 + k)).trans (bkc_u h8.out _ hk)
        rw [hx] at cu5
        have cw5 := (E5.cell (16 + k)).trans (bkc_u h8.out _ hk)
        rw [hx] at cw5
        have fw5 := E5.froz (16 + k)
        go_wp2_with (first
          | ((with_reducible apply bk_load); (· rfl); (· assumption); (· (first | assumption | (apply hset_u; assumption) | (apply hset_s; assumption) | (apply hset_p; assumption))); (simp only [Act.put, List.setIfInBounds_toArray, List.set_cons_zero, List.set_cons_succ]))
          | ((with_reducible apply bk_load_g); (· rfl); (· rfl); (· assumption); (· (first | assumption | (apply hset_u; assumption) | (apply hset_s; assumption) | (apply hset_p; assumption))); (simp only [Act.put, List.setIfInBounds_toArray, List.set_cons_zero, List.set_cons_succ])))
        refine (pbook_zero _).mono ?_
        rintro e W6 ⟨rfl, hb6⟩
        have E6 := E5.keep hb6 E5.lt
        have hEl : (bkc s p u (.slice a n c)).length = 25 := bkc_len h8.out _
        have B6 := B5.keep hb6 B5.lt
        have D6 := D5.keep hb6 D5.lt
        have HB6 := Lib.hid (HB5.out.trans (hb6.mono HB5.out.size))
        have HV6 := Lib.hid (HV5.out.trans (hb6.mono (Nat.le_of_lt E5.lt)))
        have hg5 : w.heap.size ≤ g5 := by omega
        clear B5 C5 D5 E5 HB5 hb6 cu5 cw5 fw5
        have cu := (B6.cell (16 + k)).trans (bkc_u h8.out _ hk)
        rw [hx] at cu
        have E7 := E6.setAll (bkc s p u (.slice a n c)) ((bkc_len h8.out _).trans hEl.symm)
        have B7 := B6.set_below (vs := (bkc s p u (.slice a n c))) hne5 0
        have D7 := D6.set_below (vs := (bkc s p u (.slice a n c))) hne45 0
        have cu7 := (B7.cell (16 + k)).trans (bkc_u h8.out _ hk)
        rw [hx] at cu7
        have cw7 := (E7.cell (16 + k)).trans (bkc_u h8.out _ hk)
        rw [hx] at cw7
        have fw7 := E7.froz (16 + k)
        have E8 := E7.set (16 + k) (.int .i64 (x - m))
        rw [bkc_set_u h8.out _ hk] at E8
        have D8 := D7.set_other hne45 (16 + k) (.int .i64 (x - m))
        have HB8 := Lib.hid (below_set (below_sets hg5 (bkc s p u (.slice a n c)) 0 _ HB6.out) hg5 (16 + k) (.int .i64 (x - m)))
        have hB8 := Lib.hid (HS.out.keep HB8.out)
        have HV8 := Lib.hid (below_set (below_sets (Nat.le_refl g5) (bkc s p u (.slice a n c)) 0 _ HV6.out) (Nat.le_refl g5) (16 + k) (.int .i64 (x - m)))
        have hA8 := Lib.hid (sly4.out.keep (by rw [hg5e]; exact HV8.out))
        have hsub : IntKind.i64.wrap (x - m) = x - m := IntWalk.i64_in _ (by rw [fits_iff] at hfx; omega)
        have o8y := ok8_set h8.out.u8 HF.out k (x - m) (by rw [fits_iff] at *; omega)
        clear E7 B7 D7
        go_wp2_with (first
          | ((with_reducible apply bk_store); (· rfl); (· rfl); (· assumption); (· exact hEl); (· (first | assumption | (apply hset_u; assumption) | (apply hset_s; assumption) | (apply hset_p; assumption))); (simp only [Act.put, List.setIfInBounds_toArray, List.set_cons_zero, List.set_cons_succ]))
          | ((with_reducible apply bk_load); (· rfl); (· assumption); (· (first | assumption | (apply hset_u; assumption) | (apply hset_s; assumption) | (apply hset_p; assumption))); (simp only [Act.put, List.setIfInBounds_toArray, List.set_cons_zero, List.set_cons_succ]))
          | ((with_reducible apply bk_load_g); (· rfl); (· rfl); (· assumption); (· (first | assumption | (apply hset_u; assumption) | (apply hset_s; assumption) | (apply hset_p; assumption))); (simp only [Act.put, List.setIfInBounds_toArray, List.set_cons_zero, List.set_cons_succ])))
        refine (pbook_true s p (u.set k (x - m)) va2 a n vc2 c xs _ h8p o8s o8p o8y hA8 hB8 hok hn).mono ?_
        rintro e w9 ⟨rfl, hb9⟩
        have HB9 := Lib.hid (HB8.out.trans (hb9.mono HB8.out.size))
        clear hb9
        go_wp2_with fail
        go_ret
        exact ⟨rfl, HB9.out⟩
      · have hp : x < m := by omega
        refine (give_over s p u a n c k m x w1 h8 hk hm0 hm1 hx hfx ho).mono ?_
        rintro e w2 ⟨rfl, hb2⟩
        have hs2 := hb2.size
        have B3 := (B2.keep hb2 hl)
        have HB3 := Lib.hid (below_al (HB.out.trans (hb2.mono HB.out.size)) (Nat.le_trans HB.out.size hs2) (.cells (bkc zero8 zero8 zero8 (.slice none 0 0)).toArray 25))
        have C3 := Blk.new w2 (bkc zero8 zero8 zero8 (.slice none 0 0)).toArray 25
        rw [List.toList_toArray] at C3
        have B3' := B3.alloc (.cells (bkc zero8 zero8 zero8 (.slice none 0 0)).toArray 25)
        have hlB := B3'.lt
        have hlC := C3.lt
        have h8g := Lib.hid L8.zero
        have HS3 := Lib.hid (HS.out.keep HB3.out)
        clear B3 hb2
        go_wp2_with (first
          | ((with_reducible apply bk_store_new); (· rfl); (· first | rfl | simp); (· rfl); (· rfl); (· (first | assumption | (apply hset_u; assumption) | (apply hset_s; assumption) | (apply hset_p; assumption))); (simp only [Act.put, List.setIfInBounds_toArray, List.set_cons_zero, List.set_cons_succ]))
          | ((with_reducible apply bk_load); (· rfl); (· assumption); (· (first | assumption | (apply hset_u; assumption) | (apply hset_s; assumption) | (apply hset_p; assumption))); (simp only [Act.put, List.setIfInBounds_toArray, List.set_cons_zero, List.set_cons_succ])))
        generalize hg3 : w2.heap.size = g3 at *
        generalize w2.alloc (.cells (bkc zero8 zero8 zero8 (.slice none 0 0)).toArray 25) = W3 at *
        refine (pay_short s p u a n c k m x W3 h8 hk hm0 hm1 hx hp).mono ?_
        rintro e w4 ⟨rfl, hb4⟩
        have hs4 := hb4.size
        have HB4 := Lib.hid (below_al (HB3.out.trans (hb4.mono HB3.out.size)) (Nat.le_trans HB3.out.size hs4) (.cells (bkc zero8 zero8 zero8 (.slice none 0 0)).toArray 25))
        have B4 := (B3'.keep hb4 hlB).alloc (.cells (bkc zero8 zero8 zero8 (.slice none 0 0)).toArray 25)
        have C4 := (C3.keep hb4 hlC).alloc (.cells (bkc zero8 zero8 zero8 (.slice none 0 0)).toArray 25)
        have D4 := Blk.new w4 (bkc zero8 zero8 zero8 (.slice none 0 0)).toArray 25
        rw [List.toList_toArray] at D4
        have h8p := Lib.hid L8.zero
        clear B3' C3 hb4 HB3 B2 HB
        go_wp2_with (first
          | ((with_reducible apply bk_store_new); (· rfl); (· first | rfl | simp); (· rfl); (· rfl); (· (first | assumption | (apply hset_u; assumption) | (apply hset_s; assumption) | (apply hset_p; assumption))); (simp only [Act.put, List.setIfInBounds_toArray, List.set_cons_zero, List.set_cons_succ]))
          | ((with_reducible apply bk_load); (· rfl); (· assumption); (· (first | assumption | (apply hset_u; assumption) | (apply hset_s; assumption) | (apply hset_p; assumption))); (simp only [Act.put, List.setIfInBounds_toArray, List.set_cons_zero, List.set_cons_succ])))
        generalize hg4 : w4.heap.size = g4 at *
        generalize w4.alloc (.cells (bkc zero8 zero8 zero8 (.slice none 0 0)).toArray 25) = W4 at *
        have hk0 : (0 : Int) ≤ k := by omega
        have hk8 : (k : Int) < 8 := by omega
        have hbuy := Lib.hid (fun W => buyer_yes (k : Int) W hk0 hk8)
        have hlim : 1099511627776 - m < x := by omega
        have B5 := B4.alloc (.cells (bkc s p u (.slice a n c)).toArray 25)
        have C5 := C4.alloc (.cells (bkc s p u (.slice a n c)).toArray 25)
        have D5 := D4.alloc (.cells (bkc s p u (.slice a n c)).toArray 25)
        have E5 := Blk.new W4 (bkc s p u (.slice a n c)).toArray 25
        rw [List.toList_toArray] at E5
        have hsz4 := HB4.out.size
        have HB5 := Lib.hid (below_al HB4.out hsz4 (.cells (bkc s p u (.slice a n c)).toArray 25))
        have hlB4 := B4.lt
        have hlC4 := C4.lt
        have hlD4 := D4.lt
        go_upto_region 10 with (first
          | (go_at_call 21; refine (hbuy.out _).mono ?_; rintro e w' ⟨rfl, rfl⟩)
          | ((with_reducible apply bk_store_new); (· rfl); (· first | rfl | simp); (· rfl); (· rfl); (· (first | assumption | (apply hset_u; assumption) | (apply hset_s; assumption) | (apply hset_p; assumption))); (simp only [Act.put, List.setIfInBounds_toArray, List.set_cons_zero, List.set_cons_succ]))
          | ((with_reducible apply bk_load); (· rfl); (· assumption); (· (first | assumption | (apply hset_u; assumption) | (apply hset_s; assumption) | (apply hset_p; assumption))); (simp only [Act.put, List.setIfInBounds_toArray, List.set_cons_zero, List.set_cons_succ]))
          | ((with_reducible apply bk_load_g); (· rfl); (· rfl); (· assumption); (· (first | assumption | (apply hset_u; assumption) | (apply hset_s; assumption) | (apply hset_p; assumption))); (simp only [Act.put, List.setIfInBounds_toArray, List.set_cons_zero, List.set_cons_succ])))
        have HV5 := Lib.hid ((Below.refl W4.heap.size W4).alloc (Nat.le_refl _) (.cells (bkc s p u (.slice a n c)).toArray 25))
        have hne5 : w.heap.size ≠ W4.heap.size := by omega
        have hne45 : g4 ≠ W4.heap.size := by omega
        clear B4 C4 D4
        generalize hg5e : W4.heap.size = g5 at *
        generalize W4.alloc (.cells (bkc s p u (.slice a n c)).toArray 25) = W5 at *
        have cu5 := (B5.cell (16 + k)).trans (bkc_u h8.out _ hk)
        rw [hx] at cu5
        have cw5 := (E5.cell (16 + k)).trans (bkc_u h8.out _ hk)
        rw [hx] at cw5
        have fw5 := E5.froz (16 + k)
        go_wp2_with (first
          | ((with_reducible apply bk_load); (· rfl); (· assumption); (· (first | assumption | (apply hset_u; assumption) | (apply hset_s; assumption) | (apply hset_p; assumption))); (simp only [Act.put, List.setIfInBounds_toArray, List.set_cons_zero, List.set_cons_succ]))
          | ((with_reducible apply bk_load_g); (· rfl); (· rfl); (· assumption); (· (first | assumption | (apply hset_u; assumption) | (apply hset_s; assumption) | (apply hset_p; assumption))); (simp only [Act.put, List.setIfInBounds_toArray, List.set_cons_zero, List.set_cons_succ])))
        refine (pbook_zero _).mono ?_
        rintro e W6 ⟨rfl, hb6⟩
        have E6 := E5.keep hb6 E5.lt
        have hEl : (bkc s p u (.slice a n c)).length = 25 := bkc_len h8.out _
        have B6 := B5.keep hb6 B5.lt
        have D6 := D5.keep hb6 D5.lt
        have HB6 := Lib.hid (HB5.out.trans (hb6.mono HB5.out.size))
        have HV6 := Lib.hid (HV5.out.trans (hb6.mono (Nat.le_of_lt E5.lt)))
        have hg5 : w.heap.size ≤ g5 := by omega
        clear B5 C5 D5 E5 HB5 hb6 cu5 cw5 fw5
        have cu := (B6.cell (16 + k)).trans (bkc_u h8.out _ hk)
        rw [hx] at cu
        go_wp2_with (first
          | ((with_reducible apply bk_load); (· rfl); (· assumption); (· (first | assumption | (apply hset_u; assumption) | (apply hset_s; assumption) | (apply hset_p; assumption))); (simp only [Act.put, List.setIfInBounds_toArray, List.set_cons_zero, List.set_cons_succ]))
          | ((with_reducible apply bk_load_g); (· rfl); (· rfl); (· assumption); (· (first | assumption | (apply hset_u; assumption) | (apply hset_s; assumption) | (apply hset_p; assumption))); (simp only [Act.put, List.setIfInBounds_toArray, List.set_cons_zero, List.set_cons_succ])))
        refine (pbook_zero _).mono ?_
        rintro e w8 ⟨rfl, hb8⟩
        have HB8 := Lib.hid (HB6.out.trans (hb8.mono HB6.out.size))
        clear hb8
        go_wp2_with fail
        go_ret
        exact ⟨rfl, HB8.out⟩
  · by_cases q0 : 0 ≤ i
    · by_cases q1 : i < 8
      · by_cases q2 : 0 ≤ m
        · have q3 : 1099511627776 < m := by omega
          have hbuy := Lib.hid (fun W => buyer_yes i W q0 q1)
          refine (give_bad s p u a n c i m w1 hr).mono ?_
          rintro e w2 ⟨rfl, hb2⟩
          have hs2 := hb2.size
          have B3 := (B2.keep hb2 hl)
          have HB3 := Lib.hid (below_al (HB.out.trans (hb2.mono HB.out.size)) (Nat.le_trans HB.out.size hs2) (.cells (bkc zero8 zero8 zero8 (.slice none 0 0)).toArray 25))
          have C3 := Blk.new w2 (bkc zero8 zero8 zero8 (.slice none 0 0)).toArray 25
          rw [List.toList_toArray] at C3
          have B3' := B3.alloc (.cells (bkc zero8 zero8 zero8 (.slice none 0 0)).toArray 25)
          have hlB := B3'.lt
          have hlC := C3.lt
          have h8g := Lib.hid L8.zero
          have HS3 := Lib.hid (HS.out.keep HB3.out)
          clear B3 hb2
          go_wp2_with (first
            | ((with_reducible apply bk_store_new); (· rfl); (· first | rfl | simp); (· rfl); (· rfl); (· (first | assumption | (apply hset_u; assumption) | (apply hset_s; assumption) | (apply hset_p; assumption))); (simp only [Act.put, List.setIfInBounds_toArray, List.set_cons_zero, List.set_cons_succ]))
            | ((with_reducible apply bk_load); (· rfl); (· assumption); (· (first | assumption | (apply hset_u; assumption) | (apply hset_s; assumption) | (apply hset_p; assumption))); (simp only [Act.put, List.setIfInBounds_toArray, List.set_cons_zero, List.set_cons_succ])))
          generalize hg3 : w2.heap.size = g3 at *
          generalize w2.alloc (.cells (bkc zero8 zero8 zero8 (.slice none 0 0)).toArray 25) = W3 at *
          refine (pay_bad s p u a n c i m W3 hr).mono ?_
          rintro e w4 ⟨rfl, hb4⟩
          have hs4 := hb4.size
          have HB4 := Lib.hid (below_al (HB3.out.trans (hb4.mono HB3.out.size)) (Nat.le_trans HB3.out.size hs4) (.cells (bkc zero8 zero8 zero8 (.slice none 0 0)).toArray 25))
          have B4 := (B3'.keep hb4 hlB).alloc (.cells (bkc zero8 zero8 zero8 (.slice none 0 0)).toArray 25)
          have C4 := (C3.keep hb4 hlC).alloc (.cells (bkc zero8 zero8 zero8 (.slice none 0 0)).toArray 25)
          have D4 := Blk.new w4 (bkc zero8 zero8 zero8 (.slice none 0 0)).toArray 25
          rw [List.toList_toArray] at D4
          have h8p := Lib.hid L8.zero
          clear B3' C3 hb4 HB3 B2 HB
          go_wp2_with (first
            | ((with_reducible apply bk_store_new); (· rfl); (· first | rfl | simp); (· rfl); (· rfl); (· (first | assumption | (apply hset_u; assumption) | (apply hset_s; assumption) | (apply hset_p; assumption))); (simp only [Act.put, List.setIfInBounds_toArray, List.set_cons_zero, List.set_cons_succ]))
            | ((with_reducible apply bk_load); (· rfl); (· assumption); (· (first | assumption | (apply hset_u; assumption) | (apply hset_s; assumption) | (apply hset_p; assumption))); (simp only [Act.put, List.setIfInBounds_toArray, List.set_cons_zero, List.set_cons_succ])))
          generalize hg4 : w4.heap.size = g4 at *
          generalize w4.alloc (.cells (bkc zero8 zero8 zero8 (.slice none 0 0)).toArray 25) = W4 at *
          go_wp2_with (first
            | (go_at_call 21; refine (hbuy.out _).mono ?_; rintro e w' ⟨rfl, rfl⟩)
            | ((with_reducible apply bk_load); (· rfl); (· assumption); (· (first | assumption | (apply hset_u; assumption) | (apply hset_s; assumption) | (apply hset_p; assumption))); (simp only [Act.put, List.setIfInBounds_toArray, List.set_cons_zero, List.set_cons_succ]))
            | ((with_reducible apply bk_load_g); (· rfl); (· rfl); (· assumption); (· (first | assumption | (apply hset_u; assumption) | (apply hset_s; assumption) | (apply hset_p; assumption))); (simp only [Act.put, List.setIfInBounds_toArray, List.set_cons_zero, List.set_cons_succ])))
          refine (pbook_zero _).mono ?_
          rintro e w5 ⟨rfl, hb5⟩
          have D5 := D4.keep hb5 D4.lt
          have HB5 := Lib.hid (HB4.out.trans (hb5.mono HB4.out.size))
          clear hb5 C4 D4
          go_wp2_with (first
            | ((with_reducible apply bk_load); (· rfl); (· assumption); (· (first | assumption | (apply hset_u; assumption) | (apply hset_s; assumption) | (apply hset_p; assumption))); (simp only [Act.put, List.setIfInBounds_toArray, List.set_cons_zero, List.set_cons_succ]))
            | ((with_reducible apply bk_load_g); (· rfl); (· rfl); (· assumption); (· (first | assumption | (apply hset_u; assumption) | (apply hset_s; assumption) | (apply hset_p; assumption))); (simp only [Act.put, List.setIfInBounds_toArray, List.set_cons_zero, List.set_cons_succ])))
          refine (pbook_zero _).mono ?_
          rintro e w6 ⟨rfl, hb6⟩
          have HB6 := Lib.hid (HB5.out.trans (hb6.mono HB5.out.size))
          clear hb6 D5
          go_wp2_with fail
          go_ret
          exact ⟨rfl, HB6.out⟩
        · have q2' : m < 0 := by omega
          have hbuy := Lib.hid (fun W => buyer_yes i W q0 q1)
          refine (give_bad s p u a n c i m w1 hr).mono ?_
          rintro e w2 ⟨rfl, hb2⟩
          have hs2 := hb2.size
          have B3 := (B2.keep hb2 hl)
          have HB3 := Lib.hid (below_al (HB.out.trans (hb2.mono HB.out.size)) (Nat.le_trans HB.out.size hs2) (.cells (bkc zero8 zero8 zero8 (.slice none 0 0)).toArray 25))
          have C3 := Blk.new w2 (bkc zero8 zero8 zero8 (.slice none 0 0)).toArray 25
          rw [List.toList_toArray] at C3
          have B3' := B3.alloc (.cells (bkc zero8 zero8 zero8 (.slice none 0 0)).toArray 25)
          have hlB := B3'.lt
          have hlC := C3.lt
          have h8g := Lib.hid L8.zero
          have HS3 := Lib.hid (HS.out.keep HB3.out)
          clear B3 hb2
          go_wp2_with (first
            | ((with_reducible apply bk_store_new); (· rfl); (· first | rfl | simp); (· rfl); (· rfl); (· (first | assumption | (apply hset_u; assumption) | (apply hset_s; assumption) | (apply hset_p; assumption))); (simp only [Act.put, List.setIfInBounds_toArray, List.set_cons_zero, List.set_cons_succ]))
            | ((with_reducible apply bk_load); (· rfl); (· assumption); (· (first | assumption | (apply hset_u; assumption) | (apply hset_s; assumption) | (apply hset_p; assumption))); (simp only [Act.put, List.setIfInBounds_toArray, List.set_cons_zero, List.set_cons_succ])))
          generalize hg3 : w2.heap.size = g3 at *
          generalize w2.alloc (.cells (bkc zero8 zero8 zero8 (.slice none 0 0)).toArray 25) = W3 at *
          refine (pay_bad s p u a n c i m W3 hr).mono ?_
          rintro e w4 ⟨rfl, hb4⟩
          have hs4 := hb4.size
          have HB4 := Lib.hid (below_al (HB3.out.trans (hb4.mono HB3.out.size)) (Nat.le_trans HB3.out.size hs4) (.cells (bkc zero8 zero8 zero8 (.slice none 0 0)).toArray 25))
          have B4 := (B3'.keep hb4 hlB).alloc (.cells (bkc zero8 zero8 zero8 (.slice none 0 0)).toArray 25)
          have C4 := (C3.keep hb4 hlC).alloc (.cells (bkc zero8 zero8 zero8 (.slice none 0 0)).toArray 25)
          have D4 := Blk.new w4 (bkc zero8 zero8 zero8 (.slice none 0 0)).toArray 25
          rw [List.toList_toArray] at D4
          have h8p := Lib.hid L8.zero
          clear B3' C3 hb4 HB3 B2 HB
          go_wp2_with (first
            | ((with_reducible apply bk_store_new); (· rfl); (· first | rfl | simp); (· rfl); (· rfl); (· (first | assumption | (apply hset_u; assumption) | (apply hset_s; assumption) | (apply hset_p; assumption))); (simp only [Act.put, List.setIfInBounds_toArray, List.set_cons_zero, List.set_cons_succ]))
            | ((with_reducible apply bk_load); (· rfl); (· assumption); (· (first | assumption | (apply hset_u; assumption) | (apply hset_s; assumption) | (apply hset_p; assumption))); (simp only [Act.put, List.setIfInBounds_toArray, List.set_cons_zero, List.set_cons_succ])))
          generalize hg4 : w4.heap.size = g4 at *
          generalize w4.alloc (.cells (bkc zero8 zero8 zero8 (.slice none 0 0)).toArray 25) = W4 at *
          go_wp2_with (first
            | (go_at_call 21; refine (hbuy.out _).mono ?_; rintro e w' ⟨rfl, rfl⟩)
            | ((with_reducible apply bk_load); (· rfl); (· assumption); (· (first | assumption | (apply hset_u; assumption) | (apply hset_s; assumption) | (apply hset_p; assumption))); (simp only [Act.put, List.setIfInBounds_toArray, List.set_cons_zero, List.set_cons_succ]))
            | ((with_reducible apply bk_load_g); (· rfl); (· rfl); (· assumption); (· (first | assumption | (apply hset_u; assumption) | (apply hset_s; assumption) | (apply hset_p; assumption))); (simp only [Act.put, List.setIfInBounds_toArray, List.set_cons_zero, List.set_cons_succ])))
          refine (pbook_zero _).mono ?_
          rintro e w5 ⟨rfl, hb5⟩
          have D5 := D4.keep hb5 D4.lt
          have HB5 := Lib.hid (HB4.out.trans (hb5.mono HB4.out.size))
          clear hb5 C4 D4
          go_wp2_with (first
            | ((with_reducible apply bk_load); (· rfl); (· assumption); (· (first | assumption | (apply hset_u; assumption) | (apply hset_s; assumption) | (apply hset_p; assumption))); (simp only [Act.put, List.setIfInBounds_toArray, List.set_cons_zero, List.set_cons_succ]))
            | ((with_reducible apply bk_load_g); (· rfl); (· rfl); (· assumption); (· (first | assumption | (apply hset_u; assumption) | (apply hset_s; assumption) | (apply hset_p; assumption))); (simp only [Act.put, List.setIfInBounds_toArray, List.set_cons_zero, List.set_cons_succ])))
          refine (pbook_zero _).mono ?_
          rintro e w6 ⟨rfl, hb6⟩
          have HB6 := Lib.hid (HB5.out.trans (hb6.mono HB5.out.size))
          clear hb6 D5
          go_wp2_with fail
          go_ret
          exact ⟨rfl, HB6.out⟩
      · have q1' : 7 < i := by omega
        have hbuy := Lib.hid (fun W => buyer_no i W (Or.inr q1'))
        refine (give_bad s p u a n c i m w1 hr).mono ?_
        rintro e w2 ⟨rfl, hb2⟩
        have hs2 := hb2.size
        have B3 := (B2.keep hb2 hl)
        have HB3 := Lib.hid (below_al (HB.out.trans (hb2.mono HB.out.size)) (Nat.le_trans HB.out.size hs2) (.cells (bkc zero8 zero8 zero8 (.slice none 0 0)).toArray 25))
        have C3 := Blk.new w2 (bkc zero8 zero8 zero8 (.slice none 0 0)).toArray 25
        rw [List.toList_toArray] at C3
        have B3' := B3.alloc (.cells (bkc zero8 zero8 zero8 (.slice none 0 0)).toArray 25)
        have hlB := B3'.lt
        have hlC := C3.lt
        have h8g := Lib.hid L8.zero
        have HS3 := Lib.hid (HS.out.keep HB3.out)
        clear B3 hb2
        go_wp2_with (first
          | ((with_reducible apply bk_store_new); (· rfl); (· first | rfl | simp); (· rfl); (· rfl); (· (first | assumption | (apply hset_u; assumption) | (apply hset_s; assumption) | (apply hset_p; assumption))); (simp only [Act.put, List.setIfInBounds_toArray, List.set_cons_zero, List.set_cons_succ]))
          | ((with_reducible apply bk_load); (· rfl); (· assumption); (· (first | assumption | (apply hset_u; assumption) | (apply hset_s; assumption) | (apply hset_p; assumption))); (simp only [Act.put, List.setIfInBounds_toArray, List.set_cons_zero, List.set_cons_succ])))
        generalize hg3 : w2.heap.size = g3 at *
        generalize w2.alloc (.cells (bkc zero8 zero8 zero8 (.slice none 0 0)).toArray 25) = W3 at *
        refine (pay_bad s p u a n c i m W3 hr).mono ?_
        rintro e w4 ⟨rfl, hb4⟩
        have hs4 := hb4.size
        have HB4 := Lib.hid (below_al (HB3.out.trans (hb4.mono HB3.out.size)) (Nat.le_trans HB3.out.size hs4) (.cells (bkc zero8 zero8 zero8 (.slice none 0 0)).toArray 25))
        have B4 := (B3'.keep hb4 hlB).alloc (.cells (bkc zero8 zero8 zero8 (.slice none 0 0)).toArray 25)
        have C4 := (C3.keep hb4 hlC).alloc (.cells (bkc zero8 zero8 zero8 (.slice none 0 0)).toArray 25)
        have D4 := Blk.new w4 (bkc zero8 zero8 zero8 (.slice none 0 0)).toArray 25
        rw [List.toList_toArray] at D4
        have h8p := Lib.hid L8.zero
        clear B3' C3 hb4 HB3 B2 HB
        go_wp2_with (first
          | ((with_reducible apply bk_store_new); (· rfl); (· first | rfl | simp); (· rfl); (· rfl); (· (first | assumption | (apply hset_u; assumption) | (apply hset_s; assumption) | (apply hset_p; assumption))); (simp only [Act.put, List.setIfInBounds_toArray, List.set_cons_zero, List.set_cons_succ]))
          | ((with_reducible apply bk_load); (· rfl); (· assumption); (· (first | assumption | (apply hset_u; assumption) | (apply hset_s; assumption) | (apply hset_p; assumption))); (simp only [Act.put, List.setIfInBounds_toArray, List.set_cons_zero, List.set_cons_succ])))
        generalize hg4 : w4.heap.size = g4 at *
        generalize w4.alloc (.cells (bkc zero8 zero8 zero8 (.slice none 0 0)).toArray 25) = W4 at *
        go_wp2_with (first
          | (go_at_call 21; refine (hbuy.out _).mono ?_; rintro e w' ⟨rfl, rfl⟩)
          | ((with_reducible apply bk_load); (· rfl); (· assumption); (· (first | assumption | (apply hset_u; assumption) | (apply hset_s; assumption) | (apply hset_p; assumption))); (simp only [Act.put, List.setIfInBounds_toArray, List.set_cons_zero, List.set_cons_succ]))
          | ((with_reducible apply bk_load_g); (· rfl); (· rfl); (· assumption); (· (first | assumption | (apply hset_u; assumption) | (apply hset_s; assumption) | (apply hset_p; assumption))); (simp only [Act.put, List.setIfInBounds_toArray, List.set_cons_zero, List.set_cons_succ])))
        refine (pbook_zero _).mono ?_
        rintro e w5 ⟨rfl, hb5⟩
        have D5 := D4.keep hb5 D4.lt
        have HB5 := Lib.hid (HB4.out.trans (hb5.mono HB4.out.size))
        clear hb5 C4 D4
        go_wp2_with (first
          | ((with_reducible apply bk_load); (· rfl); (· assumption); (· (first | assumption | (apply hset_u; assumption) | (apply hset_s; assumption) | (apply hset_p; assumption))); (simp only [Act.put, List.setIfInBounds_toArray, List.set_cons_zero, List.set_cons_succ]))
          | ((with_reducible apply bk_load_g); (· rfl); (· rfl); (· assumption); (· (first | assumption | (apply hset_u; assumption) | (apply hset_s; assumption) | (apply hset_p; assumption))); (simp only [Act.put, List.setIfInBounds_toArray, List.set_cons_zero, List.set_cons_succ])))
        refine (pbook_zero _).mono ?_
        rintro e w6 ⟨rfl, hb6⟩
        have HB6 := Lib.hid (HB5.out.trans (hb6.mono HB5.out.size))
        clear hb6 D5
        go_wp2_with fail
        go_ret
        exact ⟨rfl, HB6.out⟩
    · have q0' : i < 0 := by omega
      have hbuy := Lib.hid (fun W => buyer_no i W (Or.inl q0'))
      refine (give_bad s p u a n c i m w1 hr).mono ?_
      rintro e w2 ⟨rfl, hb2⟩
      have hs2 := hb2.size
      have B3 := (B2.keep hb2 hl)
      have HB3 := Lib.hid (below_al (HB.out.trans (hb2.mono HB.out.size)) (Nat.le_trans HB.out.size hs2) (.cells (bkc zero8 zero8 zero8 (.slice none 0 0)).toArray 25))
      have C3 := Blk.new w2 (bkc zero8 zero8 zero8 (.slice none 0 0)).toArray 25
      rw [List.toList_toArray] at C3
      have B3' := B3.alloc (.cells (bkc zero8 zero8 zero8 (.slice none 0 0)).toArray 25)
      have hlB := B3'.lt
      have hlC := C3.lt
      have h8g := Lib.hid L8.zero
      have HS3 := Lib.hid (HS.out.keep HB3.out)
      clear B3 hb2
      go_wp2_with (first
        | ((with_reducible apply bk_store_new); (· rfl); (· first | rfl | simp); (· rfl); (· rfl); (· (first | assumption | (apply hset_u; assumption) | (apply hset_s; assumption) | (apply hset_p; assumption))); (simp only [Act.put, List.setIfInBounds_toArray, List.set_cons_zero, List.set_cons_succ]))
        | ((with_reducible apply bk_load); (· rfl); (· assumption); (· (first | assumption | (apply hset_u; assumption) | (apply hset_s; assumption) | (apply hset_p; assumption))); (simp only [Act.put, List.setIfInBounds_toArray, List.set_cons_zero, List.set_cons_succ])))
      generalize hg3 : w2.heap.size = g3 at *
      generalize w2.alloc (.cells (bkc zero8 zero8 zero8 (.slice none 0 0)).toArray 25) = W3 at *
      refine (pay_bad s p u a n c i m W3 hr).mono ?_
      rintro e w4 ⟨rfl, hb4⟩
      have hs4 := hb4.size
      have HB4 := Lib.hid (below_al (HB3.out.trans (hb4.mono HB3.out.size)) (Nat.le_trans HB3.out.size hs4) (.cells (bkc zero8 zero8 zero8 (.slice none 0 0)).toArray 25))
      have B4 := (B3'.keep hb4 hlB).alloc (.cells (bkc zero8 zero8 zero8 (.slice none 0 0)).toArray 25)
      have C4 := (C3.keep hb4 hlC).alloc (.cells (bkc zero8 zero8 zero8 (.slice none 0 0)).toArray 25)
      have D4 := Blk.new w4 (bkc zero8 zero8 zero8 (.slice none 0 0)).toArray 25
      rw [List.toList_toArray] at D4
      have h8p := Lib.hid L8.zero
      clear B3' C3 hb4 HB3 B2 HB
      go_wp2_with (first
        | ((with_reducible apply bk_store_new); (· rfl); (· first | rfl | simp); (· rfl); (· rfl); (· (first | assumption | (apply hset_u; assumption) | (apply hset_s; assumption) | (apply hset_p; assumption))); (simp only [Act.put, List.setIfInBounds_toArray, List.set_cons_zero, List.set_cons_succ]))
        | ((with_reducible apply bk_load); (· rfl); (· assumption); (· (first | assumption | (apply hset_u; assumption) | (apply hset_s; assumption) | (apply hset_p; assumption))); (simp only [Act.put, List.setIfInBounds_toArray, List.set_cons_zero, List.set_cons_succ])))
      generalize hg4 : w4.heap.size = g4 at *
      generalize w4.alloc (.cells (bkc zero8 zero8 zero8 (.slice none 0 0)).toArray 25) = W4 at *
      go_wp2_with (first
        | (go_at_call 21; refine (hbuy.out _).mono ?_; rintro e w' ⟨rfl, rfl⟩)
        | ((with_reducible apply bk_load); (· rfl); (· assumption); (· (first | assumption | (apply hset_u; assumption) | (apply hset_s; assumption) | (apply hset_p; assumption))); (simp only [Act.put, List.setIfInBounds_toArray, List.set_cons_zero, List.set_cons_succ]))
        | ((with_reducible apply bk_load_g); (· rfl); (· rfl); (· assumption); (· (first | assumption | (apply hset_u; assumption) | (apply hset_s; assumption) | (apply hset_p; assumption))); (simp only [Act.put, List.setIfInBounds_toArray, List.set_cons_zero, List.set_cons_succ])))
      refine (pbook_zero _).mono ?_
      rintro e w5 ⟨rfl, hb5⟩
      have D5 := D4.keep hb5 D4.lt
      have HB5 := Lib.hid (HB4.out.trans (hb5.mono HB4.out.size))
      clear hb5 C4 D4
      go_wp2_with (first
        | ((with_reducible apply bk_load); (· rfl); (· assumption); (· (first | assumption | (apply hset_u; assumption) | (apply hset_s; assumption) | (apply hset_p; assumption))); (simp only [Act.put, List.setIfInBounds_toArray, List.set_cons_zero, List.set_cons_succ]))
        | ((with_reducible apply bk_load_g); (· rfl); (· rfl); (· assumption); (· (first | assumption | (apply hset_u; assumption) | (apply hset_s; assumption) | (apply hset_p; assumption))); (simp only [Act.put, List.setIfInBounds_toArray, List.set_cons_zero, List.set_cons_succ])))
      refine (pbook_zero _).mono ?_
      rintro e w6 ⟨rfl, hb6⟩
      have HB6 := Lib.hid (HB5.out.trans (hb6.mono HB5.out.size))
      clear hb6 D5
      go_wp2_with fail
      go_ret
      exact ⟨rfl, HB6.out⟩
end Go.Proofs.Ytdphejjiiogikaa
