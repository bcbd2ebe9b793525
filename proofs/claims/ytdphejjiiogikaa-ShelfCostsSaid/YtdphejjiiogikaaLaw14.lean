/- The laws of purse. -/
import Derived.Test.YtdphejjiiogikaaPurse2
import Derived.Test.YtdphejjiiogikaaBookRd
namespace Go.Proofs.Ytdphejjiiogikaa
set_option linter.unusedVariables false
set_option linter.unusedSimpArgs false
open Go.ChangeShapes Go.WideShapes Go.ChangeAt Go.RowKit
theorem own_keep {w w2 : World} {B : Nat} {e : TypeId} {sz : Nat} {v : Value} {n : Nat} {xs : List Value} (h : w.ownsRow B e sz v n xs) (hb : Below w.heap.size w w2) : w2.ownsRow B e sz v n xs := by
  refine ⟨h.1, h.2.imp id ?_⟩
  rintro ⟨g, cap, cur, h1, h2, h3, h4⟩
  have hlt : g < w.heap.size := by
    rcases Nat.lt_or_ge g w.heap.size with hl | hl
    · exact hl
    · rw [Array.getElem?_eq_none hl] at h3; cases h3
  exact ⟨g, cap, cur, h1, h2, by rw [hb.block g hlt]; exact h3, h4⟩
theorem own_alloc {w : World} {B : Nat} {e : TypeId} {sz : Nat} {v : Value} {n : Nat} {xs : List Value} (h : w.ownsRow B e sz v n xs) (o : Obj) : (w.alloc o).ownsRow B e sz v n xs := own_keep h ((Below.refl _ _).alloc (Nat.le_refl _) o)
theorem give_over (s p u : List Int) (a : Option Addr) (n c k : Nat) (m x : Int) (w : World) (h8 : Hid (L8 s p u)) (hk : k < 8) (hm0 : 0 ≤ m) (hm1 : m ≤ 1099511627776) (hu : u.getD k 0 = x) (hx : fits x = true) (ho : 1099511627776 < x + m) :
    Calls Try.prog 19 #[.agg (bkc s p u (.slice a n c)).toArray, .int .i64 k, .int .i64 m] w fun e w' => e = .returned (.tuple #[.agg (bkc zero8 zero8 zero8 (.slice none 0 0)).toArray, .int .i64 7]) ∧ Below w.heap.size w w' := by
  by_cases hf : fits (x + m) = true
  · exact give_over1 s p u a n c k m x w h8 hk hm0 hm1 hu hx hf ho
  · exact give_over2 s p u a n c k m x w h8 hk hm0 hm1 hu hx (by simpa using hf)
def u14a : List Int := zero8.set 2 5
def u14b : List Int := u14a.set 2 3
theorem sl_zero (w : World) (a : Option Addr) : Sl w a 0 7 [] := ⟨rfl, Or.inl rfl⟩
theorem below_al {w w1 : World} {B : Nat} (h : Below B w w1) (hB : B ≤ w1.heap.size) (o : Obj) : Below B w (w1.alloc o) := h.alloc hB o
set_option maxHeartbeats 1000000 in
theorem alive14 (w : World) : Calls Try.prog 18 #[] w fun e w' => e = .returned (.bool true) ∧ Below w.heap.size w w' := by
  have hz8 := Lib.hid L8.zero
  have G := Lib.hid (give_ok zero8 zero8 zero8 none 0 0 2 [] 5 0 w hz8 (sl_zero _ _) (fun _ h => by cases h) (by decide) (by decide) (by decide) (by decide) rfl rfl (by decide))
  rw [zero_cells, show (((2 : Nat) : Int)) = 2 from rfl, show zero8.set 2 (0 + 5) = u14a from rfl] at G
  go_enter Try.func18, Try.ntmps18
  go_wp2_with fail
  refine G.out.mono ?_
  rintro e w2 ⟨va, vc, rfl, ho, hb⟩
  have hs2 := hb.size
  have HB2 := Lib.hid (below_al hb hs2 (.cells (bkc zero8 zero8 u14a (.slice va 0 vc)).toArray 25))
  have B2 := Blk.new w2 (bkc zero8 zero8 u14a (.slice va 0 vc)).toArray 25
  rw [List.toList_toArray] at B2
  have h81 : Hid (L8 zero8 zero8 u14a) := Lib.hid ⟨rfl, rfl, rfl⟩
  clear ho hb G
  have P1 := Lib.hid (fun W => pay_short zero8 zero8 u14a va 0 vc 2 6 5 W h81 (by decide) (by decide) (by decide) rfl (by decide))
  rw [show (((2 : Nat) : Int)) = 2 from rfl] at P1
  have hl2 := B2.lt
  go_wp2_with (first
    | ((with_reducible apply bk_store_new); (· rfl); (· first | rfl | simp); (· rfl); (· rfl); (· (first | assumption | (apply hset_u; assumption) | (apply hset_s; assumption) | (apply hset_p; assumption))); (simp only [Act.put, List.setIfInBounds_toArray, List.set_cons_zero, List.set_cons_succ]))
    | ((with_reducible apply bk_load); (· rfl); (· (first | assumption | (apply Blk.alloc; assumption))); (· (first | assumption | (apply hset_u; assumption) | (apply hset_s; assumption) | (apply hset_p; assumption))); (simp only [Act.put, List.setIfInBounds_toArray, List.set_cons_zero, List.set_cons_succ])))
  generalize hg : w2.heap.size = g at *
  generalize w2.alloc (.cells (bkc zero8 zero8 u14a (.slice va 0 vc)).toArray 25) = W2 at *
  refine (P1.out W2).mono ?_
  rintro e w3 ⟨rfl, hb3⟩
  have hs3 := hb3.size
  have B3 := (B2.keep hb3 hl2)
  have HB3 := Lib.hid (below_al (HB2.out.trans (hb3.mono HB2.out.size)) (Nat.le_trans HB2.out.size hs3) (.cells (bkc zero8 zero8 zero8 (.slice none 0 0)).toArray 25))
  have hl3 := B3.lt
  clear B2 HB2 hb3 P1
  have P2 := Lib.hid (fun W => pay_ok zero8 zero8 u14a va 0 vc 2 [] 2 5 W h81 (sl_zero _ _) (fun _ h => by cases h) (by decide) (by decide) (by decide) (by decide) rfl rfl (by decide))
  rw [show (((2 : Nat) : Int)) = 2 from rfl, show u14a.set 2 (5 - 2) = u14b from rfl] at P2
  go_wp2_with (first
    | ((with_reducible apply bk_store_new); (· rfl); (· first | rfl | simp); (· rfl); (· rfl); (· (first | assumption | (apply hset_u; assumption) | (apply hset_s; assumption) | (apply hset_p; assumption))); (simp only [Act.put, List.setIfInBounds_toArray, List.set_cons_zero, List.set_cons_succ]))
    | ((with_reducible apply bk_load); (· rfl); (· (first | assumption | (apply Blk.alloc; assumption))); (· (first | assumption | (apply hset_u; assumption) | (apply hset_s; assumption) | (apply hset_p; assumption))); (simp only [Act.put, List.setIfInBounds_toArray, List.set_cons_zero, List.set_cons_succ])))
  have B3' := B3.alloc (.cells (bkc zero8 zero8 zero8 (.slice none 0 0)).toArray 25)
  have hl3' := B3'.lt
  clear B3 hl3
  generalize w3.alloc (.cells (bkc zero8 zero8 zero8 (.slice none 0 0)).toArray 25) = W3 at *
  refine (P2.out W3).mono ?_
  rintro e w4 ⟨va2, vc2, rfl, ho4, hb4⟩
  have hs4 := hb4.size
  have B4 := (B3'.keep hb4 hl3').alloc (.cells (bkc zero8 zero8 u14b (.slice va2 0 vc2)).toArray 25)
  have h82 : Hid (L8 zero8 zero8 u14b) := Lib.hid ⟨rfl, rfl, rfl⟩
  have C4 := Blk.new w4 (bkc zero8 zero8 u14b (.slice va2 0 vc2)).toArray 25
  rw [List.toList_toArray] at C4
  have HB4 := Lib.hid (below_al (HB3.out.trans (hb4.mono HB3.out.size)) (Nat.le_trans HB3.out.size hs4) (.cells (bkc zero8 zero8 u14b (.slice va2 0 vc2)).toArray 25))
  have c18 : (w4.alloc (.cells (bkc zero8 zero8 u14b (.slice va2 0 vc2)).toArray 25)).cell? ⟨g, 18, none⟩ = some (.int .i64 5) := by
    rw [show 18 = 16 + 2 from rfl, B4.cell, bkc_u h81.out _ (by decide)]; rfl
  clear ho4 hb4 P2 B3' HB3
  have TT := Lib.hid (fun W => total_any zero8 zero8 u14b (.slice va2 0 vc2) W h82)
  rw [show tot u14b = 3 by decide +kernel] at TT
  go_wp2_with (first
    | ((with_reducible apply bk_store_new); (· rfl); (· first | rfl | simp); (· rfl); (· rfl); (· (first | assumption | (apply hset_u; assumption) | (apply hset_s; assumption) | (apply hset_p; assumption))); (simp only [Act.put, List.setIfInBounds_toArray, List.set_cons_zero, List.set_cons_succ]))
    | ((with_reducible apply bk_load); (· rfl); (· (first | assumption | (apply Blk.alloc; assumption))); (· (first | assumption | (apply hset_u; assumption) | (apply hset_s; assumption) | (apply hset_p; assumption))); (simp only [Act.put, List.setIfInBounds_toArray, List.set_cons_zero, List.set_cons_succ]))
    | ((with_reducible apply bk_load_g); (· rfl); (· rfl); (· (first | assumption | (apply Blk.alloc; assumption) | (apply Blk.alloc; apply Blk.alloc; assumption) | (apply Blk.alloc; apply Blk.alloc; apply Blk.alloc; assumption))); (· (first | assumption | (apply hset_u; assumption) | (apply hset_s; assumption) | (apply hset_p; assumption))); (simp only [Act.put, List.setIfInBounds_toArray, List.set_cons_zero, List.set_cons_succ])))
  refine (TT.out _).mono ?_
  rintro e w5 ⟨rfl, hb5⟩
  have HB5 := Lib.hid (HB4.out.trans (hb5.mono HB4.out.size))
  clear hb5 TT c18
  go_wp2
  go_ret
  exact ⟨rfl, HB5.out⟩
theorem tot_go (l : List Int) : ∀ acc : Int, l.foldl (fun t x => wrap64 (t + x)) (wrap64 acc) = wrap64 (acc + l.sum) := by
  induction l with
  | nil => intro acc; simp
  | cons x l ih =>
    intro acc
    rw [List.foldl_cons, show wrap64 (wrap64 acc + x) = wrap64 (acc + x) by unfold wrap64; omega, ih, List.sum_cons, Int.add_assoc]
theorem tot_sum (l : List Int) : tot l = wrap64 l.sum := by
  have := tot_go l 0
  rw [show wrap64 0 = 0 by decide +kernel, Int.zero_add] at this
  exact this
theorem sum_set (l : List Int) : ∀ (k : Nat), k < l.length → ∀ z, (l.set k z).sum = l.sum - l.getD k 0 + z := by
  induction l with
  | nil => intro k h; simp at h
  | cons x l ih =>
    intro k h z
    cases k with
    | zero => simp; omega
    | succ k =>
      simp only [List.length_cons] at h
      have := ih k (by omega) z
      simp only [List.set_cons_succ, List.sum_cons, List.getD_cons_succ]
      omega
theorem tot_set (u : List Int) (k : Nat) (x m : Int) (hk : k < u.length) (hx : u.getD k 0 = x) : tot (u.set k (x + m)) = wrap64 (tot u + m) := by
  rw [tot_sum, tot_sum, sum_set u k hk, hx]
  unfold wrap64; omega
theorem tot_set_sub (u : List Int) (k : Nat) (x m : Int) (hk : k < u.length) (hx : u.getD k 0 = x) : tot (u.set k (x - m)) = wrap64 (tot u - m) := by
  rw [tot_sum, tot_sum, sum_set u k hk, hx]
  unfold wrap64; omega
set_option maxRecDepth 100000 in
set_option maxHeartbeats 4000000 in
theorem totals_walk (v0 v1 v2 : Value) (w : World) (h0 : Arg Try.prog w 25 v0) (h1 : Arg Try.prog w 3 v1) (h2 : Arg Try.prog w 2 v2) :
    Calls Try.prog 7 #[v0, v1, v2] w fun e w' => e = .returned (.bool true) ∧ Below w.heap.size w w' := by
  obtain ⟨s, p, u, a, n, c, xs, rfl, hbk⟩ := h0.book
  obtain ⟨i, rfl, hi⟩ := h1.int Try.underlying3
  obtain ⟨m, rfl, hm⟩ := h2.int Try.underlying2
  clear h0 h1 h2
  have h8 := Lib.hid hbk.l8
  have HS := Lib.hid hbk.sl
  have HO := Lib.hid hbk.one
  have HF := Lib.hid hbk.fu
  have hn : n * 56 ≤ 140737488355328 := Nat.le_trans hbk.bytes (by decide)
  clear hbk
  have B1 := Blk.new w (bkc s p u (.slice a n c)).toArray 25
  rw [List.toList_toArray] at B1
  have hb1 := (Below.refl w.heap.size w).alloc (Nat.le_refl _) (.cells (bkc s p u (.slice a n c)).toArray 25)
  go_enter Try.func7, Try.ntmps7
  go_wp2_with fail
  refine (alive14 _).mono ?_
  rintro e w1 ⟨rfl, hba⟩
  have B2 := B1.keep hba B1.lt
  have HB := Lib.hid (hb1.trans (hba.mono (by simp)))
  have hl := B2.lt
  clear B1 hb1 hba
  go_wp2_with fail
  go_loopg [7, 8] 8 (fun q s7 s8 wr => ∃ k : Nat, q + k = 8 ∧ s7 = .int .i64 (tot (u.take k)) ∧ s8 = .int .i64 k ∧ w1 = wr)
  case atStart => exact ⟨0, rfl, rfl, rfl, rfl⟩
  case round =>
    obtain ⟨k, hqk, rfl, rfl, rfl⟩ := hrel
    by_cases hk : k < 8
    · have cu := (B2.cell (16 + k)).trans (bkc_u h8.out _ hk)
      have hk0 : (0 : Int) ≤ k := by omega
      have hk8 : (k : Int) < 8 := by omega
      have ht := Lib.hid (tot_take u k (by rw [h8.out.u8]; exact hk))
      generalize tot (u.take k) = y at *
      generalize u.getD k 0 = z at *
      go_wp2_with fail
      go_roundg (gk - 1)
      case measure => omega
      case rel => exact ⟨k + 1, by omega, by rw [ht.out], by go_num, rfl⟩
    · obtain rfl : k = 8 := by omega
      have hall : tot (u.take 8) = tot u := by rw [List.take_of_length_le (by rw [h8.out.u8]; exact Nat.le_refl _)]
      rw [hall]
      clear hall hk
      go_wp2_with ((with_reducible apply bk_load); (· rfl); (· (first | assumption | (apply Blk.alloc; assumption) | (apply Blk.alloc; apply Blk.alloc; assumption) | (apply Blk.alloc; apply Blk.alloc; apply Blk.alloc; assumption))); (· (first | assumption | (apply hset_u; assumption) | (apply hset_s; assumption) | (apply hset_p; assumption))); (simp only [Act.put, List.setIfInBounds_toArray, List.set_cons_zero, List.set_cons_succ]))
      by_cases hr : 0 ≤ i ∧ i < 8 ∧ 0 ≤ m ∧ m ≤ 1099511627776
      · obtain ⟨k, rfl⟩ : ∃ k : Nat, i = k := ⟨i.toNat, by omega⟩
        obtain ⟨hi0, hi8, hm0, hm1⟩ := hr
        have hk : k < 8 := by omega
        have hfx := HF.out k
        obtain ⟨x, hx⟩ : ∃ x, u.getD k 0 = x := ⟨_, rfl⟩
        rw [hx] at hfx
        by_cases ho : x + m ≤ 1099511627776
        · by_cases hp : m ≤ x
          · refine (give_ok s p u a n c k xs m x w1 h8 (HS.out.keep HB.out) HO.out hn hk hm0 hm1 hx hfx ho).mono ?_
            rintro e w2 ⟨va, vc, rfl, ho2, hb2⟩
            have hs2 := hb2.size
            have B3 := (B2.keep hb2 hl)
            have HB3 := Lib.hid (below_al (HB.out.trans (hb2.mono HB.out.size)) (Nat.le_trans HB.out.size hs2) (.cells (bkc s p (u.set k (x + m)) (.slice va n vc)).toArray 25))
            have C3 := Blk.new w2 (bkc s p (u.set k (x + m)) (.slice va n vc)).toArray 25
            rw [List.toList_toArray] at C3
            have B3' := B3.alloc (.cells (bkc s p (u.set k (x + m)) (.slice va n vc)).toArray 25)
            have hlB := B3'.lt
            have hlC := C3.lt
            have h8g := hset_u h8 k (x + m)
            have HO3 := Lib.hid (own_alloc ho2 (.cells (bkc s p (u.set k (x + m)) (.slice va n vc)).toArray 25))
            clear ho2
            have HS3 := Lib.hid (HS.out.keep HB3.out)
            clear B3 hb2
            go_wp2_with (first
              | ((with_reducible apply bk_store_new); (· rfl); (· first | rfl | simp); (· rfl); (· rfl); (· (first | assumption | (apply hset_u; assumption) | (apply hset_s; assumption) | (apply hset_p; assumption))); (simp only [Act.put, List.setIfInBounds_toArray, List.set_cons_zero, List.set_cons_succ]))
              | ((with_reducible apply bk_load); (· rfl); (· assumption); (· (first | assumption | (apply hset_u; assumption) | (apply hset_s; assumption) | (apply hset_p; assumption))); (simp only [Act.put, List.setIfInBounds_toArray, List.set_cons_zero, List.set_cons_succ])))
            generalize hg3 : w2.heap.size = g3 at *
            generalize w2.alloc (.cells (bkc s p (u.set k (x + m)) (.slice va n vc)).toArray 25) = W3 at *
            refine (pay_ok s p u a n c k xs m x W3 h8 HS3.out HO.out hn hk hm0 hm1 hx hfx hp).mono ?_
            rintro e w4 ⟨va2, vc2, rfl, ho4, hb4⟩
            have hs4 := hb4.size
            have HB4 := Lib.hid (below_al (HB3.out.trans (hb4.mono HB3.out.size)) (Nat.le_trans HB3.out.size hs4) (.cells (bkc s p (u.set k (x - m)) (.slice va2 n vc2)).toArray 25))
            have B4 := (B3'.keep hb4 hlB).alloc (.cells (bkc s p (u.set k (x - m)) (.slice va2 n vc2)).toArray 25)
            have C4 := (C3.keep hb4 hlC).alloc (.cells (bkc s p (u.set k (x - m)) (.slice va2 n vc2)).toArray 25)
            have D4 := Blk.new w4 (bkc s p (u.set k (x - m)) (.slice va2 n vc2)).toArray 25
            rw [List.toList_toArray] at D4
            have h8p := hset_u h8 k (x - m)
            have HO5 := Lib.hid (own_alloc ho4 (.cells (bkc s p (u.set k (x - m)) (.slice va2 n vc2)).toArray 25))
            clear ho4
            have HO4 := Lib.hid (own_alloc (own_keep HO3.out hb4) (.cells (bkc s p (u.set k (x - m)) (.slice va2 n vc2)).toArray 25))
            clear B3' C3 hb4 HB3 B2 HB
            go_wp2_with (first
              | ((with_reducible apply bk_store_new); (· rfl); (· first | rfl | simp); (· rfl); (· rfl); (· (first | assumption | (apply hset_u; assumption) | (apply hset_s; assumption) | (apply hset_p; assumption))); (simp only [Act.put, List.setIfInBounds_toArray, List.set_cons_zero, List.set_cons_succ]))
              | ((with_reducible apply bk_load); (· rfl); (· assumption); (· (first | assumption | (apply hset_u; assumption) | (apply hset_s; assumption) | (apply hset_p; assumption))); (simp only [Act.put, List.setIfInBounds_toArray, List.set_cons_zero, List.set_cons_succ])))
            generalize hg4 : w4.heap.size = g4 at *
            generalize w4.alloc (.cells (bkc s p (u.set k (x - m)) (.slice va2 n vc2)).toArray 25) = W4 at *
            have T1 := Lib.hid (fun W => total_any s p u (.slice a n c) W h8)
            have T2 := Lib.hid (fun W => total_any s p (u.set k (x + m)) (.slice va n vc) W h8g)
            rw [tot_set u k x m (by rw [h8.out.u8]; exact hk) hx] at T2
            have T3 := Lib.hid (fun W => total_any s p (u.set k (x - m)) (.slice va2 n vc2) W h8p)
            rw [tot_set_sub u k x m (by rw [h8.out.u8]; exact hk) hx] at T3
            clear hx
            generalize tot u = y at *
            go_wp2_with (first | ((with_reducible apply bk_load); (· rfl); (· assumption); (· (first | assumption | (apply hset_u; assumption) | (apply hset_s; assumption) | (apply hset_p; assumption))); (simp only [Act.put, List.setIfInBounds_toArray, List.set_cons_zero, List.set_cons_succ])) | ((with_reducible apply bk_load_g); (· rfl); (· rfl); (· assumption); (· (first | assumption | (apply hset_u; assumption) | (apply hset_s; assumption) | (apply hset_p; assumption))); (simp only [Act.put, List.setIfInBounds_toArray, List.set_cons_zero, List.set_cons_succ])))
            refine (T1.out _).mono ?_
            rintro e w5 ⟨rfl, hb5⟩
            have C5 := C4.keep hb5 C4.lt
            have D5 := D4.keep hb5 D4.lt
            have HB5 := Lib.hid (HB4.out.trans (hb5.mono HB4.out.size))
            clear C4 D4 hb5 HB4 T1
            go_wp2_with (first | ((with_reducible apply bk_load); (· rfl); (· assumption); (· (first | assumption | (apply hset_u; assumption) | (apply hset_s; assumption) | (apply hset_p; assumption))); (simp only [Act.put, List.setIfInBounds_toArray, List.set_cons_zero, List.set_cons_succ])) | ((with_reducible apply bk_load_g); (· rfl); (· rfl); (· assumption); (· (first | assumption | (apply hset_u; assumption) | (apply hset_s; assumption) | (apply hset_p; assumption))); (simp only [Act.put, List.setIfInBounds_toArray, List.set_cons_zero, List.set_cons_succ])))
            refine (T2.out _).mono ?_
            rintro e w6 ⟨rfl, hb6⟩
            have D5' := D5.keep hb6 D5.lt
            have HB5' := Lib.hid (HB5.out.trans (hb6.mono HB5.out.size))
            clear D5 hb6 HB5 T2
            have D5 := D5'
            have HB5 := HB5'
            clear D5' HB5'
            go_wp2_with (first | ((with_reducible apply bk_load); (· rfl); (· assumption); (· (first | assumption | (apply hset_u; assumption) | (apply hset_s; assumption) | (apply hset_p; assumption))); (simp only [Act.put, List.setIfInBounds_toArray, List.set_cons_zero, List.set_cons_succ])) | ((with_reducible apply bk_load_g); (· rfl); (· rfl); (· assumption); (· (first | assumption | (apply hset_u; assumption) | (apply hset_s; assumption) | (apply hset_p; assumption))); (simp only [Act.put, List.setIfInBounds_toArray, List.set_cons_zero, List.set_cons_succ])))
            refine (T3.out _).mono ?_
            rintro e w7 ⟨rfl, hb7⟩
            have HB5' := Lib.hid (HB5.out.trans (hb7.mono HB5.out.size))
            clear hb7 HB5 T3
            have HB5 := HB5'
            clear HB5'
            go_wp2_with fail
            go_ret
            exact ⟨rfl, HB5.out⟩
          · have hp : x < m := by omega
            refine (give_ok s p u a n c k xs m x w1 h8 (HS.out.keep HB.out) HO.out hn hk hm0 hm1 hx hfx ho).mono ?_
            rintro e w2 ⟨va, vc, rfl, ho2, hb2⟩
            have hs2 := hb2.size
            have B3 := (B2.keep hb2 hl)
            have HB3 := Lib.hid (below_al (HB.out.trans (hb2.mono HB.out.size)) (Nat.le_trans HB.out.size hs2) (.cells (bkc s p (u.set k (x + m)) (.slice va n vc)).toArray 25))
            have C3 := Blk.new w2 (bkc s p (u.set k (x + m)) (.slice va n vc)).toArray 25
            rw [List.toList_toArray] at C3
            have B3' := B3.alloc (.cells (bkc s p (u.set k (x + m)) (.slice va n vc)).toArray 25)
            have hlB := B3'.lt
            have hlC := C3.lt
            have h8g := hset_u h8 k (x + m)
            have HO3 := Lib.hid (own_alloc ho2 (.cells (bkc s p (u.set k (x + m)) (.slice va n vc)).toArray 25))
            clear ho2
            have HS3 := Lib.hid (HS.out.keep HB3.out)
            clear B3 hb2
            go_wp2_with (first
              | ((with_reducible apply bk_store_new); (· rfl); (· first | rfl | simp); (· rfl); (· rfl); (· (first | assumption | (apply hset_u; assumption) | (apply hset_s; assumption) | (apply hset_p; assumption))); (simp only [Act.put, List.setIfInBounds_toArray, List.set_cons_zero, List.set_cons_succ]))
              | ((with_reducible apply bk_load); (· rfl); (· assumption); (· (first | assumption | (apply hset_u; assumption) | (apply hset_s; assumption) | (apply hset_p; assumption))); (simp only [Act.put, List.setIfInBounds_toArray, List.set_cons_zero, List.set_cons_succ])))
            generalize hg3 : w2.heap.size = g3 at *
            generalize w2.alloc (.cells (bkc s p (u.set k (x + m)) (.slice va n vc)).toArray 25) = W3 at *
            refine (pay_short s p u a n c k m x W3 h8 hk hm0 hm1 hx hp).mono ?_
            rintro e w4 ⟨rfl, hb4⟩
            have hs4 := hb4.size
            have HB4 := Lib.hid (below_al (HB3.out.trans (hb4.mono HB3.out.size)) (Nat.le_trans HB3.out.size hs4) (.cells (bkc zero8 zero8 zero8 (.slice none 0 0)).toArray 25))
            have B4 := (B3'.keep hb4 hlB).alloc (.cells (bkc zero8 zero8 zero8 (.slice none 0 0)).toArray 25)
            have C4 := (C3.keep hb4 hlC).alloc (.cells (bkc zero8 zero8 zero8 (.slice none 0 0)).toArray 25)
            have D4 := Blk.new w4 (bkc zero8 zero8 zero8 (.slice none 0 0)).toArray 25
            rw [List.toList_toArray] at D4
            have h8p := Lib.hid L8.zero
            have HO4 := Lib.hid (own_alloc (own_keep HO3.out hb4) (.cells (bkc zero8 zero8 zero8 (.slice none 0 0)).toArray 25))
            clear B3' C3 hb4 HB3 B2 HB
            go_wp2_with (first
              | ((with_reducible apply bk_store_new); (· rfl); (· first | rfl | simp); (· rfl); (· rfl); (· (first | assumption | (apply hset_u; assumption) | (apply hset_s; assumption) | (apply hset_p; assumption))); (simp only [Act.put, List.setIfInBounds_toArray, List.set_cons_zero, List.set_cons_succ]))
              | ((with_reducible apply bk_load); (· rfl); (· assumption); (· (first | assumption | (apply hset_u; assumption) | (apply hset_s; assumption) | (apply hset_p; assumption))); (simp only [Act.put, List.setIfInBounds_toArray, List.set_cons_zero, List.set_cons_succ])))
            generalize hg4 : w4.heap.size = g4 at *
            generalize w4.alloc (.cells (bkc zero8 zero8 zero8 (.slice none 0 0)).toArray 25) = W4 at *
            have T1 := Lib.hid (fun W => total_any s p u (.slice a n c) W h8)
            have T2 := Lib.hid (fun W => total_any s p (u.set k (x + m)) (.slice va n vc) W h8g)
            rw [tot_set u k x m (by rw [h8.out.u8]; exact hk) hx] at T2
            clear hx
            generalize tot u = y at *
            go_wp2_with (first | ((with_reducible apply bk_load); (· rfl); (· assumption); (· (first | assumption | (apply hset_u; assumption) | (apply hset_s; assumption) | (apply hset_p; assumption))); (simp only [Act.put, List.setIfInBounds_toArray, List.set_cons_zero, List.set_cons_succ])) | ((with_reducible apply bk_load_g); (· rfl); (· rfl); (· assumption); (· (first | assumption | (apply hset_u; assumption) | (apply hset_s; assumption) | (apply hset_p; assumption))); (simp only [Act.put, List.setIfInBounds_toArray, List.set_cons_zero, List.set_cons_succ])))
            refine (T1.out _).mono ?_
            rintro e w5 ⟨rfl, hb5⟩
            have C5 := C4.keep hb5 C4.lt
            have D5 := D4.keep hb5 D4.lt
            have HB5 := Lib.hid (HB4.out.trans (hb5.mono HB4.out.size))
            clear C4 D4 hb5 HB4 T1
            go_wp2_with (first | ((with_reducible apply bk_load); (· rfl); (· assumption); (· (first | assumption | (apply hset_u; assumption) | (apply hset_s; assumption) | (apply hset_p; assumption))); (simp only [Act.put, List.setIfInBounds_toArray, List.set_cons_zero, List.set_cons_succ])) | ((with_reducible apply bk_load_g); (· rfl); (· rfl); (· assumption); (· (first | assumption | (apply hset_u; assumption) | (apply hset_s; assumption) | (apply hset_p; assumption))); (simp only [Act.put, List.setIfInBounds_toArray, List.set_cons_zero, List.set_cons_succ])))
            refine (T2.out _).mono ?_
            rintro e w6 ⟨rfl, hb6⟩
            have D5' := D5.keep hb6 D5.lt
            have HB5' := Lib.hid (HB5.out.trans (hb6.mono HB5.out.size))
            clear D5 hb6 HB5 T2
            have D5 := D5'
            have HB5 := HB5'
            clear D5' HB5'
            go_wp2_with fail
            go_ret
            exact ⟨rfl, HB5.out⟩
        · have ho : 1099511627776 < x + m := by omega
          by_cases hp : m ≤ x
          · refine (give_over s p u a n c k m x w1 h8 hk hm0 hm1 hx hfx ho).mono ?_
            rintro e w2 ⟨rfl, hb2⟩
            have hs2 := hb2.size
            have B3 := (B2.keep hb2 hl)
            have HB3 := Lib.hid (below_al (HB.out.trans (hb2.mono HB.out.size)) (Nat.le_trans HB.out.size hs2) (.cells (bkc zero8 zero8 zero8 (.slice none 0 0)).toArray 25))
            have C3 := Blk.new w2 (bkc zero8 zero8 zero8 (.slice none 0 0)).toArray 25
            rw [List.toList_toArray] at C3
            have B3' := B3.alloc (.cells (bkc zero8 zero8 zero8 (.slice none 0 0)).toArray 25)
            have hlB := B3'.lt
            have hlC := C3.lt
            have h8g := Lib.hid L8.zero
            have HS3 := Lib.hid (HS.out.keep HB3.out)
            clear B3 hb2
            go_wp2_with (first
              | ((with_reducible apply bk_store_new); (· rfl); (· first | rfl | simp); (· rfl); (· rfl); (· (first | assumption | (apply hset_u; assumption) | (apply hset_s; assumption) | (apply hset_p; assumption))); (simp only [Act.put, List.setIfInBounds_toArray, List.set_cons_zero, List.set_cons_succ]))
              | ((with_reducible apply bk_load); (· rfl); (· assumption); (· (first | assumption | (apply hset_u; assumption) | (apply hset_s; assumption) | (apply hset_p; assumption))); (simp only [Act.put, List.setIfInBounds_toArray, List.set_cons_zero, List.set_cons_succ])))
            generalize hg3 : w2.heap.size = g3 at *
            generalize w2.alloc (.cells (bkc zero8 zero8 zero8 (.slice none 0 0)).toArray 25) = W3 at *
            refine (pay_ok s p u a n c k xs m x W3 h8 HS3.out HO.out hn hk hm0 hm1 hx hfx hp).mono ?_
            rintro e w4 ⟨va2, vc2, rfl, ho4, hb4⟩
            have hs4 := hb4.size
            have HB4 := Lib.hid (below_al (HB3.out.trans (hb4.mono HB3.out.size)) (Nat.le_trans HB3.out.size hs4) (.cells (bkc s p (u.set k (x - m)) (.slice va2 n vc2)).toArray 25))
            have B4 := (B3'.keep hb4 hlB).alloc (.cells (bkc s p (u.set k (x - m)) (.slice va2 n vc2)).toArray 25)
            have C4 := (C3.keep hb4 hlC).alloc (.cells (bkc s p (u.set k (x - m)) (.slice va2 n vc2)).toArray 25)
            have D4 := Blk.new w4 (bkc s p (u.set k (x - m)) (.slice va2 n vc2)).toArray 25
            rw [List.toList_toArray] at D4
            have h8p := hset_u h8 k (x - m)
            have HO5 := Lib.hid (own_alloc ho4 (.cells (bkc s p (u.set k (x - m)) (.slice va2 n vc2)).toArray 25))
            clear ho4
            clear B3' C3 hb4 HB3 B2 HB
            go_wp2_with (first
              | ((with_reducible apply bk_store_new); (· rfl); (· first | rfl | simp); (· rfl); (· rfl); (· (first | assumption | (apply hset_u; assumption) | (apply hset_s; assumption) | (apply hset_p; assumption))); (simp only [Act.put, List.setIfInBounds_toArray, List.set_cons_zero, List.set_cons_succ]))
              | ((with_reducible apply bk_load); (· rfl); (· assumption); (· (first | assumption | (apply hset_u; assumption) | (apply hset_s; assumption) | (apply hset_p; assumption))); (simp only [Act.put, List.setIfInBounds_toArray, List.set_cons_zero, List.set_cons_succ])))
            generalize hg4 : w4.heap.size = g4 at *
            generalize w4.alloc (.cells (bkc s p (u.set k (x - m)) (.slice va2 n vc2)).toArray 25) = W4 at *
            have T1 := Lib.hid (fun W => total_any s p u (.slice a n c) W h8)
            have T3 := Lib.hid (fun W => total_any s p (u.set k (x - m)) (.slice va2 n vc2) W h8p)
            rw [tot_set_sub u k x m (by rw [h8.out.u8]; exact hk) hx] at T3
            clear hx
            generalize tot u = y at *
            go_wp2_with (first | ((with_reducible apply bk_load); (· rfl); (· assumption); (· (first | assumption | (apply hset_u; assumption) | (apply hset_s; assumption) | (apply hset_p; assumption))); (simp only [Act.put, List.setIfInBounds_toArray, List.set_cons_zero, List.set_cons_succ])) | ((with_reducible apply bk_load_g); (· rfl); (· rfl); (· assumption); (· (first | assumption | (apply hset_u; assumption) | (apply hset_s; assumption) | (apply hset_p; assumption))); (simp only [Act.put, List.setIfInBounds_toArray, List.set_cons_zero, List.set_cons_succ])))
            refine (T1.out _).mono ?_
            rintro e w5 ⟨rfl, hb5⟩
            have C5 := C4.keep hb5 C4.lt
            have D5 := D4.keep hb5 D4.lt
            have HB5 := Lib.hid (HB4.out.trans (hb5.mono HB4.out.size))
            clear C4 D4 hb5 HB4 T1
            go_wp2_with (first | ((with_reducible apply bk_load); (· rfl); (· assumption); (· (first | assumption | (apply hset_u; assumption) | (apply hset_s; assumption) | (apply hset_p; assumption))); (simp only [Act.put, List.setIfInBounds_toArray, List.set_cons_zero, List.set_cons_succ])) | ((with_reducible apply bk_load_g); (· rfl); (· rfl); (· assumption); (· (first | assumption | (apply hset_u; assumption) | (apply hset_s; assumption) | (apply hset_p; assumption))); (simp only [Act.put, List.setIfInBounds_toArray, List.set_cons_zero, List.set_cons_succ])))
            refine (T3.out _).mono ?_
            rintro e w7 ⟨rfl, hb7⟩
            have HB5' := Lib.hid (HB5.out.trans (hb7.mono HB5.out.size))
            clear hb7 HB5 T3
            have HB5 := HB5'
            clear HB5'
            go_wp2_with fail
            go_ret
            exact ⟨rfl, HB5.out⟩
          · have hp : x < m := by omega
            refine (give_over s p u a n c k m x w1 h8 hk hm0 hm1 hx hfx ho).mono ?_
            rintro e w2 ⟨rfl, hb2⟩
            have hs2 := hb2.size
            have B3 := (B2.keep hb2 hl)
            have HB3 := Lib.hid (below_al (HB.out.trans (hb2.mono HB.out.size)) (Nat.le_trans HB.out.size hs2) (.cells (bkc zero8 zero8 zero8 (.slice none 0 0)).toArray 25))
            have C3 := Blk.new w2 (bkc zero8 zero8 zero8 (.slice none 0 0)).toArray 25
            rw [List.toList_toArray] at C3
            have B3' := B3.alloc (.cells (bkc zero8 zero8 zero8 (.slice none 0 0)).toArray 25)
            have hlB := B3'.lt
            have hlC := C3.lt
            have h8g := Lib.hid L8.zero
            have HS3 := Lib.hid (HS.out.keep HB3.out)
            clear B3 hb2
            go_wp2_with (first
              | ((with_reducible apply bk_store_new); (· rfl); (· first | rfl | simp); (· rfl); (· rfl); (· (first | assumption | (apply hset_u; assumption) | (apply hset_s; assumption) | (apply hset_p; assumption))); (simp only [Act.put, List.setIfInBounds_toArray, List.set_cons_zero, List.set_cons_succ]))
              | ((with_reducible apply bk_load); (· rfl); (· assumption); (· (first | assumption | (apply hset_u; assumption) | (apply hset_s; assumption) | (apply hset_p; assumption))); (simp only [Act.put, List.setIfInBounds_toArray, List.set_cons_zero, List.set_cons_succ])))
            generalize hg3 : w2.heap.size = g3 at *
            generalize w2.alloc (.cells (bkc zero8 zero8 zero8 (.slice none 0 0)).toArray 25) = W3 at *
            refine (pay_short s p u a n c k m x W3 h8 hk hm0 hm1 hx hp).mono ?_
            rintro e w4 ⟨rfl, hb4⟩
            have hs4 := hb4.size
            have HB4 := Lib.hid (below_al (HB3.out.trans (hb4.mono HB3.out.size)) (Nat.le_trans HB3.out.size hs4) (.cells (bkc zero8 zero8 zero8 (.slice none 0 0)).toArray 25))
            have B4 := (B3'.keep hb4 hlB).alloc (.cells (bkc zero8 zero8 zero8 (.slice none 0 0)).toArray 25)
            have C4 := (C3.keep hb4 hlC).alloc (.cells (bkc zero8 zero8 zero8 (.slice none 0 0)).toArray 25)
            have D4 := Blk.new w4 (bkc zero8 zero8 zero8 (.slice none 0 0)).toArray 25
            rw [List.toList_toArray] at D4
            have h8p := Lib.hid L8.zero
            clear B3' C3 hb4 HB3 B2 HB
            go_wp2_with (first
              | ((with_reducible apply bk_store_new); (· rfl); (· first | rfl | simp); (· rfl); (· rfl); (· (first | assumption | (apply hset_u; assumption) | (apply hset_s; assumption) | (apply hset_p; assumption))); (simp only [Act.put, List.setIfInBounds_toArray, List.set_cons_zero, List.set_cons_succ]))
              | ((with_reducible apply bk_load); (· rfl); (· assumption); (· (first | assumption | (apply hset_u; assumption) | (apply hset_s; assumption) | (apply hset_p; assumption))); (simp only [Act.put, List.setIfInBounds_toArray, List.set_cons_zero, List.set_cons_succ])))
            generalize hg4 : w4.heap.size = g4 at *
            generalize w4.alloc (.cells (bkc zero8 zero8 zero8 (.slice none 0 0)).toArray 25) = W4 at *
            have T1 := Lib.hid (fun W => total_any s p u (.slice a n c) W h8)
            clear hx
            generalize tot u = y at *
            go_wp2_with (first | ((with_reducible apply bk_load); (· rfl); (· assumption); (· (first | assumption | (apply hset_u; assumption) | (apply hset_s; assumption) | (apply hset_p; assumption))); (simp only [Act.put, List.setIfInBounds_toArray, List.set_cons_zero, List.set_cons_succ])) | ((with_reducible apply bk_load_g); (· rfl); (· rfl); (· assumption); (· (first | assumption | (apply hset_u; assumption) | (apply hset_s; assumption) | (apply hset_p; assumption))); (simp only [Act.put, List.setIfInBounds_toArray, List.set_cons_zero, List.set_cons_succ])))
            refine (T1.out _).mono ?_
            rintro e w5 ⟨rfl, hb5⟩
            have C5 := C4.keep hb5 C4.lt
            have D5 := D4.keep hb5 D4.lt
            have HB5 := Lib.hid (HB4.out.trans (hb5.mono HB4.out.size))
            clear C4 D4 hb5 HB4 T1
            go_wp2_with fail
            go_ret
            exact ⟨rfl, HB5.out⟩
      · refine (give_bad s p u a n c i m w1 hr).mono ?_
        rintro e w2 ⟨rfl, hb2⟩
        have hs2 := hb2.size
        have B3 := (B2.keep hb2 hl)
        have HB3 := Lib.hid (below_al (HB.out.trans (hb2.mono HB.out.size)) (Nat.le_trans HB.out.size hs2) (.cells (bkc zero8 zero8 zero8 (.slice none 0 0)).toArray 25))
        have C3 := Blk.new w2 (bkc zero8 zero8 zero8 (.slice none 0 0)).toArray 25
        rw [List.toList_toArray] at C3
        have B3' := B3.alloc (.cells (bkc zero8 zero8 zero8 (.slice none 0 0)).toArray 25)
        have hlB := B3'.lt
        have hlC := C3.lt
        have h8g := Lib.hid L8.zero
        have HS3 := Lib.hid (HS.out.keep HB3.out)
        clear B3 hb2
        go_wp2_with (first
          | ((with_reducible apply bk_store_new); (· rfl); (· first | rfl | simp); (· rfl); (· rfl); (· (first | assumption | (apply hset_u; assumption) | (apply hset_s; assumption) | (apply hset_p; assumption))); (simp only [Act.put, List.setIfInBounds_toArray, List.set_cons_zero, List.set_cons_succ]))
          | ((with_reducible apply bk_load); (· rfl); (· assumption); (· (first | assumption | (apply hset_u; assumption) | (apply hset_s; assumption) | (apply hset_p; assumption))); (simp only [Act.put, List.setIfInBounds_toArray, List.set_cons_zero, List.set_cons_succ])))
        generalize hg3 : w2.heap.size = g3 at *
        generalize w2.alloc (.cells (bkc zero8 zero8 zero8 (.slice none 0 0)).toArray 25) = W3 at *
        refine (pay_bad s p u a n c i m W3 hr).mono ?_
        rintro e w4 ⟨rfl, hb4⟩
        have hs4 := hb4.size
        have HB4 := Lib.hid (below_al (HB3.out.trans (hb4.mono HB3.out.size)) (Nat.le_trans HB3.out.size hs4) (.cells (bkc zero8 zero8 zero8 (.slice none 0 0)).toArray 25))
        have B4 := (B3'.keep hb4 hlB).alloc (.cells (bkc zero8 zero8 zero8 (.slice none 0 0)).toArray 25)
        have C4 := (C3.keep hb4 hlC).alloc (.cells (bkc zero8 zero8 zero8 (.slice none 0 0)).toArray 25)
        have D4 := Blk.new w4 (bkc zero8 zero8 zero8 (.slice none 0 0)).toArray 25
        rw [List.toList_toArray] at D4
        have h8p := Lib.hid L8.zero
        clear B3' C3 hb4 HB3 B2 HB
        go_wp2_with (first
          | ((with_reducible apply bk_store_new); (· rfl); (· first | rfl | simp); (· rfl); (· rfl); (· (first | assumption | (apply hset_u; assumption) | (apply hset_s; assumption) | (apply hset_p; assumption))); (simp only [Act.put, List.setIfInBounds_toArray, List.set_cons_zero, List.set_cons_succ]))
          | ((with_reducible apply bk_load); (· rfl); (· assumption); (· (first | assumption | (apply hset_u; assumption) | (apply hset_s; assumption) | (apply hset_p; assumption))); (simp only [Act.put, List.setIfInBounds_toArray, List.set_cons_zero, List.set_cons_succ])))
        generalize hg4 : w4.heap.size = g4 at *
        generalize w4.alloc (.cells (bkc zero8 zero8 zero8 (.slice none 0 0)).toArray 25) = W4 at *
        have T1 := Lib.hid (fun W => total_any s p u (.slice a n c) W h8)
        generalize tot u = y at *
        go_wp2_with (first | ((with_reducible apply bk_load); (· rfl); (· assumption); (· (first | assumption | (apply hset_u; assumption) | (apply hset_s; assumption) | (apply hset_p; assumption))); (simp only [Act.put, List.setIfInBounds_toArray, List.set_cons_zero, List.set_cons_succ])) | ((with_reducible apply bk_load_g); (· rfl); (· rfl); (· assumption); (· (first | assumption | (apply hset_u; assumption) | (apply hset_s; assumption) | (apply hset_p; assumption))); (simp only [Act.put, List.setIfInBounds_toArray, List.set_cons_zero, List.set_cons_succ])))
        refine (T1.out _).mono ?_
        rintro e w5 ⟨rfl, hb5⟩
        have C5 := C4.keep hb5 C4.lt
        have D5 := D4.keep hb5 D4.lt
        have HB5 := Lib.hid (HB4.out.trans (hb5.mono HB4.out.size))
        clear C4 D4 hb5 HB4 T1
        go_wp2_with fail
        go_ret
        exact ⟨rfl, HB5.out⟩
end Go.Proofs.Ytdphejjiiogikaa
