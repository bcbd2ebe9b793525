/- The laws of shelf. -/
import Derived.Test.YtdphejjiiogikaaLaw14c
import Derived.Test.YtdphejjiiogikaaShelf
namespace Go.Proofs.Ytdphejjiiogikaa
set_option linter.unusedVariables false
set_option linter.unusedSimpArgs false
open Go.ChangeShapes Go.WideShapes Go.ChangeAt Go.RowKit
theorem item_yes (i : Int) (w : World) (h0 : 0 ≤ i) (h1 : i < 8) : Calls Try.prog 15 #[.int .i64 i] w fun e w' => e = .returned (.bool true) ∧ w = w' := by
  go_enter Try.func15, Try.ntmps15
  go_wp2
  go_ret
  exact ⟨rfl, rfl⟩
theorem item_no (i : Int) (w : World) (h : i < 0 ∨ 7 < i) : Calls Try.prog 15 #[.int .i64 i] w fun e w' => e = .returned (.bool false) ∧ w = w' := by
  by_cases h0 : 0 ≤ i
  · have h1 : ¬ i < 8 := by omega
    clear h
    go_enter Try.func15, Try.ntmps15
    go_wp2
    go_ret
    exact ⟨rfl, rfl⟩
  · clear h
    go_enter Try.func15, Try.ntmps15
    go_wp2
    go_ret
    exact ⟨rfl, rfl⟩
theorem fine_yes (i m : Int) (w : World) (h0 : 0 ≤ i) (h1 : i < 8) (h2 : 0 ≤ m) (h3 : m ≤ 1099511627776) : Calls Try.prog 12 #[.int .i64 i, .int .i64 m] w fun e w' => e = .returned (.bool true) ∧ w = w' := by
  go_enter Try.func12, Try.ntmps12
  go_wp2
  go_ret
  exact ⟨rfl, rfl⟩
theorem fine_no (i m : Int) (w : World) (h : ¬ (0 ≤ i ∧ i < 8 ∧ 0 ≤ m ∧ m ≤ 1099511627776)) : Calls Try.prog 12 #[.int .i64 i, .int .i64 m] w fun e w' => e = .returned (.bool false) ∧ w = w' := by
  by_cases h0 : 0 ≤ i
  · by_cases h1 : i < 8
    · by_cases h2 : 0 ≤ m
      · have h3 : ¬ m ≤ 1099511627776 := by omega
        clear h
        go_enter Try.func12, Try.ntmps12
        go_wp2
        go_ret
        exact ⟨rfl, rfl⟩
      · clear h
        go_enter Try.func12, Try.ntmps12
        go_wp2
        go_ret
        exact ⟨rfl, rfl⟩
    · clear h
      go_enter Try.func12, Try.ntmps12
      go_wp2
      go_ret
      exact ⟨rfl, rfl⟩
  · clear h
    go_enter Try.func12, Try.ntmps12
    go_wp2
    go_ret
    exact ⟨rfl, rfl⟩
theorem has_bad (s p u : List Int) (a : Option Addr) (n c : Nat) (i m : Int) (h : ¬ (0 ≤ i ∧ i < 8 ∧ 0 ≤ m ∧ m ≤ 1099511627776)) (w : World) (h8 : Hid (L8 s p u)) :
    Calls Try.prog 14 #[.agg (bkc s p u (.slice a n c)).toArray, .int .i64 i, .int .i64 m] w fun e w' => e = .returned (.bool false) ∧ Below w.heap.size w w' := by
  have B1 := Blk.new w (bkc s p u (.slice a n c)).toArray 25
  rw [List.toList_toArray] at B1
  have hb1 := (Below.refl w.heap.size w).alloc (Nat.le_refl _) (.cells (bkc s p u (.slice a n c)).toArray 25)
  have hz := Lib.hid L8.zero
  have G := Lib.hid (fun (W : World) (hS : Below w.heap.size w W) => take_bad_ s p u a n c i m W h)
  go_enter Try.func14, Try.ntmps14
  go_wp2_with ((with_reducible apply bk_load); (· rfl); (· (first | assumption | (apply Blk.alloc; assumption))); (· (first | assumption | (apply hset_u; assumption) | (apply hset_s; assumption) | (apply hset_p; assumption))); (simp only [Act.put, List.setIfInBounds_toArray, List.set_cons_zero, List.set_cons_succ]))
  refine (G.out _ hb1).mono ?_
  rintro e w2 ⟨rfl, hb⟩
  have HB := Lib.hid ((hb1.trans (hb.mono (by simp))).alloc (by have := hb.size; simp at this; omega) (.cells (bkc zero8 zero8 zero8 (.slice none 0 0)).toArray 25))
  skip
  clear hb hb1 B1 G
  go_wp2_with ((with_reducible apply bk_store_new); (· rfl); (· first | rfl | simp); (· rfl); (· rfl); (· (first | assumption | (apply hset_u; assumption) | (apply hset_s; assumption) | (apply hset_p; assumption))); (simp only [Act.put, List.setIfInBounds_toArray, List.set_cons_zero, List.set_cons_succ]))
  go_ret
  exact ⟨rfl, HB.out⟩
theorem has_short (s p u : List Int) (a : Option Addr) (n c : Nat) (k : Nat) (m x : Int) (hk : k < 8) (hm0 : 0 ≤ m) (hm1 : m ≤ 1099511627776) (hu : s.getD k 0 = x) (hs : x < m) (w : World) (h8 : Hid (L8 s p u)) :
    Calls Try.prog 14 #[.agg (bkc s p u (.slice a n c)).toArray, .int .i64 k, .int .i64 m] w fun e w' => e = .returned (.bool false) ∧ Below w.heap.size w w' := by
  have B1 := Blk.new w (bkc s p u (.slice a n c)).toArray 25
  rw [List.toList_toArray] at B1
  have hb1 := (Below.refl w.heap.size w).alloc (Nat.le_refl _) (.cells (bkc s p u (.slice a n c)).toArray 25)
  have hz := Lib.hid L8.zero
  have G := Lib.hid (fun (W : World) (hS : Below w.heap.size w W) => take_short s p u a n c k m x W h8 hk hm0 hm1 hu hs)
  go_enter Try.func14, Try.ntmps14
  go_wp2_with ((with_reducible apply bk_load); (· rfl); (· (first | assumption | (apply Blk.alloc; assumption))); (· (first | assumption | (apply hset_u; assumption) | (apply hset_s; assumption) | (apply hset_p; assumption))); (simp only [Act.put, List.setIfInBounds_toArray, List.set_cons_zero, List.set_cons_succ]))
  refine (G.out _ hb1).mono ?_
  rintro e w2 ⟨rfl, hb⟩
  have HB := Lib.hid ((hb1.trans (hb.mono (by simp))).alloc (by have := hb.size; simp at this; omega) (.cells (bkc zero8 zero8 zero8 (.slice none 0 0)).toArray 25))
  skip
  clear hb hb1 B1 G
  go_wp2_with ((with_reducible apply bk_store_new); (· rfl); (· first | rfl | simp); (· rfl); (· rfl); (· (first | assumption | (apply hset_u; assumption) | (apply hset_s; assumption) | (apply hset_p; assumption))); (simp only [Act.put, List.setIfInBounds_toArray, List.set_cons_zero, List.set_cons_succ]))
  go_ret
  exact ⟨rfl, HB.out⟩
theorem has_ok (s p u : List Int) (a : Option Addr) (n c : Nat) (k : Nat) (xs : List Value) (m x : Int) (hk : k < 8) (hm0 : 0 ≤ m) (hm1 : m ≤ 1099511627776) (hu : s.getD k 0 = x) (hx : fits x = true) (hp : m ≤ x) (hn : n * 56 ≤ 140737488355328) (HO : Hid (∀ u ∈ xs, u.oneCell' = true)) (w : World) (h8 : Hid (L8 s p u)) (HS : Hid (Sl w a n 7 xs)) :
    Calls Try.prog 14 #[.agg (bkc s p u (.slice a n c)).toArray, .int .i64 k, .int .i64 m] w fun e w' => e = .returned (.bool true) ∧ Below w.heap.size w w' := by
  have B1 := Blk.new w (bkc s p u (.slice a n c)).toArray 25
  rw [List.toList_toArray] at B1
  have hb1 := (Below.refl w.heap.size w).alloc (Nat.le_refl _) (.cells (bkc s p u (.slice a n c)).toArray 25)
  have hz := Lib.hid L8.zero
  have G := Lib.hid (fun (W : World) (hS : Below w.heap.size w W) => take_ok_ s p u a n c k xs m x W h8 (HS.out.keep hS) HO.out hn hk hm0 hm1 hu hx hp)
  go_enter Try.func14, Try.ntmps14
  go_wp2_with ((with_reducible apply bk_load); (· rfl); (· (first | assumption | (apply Blk.alloc; assumption))); (· (first | assumption | (apply hset_u; assumption) | (apply hset_s; assumption) | (apply hset_p; assumption))); (simp only [Act.put, List.setIfInBounds_toArray, List.set_cons_zero, List.set_cons_succ]))
  refine (G.out _ hb1).mono ?_
  rintro e w2 ⟨va, vc, rfl, _, hb⟩
  have HB := Lib.hid ((hb1.trans (hb.mono (by simp))).alloc (by have := hb.size; simp at this; omega) (.cells (bkc (s.set k (x - m)) p u (.slice va n vc)).toArray 25))
  have h8g := hset_s h8 k (x - m)
  clear hb hb1 B1 G
  go_wp2_with ((with_reducible apply bk_store_new); (· rfl); (· first | rfl | simp); (· rfl); (· rfl); (· (first | assumption | (apply hset_u; assumption) | (apply hset_s; assumption) | (apply hset_p; assumption))); (simp only [Act.put, List.setIfInBounds_toArray, List.set_cons_zero, List.set_cons_succ]))
  go_ret
  exact ⟨rfl, HB.out⟩
def s13 : List Int := zero8.set 2 5
def p13 : List Int := zero8.set 2 3
set_option maxHeartbeats 1000000 in
theorem alive13 (w : World) : Calls Try.prog 9 #[] w fun e w' => e = .returned (.bool true) ∧ Below w.heap.size w w' := by
  have hz8 := Lib.hid L8.zero
  have G := Lib.hid (add_ok zero8 zero8 zero8 none 0 0 2 [] 5 0 w hz8 (sl_zero _ _) (fun _ h => by cases h) (by decide) (by decide) (by decide) (by decide) rfl rfl (by decide))
  rw [zero_cells, show (((2 : Nat) : Int)) = 2 from rfl, show zero8.set 2 (0 + 5) = s13 from rfl] at G
  go_enter Try.func9, Try.ntmps9
  go_wp2_with fail
  refine G.out.mono ?_
  rintro e w2 ⟨va, vc, rfl, ho, hb⟩
  have hs2 := hb.size
  have HB2 := Lib.hid (below_al hb hs2 (.cells (bkc s13 zero8 zero8 (.slice va 0 vc)).toArray 25))
  have B2 := Blk.new w2 (bkc s13 zero8 zero8 (.slice va 0 vc)).toArray 25
  rw [List.toList_toArray] at B2
  have h81 : Hid (L8 s13 zero8 zero8) := Lib.hid ⟨rfl, rfl, rfl⟩
  clear ho hb G
  have P1 := Lib.hid (fun W => take_short s13 zero8 zero8 va 0 vc 2 6 5 W h81 (by decide) (by decide) (by decide) rfl (by decide))
  rw [show (((2 : Nat) : Int)) = 2 from rfl] at P1
  have hl2 := B2.lt
  go_wp2_with (first
    | ((with_reducible apply bk_store_new); (· rfl); (· first | rfl | simp); (· rfl); (· rfl); (· (first | assumption | (apply hset_u; assumption) | (apply hset_s; assumption) | (apply hset_p; assumption))); (simp only [Act.put, List.setIfInBounds_toArray, List.set_cons_zero, List.set_cons_succ]))
    | ((with_reducible apply bk_load); (· rfl); (· (first | assumption | (apply Blk.alloc; assumption))); (· (first | assumption | (apply hset_u; assumption) | (apply hset_s; assumption) | (apply hset_p; assumption))); (simp only [Act.put, List.setIfInBounds_toArray, List.set_cons_zero, List.set_cons_succ])))
  generalize hg : w2.heap.size = g at *
  generalize w2.alloc (.cells (bkc s13 zero8 zero8 (.slice va 0 vc)).toArray 25) = W2 at *
  refine (P1.out W2).mono ?_
  rintro e w3 ⟨rfl, hb3⟩
  have hs3 := hb3.size
  have B3 := (B2.keep hb3 hl2)
  have HB3 := Lib.hid (below_al (HB2.out.trans (hb3.mono HB2.out.size)) (Nat.le_trans HB2.out.size hs3) (.cells (bkc zero8 zero8 zero8 (.slice none 0 0)).toArray 25))
  clear B2 HB2 hb3 P1
  have P2 := Lib.hid (fun W => price_ok s13 zero8 zero8 va 0 vc 2 [] 3 W h81 (sl_zero _ _) (fun _ h => by cases h) (by decide) (by decide) (by decide) (by decide))
  rw [show (((2 : Nat) : Int)) = 2 from rfl, show zero8.set 2 3 = p13 from rfl] at P2
  have B3' := B3.alloc (.cells (bkc zero8 zero8 zero8 (.slice none 0 0)).toArray 25)
  go_wp2_with (first
    | ((with_reducible apply bk_store_new); (· rfl); (· first | rfl | simp); (· rfl); (· rfl); (· (first | assumption | (apply hset_u; assumption) | (apply hset_s; assumption) | (apply hset_p; assumption))); (simp only [Act.put, List.setIfInBounds_toArray, List.set_cons_zero, List.set_cons_succ]))
    | ((with_reducible apply bk_load); (· rfl); (· (first | assumption | (apply Blk.alloc; assumption))); (· (first | assumption | (apply hset_u; assumption) | (apply hset_s; assumption) | (apply hset_p; assumption))); (simp only [Act.put, List.setIfInBounds_toArray, List.set_cons_zero, List.set_cons_succ])))
  have hl3' := B3'.lt
  clear B3
  generalize w3.alloc (.cells (bkc zero8 zero8 zero8 (.slice none 0 0)).toArray 25) = W3 at *
  refine (P2.out W3).mono ?_
  rintro e w4 ⟨va2, vc2, rfl, ho4, hb4⟩
  have hs4 := hb4.size
  have B4 := (B3'.keep hb4 hl3').alloc (.cells (bkc s13 p13 zero8 (.slice va2 0 vc2)).toArray 25)
  have h82 : Hid (L8 s13 p13 zero8) := Lib.hid ⟨rfl, rfl, rfl⟩
  have C4 := Blk.new w4 (bkc s13 p13 zero8 (.slice va2 0 vc2)).toArray 25
  rw [List.toList_toArray] at C4
  have HB4 := Lib.hid (below_al (HB3.out.trans (hb4.mono HB3.out.size)) (Nat.le_trans HB3.out.size hs4) (.cells (bkc s13 p13 zero8 (.slice va2 0 vc2)).toArray 25))
  clear ho4 hb4 P2 B3' HB3
  have TT := Lib.hid (fun W => cost_ok s13 p13 zero8 (.slice va2 0 vc2) 2 4 3 12 W h82 (by decide) (by decide) (by decide) rfl rfl rfl rfl (by decide))
  rw [show (((2 : Nat) : Int)) = 2 from rfl] at TT
  go_wp2_with (first
    | ((with_reducible apply bk_store_new); (· rfl); (· first | rfl | simp); (· rfl); (· rfl); (· (first | assumption | (apply hset_u; assumption) | (apply hset_s; assumption) | (apply hset_p; assumption))); (simp only [Act.put, List.setIfInBounds_toArray, List.set_cons_zero, List.set_cons_succ]))
    | ((with_reducible apply bk_load); (· rfl); (· (first | assumption | (apply Blk.alloc; assumption))); (· (first | assumption | (apply hset_u; assumption) | (apply hset_s; assumption) | (apply hset_p; assumption))); (simp only [Act.put, List.setIfInBounds_toArray, List.set_cons_zero, List.set_cons_succ])))
  refine (TT.out _).mono ?_
  rintro e w5 ⟨rfl, hb5⟩
  have HB5 := Lib.hid (HB4.out.trans (hb5.mono HB4.out.size))
  have c2 : w5.cell? ⟨g, 2, none⟩ = some (.int .i64 5) := by
    rw [(B4.keep hb5 B4.lt).cell, bkc_s h81.out _ (by decide)]; rfl
  clear hb5 TT B4 C4
  go_wp2
  go_ret
  exact ⟨rfl, HB5.out⟩
end Go.Proofs.Ytdphejjiiogikaa
