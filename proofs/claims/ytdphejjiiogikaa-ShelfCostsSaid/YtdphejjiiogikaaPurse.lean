/- The contracts of purse. -/
import Derived.Test.YtdphejjiiogikaaBook
import Derived.Test.YtdphejjiiogikaaNum
import Derived.IntWalk
namespace Go.Proofs.Ytdphejjiiogikaa
set_option linter.unusedVariables false
set_option linter.unusedSimpArgs false
open Go.ChangeShapes Go.WideShapes Go.ChangeAt Go.RowKit
set_option maxHeartbeats 400000 in
theorem pwith_any (s p u : List Int) (a : Option Addr) (n c k : Nat) (xs : List Value) (m : Int) (w : World) (h8 : Hid (L8 s p u)) (h : Sl w a n 7 xs) (hone : ∀ u ∈ xs, u.oneCell' = true) (hn : n * 56 ≤ 140737488355328) (hk : k < 8) :
    Calls Try.prog 29 #[.agg (bkc s p u (.slice a n c)).toArray, .int .i64 k, .int .i64 m] w fun e w' => ∃ va vc, e = .returned (.agg (bkc s p (u.set k m) (.slice va n vc)).toArray) ∧ w'.ownsRow w.heap.size 44 7 (.slice va n vc) n xs ∧ Below w.heap.size w w' := by
  have H := Lib.hid h
  have HO := Lib.hid hone
  clear h hone
  have c24 := bkc_o h8.out (.slice a n c)
  go_enter Try.func29, Try.ntmps29
  go_wp2_with fail
  have hb1 := (Below.refl w.heap.size w).alloc (Nat.le_refl _) (.cells (bkc s p u (.slice a n c)).toArray 25)
  have B1 := Blk.new w (bkc s p u (.slice a n c)).toArray 25
  rw [List.toList_toArray] at B1
  refine (clone_orders a n c xs _ (H.out.keep (hb1.alloc (by simp) _)) HO.out hn).mono ?_
  rintro e w2 ⟨v, rfl, ho, hb, _⟩
  have hb2 := Below.trans (hb1.alloc (by simp) _) (hb.mono (by simp; omega))
  have B2 := (B1.alloc _).keep hb (by simp; omega)
  have C2 := (Blk.new _ _ _).keep hb (by simp)
  rw [show (w.alloc (.cells (bkc s p u (.slice a n c)).toArray 25)).heap.size = w.heap.size + 1 by simp] at C2
  have hsz := hb.size
  have hz2 : w.heap.size + 2 ≤ w2.heap.size := by simpa using hsz
  have ho2 := own_base ho (show w.heap.size + 2 ≤ _ by simp)
  obtain ⟨va, vc, rfl, _⟩ := Sl.own ho2
  have c1 := (B2.cell 24).trans c24
  have f1 := B2.froz 24
  have B3 := B2.set 24 (.slice va n vc)
  rw [bkc_set_o h8.out] at B3
  have c2 := (B3.cell (16 + k)).trans (bkc_u h8.out _ hk)
  have f2 := B3.froz (16 + k)
  have B4 := B3.set (16 + k) (.int .i64 m)
  rw [bkc_set_u h8.out _ hk] at B4
  have C4 := (C2.set_other (g' := w.heap.size) (by omega) 24 (.slice va n vc)).set_other (g' := w.heap.size) (by omega) (16 + k) (.int .i64 m)
  have C5 := C4.setAll (bkc s p (u.set k m) (.slice va n vc)) (by rw [bkc_len (hset_u h8 k m).out]; rfl)
  have hk0 : (0 : Int) ≤ k := by omega
  have hk8 : (k : Int) < 8 := by omega
  have HR := Lib.hid C5
  have Z5 := Lib.hid (show (Try.prog.info? 25).map (·.size) = some (bkc s p (u.set k m) (.slice va n vc)).toArray.size by rw [size_book, bkc_size (hset_u h8 k m).out])
  have HO5 := Lib.hid (own_base (own_sets (g := w.heap.size + 1) (by omega) (bkc s p (u.set k m) (.slice va n vc)) 0 (own_set (own_set ho2 (g := w.heap.size) (by omega) 24 (.slice va n vc)) (g := w.heap.size) (by omega) (16 + k) (.int .i64 m))) (show w.heap.size ≤ _ by omega))
  have HB5 := Lib.hid (below_sets (B := w.heap.size) (g := w.heap.size + 1) (by omega) (bkc s p (u.set k m) (.slice va n vc)) 0 _ (below_set (below_set hb2 (Nat.le_refl _) 24 (.slice va n vc)) (Nat.le_refl _) (16 + k) (.int .i64 m)))
  clear C5 B3 ho ho2 hb hb2 B1 hb1 hsz B2 C2 c24 H HO
  go_wp2_with (first
    | ((with_reducible apply bk_load); (· rfl); (· (first | assumption | (apply Blk.alloc; assumption) | (apply Blk.alloc; apply Blk.alloc; assumption) | (apply Blk.alloc; apply Blk.alloc; apply Blk.alloc; assumption))); (· (first | assumption | (apply hset_u; assumption) | (apply hset_s; assumption) | (apply hset_p; assumption))); (simp only [Act.put, List.setIfInBounds_toArray, List.set_cons_zero, List.set_cons_succ]))
    | ((with_reducible apply bk_store); (· rfl); (· rfl); (· (first | assumption | (apply Blk.alloc; assumption) | (apply Blk.alloc; apply Blk.alloc; assumption) | (apply Blk.alloc; apply Blk.alloc; apply Blk.alloc; assumption))); (· rfl); (· (first | assumption | (apply hset_u; assumption) | (apply hset_s; assumption) | (apply hset_p; assumption))); (simp only [Act.put, List.setIfInBounds_toArray, List.set_cons_zero, List.set_cons_succ])))
  exact bodyPost_ret (v := .agg (bkc s p (u.set k m) (.slice va n vc)).toArray) (results_cell_row (p := 6) (ty := 25) rfl _ _ (w.heap.size + 1) _ _ _ _ rfl HR.out Try.underlying25 rfl Z5.out) rfl ⟨_, _, rfl, HO5.out, HB5.out⟩
theorem pmay_yes (i m : Int) (w : World) (h0 : 0 ≤ i) (h1 : i < 8) (h2 : 0 ≤ m) (h3 : m ≤ 1099511627776) : Calls Try.prog 28 #[.int .i64 i, .int .i64 m] w fun e w' => e = .returned (.bool true) ∧ w = w' := by
  go_enter Try.func28, Try.ntmps28
  go_wp2
  go_ret
  exact ⟨rfl, rfl⟩
theorem pmay_no (i m : Int) (w : World) (h : ¬ (0 ≤ i ∧ i < 8 ∧ 0 ≤ m ∧ m ≤ 1099511627776)) : Calls Try.prog 28 #[.int .i64 i, .int .i64 m] w fun e w' => e = .returned (.bool false) ∧ w = w' := by
  by_cases h0 : 0 ≤ i
  · by_cases h1 : i < 8
    · by_cases h2 : 0 ≤ m
      · have h3 : ¬ m ≤ 1099511627776 := by omega
        clear h
        go_enter Try.func28, Try.ntmps28
        go_wp2
        go_ret
        exact ⟨rfl, rfl⟩
      · clear h
        go_enter Try.func28, Try.ntmps28
        go_wp2
        go_ret
        exact ⟨rfl, rfl⟩
    · clear h
      go_enter Try.func28, Try.ntmps28
      go_wp2
      go_ret
      exact ⟨rfl, rfl⟩
  · clear h
    go_enter Try.func28, Try.ntmps28
    go_wp2
    go_ret
    exact ⟨rfl, rfl⟩
set_option maxHeartbeats 400000 in
theorem give_bad (s p u : List Int) (a : Option Addr) (n c : Nat) (i m : Int) (w : World) (h : ¬ (0 ≤ i ∧ i < 8 ∧ 0 ≤ m ∧ m ≤ 1099511627776)) :
    Calls Try.prog 19 #[.agg (bkc s p u (.slice a n c)).toArray, .int .i64 i, .int .i64 m] w fun e w' => e = .returned (.tuple #[.agg (bkc zero8 zero8 zero8 (.slice none 0 0)).toArray, .int .i64 4]) ∧ Below w.heap.size w w' := by
  have hM := Lib.hid (fun w' => pmay_no i m w' h)
  go_enter Try.func19, Try.ntmps19
  go_wp2_with (first
    | (go_at_call 28; refine (hM.out _).mono ?_; rintro e w' ⟨rfl, rfl⟩)
    | ((with_reducible apply bk_store_zero); (· rfl); (· first | rfl | simp); (· rfl); (· rfl); (simp only [Act.put, List.setIfInBounds_toArray, List.set_cons_zero, List.set_cons_succ])))
  have B2 := Blk.new (w.alloc (.cells (bkc s p u (.slice a n c)).toArray 25)) (bkc zero8 zero8 zero8 (.slice none 0 0)).toArray 25
  rw [List.toList_toArray, show (w.alloc (.cells (bkc s p u (.slice a n c)).toArray 25)).heap.size = w.heap.size + 1 by simp] at B2
  exact ret_cell_tmp (p := 6) (q := 7) rfl rfl rfl B2 Try.underlying25 rfl (by rw [size_book, bkc_len L8.zero]) rfl ⟨rfl, ((Below.refl _ _).alloc (Nat.le_refl _) _).alloc (by simp) _⟩
set_option maxHeartbeats 400000 in
theorem pay_bad (s p u : List Int) (a : Option Addr) (n c : Nat) (i m : Int) (w : World) (h : ¬ (0 ≤ i ∧ i < 8 ∧ 0 ≤ m ∧ m ≤ 1099511627776)) :
    Calls Try.prog 20 #[.agg (bkc s p u (.slice a n c)).toArray, .int .i64 i, .int .i64 m] w fun e w' => e = .returned (.tuple #[.agg (bkc zero8 zero8 zero8 (.slice none 0 0)).toArray, .int .i64 4]) ∧ Below w.heap.size w w' := by
  have hM := Lib.hid (fun w' => pmay_no i m w' h)
  go_enter Try.func20, Try.ntmps20
  go_wp2_with (first
    | (go_at_call 28; refine (hM.out _).mono ?_; rintro e w' ⟨rfl, rfl⟩)
    | ((with_reducible apply bk_store_zero); (· rfl); (· first | rfl | simp); (· rfl); (· rfl); (simp only [Act.put, List.setIfInBounds_toArray, List.set_cons_zero, List.set_cons_succ])))
  have B2 := Blk.new (w.alloc (.cells (bkc s p u (.slice a n c)).toArray 25)) (bkc zero8 zero8 zero8 (.slice none 0 0)).toArray 25
  rw [List.toList_toArray, show (w.alloc (.cells (bkc s p u (.slice a n c)).toArray 25)).heap.size = w.heap.size + 1 by simp] at B2
  exact ret_cell_tmp (p := 6) (q := 7) rfl rfl rfl B2 Try.underlying25 rfl (by rw [size_book, bkc_len L8.zero]) rfl ⟨rfl, ((Below.refl _ _).alloc (Nat.le_refl _) _).alloc (by simp) _⟩
set_option maxHeartbeats 400000 in
theorem give_over1 (s p u : List Int) (a : Option Addr) (n c k : Nat) (m x : Int) (w : World) (h8 : Hid (L8 s p u)) (hk : k < 8) (hm0 : 0 ≤ m) (hm1 : m ≤ 1099511627776) (hu : u.getD k 0 = x) (hx : fits x = true) (hf : fits (x + m) = true) (ho : 1099511627776 < x + m) :
    Calls Try.prog 19 #[.agg (bkc s p u (.slice a n c)).toArray, .int .i64 k, .int .i64 m] w fun e w' => e = .returned (.tuple #[.agg (bkc zero8 zero8 zero8 (.slice none 0 0)).toArray, .int .i64 7]) ∧ Below w.heap.size w w' := by
  have cu := bkc_u h8.out (.slice a n c) hk
  rw [hu] at cu
  clear hu
  have hk0 : (0 : Int) ≤ k := by omega
  have hk8 : (k : Int) < 8 := by omega
  have hM := Lib.hid (fun w' => pmay_yes k m w' hk0 hk8 hm0 hm1)
  have hA := Lib.hid (fun w' => add_yes x m w' hx (by rw [fits_iff]; omega) hf)
  clear hx hf
  go_enter Try.func19, Try.ntmps19
  go_wp2_with (first
    | (go_at_call 28; refine (hM.out _).mono ?_; rintro e w' ⟨rfl, rfl⟩)
    | (go_at_call 24; refine (hA.out _).mono ?_; rintro e w' ⟨rfl, rfl⟩)
    | ((with_reducible apply bk_store_zero); (· rfl); (· first | rfl | simp); (· rfl); (· rfl); (simp only [Act.put, List.setIfInBounds_toArray, List.set_cons_zero, List.set_cons_succ])))
  have B2 := Blk.new (w.alloc (.cells (bkc s p u (.slice a n c)).toArray 25)) (bkc zero8 zero8 zero8 (.slice none 0 0)).toArray 25
  rw [List.toList_toArray, show (w.alloc (.cells (bkc s p u (.slice a n c)).toArray 25)).heap.size = w.heap.size + 1 by simp] at B2
  exact ret_cell_tmp (p := 6) (q := 7) rfl rfl rfl B2 Try.underlying25 rfl (by rw [size_book, bkc_len L8.zero]) rfl ⟨rfl, ((Below.refl _ _).alloc (Nat.le_refl _) _).alloc (by simp) _⟩
set_option maxHeartbeats 400000 in
theorem give_over2 (s p u : List Int) (a : Option Addr) (n c k : Nat) (m x : Int) (w : World) (h8 : Hid (L8 s p u)) (hk : k < 8) (hm0 : 0 ≤ m) (hm1 : m ≤ 1099511627776) (hu : u.getD k 0 = x) (hx : fits x = true) (hf : fits (x + m) = false) :
    Calls Try.prog 19 #[.agg (bkc s p u (.slice a n c)).toArray, .int .i64 k, .int .i64 m] w fun e w' => e = .returned (.tuple #[.agg (bkc zero8 zero8 zero8 (.slice none 0 0)).toArray, .int .i64 7]) ∧ Below w.heap.size w w' := by
  have cu := bkc_u h8.out (.slice a n c) hk
  rw [hu] at cu
  clear hu
  have hk0 : (0 : Int) ≤ k := by omega
  have hk8 : (k : Int) < 8 := by omega
  have hM := Lib.hid (fun w' => pmay_yes k m w' hk0 hk8 hm0 hm1)
  have hA := Lib.hid (fun w' => add_no x m w' hx (by rw [fits_iff]; omega) hf)
  clear hx hf
  go_enter Try.func19, Try.ntmps19
  go_wp2_with (first
    | (go_at_call 28; refine (hM.out _).mono ?_; rintro e w' ⟨rfl, rfl⟩)
    | (go_at_call 24; refine (hA.out _).mono ?_; rintro e w' ⟨rfl, rfl⟩)
    | ((with_reducible apply bk_store_zero); (· rfl); (· first | rfl | simp); (· rfl); (· rfl); (simp only [Act.put, List.setIfInBounds_toArray, List.set_cons_zero, List.set_cons_succ])))
  have B2 := Blk.new (w.alloc (.cells (bkc s p u (.slice a n c)).toArray 25)) (bkc zero8 zero8 zero8 (.slice none 0 0)).toArray 25
  rw [List.toList_toArray, show (w.alloc (.cells (bkc s p u (.slice a n c)).toArray 25)).heap.size = w.heap.size + 1 by simp] at B2
  exact ret_cell_tmp (p := 6) (q := 7) rfl rfl rfl B2 Try.underlying25 rfl (by rw [size_book, bkc_len L8.zero]) rfl ⟨rfl, ((Below.refl _ _).alloc (Nat.le_refl _) _).alloc (by simp) _⟩
set_option maxHeartbeats 400000 in
theorem pay_short (s p u : List Int) (a : Option Addr) (n c k : Nat) (m x : Int) (w : World) (h8 : Hid (L8 s p u)) (hk : k < 8) (hm0 : 0 ≤ m) (hm1 : m ≤ 1099511627776) (hu : u.getD k 0 = x) (hs : x < m) :
    Calls Try.prog 20 #[.agg (bkc s p u (.slice a n c)).toArray, .int .i64 k, .int .i64 m] w fun e w' => e = .returned (.tuple #[.agg (bkc zero8 zero8 zero8 (.slice none 0 0)).toArray, .int .i64 11]) ∧ Below w.heap.size w w' := by
  have cu := bkc_u h8.out (.slice a n c) hk
  rw [hu] at cu
  clear hu
  have hk0 : (0 : Int) ≤ k := by omega
  have hk8 : (k : Int) < 8 := by omega
  have hM := Lib.hid (fun w' => pmay_yes k m w' hk0 hk8 hm0 hm1)
  go_enter Try.func20, Try.ntmps20
  go_wp2_with (first
    | (go_at_call 28; refine (hM.out _).mono ?_; rintro e w' ⟨rfl, rfl⟩)
    | ((with_reducible apply bk_store_zero); (· rfl); (· first | rfl | simp); (· rfl); (· rfl); (simp only [Act.put, List.setIfInBounds_toArray, List.set_cons_zero, List.set_cons_succ])))
  have B2 := Blk.new (w.alloc (.cells (bkc s p u (.slice a n c)).toArray 25)) (bkc zero8 zero8 zero8 (.slice none 0 0)).toArray 25
  rw [List.toList_toArray, show (w.alloc (.cells (bkc s p u (.slice a n c)).toArray 25)).heap.size = w.heap.size + 1 by simp] at B2
  exact ret_cell_tmp (p := 6) (q := 7) rfl rfl rfl B2 Try.underlying25 rfl (by rw [size_book, bkc_len L8.zero]) rfl ⟨rfl, ((Below.refl _ _).alloc (Nat.le_refl _) _).alloc (by simp) _⟩
set_option maxHeartbeats 400000 in
theorem give_ok (s p u : List Int) (a : Option Addr) (n c k : Nat) (xs : List Value) (m x : Int) (w : World) (h8 : Hid (L8 s p u)) (h : Sl w a n 7 xs) (hone : ∀ u ∈ xs, u.oneCell' = true) (hn : n * 56 ≤ 140737488355328) (hk : k < 8) (hm0 : 0 ≤ m) (hm1 : m ≤ 1099511627776) (hu : u.getD k 0 = x) (hx : fits x = true) (ho : x + m ≤ 1099511627776) :
    Calls Try.prog 19 #[.agg (bkc s p u (.slice a n c)).toArray, .int .i64 k, .int .i64 m] w fun e w' => ∃ va vc, e = .returned (.tuple #[.agg (bkc s p (u.set k (x + m)) (.slice va n vc)).toArray, .int .i64 0]) ∧ w'.ownsRow w.heap.size 44 7 (.slice va n vc) n xs ∧ Below w.heap.size w w' := by
  have H := Lib.hid h
  have HO := Lib.hid hone
  clear h hone
  have cu := bkc_u h8.out (.slice a n c) hk
  rw [hu] at cu
  clear hu
  have hk0 : (0 : Int) ≤ k := by omega
  have hk8 : (k : Int) < 8 := by omega
  have hM := Lib.hid (fun w' => pmay_yes k m w' hk0 hk8 hm0 hm1)
  have hA := Lib.hid (fun w' => add_yes x m w' hx (by rw [fits_iff]; omega) (by rw [fits_iff] at *; omega))
  have hbW := ((Below.refl w.heap.size w).alloc (Nat.le_refl _) (.cells (bkc s p u (.slice a n c)).toArray 25)).alloc (by simp) (.cells #[.int .i64 0, .int .i64 0, .int .i64 0, .int .i64 0, .int .i64 0, .int .i64 0, .int .i64 0, .int .i64 0, .int .i64 0, .int .i64 0, .int .i64 0, .int .i64 0, .int .i64 0, .int .i64 0, .int .i64 0, .int .i64 0, .int .i64 0, .int .i64 0, .int .i64 0, .int .i64 0, .int .i64 0, .int .i64 0, .int .i64 0, .int .i64 0, .slice none 0 0] 25)
  have BW := (Blk.new w (bkc s p u (.slice a n c)).toArray 25).alloc (.cells #[.int .i64 0, .int .i64 0, .int .i64 0, .int .i64 0, .int .i64 0, .int .i64 0, .int .i64 0, .int .i64 0, .int .i64 0, .int .i64 0, .int .i64 0, .int .i64 0, .int .i64 0, .int .i64 0, .int .i64 0, .int .i64 0, .int .i64 0, .int .i64 0, .int .i64 0, .int .i64 0, .int .i64 0, .int .i64 0, .int .i64 0, .int .i64 0, .slice none 0 0] 25)
  rw [List.toList_toArray] at BW
  have CW := Blk.new (w.alloc (.cells (bkc s p u (.slice a n c)).toArray 25)) #[.int .i64 0, .int .i64 0, .int .i64 0, .int .i64 0, .int .i64 0, .int .i64 0, .int .i64 0, .int .i64 0, .int .i64 0, .int .i64 0, .int .i64 0, .int .i64 0, .int .i64 0, .int .i64 0, .int .i64 0, .int .i64 0, .int .i64 0, .int .i64 0, .int .i64 0, .int .i64 0, .int .i64 0, .int .i64 0, .int .i64 0, .int .i64 0, .slice none 0 0] 25
  rw [show (w.alloc (.cells (bkc s p u (.slice a n c)).toArray 25)).heap.size = w.heap.size + 1 by simp] at CW
  have hszW : ((w.alloc (.cells (bkc s p u (.slice a n c)).toArray 25)).alloc (.cells #[.int .i64 0, .int .i64 0, .int .i64 0, .int .i64 0, .int .i64 0, .int .i64 0, .int .i64 0, .int .i64 0, .int .i64 0, .int .i64 0, .int .i64 0, .int .i64 0, .int .i64 0, .int .i64 0, .int .i64 0, .int .i64 0, .int .i64 0, .int .i64 0, .int .i64 0, .int .i64 0, .int .i64 0, .int .i64 0, .int .i64 0, .int .i64 0, .slice none 0 0] 25)).heap.size = w.heap.size + 2 := by simp
  go_enter Try.func19, Try.ntmps19
  go_wp2_with (go_at_call 28; refine (hM.out _).mono ?_; rintro e w' ⟨rfl, rfl⟩)
  have cW := (BW.cell (16 + k)).trans cu
  generalize (w.alloc (.cells (bkc s p u (.slice a n c)).toArray 25)).alloc (.cells #[.int .i64 0, .int .i64 0, .int .i64 0, .int .i64 0, .int .i64 0, .int .i64 0, .int .i64 0, .int .i64 0, .int .i64 0, .int .i64 0, .int .i64 0, .int .i64 0, .int .i64 0, .int .i64 0, .int .i64 0, .int .i64 0, .int .i64 0, .int .i64 0, .int .i64 0, .int .i64 0, .int .i64 0, .int .i64 0, .int .i64 0, .int .i64 0, .slice none 0 0] 25) = W at *
  go_wp2_with (first
    | (go_at_call 24; refine (hA.out _).mono ?_; rintro e w' ⟨rfl, rfl⟩)
    | ((with_reducible apply bk_load); (· rfl); (· (first | assumption | (apply Blk.alloc; assumption) | (apply Blk.alloc; apply Blk.alloc; assumption) | (apply Blk.alloc; apply Blk.alloc; apply Blk.alloc; assumption))); (· (first | assumption | (apply hset_u; assumption) | (apply hset_s; assumption) | (apply hset_p; assumption))); (simp only [Act.put, List.setIfInBounds_toArray, List.set_cons_zero, List.set_cons_succ])))
  refine (pwith_any s p u a n c k xs (x + m) _ h8 (H.out.keep hbW) HO.out hn hk).mono ?_
  rintro e w2 ⟨va, vc, rfl, ho, hb⟩
  rw [hszW] at ho
  have hb2 := Below.trans hbW (hb.mono (by omega))
  have C2 := CW.keep hb (by omega)
  have hsz := hb.size
  have hz2 : w.heap.size + 2 ≤ w2.heap.size := by omega
  have h8' := hset_u h8 k (x + m)
  have C5 := Lib.hid (C2.setAll (bkc s p (u.set k (x + m)) (.slice va n vc)) (by rw [bkc_len h8'.out]; rfl))
  have Z5 := Lib.hid (show (Try.prog.info? 25).map (·.size) = some (bkc s p (u.set k (x + m)) (.slice va n vc)).length by rw [size_book, bkc_len h8'.out])
  have HO5 := Lib.hid (own_base (own_sets (g := w.heap.size + 1) (by omega) (bkc s p (u.set k (x + m)) (.slice va n vc)) 0 ho) (show w.heap.size ≤ _ by omega))
  have HB5 := Lib.hid (below_sets (B := w.heap.size) (g := w.heap.size + 1) (by omega) (bkc s p (u.set k (x + m)) (.slice va n vc)) 0 _ hb2)
  clear ho hb hb2 hbW BW CW hszW cW hsz H HO cu
  go_wp2_with ((with_reducible apply bk_store); (· rfl); (· rfl); (· (first | assumption | (apply Blk.alloc; assumption) | (apply Blk.alloc; apply Blk.alloc; assumption) | (apply Blk.alloc; apply Blk.alloc; apply Blk.alloc; assumption))); (· rfl); (· (first | assumption | (apply hset_u; assumption) | (apply hset_s; assumption) | (apply hset_p; assumption))); (simp only [Act.put, List.setIfInBounds_toArray, List.set_cons_zero, List.set_cons_succ]))
  exact ret_cell_tmp (p := 6) (q := 7) rfl rfl rfl C5.out Try.underlying25 rfl Z5.out rfl ⟨_, _, rfl, HO5.out, HB5.out⟩
set_option maxHeartbeats 400000 in
theorem pay_ok (s p u : List Int) (a : Option Addr) (n c k : Nat) (xs : List Value) (m x : Int) (w : World) (h8 : Hid (L8 s p u)) (h : Sl w a n 7 xs) (hone : ∀ u ∈ xs, u.oneCell' = true) (hn : n * 56 ≤ 140737488355328) (hk : k < 8) (hm0 : 0 ≤ m) (hm1 : m ≤ 1099511627776) (hu : u.getD k 0 = x) (hx : fits x = true) (ho : m ≤ x) :
    Calls Try.prog 20 #[.agg (bkc s p u (.slice a n c)).toArray, .int .i64 k, .int .i64 m] w fun e w' => ∃ va vc, e = .returned (.tuple #[.agg (bkc s p (u.set k (x - m)) (.slice va n vc)).toArray, .int .i64 0]) ∧ w'.ownsRow w.heap.size 44 7 (.slice va n vc) n xs ∧ Below w.heap.size w w' := by
  have H := Lib.hid h
  have HO := Lib.hid hone
  clear h hone
  have cu := bkc_u h8.out (.slice a n c) hk
  rw [hu] at cu
  clear hu
  have hk0 : (0 : Int) ≤ k := by omega
  have hk8 : (k : Int) < 8 := by omega
  have hM := Lib.hid (fun w' => pmay_yes k m w' hk0 hk8 hm0 hm1)
  have hsub : IntKind.i64.wrap (x - m) = x - m := IntWalk.i64_in _ (by rw [fits_iff] at hx; omega)
  have hbW := ((Below.refl w.heap.size w).alloc (Nat.le_refl _) (.cells (bkc s p u (.slice a n c)).toArray 25)).alloc (by simp) (.cells #[.int .i64 0, .int .i64 0, .int .i64 0, .int .i64 0, .int .i64 0, .int .i64 0, .int .i64 0, .int .i64 0, .int .i64 0, .int .i64 0, .int .i64 0, .int .i64 0, .int .i64 0, .int .i64 0, .int .i64 0, .int .i64 0, .int .i64 0, .int .i64 0, .int .i64 0, .int .i64 0, .int .i64 0, .int .i64 0, .int .i64 0, .int .i64 0, .slice none 0 0] 25)
  have BW := (Blk.new w (bkc s p u (.slice a n c)).toArray 25).alloc (.cells #[.int .i64 0, .int .i64 0, .int .i64 0, .int .i64 0, .int .i64 0, .int .i64 0, .int .i64 0, .int .i64 0, .int .i64 0, .int .i64 0, .int .i64 0, .int .i64 0, .int .i64 0, .int .i64 0, .int .i64 0, .int .i64 0, .int .i64 0, .int .i64 0, .int .i64 0, .int .i64 0, .int .i64 0, .int .i64 0, .int .i64 0, .int .i64 0, .slice none 0 0] 25)
  rw [List.toList_toArray] at BW
  have CW := Blk.new (w.alloc (.cells (bkc s p u (.slice a n c)).toArray 25)) #[.int .i64 0, .int .i64 0, .int .i64 0, .int .i64 0, .int .i64 0, .int .i64 0, .int .i64 0, .int .i64 0, .int .i64 0, .int .i64 0, .int .i64 0, .int .i64 0, .int .i64 0, .int .i64 0, .int .i64 0, .int .i64 0, .int .i64 0, .int .i64 0, .int .i64 0, .int .i64 0, .int .i64 0, .int .i64 0, .int .i64 0, .int .i64 0, .slice none 0 0] 25
  rw [show (w.alloc (.cells (bkc s p u (.slice a n c)).toArray 25)).heap.size = w.heap.size + 1 by simp] at CW
  have hszW : ((w.alloc (.cells (bkc s p u (.slice a n c)).toArray 25)).alloc (.cells #[.int .i64 0, .int .i64 0, .int .i64 0, .int .i64 0, .int .i64 0, .int .i64 0, .int .i64 0, .int .i64 0, .int .i64 0, .int .i64 0, .int .i64 0, .int .i64 0, .int .i64 0, .int .i64 0, .int .i64 0, .int .i64 0, .int .i64 0, .int .i64 0, .int .i64 0, .int .i64 0, .int .i64 0, .int .i64 0, .int .i64 0, .int .i64 0, .slice none 0 0] 25)).heap.size = w.heap.size + 2 := by simp
  go_enter Try.func20, Try.ntmps20
  go_wp2_with (go_at_call 28; refine (hM.out _).mono ?_; rintro e w' ⟨rfl, rfl⟩)
  have cW := (BW.cell (16 + k)).trans cu
  generalize (w.alloc (.cells (bkc s p u (.slice a n c)).toArray 25)).alloc (.cells #[.int .i64 0, .int .i64 0, .int .i64 0, .int .i64 0, .int .i64 0, .int .i64 0, .int .i64 0, .int .i64 0, .int .i64 0, .int .i64 0, .int .i64 0, .int .i64 0, .int .i64 0, .int .i64 0, .int .i64 0, .int .i64 0, .int .i64 0, .int .i64 0, .int .i64 0, .int .i64 0, .int .i64 0, .int .i64 0, .int .i64 0, .int .i64 0, .slice none 0 0] 25) = W at *
  go_wp2_with (first
    | ((with_reducible apply bk_load); (· rfl); (· (first | assumption | (apply Blk.alloc; assumption) | (apply Blk.alloc; apply Blk.alloc; assumption) | (apply Blk.alloc; apply Blk.alloc; apply Blk.alloc; assumption))); (· (first | assumption | (apply hset_u; assumption) | (apply hset_s; assumption) | (apply hset_p; assumption))); (simp only [Act.put, List.setIfInBounds_toArray, List.set_cons_zero, List.set_cons_succ])))
  refine wp_region_still_tail 8 (by kernel_rfl) (by kernel_rfl) ?_
  simp only [List.take_succ_cons, List.take_zero, List.drop_succ_cons, List.drop_zero]
  change wpStill _ _ (World.drew W) (fun a' => wpList _ _ _ _ a' (World.drew W)) _ _
  have hbD := hbW.drew
  have BD := BW.drew
  have CD := CW.drew
  have hszD : W.drew.heap.size = w.heap.size + 2 := hszW
  have cD := (BD.cell (16 + k)).trans cu
  clear hbW BW CW hszW cW
  generalize W.drew = W at *
  have hbW := hbD
  have BW := BD
  have CW := CD
  have hszW := hszD
  have cW := cD
  clear hbD BD CD hszD cD
  ((with_reducible apply bk_load_still); (· rfl); (· assumption); (· assumption); (simp only [Act.put, List.setIfInBounds_toArray, List.set_cons_zero, List.set_cons_succ]))
  repeat still_step
  refine wpStill_nil ?_
  go_wp2_with fail
  refine (pwith_any s p u a n c k xs (x - m) _ h8 (H.out.keep hbW) HO.out hn hk).mono ?_
  rintro e w2 ⟨va, vc, rfl, ho, hb⟩
  rw [hszW] at ho
  have hb2 := Below.trans hbW (hb.mono (by omega))
  have C2 := CW.keep hb (by omega)
  have hsz := hb.size
  have hz2 : w.heap.size + 2 ≤ w2.heap.size := by omega
  have h8' := hset_u h8 k (x - m)
  have C5 := Lib.hid (C2.setAll (bkc s p (u.set k (x - m)) (.slice va n vc)) (by rw [bkc_len h8'.out]; rfl))
  have Z5 := Lib.hid (show (Try.prog.info? 25).map (·.size) = some (bkc s p (u.set k (x - m)) (.slice va n vc)).length by rw [size_book, bkc_len h8'.out])
  have HO5 := Lib.hid (own_base (own_sets (g := w.heap.size + 1) (by omega) (bkc s p (u.set k (x - m)) (.slice va n vc)) 0 ho) (show w.heap.size ≤ _ by omega))
  have HB5 := Lib.hid (below_sets (B := w.heap.size) (g := w.heap.size + 1) (by omega) (bkc s p (u.set k (x - m)) (.slice va n vc)) 0 _ hb2)
  clear ho hb hb2 hbW BW CW hszW cW hsz H HO cu
  go_wp2_with ((with_reducible apply bk_store); (· rfl); (· rfl); (· (first | assumption | (apply Blk.alloc; assumption) | (apply Blk.alloc; apply Blk.alloc; assumption) | (apply Blk.alloc; apply Blk.alloc; apply Blk.alloc; assumption))); (· rfl); (· (first | assumption | (apply hset_u; assumption) | (apply hset_s; assumption) | (apply hset_p; assumption))); (simp only [Act.put, List.setIfInBounds_toArray, List.set_cons_zero, List.set_cons_succ]))
  exact ret_cell_tmp (p := 6) (q := 7) rfl rfl rfl C5.out Try.underlying25 rfl Z5.out rfl ⟨_, _, rfl, HO5.out, HB5.out⟩
end Go.Proofs.Ytdphejjiiogikaa
