/- Bookings alike or not: what tells it. -/
import Derived.Test.YtlhebimfkdcidaaDeal
import Derived.Test.YtlhebimfkdcidaaLd
import Derived.Test.YtlhebimfkdcidaaBookRd
namespace Go.Proofs.Ytlhebimfkdcidaa
set_option linter.unusedVariables false
set_option linter.unusedSimpArgs false
open Go.ChangeShapes Go.WideShapes Go.ChangeAt Go.RowKit
def bookB (s p u : List Int) (n : Nat) (xs : List Int) (s' p' u' : List Int) (m : Nat) (ys : List Int) : Bool := sameB (ints s) (ints s') && (sameB (ints p) (ints p') && (sameB (ints u) (ints u') && eqO n m xs ys))
theorem bookB_refl (s p u : List Int) (n : Nat) (xs : List Int) : bookB s p u n xs s p u n xs = true := by
  unfold bookB eqO
  rw [sameB_refl, sameB_refl, sameB_refl]
  simp
theorem rowA : RowT 22 8 := ⟨⟨_, Try.underlying22, rfl⟩, size_arr8⟩
theorem rowA_of {l : List Int} (h : l.length = 8) : RowT 22 (ints l).length := by rw [ints_len, h]; exact rowA
theorem egA : Try.prog.eqGuardType Try.prog.depth 22 = false := by kernel_rfl
theorem arr_eql_run (l l' : List Int) (h : Ok8 l) (h' : Ok8 l') (w : World) : (binOp .eql 22 (.agg (ints l).toArray) (.agg (ints l').toArray)).run Try.prog w = .ok (.bool (sameB (ints l) (ints l'))) w :=
  eql_flat 2 3 22 _ _ _ w flat_arr8 (by kernel_rfl) (by kernel_rfl) (by kernel_rfl) (by decide) h h'
set_option maxRecDepth 100000 in
set_option maxHeartbeats 4000000 in
theorem same_any (s p u s' p' u' : List Int) (a a' : Option Addr) (n m c c' : Nat) (xs ys : List Int) (w : World) (h8 : Hid (L8 s p u)) (h8' : Hid (L8 s' p' u')) (hs : Ok8 s) (hp : Ok8 p) (hu : Ok8 u) (hs' : Ok8 s') (hp' : Ok8 p') (hu' : Ok8 u') (HA : Hid (Sl w a n 7 (ints xs))) (HB : Hid (Sl w a' m 7 (ints ys))) (hok : Hid (∀ i, i < n → OkAll orderKinds (((ints xs).drop (i * 7)).take 7))) (hok' : Hid (∀ i, i < m → OkAll orderKinds (((ints ys).drop (i * 7)).take 7))) (hn : n * 56 ≤ 140737488355328) (hm : m * 56 ≤ 140737488355328) :
    Calls Try.prog 17 #[.agg (bkc s p u (.slice a n c)).toArray, .agg (bkc s' p' u' (.slice a' m c')).toArray] w fun e w' => e = .returned (.bool (bookB s p u n xs s' p' u' m ys)) ∧ Below w.heap.size w w' := by
  have N0 := Lib.hid (fun w => arr_eql_run s s' hs hs' w)
  have N1 := Lib.hid (fun w => arr_eql_run p p' hp hp' w)
  have N2 := Lib.hid (fun w => arr_eql_run u u' hu hu' w)
  have HV : Hid (bookB s p u n xs s' p' u' m ys = (sameB (ints s) (ints s') && (sameB (ints p) (ints p') && (sameB (ints u) (ints u') && eqO n m xs ys)))) := Lib.hid rfl
  have A1 := (Blk.new w (bkc s p u (.slice a n c)).toArray 25).alloc (.cells (bkc s' p' u' (.slice a' m c')).toArray 25)
  have B1 := Blk.new (w.alloc (.cells (bkc s p u (.slice a n c)).toArray 25)) (bkc s' p' u' (.slice a' m c')).toArray 25
  rw [List.toList_toArray] at A1 B1
  rw [show (w.alloc (.cells (bkc s p u (.slice a n c)).toArray 25)).heap.size = w.heap.size + 1 by simp] at B1
  have hb1 := ((Below.refl w.heap.size w).alloc (Nat.le_refl _) (.cells (bkc s p u (.slice a n c)).toArray 25)).alloc (by simp) (.cells (bkc s' p' u' (.slice a' m c')).toArray 25)
  generalize bookB s p u n xs s' p' u' m ys = v at *
  generalize sameB (ints s) (ints s') = v0 at *
  generalize sameB (ints p) (ints p') = v1 at *
  generalize sameB (ints u) (ints u') = v2 at *
  go_enter Try.func17, Try.ntmps17
  go_upto_region 1 with fail
  generalize ((w.alloc (.cells (bkc s p u (.slice a n c)).toArray 25)).alloc (.cells (bkc s' p' u' (.slice a' m c')).toArray 25)) = W at *
  have ca := (A1.cell 24).trans (bkc_o h8.out (.slice a n c))
  have ra0 : W.rangeAt w.heap.size 0 (ints s) := A1.range 0 _ (bkc_take_s _)
  have ra1 : W.rangeAt w.heap.size 8 (ints p) := A1.range 8 _ (bkc_take_p h8.out _)
  have ra2 : W.rangeAt w.heap.size 16 (ints u) := A1.range 16 _ (bkc_take_u h8.out _)
  have ta0 := rowA_of h8.out.s8
  have ta1 := rowA_of h8.out.p8
  have ta2 := rowA_of h8.out.u8
  have cb := (B1.cell 24).trans (bkc_o h8'.out (.slice a' m c'))
  have rb0 : W.rangeAt (w.heap.size + 1) 0 (ints s') := B1.range 0 _ (bkc_take_s _)
  have rb1 : W.rangeAt (w.heap.size + 1) 8 (ints p') := B1.range 8 _ (bkc_take_p h8'.out _)
  have rb2 : W.rangeAt (w.heap.size + 1) 16 (ints u') := B1.range 16 _ (bkc_take_u h8'.out _)
  have tb0 := rowA_of h8'.out.s8
  have tb1 := rowA_of h8'.out.p8
  have tb2 := rowA_of h8'.out.u8
  have HBW := Lib.hid hb1
  have EQ := Lib.hid (eqo_any a a' n m c c' xs ys W (Lib.hid (HA.out.keep hb1)) (Lib.hid (HB.out.keep hb1)) hok hok' hn hm)
  generalize eqO n m xs ys = v3 at *
  clear A1 B1 hb1
  rcases v0 with _ | _
  · go_wp2_with (first
    | ((with_reducible refine ld_row ra0 ta0 ?_ ?_ ?_); (· rfl); (· rfl); (simp only [Act.put, List.setIfInBounds_toArray, List.set_cons_zero, List.set_cons_succ]))
    | ((with_reducible refine ld_row ra1 ta1 ?_ ?_ ?_); (· rfl); (· rfl); (simp only [Act.put, List.setIfInBounds_toArray, List.set_cons_zero, List.set_cons_succ]))
    | ((with_reducible refine ld_row ra2 ta2 ?_ ?_ ?_); (· rfl); (· rfl); (simp only [Act.put, List.setIfInBounds_toArray, List.set_cons_zero, List.set_cons_succ]))
    | ((with_reducible refine ld_row rb0 tb0 ?_ ?_ ?_); (· rfl); (· rfl); (simp only [Act.put, List.setIfInBounds_toArray, List.set_cons_zero, List.set_cons_succ]))
    | ((with_reducible refine ld_row rb1 tb1 ?_ ?_ ?_); (· rfl); (· rfl); (simp only [Act.put, List.setIfInBounds_toArray, List.set_cons_zero, List.set_cons_succ]))
    | ((with_reducible refine ld_row rb2 tb2 ?_ ?_ ?_); (· rfl); (· rfl); (simp only [Act.put, List.setIfInBounds_toArray, List.set_cons_zero, List.set_cons_succ]))
    | ((with_reducible refine cmp_row egA N0.out ?_ ?_ ?_ ?_); (· rfl); (· rfl); (· rfl); (simp only [Act.put, List.setIfInBounds_toArray, List.set_cons_zero, List.set_cons_succ]))
    | ((with_reducible refine cmp_row egA N1.out ?_ ?_ ?_ ?_); (· rfl); (· rfl); (· rfl); (simp only [Act.put, List.setIfInBounds_toArray, List.set_cons_zero, List.set_cons_succ]))
    | ((with_reducible refine cmp_row egA N2.out ?_ ?_ ?_ ?_); (· rfl); (· rfl); (· rfl); (simp only [Act.put, List.setIfInBounds_toArray, List.set_cons_zero, List.set_cons_succ])))
    go_ret
    exact ⟨by rw [HV.out]; rfl, HBW.out⟩
  · rcases v1 with _ | _
    · go_wp2_with (first
    | ((with_reducible refine ld_row ra0 ta0 ?_ ?_ ?_); (· rfl); (· rfl); (simp only [Act.put, List.setIfInBounds_toArray, List.set_cons_zero, List.set_cons_succ]))
    | ((with_reducible refine ld_row ra1 ta1 ?_ ?_ ?_); (· rfl); (· rfl); (simp only [Act.put, List.setIfInBounds_toArray, List.set_cons_zero, List.set_cons_succ]))
    | ((with_reducible refine ld_row ra2 ta2 ?_ ?_ ?_); (· rfl); (· rfl); (simp only [Act.put, List.setIfInBounds_toArray, List.set_cons_zero, List.set_cons_succ]))
    | ((with_reducible refine ld_row rb0 tb0 ?_ ?_ ?_); (· rfl); (· rfl); (simp only [Act.put, List.setIfInBounds_toArray, List.set_cons_zero, List.set_cons_succ]))
    | ((with_reducible refine ld_row rb1 tb1 ?_ ?_ ?_); (· rfl); (· rfl); (simp only [Act.put, List.setIfInBounds_toArray, List.set_cons_zero, List.set_cons_succ]))
    | ((with_reducible refine ld_row rb2 tb2 ?_ ?_ ?_); (· rfl); (· rfl); (simp only [Act.put, List.setIfInBounds_toArray, List.set_cons_zero, List.set_cons_succ]))
    | ((with_reducible refine cmp_row egA N0.out ?_ ?_ ?_ ?_); (· rfl); (· rfl); (· rfl); (simp only [Act.put, List.setIfInBounds_toArray, List.set_cons_zero, List.set_cons_succ]))
    | ((with_reducible refine cmp_row egA N1.out ?_ ?_ ?_ ?_); (· rfl); (· rfl); (· rfl); (simp only [Act.put, List.setIfInBounds_toArray, List.set_cons_zero, List.set_cons_succ]))
    | ((with_reducible refine cmp_row egA N2.out ?_ ?_ ?_ ?_); (· rfl); (· rfl); (· rfl); (simp only [Act.put, List.setIfInBounds_toArray, List.set_cons_zero, List.set_cons_succ])))
      go_ret
      exact ⟨by rw [HV.out]; rfl, HBW.out⟩
    · rcases v2 with _ | _
      · go_wp2_with (first
    | ((with_reducible refine ld_row ra0 ta0 ?_ ?_ ?_); (· rfl); (· rfl); (simp only [Act.put, List.setIfInBounds_toArray, List.set_cons_zero, List.set_cons_succ]))
    | ((with_reducible refine ld_row ra1 ta1 ?_ ?_ ?_); (· rfl); (· rfl); (simp only [Act.put, List.setIfInBounds_toArray, List.set_cons_zero, List.set_cons_succ]))
    | ((with_reducible refine ld_row ra2 ta2 ?_ ?_ ?_); (· rfl); (· rfl); (simp only [Act.put, List.setIfInBounds_toArray, List.set_cons_zero, List.set_cons_succ]))
    | ((with_reducible refine ld_row rb0 tb0 ?_ ?_ ?_); (· rfl); (· rfl); (simp only [Act.put, List.setIfInBounds_toArray, List.set_cons_zero, List.set_cons_succ]))
    | ((with_reducible refine ld_row rb1 tb1 ?_ ?_ ?_); (· rfl); (· rfl); (simp only [Act.put, List.setIfInBounds_toArray, List.set_cons_zero, List.set_cons_succ]))
    | ((with_reducible refine ld_row rb2 tb2 ?_ ?_ ?_); (· rfl); (· rfl); (simp only [Act.put, List.setIfInBounds_toArray, List.set_cons_zero, List.set_cons_succ]))
    | ((with_reducible refine cmp_row egA N0.out ?_ ?_ ?_ ?_); (· rfl); (· rfl); (· rfl); (simp only [Act.put, List.setIfInBounds_toArray, List.set_cons_zero, List.set_cons_succ]))
    | ((with_reducible refine cmp_row egA N1.out ?_ ?_ ?_ ?_); (· rfl); (· rfl); (· rfl); (simp only [Act.put, List.setIfInBounds_toArray, List.set_cons_zero, List.set_cons_succ]))
    | ((with_reducible refine cmp_row egA N2.out ?_ ?_ ?_ ?_); (· rfl); (· rfl); (· rfl); (simp only [Act.put, List.setIfInBounds_toArray, List.set_cons_zero, List.set_cons_succ])))
        go_ret
        exact ⟨by rw [HV.out]; rfl, HBW.out⟩
      · go_wp2_with (first
    | ((with_reducible refine ld_row ra0 ta0 ?_ ?_ ?_); (· rfl); (· rfl); (simp only [Act.put, List.setIfInBounds_toArray, List.set_cons_zero, List.set_cons_succ]))
    | ((with_reducible refine ld_row ra1 ta1 ?_ ?_ ?_); (· rfl); (· rfl); (simp only [Act.put, List.setIfInBounds_toArray, List.set_cons_zero, List.set_cons_succ]))
    | ((with_reducible refine ld_row ra2 ta2 ?_ ?_ ?_); (· rfl); (· rfl); (simp only [Act.put, List.setIfInBounds_toArray, List.set_cons_zero, List.set_cons_succ]))
    | ((with_reducible refine ld_row rb0 tb0 ?_ ?_ ?_); (· rfl); (· rfl); (simp only [Act.put, List.setIfInBounds_toArray, List.set_cons_zero, List.set_cons_succ]))
    | ((with_reducible refine ld_row rb1 tb1 ?_ ?_ ?_); (· rfl); (· rfl); (simp only [Act.put, List.setIfInBounds_toArray, List.set_cons_zero, List.set_cons_succ]))
    | ((with_reducible refine ld_row rb2 tb2 ?_ ?_ ?_); (· rfl); (· rfl); (simp only [Act.put, List.setIfInBounds_toArray, List.set_cons_zero, List.set_cons_succ]))
    | ((with_reducible refine cmp_row egA N0.out ?_ ?_ ?_ ?_); (· rfl); (· rfl); (· rfl); (simp only [Act.put, List.setIfInBounds_toArray, List.set_cons_zero, List.set_cons_succ]))
    | ((with_reducible refine cmp_row egA N1.out ?_ ?_ ?_ ?_); (· rfl); (· rfl); (· rfl); (simp only [Act.put, List.setIfInBounds_toArray, List.set_cons_zero, List.set_cons_succ]))
    | ((with_reducible refine cmp_row egA N2.out ?_ ?_ ?_ ?_); (· rfl); (· rfl); (· rfl); (simp only [Act.put, List.setIfInBounds_toArray, List.set_cons_zero, List.set_cons_succ])))
        refine EQ.out.mono ?_
        rintro e w3 ⟨rfl, hb3⟩
        go_wp2_with fail
        go_ret
        exact ⟨by rw [HV.out]; rfl, HBW.out.trans (hb3.mono HBW.out.size)⟩
set_option maxRecDepth 100000 in
set_option maxHeartbeats 8000000 in
theorem pbook_any (s p u s' p' u' : List Int) (a a' : Option Addr) (n m c c' : Nat) (xs ys : List Int) (w : World) (h8 : Hid (L8 s p u)) (h8' : Hid (L8 s' p' u')) (hs : Ok8 s) (hp : Ok8 p) (hu : Ok8 u) (hs' : Ok8 s') (hp' : Ok8 p') (hu' : Ok8 u') (HA : Hid (Sl w a n 7 (ints xs))) (HB : Hid (Sl w a' m 7 (ints ys))) (hok : Hid (∀ i, i < n → OkAll orderKinds (((ints xs).drop (i * 7)).take 7))) (hok' : Hid (∀ i, i < m → OkAll orderKinds (((ints ys).drop (i * 7)).take 7))) (hn : n * 56 ≤ 140737488355328) (hm : m * 56 ≤ 140737488355328) :
    Calls Try.prog 12 #[.agg (bkc s p u (.slice a n c)).toArray, .agg (bkc s' p' u' (.slice a' m c')).toArray] w fun e w' => e = .returned (.bool (bookB s p u n xs s' p' u' m ys)) ∧ Below w.heap.size w w' := by
  have N0 := Lib.hid (fun w => arr_eq_run s s' hs hs' w)
  have N1 := Lib.hid (fun w => arr_eq_run p p' hp hp' w)
  have N2 := Lib.hid (fun w => arr_eq_run u u' hu hu' w)
  have HV : Hid (bookB s p u n xs s' p' u' m ys = (sameB (ints s) (ints s') && (sameB (ints p) (ints p') && (sameB (ints u) (ints u') && eqO n m xs ys)))) := Lib.hid rfl
  have EL : Hid (n ≠ m → eqO n m xs ys = false) := Lib.hid fun h => decide_eq_false (fun hh => h hh.1)
  have EY : Hid (n = m → (∀ j, j < n → (((ints xs).drop (j * 7)).take 7) = (((ints ys).drop (j * 7)).take 7)) → eqO n m xs ys = true) := Lib.hid fun hnm h => by subst hnm; exact decide_eq_true ⟨rfl, ints_inj (chunks_eq (by decide) n HA.out.1 HB.out.1 h)⟩
  have EN : Hid (∀ j, (((ints xs).drop (j * 7)).take 7) ≠ (((ints ys).drop (j * 7)).take 7) → eqO n m xs ys = false) := Lib.hid fun j h => decide_eq_false (fun hh => h (by rw [hh.2]))
  have A1 := (Blk.new w (bkc s p u (.slice a n c)).toArray 25).alloc (.cells (bkc s' p' u' (.slice a' m c')).toArray 25)
  have B1 := Blk.new (w.alloc (.cells (bkc s p u (.slice a n c)).toArray 25)) (bkc s' p' u' (.slice a' m c')).toArray 25
  rw [List.toList_toArray] at A1 B1
  rw [show (w.alloc (.cells (bkc s p u (.slice a n c)).toArray 25)).heap.size = w.heap.size + 1 by simp] at B1
  have hb1 := ((Below.refl w.heap.size w).alloc (Nat.le_refl _) (.cells (bkc s p u (.slice a n c)).toArray 25)).alloc (by simp) (.cells (bkc s' p' u' (.slice a' m c')).toArray 25)
  generalize bookB s p u n xs s' p' u' m ys = v at *
  generalize sameB (ints s) (ints s') = v0 at *
  generalize sameB (ints p) (ints p') = v1 at *
  generalize sameB (ints u) (ints u') = v2 at *
  generalize eqO n m xs ys = v3 at *
  have FT : (!false) = true := rfl
  have TF : (!true) = false := rfl
  go_enter Try.func12, Try.ntmps12
  go_upto_region 1 with fail
  generalize ((w.alloc (.cells (bkc s p u (.slice a n c)).toArray 25)).alloc (.cells (bkc s' p' u' (.slice a' m c')).toArray 25)) = W at *
  have ca := (A1.cell 24).trans (bkc_o h8.out (.slice a n c))
  have ra0 : W.rangeAt w.heap.size 0 (ints s) := A1.range 0 _ (bkc_take_s _)
  have ra1 : W.rangeAt w.heap.size 8 (ints p) := A1.range 8 _ (bkc_take_p h8.out _)
  have ra2 : W.rangeAt w.heap.size 16 (ints u) := A1.range 16 _ (bkc_take_u h8.out _)
  have ta0 := rowA_of h8.out.s8
  have ta1 := rowA_of h8.out.p8
  have ta2 := rowA_of h8.out.u8
  have cb := (B1.cell 24).trans (bkc_o h8'.out (.slice a' m c'))
  have rb0 : W.rangeAt (w.heap.size + 1) 0 (ints s') := B1.range 0 _ (bkc_take_s _)
  have rb1 : W.rangeAt (w.heap.size + 1) 8 (ints p') := B1.range 8 _ (bkc_take_p h8'.out _)
  have rb2 : W.rangeAt (w.heap.size + 1) 16 (ints u') := B1.range 16 _ (bkc_take_u h8'.out _)
  have tb0 := rowA_of h8'.out.s8
  have tb1 := rowA_of h8'.out.p8
  have tb2 := rowA_of h8'.out.u8
  have HBW := Lib.hid hb1
  have hA := Lib.hid (HA.out.keep hb1)
  have hB := Lib.hid (HB.out.keep hb1)
  have hlA := A1.lt
  have hlB := B1.lt
  have HA1 := Lib.hid A1
  have HB1 := Lib.hid B1
  have CA := Lib.hid (bkc_o h8.out (.slice a n c))
  have CB := Lib.hid (bkc_o h8'.out (.slice a' m c'))
  clear A1 B1 hb1 HA HB FT TF
  rcases v0 with _ | _
  · rw [Bool.not_false] at N0
    go_wp2_with (first
    | ((with_reducible refine ld_row ra0 ta0 ?_ ?_ ?_); (· rfl); (· rfl); (simp only [Act.put, List.setIfInBounds_toArray, List.set_cons_zero, List.set_cons_succ]))
    | ((with_reducible refine ld_row ra1 ta1 ?_ ?_ ?_); (· rfl); (· rfl); (simp only [Act.put, List.setIfInBounds_toArray, List.set_cons_zero, List.set_cons_succ]))
    | ((with_reducible refine ld_row ra2 ta2 ?_ ?_ ?_); (· rfl); (· rfl); (simp only [Act.put, List.setIfInBounds_toArray, List.set_cons_zero, List.set_cons_succ]))
    | ((with_reducible refine ld_row rb0 tb0 ?_ ?_ ?_); (· rfl); (· rfl); (simp only [Act.put, List.setIfInBounds_toArray, List.set_cons_zero, List.set_cons_succ]))
    | ((with_reducible refine ld_row rb1 tb1 ?_ ?_ ?_); (· rfl); (· rfl); (simp only [Act.put, List.setIfInBounds_toArray, List.set_cons_zero, List.set_cons_succ]))
    | ((with_reducible refine ld_row rb2 tb2 ?_ ?_ ?_); (· rfl); (· rfl); (simp only [Act.put, List.setIfInBounds_toArray, List.set_cons_zero, List.set_cons_succ]))
    | ((with_reducible refine cmp_row egA N0.out ?_ ?_ ?_ ?_); (· rfl); (· rfl); (· rfl); (simp only [Act.put, List.setIfInBounds_toArray, List.set_cons_zero, List.set_cons_succ]))
    | ((with_reducible refine cmp_row egA N1.out ?_ ?_ ?_ ?_); (· rfl); (· rfl); (· rfl); (simp only [Act.put, List.setIfInBounds_toArray, List.set_cons_zero, List.set_cons_succ]))
    | ((with_reducible refine cmp_row egA N2.out ?_ ?_ ?_ ?_); (· rfl); (· rfl); (· rfl); (simp only [Act.put, List.setIfInBounds_toArray, List.set_cons_zero, List.set_cons_succ])))
    go_ret
    exact ⟨by rw [HV.out]; rfl, HBW.out⟩
  · rw [Bool.not_true] at N0
    rcases v1 with _ | _
    · rw [Bool.not_false] at N1
      go_wp2_with (first
    | ((with_reducible refine ld_row ra0 ta0 ?_ ?_ ?_); (· rfl); (· rfl); (simp only [Act.put, List.setIfInBounds_toArray, List.set_cons_zero, List.set_cons_succ]))
    | ((with_reducible refine ld_row ra1 ta1 ?_ ?_ ?_); (· rfl); (· rfl); (simp only [Act.put, List.setIfInBounds_toArray, List.set_cons_zero, List.set_cons_succ]))
    | ((with_reducible refine ld_row ra2 ta2 ?_ ?_ ?_); (· rfl); (· rfl); (simp only [Act.put, List.setIfInBounds_toArray, List.set_cons_zero, List.set_cons_succ]))
    | ((with_reducible refine ld_row rb0 tb0 ?_ ?_ ?_); (· rfl); (· rfl); (simp only [Act.put, List.setIfInBounds_toArray, List.set_cons_zero, List.set_cons_succ]))
    | ((with_reducible refine ld_row rb1 tb1 ?_ ?_ ?_); (· rfl); (· rfl); (simp only [Act.put, List.setIfInBounds_toArray, List.set_cons_zero, List.set_cons_succ]))
    | ((with_reducible refine ld_row rb2 tb2 ?_ ?_ ?_); (· rfl); (· rfl); (simp only [Act.put, List.setIfInBounds_toArray, List.set_cons_zero, List.set_cons_succ]))
    | ((with_reducible refine cmp_row egA N0.out ?_ ?_ ?_ ?_); (· rfl); (· rfl); (· rfl); (simp only [Act.put, List.setIfInBounds_toArray, List.set_cons_zero, List.set_cons_succ]))
    | ((with_reducible refine cmp_row egA N1.out ?_ ?_ ?_ ?_); (· rfl); (· rfl); (· rfl); (simp only [Act.put, List.setIfInBounds_toArray, List.set_cons_zero, List.set_cons_succ]))
    | ((with_reducible refine cmp_row egA N2.out ?_ ?_ ?_ ?_); (· rfl); (· rfl); (· rfl); (simp only [Act.put, List.setIfInBounds_toArray, List.set_cons_zero, List.set_cons_succ])))
      go_ret
      exact ⟨by rw [HV.out]; rfl, HBW.out⟩
    · rw [Bool.not_true] at N1
      rcases v2 with _ | _
      · rw [Bool.not_false] at N2
        go_wp2_with (first
    | ((with_reducible refine ld_row ra0 ta0 ?_ ?_ ?_); (· rfl); (· rfl); (simp only [Act.put, List.setIfInBounds_toArray, List.set_cons_zero, List.set_cons_succ]))
    | ((with_reducible refine ld_row ra1 ta1 ?_ ?_ ?_); (· rfl); (· rfl); (simp only [Act.put, List.setIfInBounds_toArray, List.set_cons_zero, List.set_cons_succ]))
    | ((with_reducible refine ld_row ra2 ta2 ?_ ?_ ?_); (· rfl); (· rfl); (simp only [Act.put, List.setIfInBounds_toArray, List.set_cons_zero, List.set_cons_succ]))
    | ((with_reducible refine ld_row rb0 tb0 ?_ ?_ ?_); (· rfl); (· rfl); (simp only [Act.put, List.setIfInBounds_toArray, List.set_cons_zero, List.set_cons_succ]))
    | ((with_reducible refine ld_row rb1 tb1 ?_ ?_ ?_); (· rfl); (· rfl); (simp only [Act.put, List.setIfInBounds_toArray, List.set_cons_zero, List.set_cons_succ]))
    | ((with_reducible refine ld_row rb2 tb2 ?_ ?_ ?_); (· rfl); (· rfl); (simp only [Act.put, List.setIfInBounds_toArray, List.set_cons_zero, List.set_cons_succ]))
    | ((with_reducible refine cmp_row egA N0.out ?_ ?_ ?_ ?_); (· rfl); (· rfl); (· rfl); (simp only [Act.put, List.setIfInBounds_toArray, List.set_cons_zero, List.set_cons_succ]))
    | ((with_reducible refine cmp_row egA N1.out ?_ ?_ ?_ ?_); (· rfl); (· rfl); (· rfl); (simp only [Act.put, List.setIfInBounds_toArray, List.set_cons_zero, List.set_cons_succ]))
    | ((with_reducible refine cmp_row egA N2.out ?_ ?_ ?_ ?_); (· rfl); (· rfl); (· rfl); (simp only [Act.put, List.setIfInBounds_toArray, List.set_cons_zero, List.set_cons_succ])))
        go_ret
        exact ⟨by rw [HV.out]; rfl, HBW.out⟩
      · rw [Bool.not_true] at N2
        by_cases hnm : n = m
        · subst hnm
          go_upto_region 3 with (first
    | ((with_reducible refine ld_row ra0 ta0 ?_ ?_ ?_); (· rfl); (· rfl); (simp only [Act.put, List.setIfInBounds_toArray, List.set_cons_zero, List.set_cons_succ]))
    | ((with_reducible refine ld_row ra1 ta1 ?_ ?_ ?_); (· rfl); (· rfl); (simp only [Act.put, List.setIfInBounds_toArray, List.set_cons_zero, List.set_cons_succ]))
    | ((with_reducible refine ld_row ra2 ta2 ?_ ?_ ?_); (· rfl); (· rfl); (simp only [Act.put, List.setIfInBounds_toArray, List.set_cons_zero, List.set_cons_succ]))
    | ((with_reducible refine ld_row rb0 tb0 ?_ ?_ ?_); (· rfl); (· rfl); (simp only [Act.put, List.setIfInBounds_toArray, List.set_cons_zero, List.set_cons_succ]))
    | ((with_reducible refine ld_row rb1 tb1 ?_ ?_ ?_); (· rfl); (· rfl); (simp only [Act.put, List.setIfInBounds_toArray, List.set_cons_zero, List.set_cons_succ]))
    | ((with_reducible refine ld_row rb2 tb2 ?_ ?_ ?_); (· rfl); (· rfl); (simp only [Act.put, List.setIfInBounds_toArray, List.set_cons_zero, List.set_cons_succ]))
    | ((with_reducible refine cmp_row egA N0.out ?_ ?_ ?_ ?_); (· rfl); (· rfl); (· rfl); (simp only [Act.put, List.setIfInBounds_toArray, List.set_cons_zero, List.set_cons_succ]))
    | ((with_reducible refine cmp_row egA N1.out ?_ ?_ ?_ ?_); (· rfl); (· rfl); (· rfl); (simp only [Act.put, List.setIfInBounds_toArray, List.set_cons_zero, List.set_cons_succ]))
    | ((with_reducible refine cmp_row egA N2.out ?_ ?_ ?_ ?_); (· rfl); (· rfl); (· rfl); (simp only [Act.put, List.setIfInBounds_toArray, List.set_cons_zero, List.set_cons_succ])))
          go_upto_region 4 with fail
          clear ra0 ra1 ra2 rb0 rb1 rb2 ca cb
          go_loopg [5] n (fun q s5 wr => ∃ i : Nat, q + i = n ∧ s5 = .int .i64 i ∧ Hid (Below W.heap.size W wr) ∧ Hid (∀ j, j < i → (((ints xs).drop (j * 7)).take 7) = (((ints ys).drop (j * 7)).take 7)))
          case atStart => exact ⟨0, rfl, rfl, Lib.hid (Below.refl W.heap.size W), Lib.hid (fun j hj => by omega)⟩
          case round =>
            obtain ⟨i, hqi, rfl, hbr, hpre⟩ := hrel
            have c1 := ((HA1.out.keep hbr.out hlA).cell 24).trans CA.out
            have c2 := ((HB1.out.keep hbr.out hlB).cell 24).trans CB.out
            by_cases hi : i < n
            · obtain ⟨b, off, rfl, hra, hlc⟩ := (hA.out.keep hbr.out).chunk hi (by decide)
              obtain ⟨b', off', rfl, hrb, hld⟩ := (hB.out.keep hbr.out).chunk hi (by decide)
              have hoi := hok.out i hi
              have hoj := hok'.out i hi
              have hne := Lib.hid (EN.out i)
              have hst := Lib.hid (fun (h : (((ints xs).drop (i * 7)).take 7) = (((ints ys).drop (i * 7)).take 7)) j (hj : j < i + 1) => show (((ints xs).drop (j * 7)).take 7) = (((ints ys).drop (j * 7)).take 7) from by
                rcases Nat.lt_or_ge j i with hh | hh
                · exact hpre.out j hh
                · obtain rfl : j = i := by omega
                  exact h)
              generalize (((ints xs).drop (i * 7)).take 7) = ys1 at *
              generalize (((ints ys).drop (i * 7)).take 7) = ys2 at *
              have hi0 : (0 : Int) ≤ i := by omega
              have hin : (i : Int) < n := by omega
              go_upto_region 6 with fail
              refine wp_region_still_lit (by kernel_rfl) (by kernel_rfl) ?_
              have c1' : wr.drew.cell? ⟨w.heap.size, 24, none⟩ = _ := c1
              have c2' : wr.drew.cell? ⟨w.heap.size + 1, 24, none⟩ = _ := c2
              have hra' : wr.drew.rangeAt b (off + i * 7) ys1 := hra
              have hrb' : wr.drew.rangeAt b' (off' + i * 7) ys2 := hrb
              have hbr' := Lib.hid hbr.out.drew
              change wpStill _ _ (World.drew wr) (fun a' => Exit.then _ _ _ a' (World.drew wr)) _ _
              clear c1 c2 hra hrb hbr
              generalize wr.drew = wr at *
              have hra := hra'
              have hrb := hrb'
              have hiff := sameB_iff hoi hoj
              rcases hs : sameB ys1 ys2 with _ | _
              · have hne2 : ys1 ≠ ys2 := fun h => by rw [hiff.2 h] at hs; cases hs
                have HR := Lib.hid (hne.out hne2)
                have hss : (!sameB ys1 ys2) = true := by rw [hs]; rfl
                clear hs hiff hne hst
                repeat (first
            | ((with_reducible apply order_load); (· rfl); (· first | exact hra | exact hrb); (· first | exact hlc | exact hld); (simp only [Act.put, List.setIfInBounds_toArray, List.set_cons_zero, List.set_cons_succ]))
            | ((with_reducible apply order_neq); (· rfl); (· rfl); (· exact hoi); (· exact hoj); (· exact hss); (simp only [Act.put, List.setIfInBounds_toArray, List.set_cons_zero, List.set_cons_succ]))
            | still_step)
                refine wpStill_nil ?_
                clear hss hne2
                go_wp2_with fail
                go_ret
                exact ⟨by rw [HV.out, HR.out]; rfl, HBW.out.trans (hbr'.out.mono HBW.out.size)⟩
              · have heq2 : ys1 = ys2 := hiff.1 hs
                have HP := Lib.hid (hst.out heq2)
                have hss : (!sameB ys1 ys2) = false := by rw [hs]; rfl
                clear hs hiff hne hst heq2
                repeat (first
            | ((with_reducible apply order_load); (· rfl); (· first | exact hra | exact hrb); (· first | exact hlc | exact hld); (simp only [Act.put, List.setIfInBounds_toArray, List.set_cons_zero, List.set_cons_succ]))
            | ((with_reducible apply order_neq); (· rfl); (· rfl); (· exact hoi); (· exact hoj); (· exact hss); (simp only [Act.put, List.setIfInBounds_toArray, List.set_cons_zero, List.set_cons_succ]))
            | still_step)
                refine wpStill_nil ?_
                clear hss
                go_wp2_with fail
                go_roundg (gk - 1)
                case measure => omega
                case rel => exact ⟨i + 1, by omega, by go_num, hbr', HP⟩
            · have hin : ¬ (i : Int) < n := by omega
              have HR := Lib.hid (EY.out (by trivial) fun j hj => hpre.out j (by omega))
              go_wp2_with fail
              go_ret
              exact ⟨by rw [HV.out, HR.out]; rfl, HBW.out.trans (hbr.out.mono HBW.out.size)⟩
        · have E := Lib.hid (EL.out hnm)
          have hnm' : ¬ (n : Int) = m := by omega
          clear hnm
          go_wp2_with (first
    | ((with_reducible refine ld_row ra0 ta0 ?_ ?_ ?_); (· rfl); (· rfl); (simp only [Act.put, List.setIfInBounds_toArray, List.set_cons_zero, List.set_cons_succ]))
    | ((with_reducible refine ld_row ra1 ta1 ?_ ?_ ?_); (· rfl); (· rfl); (simp only [Act.put, List.setIfInBounds_toArray, List.set_cons_zero, List.set_cons_succ]))
    | ((with_reducible refine ld_row ra2 ta2 ?_ ?_ ?_); (· rfl); (· rfl); (simp only [Act.put, List.setIfInBounds_toArray, List.set_cons_zero, List.set_cons_succ]))
    | ((with_reducible refine ld_row rb0 tb0 ?_ ?_ ?_); (· rfl); (· rfl); (simp only [Act.put, List.setIfInBounds_toArray, List.set_cons_zero, List.set_cons_succ]))
    | ((with_reducible refine ld_row rb1 tb1 ?_ ?_ ?_); (· rfl); (· rfl); (simp only [Act.put, List.setIfInBounds_toArray, List.set_cons_zero, List.set_cons_succ]))
    | ((with_reducible refine ld_row rb2 tb2 ?_ ?_ ?_); (· rfl); (· rfl); (simp only [Act.put, List.setIfInBounds_toArray, List.set_cons_zero, List.set_cons_succ]))
    | ((with_reducible refine cmp_row egA N0.out ?_ ?_ ?_ ?_); (· rfl); (· rfl); (· rfl); (simp only [Act.put, List.setIfInBounds_toArray, List.set_cons_zero, List.set_cons_succ]))
    | ((with_reducible refine cmp_row egA N1.out ?_ ?_ ?_ ?_); (· rfl); (· rfl); (· rfl); (simp only [Act.put, List.setIfInBounds_toArray, List.set_cons_zero, List.set_cons_succ]))
    | ((with_reducible refine cmp_row egA N2.out ?_ ?_ ?_ ?_); (· rfl); (· rfl); (· rfl); (simp only [Act.put, List.setIfInBounds_toArray, List.set_cons_zero, List.set_cons_succ])))
          go_ret
          exact ⟨by rw [HV.out, E.out]; rfl, HBW.out⟩
end Go.Proofs.Ytlhebimfkdcidaa
