/- The statement of bookings alike or not. -/
import Derived.Test.YtlhebimfkdcidaaDeal9
import Derived.Test.YtlhebimfkdcidaaQt
import Derived.Test.YtlhebimfkdcidaaLd
import Derived.Test.YtlhebimfkdcidaaBookRd
namespace Go.Proofs.Ytlhebimfkdcidaa
set_option linter.unusedVariables false
set_option linter.unusedSimpArgs false
open Go.ChangeShapes Go.WideShapes Go.ChangeAt Go.RowKit
theorem Sl.few7 {w : World} {a : Option Addr} {n m : Nat} {L : List Int} (h : Sl w a n 7 (ints L)) (hm : m ≤ n) : Sl w a m 7 (ints (L.take (m * 7))) := by
  have hl : L.length = n * 7 := by have := h.1; rwa [ints_len] at this
  refine ⟨by rw [ints_len, List.length_take, hl]; omega, ?_⟩
  rcases h.2 with h0 | ⟨b, off, ha, hb, hc⟩
  · exact Or.inl (by omega)
  · refine Or.inr ⟨b, off, ha, hb, fun j hj => ?_⟩
    rw [hc j (by omega), List.getD_eq_getElem?_getD, List.getD_eq_getElem?_getD, ints_get _ _ (by omega), ints_get _ _ (by rw [List.length_take]; omega), List.getD_eq_getElem?_getD, List.getD_eq_getElem?_getD, List.getElem?_take_of_lt (by omega)]
theorem take_fits {L : List Int} (hf : ∀ k, fits (L.getD k 0) = true) (m k : Nat) : fits ((L.take m).getD k 0) = true := by
  rw [List.getD_eq_getElem?_getD, List.getElem?_take]
  split
  · rw [← List.getD_eq_getElem?_getD]; exact hf k
  · rfl
theorem st_part_run {o : Oper} {T : TypeId} {x y : Operand} {a : Act} {w : World} {g off U : Nat} {old cs : List Value} (ho : o.op = .store T x y) (hx : a.eval x = .pointer (some ⟨g, off, none⟩)) (hy : a.eval y = .agg cs.toArray) (hb : Blk w g old U) (hl : off + cs.length ≤ old.length) (hi : (Try.prog.info? T).map (·.size) = some cs.length) (h1 : ∀ u ∈ cs, u.oneCell' = true) :
    (execOp a.eval o).run Try.prog w = .ok .skip (w.setCells g off cs) := by
  have := run_storeAt_mid (P := Try.prog) w g off T cs.toArray (hb.there off _ (by rw [List.size_toArray]; exact hl)) (by rw [hi, List.size_toArray]) (all_oneCell_toArray h1)
  rw [List.toList_toArray] at this
  unfold execOp
  simp only [ho, hx, hy, Sem.run_bind, this, Result.andThen_ok, Sem.run_pure]
theorem Blk.sets_other {g g' t : Nat} {cs : List Value} (hne : g ≠ g') (vs : List Value) : ∀ (o : Nat) (w : World), Blk w g cs t → Blk (w.setCells g' o vs) g cs t := by
  induction vs with
  | nil => intro o w h; exact h
  | cons v r ih => intro o w h; exact ih (o + 1) _ (h.set_other hne o v)
set_option maxRecDepth 100000 in
set_option maxHeartbeats 8000000 in
theorem dsame_walk (s p u s' p' u' : List Int) (a a' : Option Addr) (n m c c' : Nat) (L M : List Int) (w : World) (h8 : Hid (L8 s p u)) (h8' : Hid (L8 s' p' u')) (hs : Ok8 s) (hp : Ok8 p) (hu : Ok8 u) (hs' : Ok8 s') (hp' : Ok8 p') (hu' : Ok8 u') (HA : Hid (Sl w a n 7 (ints L))) (HB : Hid (Sl w a' m 7 (ints M))) (hf : Hid (∀ k, fits (L.getD k 0) = true)) (hg : Hid (∀ k, fits (M.getD k 0) = true)) (hn : n ≤ c) (hm : m ≤ c') :
    Calls Try.prog 5 #[.agg (bkc s p u (.slice a n c)).toArray, .agg (bkc s' p' u' (.slice a' m c')).toArray] w fun e w' => e = .returned (.bool true) ∧ Below w.heap.size w w' := by
  have A1 := (Blk.new w (bkc s p u (.slice a n c)).toArray 25).alloc (.cells (bkc s' p' u' (.slice a' m c')).toArray 25)
  have B1 := Blk.new (w.alloc (.cells (bkc s p u (.slice a n c)).toArray 25)) (bkc s' p' u' (.slice a' m c')).toArray 25
  rw [List.toList_toArray] at A1 B1
  rw [show (w.alloc (.cells (bkc s p u (.slice a n c)).toArray 25)).heap.size = w.heap.size + 1 by simp] at B1
  have hb1 := ((Below.refl w.heap.size w).alloc (Nat.le_refl _) (.cells (bkc s p u (.slice a n c)).toArray 25)).alloc (by simp) (.cells (bkc s' p' u' (.slice a' m c')).toArray 25)
  have FA := Lib.hid (fun w' => few_any s p u a n c w' h8 hn)
  have FB := Lib.hid (fun w' => few_any s' p' u' a' m c' w' h8' hm)
  have LX := Lib.hid (bkc_len h8.out (o := .slice a n c))
  have LY := Lib.hid (bkc_len h8'.out (o := .slice a' m c'))
  have LFX := Lib.hid (bkc_len h8.out (o := .slice a (min n 40) c))
  have LFY := Lib.hid (bkc_len h8'.out (o := .slice a' (min m 40) c'))
  have OFX := Lib.hid (bkc_one_sl (s := s) (p := p) (u := u) a (min n 40) c)
  have OFY := Lib.hid (bkc_one_sl (s := s') (p := p') (u := u') a' (min m 40) c')
  have SA := Lib.hid (fun w' (hb : Below w.heap.size w w') => (HA.out.keep hb).few7 (Nat.min_le_left n 40))
  have SB := Lib.hid (fun w' (hb : Below w.heap.size w w') => (HB.out.keep hb).few7 (Nat.min_le_left m 40))
  have b1 : min n 40 * 56 ≤ 140737488355328 := by omega
  have b2 : min m 40 * 56 ≤ 140737488355328 := by omega
  have CSAME := Lib.hid (fun w' (hb : Below w.heap.size w w') => same_any s p u s' p' u' a a' (min n 40) (min m 40) c c' (L.take (min n 40 * 7)) (M.take (min m 40 * 7)) w' h8 h8' hs hp hu hs' hp' hu' (Lib.hid (SA.out w' hb)) (Lib.hid (SB.out w' hb)) (Lib.hid (ok_chunks (SA.out w' hb).1 (take_fits hf.out _))) (Lib.hid (ok_chunks (SB.out w' hb).1 (take_fits hg.out _))) b1 b2)
  have CBOOK := Lib.hid (fun w' (hb : Below w.heap.size w w') => pbook_any s p u s' p' u' a a' (min n 40) (min m 40) c c' (L.take (min n 40 * 7)) (M.take (min m 40 * 7)) w' h8 h8' hs hp hu hs' hp' hu' (Lib.hid (SA.out w' hb)) (Lib.hid (SB.out w' hb)) (Lib.hid (ok_chunks (SA.out w' hb).1 (take_fits hf.out _))) (Lib.hid (ok_chunks (SB.out w' hb).1 (take_fits hg.out _))) b1 b2)
  have CSELF : Hid (∀ w', Below w.heap.size w w' → Calls Try.prog 17 #[.agg (bkc s p u (.slice a (min n 40) c)).toArray, .agg (bkc s p u (.slice a (min n 40) c)).toArray] w' fun e w'' => e = .returned (.bool true) ∧ Below w'.heap.size w' w'') := Lib.hid (fun w' hb => by
    have := same_any s p u s p u a a (min n 40) (min n 40) c c (L.take (min n 40 * 7)) (L.take (min n 40 * 7)) w' h8 h8 hs hp hu hs hp hu (Lib.hid (SA.out w' hb)) (Lib.hid (SA.out w' hb)) (Lib.hid (ok_chunks (SA.out w' hb).1 (take_fits hf.out _))) (Lib.hid (ok_chunks (SA.out w' hb).1 (take_fits hf.out _))) b1 b1
    rw [bookB_refl] at this
    exact this)
  generalize bookB s p u (min n 40) (L.take (min n 40 * 7)) s' p' u' (min m 40) (M.take (min m 40 * 7)) = v at *
  generalize (bkc s p u (.slice a (min n 40) c)) = FX at *
  generalize (bkc s' p' u' (.slice a' (min m 40) c')) = FY at *
  generalize (bkc s p u (.slice a n c)) = X at *
  generalize (bkc s' p' u' (.slice a' m c')) = Y at *
  clear hs hp hu hs' hp' hu' SA SB
  go_enter Try.func5, Try.ntmps5
  go_upto_region 1 with fail
  generalize ((w.alloc (.cells X.toArray 25)).alloc (.cells Y.toArray 25)) = W at *
  go_wp2_with fail
  refine (alive15 _).mono ?_
  rintro e w3 ⟨rfl, hb3⟩
  have HA3 := Lib.hid (A1.keep hb3 A1.lt)
  have HB3 := Lib.hid (B1.keep hb3 B1.lt)
  have HW3 := Lib.hid (hb1.trans (hb3.mono hb1.size))
  clear hb3 A1 B1 hb1
  go_upto_region 3 with fail
  go_cut [8] (fun s8 wx => Hid (Blk wx w.heap.size FX 25) ∧ Hid (Blk wx (w.heap.size + 1) FY 25) ∧ Hid (Below w.heap.size w wx))
  case first =>
    refine held_begin (fun w' => True) 6 [false, false, false, false, false, false] (by kernel_rfl) rfl (by rfl) ?_
    have HA0 : Hid (Blk w3.drew w.heap.size X 25) := Lib.hid HA3.out.drew
    have HB0 : Hid (Blk w3.drew (w.heap.size + 1) Y 25) := Lib.hid HB3.out.drew
    have HW0 : Hid (Below w.heap.size w w3.drew) := Lib.hid HW3.out.drew
    refine held_two 0 2 (by kernel_rfl) ?_ ?_
    · refine op_value (v := .agg X.toArray) 7 [true, false, false, false, false, false] rfl (by rfl) (by rfl) (by rfl) (run_op_load rfl rfl (HA0.out.range 0 _ (by simp)) Try.underlying25 rfl (by rw [size_book, LX.out])) (trivial) fun hHeld => ?_
      simp only [Act.put, List.setIfInBounds_toArray, List.set_cons_zero, List.set_cons_succ]
      refine held_two 1 2 (by kernel_rfl) ?_ ?_
      · refine op_call 8 [true, true, false, false, false, false] rfl (by rfl) (by rfl) (by rfl) (by go_simp) ((FA.out _).mono ?_)
        rintro e v1 ⟨rfl, hb1⟩
        refine ⟨_, rfl, trivial, fun hHeld => ?_⟩
        simp only [Act.put, List.setIfInBounds_toArray, List.set_cons_zero, List.set_cons_succ]
        have HA1 := Lib.hid (HA0.out.keep hb1 HA0.out.lt)
        have HB1 := Lib.hid (HB0.out.keep hb1 HB0.out.lt)
        have HW1 := Lib.hid (HW0.out.trans (hb1.mono HW0.out.size))
        refine held_one 2 (by kernel_rfl) ?_
        refine op_value (v := .agg Y.toArray) 9 [true, true, true, false, false, false] rfl (by rfl) (by rfl) (by rfl) (run_op_load rfl rfl (HB1.out.range 0 _ (by simp)) Try.underlying25 rfl (by rw [size_book, LY.out])) (trivial) fun hHeld => ?_
        simp only [Act.put, List.setIfInBounds_toArray, List.set_cons_zero, List.set_cons_succ]
        refine held_one 3 (by kernel_rfl) ?_
        refine op_call 10 [true, true, true, true, false, false] rfl (by rfl) (by rfl) (by rfl) (by go_simp) ((FB.out _).mono ?_)
        rintro e v2 ⟨rfl, hb2⟩
        refine ⟨_, rfl, trivial, fun hHeld => ?_⟩
        simp only [Act.put, List.setIfInBounds_toArray, List.set_cons_zero, List.set_cons_succ]
        have HA2 := Lib.hid (HA1.out.keep hb2 HA1.out.lt)
        have HB2 := Lib.hid (HB1.out.keep hb2 HB1.out.lt)
        have HW2 := Lib.hid (HW1.out.trans (hb2.mono HW1.out.size))
        refine held_one 4 (by kernel_rfl) ?_
        refine op_skip [true, true, true, true, true, false] rfl (by rfl) (by rfl) (by rfl) (st_part_run (cs := FX) rfl rfl rfl HA2.out (by rw [LFX.out, LX.out]; decide) (by rw [size_book, LFX.out]) OFX.out) (trivial) fun hHeld => ?_
        have HA9 := Lib.hid (HA2.out.setAll FX (by rw [LFX.out, LX.out]))
        have HB9 := Lib.hid (Blk.sets_other (g' := w.heap.size) (by omega) FX 0 _ HB2.out)
        have HW9 := Lib.hid (below_sets (Nat.le_refl w.heap.size) FX 0 _ HW2.out)
        refine held_one 5 (by kernel_rfl) ?_
        refine op_skip [true, true, true, true, true, true] rfl (by rfl) (by rfl) (by rfl) (st_part_run (cs := FY) rfl rfl rfl HB9.out (by rw [LFY.out, LY.out]; decide) (by rw [size_book, LFY.out]) OFY.out) (trivial) fun hHeld => ?_
        have HA10 := Lib.hid (Blk.sets_other (g' := w.heap.size + 1) (by omega) FY 0 _ HA9.out)
        have HB10 := Lib.hid (HB9.out.setAll FY (by rw [LFY.out, LY.out]))
        have HW10 := Lib.hid (below_sets (Nat.le_succ w.heap.size) FY 0 _ HW9.out)
        refine held_done (by kernel_rfl) ?_
        go_wp2_with fail
        go_meet
        exact ⟨HA10, HB10, HW10⟩
      · refine op_value (v := .agg Y.toArray) 9 [true, false, true, false, false, false] rfl (by rfl) (by rfl) (by rfl) (run_op_load rfl rfl (HB0.out.range 0 _ (by simp)) Try.underlying25 rfl (by rw [size_book, LY.out])) (trivial) fun hHeld => ?_
        simp only [Act.put, List.setIfInBounds_toArray, List.set_cons_zero, List.set_cons_succ]
        refine held_one 1 (by kernel_rfl) ?_
        refine op_call 8 [true, true, true, false, false, false] rfl (by rfl) (by rfl) (by rfl) (by go_simp) ((FA.out _).mono ?_)
        rintro e v1 ⟨rfl, hb1⟩
        refine ⟨_, rfl, trivial, fun hHeld => ?_⟩
        simp only [Act.put, List.setIfInBounds_toArray, List.set_cons_zero, List.set_cons_succ]
        have HA1 := Lib.hid (HA0.out.keep hb1 HA0.out.lt)
        have HB1 := Lib.hid (HB0.out.keep hb1 HB0.out.lt)
        have HW1 := Lib.hid (HW0.out.trans (hb1.mono HW0.out.size))
        refine held_one 3 (by kernel_rfl) ?_
        refine op_call 10 [true, true, true, true, false, false] rfl (by rfl) (by rfl) (by rfl) (by go_simp) ((FB.out _).mono ?_)
        rintro e v2 ⟨rfl, hb2⟩
        refine ⟨_, rfl, trivial, fun hHeld => ?_⟩
        simp only [Act.put, List.setIfInBounds_toArray, List.set_cons_zero, List.set_cons_succ]
        have HA2 := Lib.hid (HA1.out.keep hb2 HA1.out.lt)
        have HB2 := Lib.hid (HB1.out.keep hb2 HB1.out.lt)
        have HW2 := Lib.hid (HW1.out.trans (hb2.mono HW1.out.size))
        refine held_one 4 (by kernel_rfl) ?_
        refine op_skip [true, true, true, true, true, false] rfl (by rfl) (by rfl) (by rfl) (st_part_run (cs := FX) rfl rfl rfl HA2.out (by rw [LFX.out, LX.out]; decide) (by rw [size_book, LFX.out]) OFX.out) (trivial) fun hHeld => ?_
        have HA9 := Lib.hid (HA2.out.setAll FX (by rw [LFX.out, LX.out]))
        have HB9 := Lib.hid (Blk.sets_other (g' := w.heap.size) (by omega) FX 0 _ HB2.out)
        have HW9 := Lib.hid (below_sets (Nat.le_refl w.heap.size) FX 0 _ HW2.out)
        refine held_one 5 (by kernel_rfl) ?_
        refine op_skip [true, true, true, true, true, true] rfl (by rfl) (by rfl) (by rfl) (st_part_run (cs := FY) rfl rfl rfl HB9.out (by rw [LFY.out, LY.out]; decide) (by rw [size_book, LFY.out]) OFY.out) (trivial) fun hHeld => ?_
        have HA10 := Lib.hid (Blk.sets_other (g' := w.heap.size + 1) (by omega) FY 0 _ HA9.out)
        have HB10 := Lib.hid (HB9.out.setAll FY (by rw [LFY.out, LY.out]))
        have HW10 := Lib.hid (below_sets (Nat.le_succ w.heap.size) FY 0 _ HW9.out)
        refine held_done (by kernel_rfl) ?_
        go_wp2_with fail
        go_meet
        exact ⟨HA10, HB10, HW10⟩
    · refine op_value (v := .agg Y.toArray) 9 [false, false, true, false, false, false] rfl (by rfl) (by rfl) (by rfl) (run_op_load rfl rfl (HB0.out.range 0 _ (by simp)) Try.underlying25 rfl (by rw [size_book, LY.out])) (trivial) fun hHeld => ?_
      simp only [Act.put, List.setIfInBounds_toArray, List.set_cons_zero, List.set_cons_succ]
      refine held_one 0 (by kernel_rfl) ?_
      refine op_value (v := .agg X.toArray) 7 [true, false, true, false, false, false] rfl (by rfl) (by rfl) (by rfl) (run_op_load rfl rfl (HA0.out.range 0 _ (by simp)) Try.underlying25 rfl (by rw [size_book, LX.out])) (trivial) fun hHeld => ?_
      simp only [Act.put, List.setIfInBounds_toArray, List.set_cons_zero, List.set_cons_succ]
      refine held_one 1 (by kernel_rfl) ?_
      refine op_call 8 [true, true, true, false, false, false] rfl (by rfl) (by rfl) (by rfl) (by go_simp) ((FA.out _).mono ?_)
      rintro e v1 ⟨rfl, hb1⟩
      refine ⟨_, rfl, trivial, fun hHeld => ?_⟩
      simp only [Act.put, List.setIfInBounds_toArray, List.set_cons_zero, List.set_cons_succ]
      have HA1 := Lib.hid (HA0.out.keep hb1 HA0.out.lt)
      have HB1 := Lib.hid (HB0.out.keep hb1 HB0.out.lt)
      have HW1 := Lib.hid (HW0.out.trans (hb1.mono HW0.out.size))
      refine held_one 3 (by kernel_rfl) ?_
      refine op_call 10 [true, true, true, true, false, false] rfl (by rfl) (by rfl) (by rfl) (by go_simp) ((FB.out _).mono ?_)
      rintro e v2 ⟨rfl, hb2⟩
      refine ⟨_, rfl, trivial, fun hHeld => ?_⟩
      simp only [Act.put, List.setIfInBounds_toArray, List.set_cons_zero, List.set_cons_succ]
      have HA2 := Lib.hid (HA1.out.keep hb2 HA1.out.lt)
      have HB2 := Lib.hid (HB1.out.keep hb2 HB1.out.lt)
      have HW2 := Lib.hid (HW1.out.trans (hb2.mono HW1.out.size))
      refine held_one 4 (by kernel_rfl) ?_
      refine op_skip [true, true, true, true, true, false] rfl (by rfl) (by rfl) (by rfl) (st_part_run (cs := FX) rfl rfl rfl HA2.out (by rw [LFX.out, LX.out]; decide) (by rw [size_book, LFX.out]) OFX.out) (trivial) fun hHeld => ?_
      have HA9 := Lib.hid (HA2.out.setAll FX (by rw [LFX.out, LX.out]))
      have HB9 := Lib.hid (Blk.sets_other (g' := w.heap.size) (by omega) FX 0 _ HB2.out)
      have HW9 := Lib.hid (below_sets (Nat.le_refl w.heap.size) FX 0 _ HW2.out)
      refine held_one 5 (by kernel_rfl) ?_
      refine op_skip [true, true, true, true, true, true] rfl (by rfl) (by rfl) (by rfl) (st_part_run (cs := FY) rfl rfl rfl HB9.out (by rw [LFY.out, LY.out]; decide) (by rw [size_book, LFY.out]) OFY.out) (trivial) fun hHeld => ?_
      have HA10 := Lib.hid (Blk.sets_other (g' := w.heap.size + 1) (by omega) FY 0 _ HA9.out)
      have HB10 := Lib.hid (HB9.out.setAll FY (by rw [LFY.out, LY.out]))
      have HW10 := Lib.hid (below_sets (Nat.le_succ w.heap.size) FY 0 _ HW9.out)
      refine held_done (by kernel_rfl) ?_
      go_wp2_with fail
      go_meet
      exact ⟨HA10, HB10, HW10⟩
  case rest =>
    obtain ⟨HA4, HB4, HW4⟩ := hcut
    have l1 := HA4.out.lt
    have l2 := HB4.out.lt
    have I1 : Hid ((Try.prog.info? 25).map (·.size) = some FX.length) := Lib.hid (by rw [size_book, LFX.out])
    have I2 : Hid ((Try.prog.info? 25).map (·.size) = some FY.length) := Lib.hid (by rw [size_book, LFY.out])
    go_upto_region 4 with fail
    cases v
    · refine q_begin (by kernel_rfl) (by kernel_rfl) ?_
      repeat (first
        | go_big_quiet_skip
        | ((with_reducible apply q_row); (· rfl); (· rfl); (· exact Try.underlying25); (· rfl); (· exact HA4.out); (· exact l1); (· exact I1.out); (simp only [Act.put, List.setIfInBounds_toArray, List.set_cons_zero, List.set_cons_succ]))
        | ((with_reducible apply q_row); (· rfl); (· rfl); (· exact Try.underlying25); (· rfl); (· exact HB4.out); (· exact l2); (· exact I2.out); (simp only [Act.put, List.setIfInBounds_toArray, List.set_cons_zero, List.set_cons_succ]))
        | ((with_reducible apply q_call 17 (.bool false)); (· rfl); (· exact Nat.le_refl _); (· intro w' hb'; exact CSAME.out w' (HW4.out.trans (hb'.mono HW4.out.size))); (· intro w'; go_simp); (simp only [Act.put, List.setIfInBounds_toArray, List.set_cons_zero, List.set_cons_succ]))
        | ((with_reducible apply q_call 12 (.bool false)); (· rfl); (· exact Nat.le_refl _); (· intro w' hb'; exact CBOOK.out w' (HW4.out.trans (hb'.mono HW4.out.size))); (· intro w'; go_simp); (simp only [Act.put, List.setIfInBounds_toArray, List.set_cons_zero, List.set_cons_succ]))
        | ((with_reducible apply q_call 17 (.bool true)); (· rfl); (· exact Nat.le_refl _); (· intro w' hb'; exact CSELF.out w' (HW4.out.trans (hb'.mono HW4.out.size))); (· intro w'; go_simp); (simp only [Act.put, List.setIfInBounds_toArray, List.set_cons_zero, List.set_cons_succ]))
        | (go_big_quiet_want; go_big_quiet_op; (first | go_big_quiet_on | (apply Exists.intro; refine ⟨fun _ _ => rfl, ?_⟩; go_big_quiet_on))))
      refine q_end ?_
      intro w9 hb9
      have HB9 := HW4.out.trans (hb9.mono HW4.out.size)
      go_wp2_with fail
      go_ret
      exact ⟨rfl, HB9⟩
    · refine q_begin (by kernel_rfl) (by kernel_rfl) ?_
      repeat (first
        | go_big_quiet_skip
        | ((with_reducible apply q_row); (· rfl); (· rfl); (· exact Try.underlying25); (· rfl); (· exact HA4.out); (· exact l1); (· exact I1.out); (simp only [Act.put, List.setIfInBounds_toArray, List.set_cons_zero, List.set_cons_succ]))
        | ((with_reducible apply q_row); (· rfl); (· rfl); (· exact Try.underlying25); (· rfl); (· exact HB4.out); (· exact l2); (· exact I2.out); (simp only [Act.put, List.setIfInBounds_toArray, List.set_cons_zero, List.set_cons_succ]))
        | ((with_reducible apply q_call 17 (.bool true)); (· rfl); (· exact Nat.le_refl _); (· intro w' hb'; exact CSAME.out w' (HW4.out.trans (hb'.mono HW4.out.size))); (· intro w'; go_simp); (simp only [Act.put, List.setIfInBounds_toArray, List.set_cons_zero, List.set_cons_succ]))
        | ((with_reducible apply q_call 12 (.bool true)); (· rfl); (· exact Nat.le_refl _); (· intro w' hb'; exact CBOOK.out w' (HW4.out.trans (hb'.mono HW4.out.size))); (· intro w'; go_simp); (simp only [Act.put, List.setIfInBounds_toArray, List.set_cons_zero, List.set_cons_succ]))
        | ((with_reducible apply q_call 17 (.bool true)); (· rfl); (· exact Nat.le_refl _); (· intro w' hb'; exact CSELF.out w' (HW4.out.trans (hb'.mono HW4.out.size))); (· intro w'; go_simp); (simp only [Act.put, List.setIfInBounds_toArray, List.set_cons_zero, List.set_cons_succ]))
        | (go_big_quiet_want; go_big_quiet_op; (first | go_big_quiet_on | (apply Exists.intro; refine ⟨fun _ _ => rfl, ?_⟩; go_big_quiet_on))))
      refine q_end ?_
      intro w9 hb9
      have HB9 := HW4.out.trans (hb9.mono HW4.out.size)
      go_wp2_with fail
      go_ret
      exact ⟨rfl, HB9⟩
theorem ok8_of {l : List Int} (hl : l.length = 8) (hf : ∀ k, fits (l.getD k 0) = true) : Ok8 l := by
  unfold Ok8
  match l, hl, hf with
  | [a, b, c, d, e, f, g, h], _, hf => exact ⟨⟨_, rfl, wf_fitsO (hf 0)⟩, ⟨_, rfl, wf_fitsO (hf 1)⟩, ⟨_, rfl, wf_fitsO (hf 2)⟩, ⟨_, rfl, wf_fitsO (hf 3)⟩, ⟨_, rfl, wf_fitsO (hf 4)⟩, ⟨_, rfl, wf_fitsO (hf 5)⟩, ⟨_, rfl, wf_fitsO (hf 6)⟩, ⟨_, rfl, wf_fitsO (hf 7)⟩, trivial⟩
theorem all_intsO : ∀ {xs : List Value}, (∀ u ∈ xs, ∃ z, u = .int .i64 z ∧ (Lit.int .i64 z).wf = true) → ∃ L : List Int, xs = ints L ∧ ∀ z ∈ L, (Lit.int .i64 z).wf = true
  | [], _ => ⟨[], rfl, fun z hz => by cases hz⟩
  | x :: xs, h => by
    obtain ⟨z, rfl, hz⟩ := h x List.mem_cons_self
    obtain ⟨L, rfl, hL⟩ := all_intsO (xs := xs) fun u hu => h u (List.mem_cons_of_mem _ hu)
    exact ⟨z :: L, rfl, fun y hy => by
      rcases List.mem_cons.1 hy with rfl | hy
      · exact hz
      · exact hL y hy⟩
theorem elems_intsO {n sz : Nat} {xs : List Value} (hl : xs.length = n * sz) (hs : 0 < sz) (h : ∀ i, i < n → OkAll (List.replicate sz (some .i64)) ((xs.drop (i * sz)).take sz)) : ∃ L : List Int, xs = ints L ∧ ∀ z ∈ L, (Lit.int .i64 z).wf = true := by
  refine all_intsO fun u hu => ?_
  obtain ⟨j, hj, rfl⟩ := List.getElem_of_mem hu
  have hi : j / sz < n := Nat.div_lt_of_lt_mul (by rw [Nat.mul_comm]; omega)
  have h5 : j / sz * sz + j % sz = j := by rw [Nat.mul_comm]; exact Nat.div_add_mod _ _
  have hm := Nat.mod_lt j hs
  have : ((xs.drop (j / sz * sz)).take sz)[j % sz]? = some xs[j] := by
    rw [List.getElem?_take_of_lt hm, List.getElem?_drop, h5, List.getElem?_eq_getElem hj]
  obtain ⟨k, hk1, hk⟩ := (h _ hi).get this
  rw [List.getElem?_replicate, if_pos hm] at hk1
  obtain rfl := Option.some.inj hk1
  exact hk
theorem Arg.bookL {w : World} {v : Value} (h : Arg Try.prog w 25 v) : ∃ s p u a n c L, v = .agg (bkc s p u (.slice a n c)).toArray ∧ L8 s p u ∧ Ok8 s ∧ Ok8 p ∧ Ok8 u ∧ Sl w a n 7 (ints L) ∧ (∀ k, fits (L.getD k 0) = true) ∧ n ≤ c := by
  obtain ⟨s, p, u, a, n, c, xs, e, hb⟩ := h.book
  obtain ⟨L, rfl, hL⟩ := elems_intsO (n := n) hb.sl.1 (by decide) hb.ok
  exact ⟨s, p, u, a, n, c, L, e, hb.l8, ok8_of hb.l8.s8 hb.fs, ok8_of hb.l8.p8 hb.fp, ok8_of hb.l8.u8 hb.fu, hb.sl, fits_all hL, hb.nc⟩
theorem dsame_law (v0 v1 : Value) (w : World) (h0 : Arg Try.prog w 25 v0) (h1 : Arg Try.prog w 25 v1) : Calls Try.prog 5 #[v0, v1] w fun e w' => e = .returned (.bool true) ∧ Below w.heap.size w w' := by
  obtain ⟨s, p, u, a, n, c, L, rfl, g1, g2, g3, g4, g5, g6, g7⟩ := h0.bookL
  obtain ⟨s', p', u', a', m, c', M, rfl, k1, k2, k3, k4, k5, k6, k7⟩ := h1.bookL
  exact dsame_walk s p u s' p' u' a a' n m c c' L M w (Lib.hid g1) (Lib.hid k1) g2 g3 g4 k2 k3 k4 (Lib.hid g5) (Lib.hid k5) (Lib.hid g6) (Lib.hid k6) g7 k7
end Go.Proofs.Ytlhebimfkdcidaa
