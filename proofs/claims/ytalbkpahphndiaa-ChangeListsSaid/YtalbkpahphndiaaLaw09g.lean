/- The statements of changes: any octets. -/
import Derived.Test.YtalbkpahphndiaaChg8
import Derived.Test.YtalbkpahphndiaaChg7
import Derived.Test.YtalbkpahphndiaaLaw09
import Derived.Test.YtalbkpahphndiaaChg4
import Derived.Test.YtalbkpahphndiaaMath9
import Derived.Test.YtalbkpahphndiaaChgEq
import Derived.Test.YtalbkpahphndiaaLaw02
import Derived.Test.YtalbkpahphndiaaHeld
import Derived.Test.YtalbkpahphndiaaRd
import Derived.Test.YtalbkpahphndiaaOct
import Derived.Test.YtalbkpahphndiaaApp
import Derived.Test.YtalbkpahphndiaaRow
import Derived.Test.YtalbkpahphndiaaOps
import Derived.RegionTactic
import Derived.BigRegion
import Derived.ChangeAlike
namespace Go.Proofs.Ytalbkpahphndiaa
set_option linter.unusedVariables false
set_option linter.unusedSimpArgs false
open Go.ChangeShapes Go.WideShapes Go.ChangeAt Go.RowKit
theorem s64_fits (m : Nat) : fits (s64 m) = true := by rw [fits_iff]; unfold s64 wrap64; omega
theorem fld_fits (bs : List UInt8) (o k : Nat) : fits (fld bs o k) = true := by unfold fld; exact s64_fits _
theorem fits_mem {l : List Int} (h : ∀ z ∈ l, fits z = true) (j : Nat) : fits (l.getD j 0) = true := by
  by_cases hj : j < l.length
  · rw [List.getD_eq_getElem?_getD, List.getElem?_eq_getElem hj]
    exact h _ (List.getElem_mem hj)
  · rw [List.getD_eq_getElem?_getD, List.getElem?_eq_none (by omega)]; rfl
theorem zeros_ok : OkAll (List.replicate 9 (some .i64)) (ints [0, 0, 0, 0, 0, 0, 0, 0, 0]) := ok9 [0, 0, 0, 0, 0, 0, 0, 0, 0] (by intro k; rcases k with _ | _ | _ | _ | _ | _ | _ | _ | _ | k <;> rfl)
set_option maxRecDepth 100000 in
set_option maxHeartbeats 8000000 in
theorem gets_bad (a : Option Addr) (n c : Nat) (w : World)
    (G : Hid (∀ w', Below w.heap.size w w' → Calls Try.prog 13 #[.slice a n c] w' fun e w'' => e = .returned (.tuple #[.agg (ints [0, 0, 0, 0, 0, 0, 0, 0, 0]).toArray, .int .i64 16]) ∧ Below w'.heap.size w' w''))
    (R : Hid (∀ w', Below w.heap.size w w' → Calls Try.prog 15 #[.slice a n c] w' fun e w'' => e = .returned (.tuple #[.agg (ints [0, 0, 0, 0, 0, 0, 0, 0, 0]).toArray, .bool false]) ∧ Below w'.heap.size w' w'')) :
    Calls Try.prog 4 #[.slice a n c] w fun e w' => e = .returned (.bool true) ∧ Below w.heap.size w w' := by
  have h9 : Hid (([0, 0, 0, 0, 0, 0, 0, 0, 0] : List Int).length = 9) := Lib.hid rfl
  have ok1 := zeros_ok
  go_enter Try.func4, Try.ntmps4
  go_wp2_with fail
  refine (alive09 _).mono ?_
  rintro e w2 ⟨rfl, hb2⟩
  have HB2 := Lib.hid hb2
  clear hb2
  go_wp2_with fail
  refine (G.out _ HB2.out).mono ?_
  rintro e w3 ⟨rfl, hb3⟩
  have HB3 := Lib.hid (HB2.out.trans (hb3.mono HB2.out.size))
  have A3 := Lib.hid (Blk.new w3 (ints [0, 0, 0, 0, 0, 0, 0, 0, 0]).toArray 25)
  have HB3' := Lib.hid (HB3.out.alloc HB3.out.size (.cells (ints [0, 0, 0, 0, 0, 0, 0, 0, 0]).toArray 25))
  rw [List.toList_toArray] at A3
  clear hb3 HB2 HB3
  go_upto_region 4 with (first
    | ((with_reducible apply cg_store_new); (· rfl); (· first | rfl | simp); (· rfl); (· rfl); (· assumption); (simp only [Act.put, List.setIfInBounds_toArray, List.set_cons_zero, List.set_cons_succ])))
  generalize hg3 : w3.heap.size = g3 at *
  generalize w3.alloc (.cells (ints [0, 0, 0, 0, 0, 0, 0, 0, 0]).toArray 25) = w4 at *
  clear hg3
  go_wp2_with fail
  refine (R.out _ HB3'.out).mono ?_
  rintro e w5 ⟨rfl, hb5⟩
  have HB5 := Lib.hid (HB3'.out.trans (hb5.mono HB3'.out.size))
  have A5 := Lib.hid ((A3.out.keep hb5 A3.out.lt).alloc (.cells (ints [0, 0, 0, 0, 0, 0, 0, 0, 0]).toArray 25))
  have HB5' := Lib.hid (HB5.out.alloc HB5.out.size (.cells (ints [0, 0, 0, 0, 0, 0, 0, 0, 0]).toArray 25))
  have r5 : (w5.alloc (.cells (ints [0, 0, 0, 0, 0, 0, 0, 0, 0]).toArray 25)).rangeAt g3 0 (ints [0, 0, 0, 0, 0, 0, 0, 0, 0]) := Blk.cg A5.out h9
  clear hb5 A3 HB3' HB5
  go_upto_region 5 with (first
    | ((with_reducible apply cg_store_new); (· rfl); (· first | rfl | simp); (· rfl); (· rfl); (· assumption); (simp only [Act.put, List.setIfInBounds_toArray, List.set_cons_zero, List.set_cons_succ])))
  generalize w5.alloc (.cells (ints [0, 0, 0, 0, 0, 0, 0, 0, 0]).toArray 25) = w6 at *
  go_wp2_with (first
    | ((with_reducible apply cg_load); (· rfl); (· (first | assumption)); (· assumption); (simp only [Act.put, List.setIfInBounds_toArray, List.set_cons_zero, List.set_cons_succ]))
    | ((with_reducible apply cg_load_g); (· rfl); (· rfl); (· (first | assumption)); (· assumption); (simp only [Act.put, List.setIfInBounds_toArray, List.set_cons_zero, List.set_cons_succ]))
    | ((with_reducible apply cg_eql); (· rfl); (· rfl); (· assumption); (simp only [Act.put, List.setIfInBounds_toArray, List.set_cons_zero, List.set_cons_succ]))
    | ((with_reducible apply cg_eql_g); (· rfl); (· rfl); (· rfl); (· assumption); (simp only [Act.put, List.setIfInBounds_toArray, List.set_cons_zero, List.set_cons_succ])))
  go_ret
  exact ⟨rfl, HB5'.out⟩
set_option maxRecDepth 100000 in
set_option maxHeartbeats 8000000 in
theorem gets_good (a : Option Addr) (c : Nat) (bs : List UInt8) (X : List Int) (w : World) (h9 : Hid (X.length = 9)) (fx : ∀ j, fits (X.getD j 0) = true) (HS : Hid (Sl w a 22 1 (bcells bs)))
    (G : Hid (∀ w', Below w.heap.size w w' → Calls Try.prog 13 #[.slice a 22 c] w' fun e w'' => e = .returned (.tuple #[.agg (ints X).toArray, .int .i64 0]) ∧ Below w'.heap.size w' w''))
    (R : Hid (∀ w', Below w.heap.size w w' → Calls Try.prog 15 #[.slice a 22 c] w' fun e w'' => e = .returned (.tuple #[.agg (ints X).toArray, .bool true]) ∧ Below w'.heap.size w' w''))
    (P : Hid (∀ w, Calls Try.prog 10 #[.agg (ints X).toArray] w fun e w' => ∃ a' c', e = .returned (.tuple #[.slice a' 22 c', .int .i64 0]) ∧ Sl w' a' 22 1 (bcells bs) ∧ Below w.heap.size w w')) :
    Calls Try.prog 4 #[.slice a 22 c] w fun e w' => e = .returned (.bool true) ∧ Below w.heap.size w w' := by
  have ok1 : OkAll (List.replicate 9 (some .i64)) (ints X) := by have := ok9 X fx; rwa [h9.out] at this
  clear fx
  go_enter Try.func4, Try.ntmps4
  go_wp2_with fail
  refine (alive09 _).mono ?_
  rintro e w2 ⟨rfl, hb2⟩
  have HB2 := Lib.hid hb2
  clear hb2
  go_wp2_with fail
  refine (G.out _ HB2.out).mono ?_
  rintro e w3 ⟨rfl, hb3⟩
  have HB3 := Lib.hid (HB2.out.trans (hb3.mono HB2.out.size))
  have A3 := Lib.hid (Blk.new w3 (ints X).toArray 25)
  have HB3' := Lib.hid (HB3.out.alloc HB3.out.size (.cells (ints X).toArray 25))
  rw [List.toList_toArray] at A3
  clear hb3 HB2 HB3
  go_upto_region 4 with (first
    | ((with_reducible apply cg_store_new); (· rfl); (· first | rfl | simp); (· rfl); (· rfl); (· assumption); (simp only [Act.put, List.setIfInBounds_toArray, List.set_cons_zero, List.set_cons_succ])))
  generalize hg3 : w3.heap.size = g3 at *
  generalize w3.alloc (.cells (ints X).toArray 25) = w4 at *
  clear hg3
  go_wp2_with fail
  refine (R.out _ HB3'.out).mono ?_
  rintro e w5 ⟨rfl, hb5⟩
  have HB5 := Lib.hid (HB3'.out.trans (hb5.mono HB3'.out.size))
  have A5 := Lib.hid ((A3.out.keep hb5 A3.out.lt).alloc (.cells (ints X).toArray 25))
  have D5 := Lib.hid (Blk.new w5 (ints X).toArray 25)
  have HB5' := Lib.hid (HB5.out.alloc HB5.out.size (.cells (ints X).toArray 25))
  rw [List.toList_toArray] at D5
  have r5 : (w5.alloc (.cells (ints X).toArray 25)).rangeAt g3 0 (ints X) := Blk.cg A5.out h9
  clear hb5 A3 HB3' HB5
  go_upto_region 5 with (first
    | ((with_reducible apply cg_store_new); (· rfl); (· first | rfl | simp); (· rfl); (· rfl); (· assumption); (simp only [Act.put, List.setIfInBounds_toArray, List.set_cons_zero, List.set_cons_succ])))
  generalize hg5 : w5.heap.size = g5 at *
  generalize w5.alloc (.cells (ints X).toArray 25) = w6 at *
  clear hg5
  go_wp2_with (first
    | ((with_reducible apply cg_load); (· rfl); (· (first | assumption)); (· assumption); (simp only [Act.put, List.setIfInBounds_toArray, List.set_cons_zero, List.set_cons_succ]))
    | ((with_reducible apply cg_load_g); (· rfl); (· rfl); (· (first | assumption)); (· assumption); (simp only [Act.put, List.setIfInBounds_toArray, List.set_cons_zero, List.set_cons_succ]))
    | ((with_reducible apply cg_eql); (· rfl); (· rfl); (· assumption); (simp only [Act.put, List.setIfInBounds_toArray, List.set_cons_zero, List.set_cons_succ]))
    | ((with_reducible apply cg_eql_g); (· rfl); (· rfl); (· rfl); (· assumption); (simp only [Act.put, List.setIfInBounds_toArray, List.set_cons_zero, List.set_cons_succ])))
  refine (P.out _).mono ?_
  rintro e w7 ⟨a7, c7, rfl, hs7, hb7⟩
  have HB7 := Lib.hid (HB5'.out.trans (hb7.mono HB5'.out.size))
  have A7 := Lib.hid (A5.out.keep hb7 A5.out.lt)
  have D7 := Lib.hid (D5.out.keep hb7 D5.out.lt)
  have r7 : w7.rangeAt g3 0 (ints X) := Blk.cg A7.out h9
  have s7 : w7.rangeAt g5 0 (ints X) := Blk.cg D7.out h9
  have cv1 := conv_bytes hs7 c7
  have cv2 := conv_bytes (HS.out.keep HB7.out) c
  clear hb7 A5 D5 HB5' hs7 r5
  go_wp2_with (first
    | ((with_reducible apply cg_load); (· rfl); (· (first | assumption)); (· assumption); (simp only [Act.put, List.setIfInBounds_toArray, List.set_cons_zero, List.set_cons_succ]))
    | ((with_reducible apply cg_load_g); (· rfl); (· rfl); (· (first | assumption)); (· assumption); (simp only [Act.put, List.setIfInBounds_toArray, List.set_cons_zero, List.set_cons_succ]))
    | ((with_reducible apply cg_eql); (· rfl); (· rfl); (· assumption); (simp only [Act.put, List.setIfInBounds_toArray, List.set_cons_zero, List.set_cons_succ]))
    | ((with_reducible apply cg_eql_g); (· rfl); (· rfl); (· rfl); (· assumption); (simp only [Act.put, List.setIfInBounds_toArray, List.set_cons_zero, List.set_cons_succ])))
  go_ret
  exact ⟨rfl, HB7.out⟩
theorem gets_law (v0 : Value) (w : World) (h0 : Arg Try.prog w 27 v0) : Calls Try.prog 4 #[v0] w fun e w' => e = .returned (.bool true) ∧ Below w.heap.size w w' := by
  obtain ⟨a, n, c, bs, rfl, hnc, hc, hn, hl, hs⟩ := h0.bytes
  by_cases hn22 : n = 22
  · subst hn22
    by_cases h67 : (bs.getD 21 0).toNat = 67
    · rcases hm : mayChg (fld bs 0 1) (fld bs 1 2) (fld bs 3 4) (fld bs 7 1) (fld bs 8 1) (fld bs 9 1) (fld bs 18 1) (fld bs 19 2) with _ | _
      · refine gets_bad a 22 c w (Lib.hid fun w' hb => get_no a c bs w' (hs.keep hb) h67 hm) (Lib.hid fun w' hb => ?_)
        exact (rgetc_main a c bs false w' (hs.keep hb) hnc hc h67 hm).mono fun e w'' h => ⟨h.2.1 rfl, h.2.2⟩
      · refine gets_good a c bs [fld bs 0 1, fld bs 1 2, fld bs 3 4, fld bs 7 1, fld bs 8 1, fld bs 9 1, fld bs 10 8, fld bs 18 1, fld bs 19 2] w (Lib.hid rfl) ?_ (Lib.hid hs) (Lib.hid fun w' hb => get_ok a c bs w' (hs.keep hb) h67 hm) (Lib.hid fun w' hb => ?_) (Lib.hid fun w => ?_)
        · refine fits_mem fun z hz => ?_
          simp only [List.mem_cons, List.not_mem_nil, or_false] at hz
          rcases hz with h | h | h | h | h | h | h | h | h
          all_goals (rw [h]; exact fld_fits _ _ _)
        · exact (rgetc_main a c bs true w' (hs.keep hb) hnc hc h67 hm).mono fun e w'' h => ⟨h.1 rfl, h.2.2⟩
        · have := cput_yes (fld bs 0 1) (fld bs 1 2) (fld bs 3 4) (fld bs 7 1) (fld bs 8 1) (fld bs 9 1) (fld bs 10 8) (fld bs 18 1) (fld bs 19 2) w hm
          rwa [enc_dec hl h67] at this
    · refine gets_bad a 22 c w (Lib.hid fun w' hb => get_end a c bs w' (hs.keep hb) h67) (Lib.hid fun w' hb => rgetc_end a c bs w' (hs.keep hb) h67)
  · exact gets_bad a n c w (Lib.hid fun w' hb => get_len a n c w' hn22) (Lib.hid fun w' hb => rgetc_len a n c w' hn22)
end Go.Proofs.Ytalbkpahphndiaa
