/- The statement of steps' octets. -/
import Derived.Test.YteijahcbfncebaaDoorCode17
import Derived.Test.YteijahcbfncebaaDoorHeld
import Derived.Test.YteijahcbfncebaaDoorRd
import Derived.Test.YteijahcbfncebaaDoorLaw02
import Derived.RegionTactic
import Derived.BigRegion
import Derived.ChangeAlike
namespace Go.Proofs.YteijahcbfncebaaDoor
set_option linter.unusedVariables false
set_option linter.unusedSimpArgs false
open Go.ChangeShapes Go.WideShapes Go.ChangeAt Go.RowKit
set_option maxRecDepth 100000 in
set_option maxHeartbeats 8000000 in
theorem puts31_no (k r i n i1 i2 t ck a b cn p q : Int) (w : World) (hf : Hid (∀ z ∈ ([k, r, i, n, i1, i2, t, ck, a, b, cn, p, q] : List Int), fits z = true)) (hT : TabF w) (hc : chkS k r i n i1 i2 t ck a b cn p q ≠ 0) :
    Calls Tryd.prog 3 #[.agg #[.int .i64 k, .int .i64 r, .int .i64 i, .int .i64 n, .int .i64 i1, .int .i64 i2, .int .i64 t, .int .i64 ck, .int .i64 a, .int .i64 b, .int .i64 cn, .int .i64 p, .int .i64 q]] w fun e w' => e = .returned (.bool true) ∧ Below w.heap.size w w' := by
  have hG := glob_lt hT
  have HA : Hid (Blk (w.alloc (.cells #[.int .i64 k, .int .i64 r, .int .i64 i, .int .i64 n, .int .i64 i1, .int .i64 i2, .int .i64 t, .int .i64 ck, .int .i64 a, .int .i64 b, .int .i64 cn, .int .i64 p, .int .i64 q] 27)) w.heap.size (ints [k, r, i, n, i1, i2, t, ck, a, b, cn, p, q]) 27) := Lib.hid (Blk.new w #[.int .i64 k, .int .i64 r, .int .i64 i, .int .i64 n, .int .i64 i1, .int .i64 i2, .int .i64 t, .int .i64 ck, .int .i64 a, .int .i64 b, .int .i64 cn, .int .i64 p, .int .i64 q] 27)
  have HB := Lib.hid ((Below.refl w.heap.size w).alloc (Nat.le_refl _) (.cells #[.int .i64 k, .int .i64 r, .int .i64 i, .int .i64 n, .int .i64 i1, .int .i64 i2, .int .i64 t, .int .i64 ck, .int .i64 a, .int .i64 b, .int .i64 cn, .int .i64 p, .int .i64 q] 27))
  have AL := Lib.hid (alive31 _ (hT.keep HB.out hG))
  have RK := Lib.hid (fun w => show Calls Tryd.prog 8 #[.agg (ints [k, r, i, n, i1, i2, t, ck, a, b, cn, p, q]).toArray] w fun e w' => e = .returned (.int .i64 (chkS k r i n i1 i2 t ck a b cn p q)) ∧ Below w.heap.size w w' from rchk31_any k r i n i1 i2 t ck a b cn p q w hf)
  have KC := Lib.hid (fun w' (hb : Below w.heap.size w w') => show Calls Tryd.prog 10 #[.agg (ints [k, r, i, n, i1, i2, t, ck, a, b, cn, p, q]).toArray] w' fun e w'' => e = .returned (.int .i64 (chkS k r i n i1 i2 t ck a b cn p q)) ∧ Below w'.heap.size w' w'' from chk31_any k r i n i1 i2 t ck a b cn p q w' hf (Lib.hid (hT.keep hb hG)) (glob_lt (hT.keep hb hG)))
  have CP := Lib.hid (fun w' (hb : Below w.heap.size w w') => show Calls Tryd.prog 9 #[.agg (ints [k, r, i, n, i1, i2, t, ck, a, b, cn, p, q]).toArray] w' fun e w'' => e = .returned (.tuple #[.slice none 0 0, .int .i64 (chkS k r i n i1 i2 t ck a b cn p q)]) ∧ Below w'.heap.size w' w'' from put31_no k r i n i1 i2 t ck a b cn p q hc w' (Lib.hid (fun w'' hb' => KC.out w'' (hb.trans (hb'.mono hb.size)))))
  generalize chkS k r i n i1 i2 t ck a b cn p q = code at *
  have hc' : ¬ code = 0 := hc
  clear hc
  have TX : RowT 27 (ints [k, r, i, n, i1, i2, t, ck, a, b, cn, p, q]).length := rowS
  clear hf hT hG
  go_enter Tryd.func3, Tryd.ntmps3
  go_upto_region 1 with fail
  generalize w.alloc (.cells #[.int .i64 k, .int .i64 r, .int .i64 i, .int .i64 n, .int .i64 i1, .int .i64 i2, .int .i64 t, .int .i64 ck, .int .i64 a, .int .i64 b, .int .i64 cn, .int .i64 p, .int .i64 q] 27) = W at *
  go_wp2_with fail
  refine AL.out.mono ?_
  rintro e w2 ⟨rfl, hb2⟩
  have B2 := Lib.hid (HB.out.trans (hb2.mono HB.out.size))
  have A2 := Lib.hid (HA.out.keep hb2 HA.out.lt)
  have r2 : w2.rangeAt w.heap.size 0 (ints [k, r, i, n, i1, i2, t, ck, a, b, cn, p, q]) := A2.out.range 0 _ rfl
  clear hb2 HB HA AL
  go_wp2_with (first
    | ((with_reducible refine ld_row r2 TX ?_ ?_ ?_); (· rfl); (· rfl); (simp only [Act.put, List.setIfInBounds_toArray, List.set_cons_zero, List.set_cons_succ])))
  refine (RK.out w2).mono ?_
  rintro e w3 ⟨rfl, hb3⟩
  have B3 := Lib.hid (B2.out.trans (hb3.mono B2.out.size))
  have A3 := Lib.hid (A2.out.keep hb3 A2.out.lt)
  have r3 : w3.rangeAt w.heap.size 0 (ints [k, r, i, n, i1, i2, t, ck, a, b, cn, p, q]) := A3.out.range 0 _ rfl
  clear hb3 B2 A2 r2 RK
  go_wp2_with (first
    | ((with_reducible refine ld_row r3 TX ?_ ?_ ?_); (· rfl); (· rfl); (simp only [Act.put, List.setIfInBounds_toArray, List.set_cons_zero, List.set_cons_succ])))
  refine (CP.out w3 B3.out).mono ?_
  rintro e w4 ⟨rfl, hb4⟩
  have B4 := Lib.hid (B3.out.trans (hb4.mono B3.out.size))
  have A4 := Lib.hid (A3.out.keep hb4 A3.out.lt)
  have r4 : w4.rangeAt w.heap.size 0 (ints [k, r, i, n, i1, i2, t, ck, a, b, cn, p, q]) := A4.out.range 0 _ rfl
  clear hb4 B3 A3 r3 CP
  go_wp2_with (first
    | ((with_reducible refine ld_row r4 TX ?_ ?_ ?_); (· rfl); (· rfl); (simp only [Act.put, List.setIfInBounds_toArray, List.set_cons_zero, List.set_cons_succ])))
  refine (KC.out w4 B4.out).mono ?_
  rintro e w5 ⟨rfl, hb5⟩
  have B5 := Lib.hid (B4.out.trans (hb5.mono B4.out.size))
  have A5 := Lib.hid (A4.out.keep hb5 A4.out.lt)
  clear hb5 B4 A4 r4 KC
  go_wp2_with fail
  go_ret
  exact ⟨rfl, B5.out⟩
set_option maxRecDepth 100000 in
set_option maxHeartbeats 8000000 in
theorem puts31_yes (k r i n i1 i2 t ck a b cn p q : Int) (w : World) (hf : Hid (∀ z ∈ ([k, r, i, n, i1, i2, t, ck, a, b, cn, p, q] : List Int), fits z = true)) (hT : TabF w) (hc : chkS k r i n i1 i2 t ck a b cn p q = 0) :
    Calls Tryd.prog 3 #[.agg #[.int .i64 k, .int .i64 r, .int .i64 i, .int .i64 n, .int .i64 i1, .int .i64 i2, .int .i64 t, .int .i64 ck, .int .i64 a, .int .i64 b, .int .i64 cn, .int .i64 p, .int .i64 q]] w fun e w' => e = .returned (.bool true) ∧ Below w.heap.size w w' := by
  have hG := glob_lt hT
  have HA : Hid (Blk (w.alloc (.cells #[.int .i64 k, .int .i64 r, .int .i64 i, .int .i64 n, .int .i64 i1, .int .i64 i2, .int .i64 t, .int .i64 ck, .int .i64 a, .int .i64 b, .int .i64 cn, .int .i64 p, .int .i64 q] 27)) w.heap.size (ints [k, r, i, n, i1, i2, t, ck, a, b, cn, p, q]) 27) := Lib.hid (Blk.new w #[.int .i64 k, .int .i64 r, .int .i64 i, .int .i64 n, .int .i64 i1, .int .i64 i2, .int .i64 t, .int .i64 ck, .int .i64 a, .int .i64 b, .int .i64 cn, .int .i64 p, .int .i64 q] 27)
  have HB := Lib.hid ((Below.refl w.heap.size w).alloc (Nat.le_refl _) (.cells #[.int .i64 k, .int .i64 r, .int .i64 i, .int .i64 n, .int .i64 i1, .int .i64 i2, .int .i64 t, .int .i64 ck, .int .i64 a, .int .i64 b, .int .i64 cn, .int .i64 p, .int .i64 q] 27))
  have AL := Lib.hid (alive31 _ (hT.keep HB.out hG))
  have RK := Lib.hid (fun w => show Calls Tryd.prog 8 #[.agg (ints [k, r, i, n, i1, i2, t, ck, a, b, cn, p, q]).toArray] w fun e w' => e = .returned (.int .i64 (chkS k r i n i1 i2 t ck a b cn p q)) ∧ Below w.heap.size w w' from rchk31_any k r i n i1 i2 t ck a b cn p q w hf)
  have KC := Lib.hid (fun w' (hb : Below w.heap.size w w') => show Calls Tryd.prog 10 #[.agg (ints [k, r, i, n, i1, i2, t, ck, a, b, cn, p, q]).toArray] w' fun e w'' => e = .returned (.int .i64 (chkS k r i n i1 i2 t ck a b cn p q)) ∧ Below w'.heap.size w' w'' from chk31_any k r i n i1 i2 t ck a b cn p q w' hf (Lib.hid (hT.keep hb hG)) (glob_lt (hT.keep hb hG)))
  rw [hc] at RK KC
  obtain ⟨zk, zo, zn, zq, e1, e2, e3⟩ := chk_zero hf.out hc
  have EX := Lib.hid (fun w => show (binOp .eql 27 (.agg (ints [k, r, i, n, i1, i2, t, ck, a, b, cn, p, q]).toArray) (.agg (ints [k, r, i, n, i1, i2, t, ck, a, b, cn, p, q]).toArray)).run Tryd.prog w = .ok (.bool true) w from by have := eq_step (x := [k, r, i, n, i1, i2, t, ck, a, b, cn, p, q]) (y := [k, r, i, n, i1, i2, t, ck, a, b, cn, p, q]) rfl rfl hf.out hf.out w; rwa [sameB_refl] at this)
  have DE : decS (encS k r i n ck a b cn p q) = [k, r, i, n, i1, i2, t, ck, a, b, cn, p, q] := by
    rw [dec_encS ⟨by omega, by omega⟩ zo zn zq (hf.out cn (by simp)), e1, e2, e3]
  have CP := Lib.hid (fun w' (hb : Below w.heap.size w w') => show Calls Tryd.prog 9 #[.agg (ints [k, r, i, n, i1, i2, t, ck, a, b, cn, p, q]).toArray] w' fun e w'' => ∃ a' c', e = .returned (.tuple #[.slice a' 21 c', .int .i64 0]) ∧ Sl w'' a' 21 1 (bcells (encS k r i n ck a b cn p q)) ∧ Below w'.heap.size w' w'' from put31_yes k r i n i1 i2 t ck a b cn p q w' (Lib.hid (fun w'' hb' => KC.out w'' (hb.trans (hb'.mono hb.size)))))
  have RD1 := Lib.hid (fun a9 c9 w' (hb : Below w.heap.size w w') (hs : Sl w' a9 21 1 (bcells (encS k r i n ck a b cn p q))) => show Calls Tryd.prog 11 #[.slice a9 21 c9] w' fun e w'' => e = .returned (.tuple #[.agg #[.int .i64 k, .int .i64 r, .int .i64 i, .int .i64 n, .int .i64 i1, .int .i64 i2, .int .i64 t, .int .i64 ck, .int .i64 a, .int .i64 b, .int .i64 cn, .int .i64 p, .int .i64 q], .int .i64 0]) ∧ Below w'.heap.size w' w'' from (by
    have := read31_yes a9 c9 (encS k r i n ck a b cn p q) w' hs (Lib.hid (by rw [DE]; exact fun w'' hb' => KC.out w'' (hb.trans (hb'.mono hb.size))))
    rw [DE] at this
    exact this))
  have RP := Lib.hid (fun w => show Calls Tryd.prog 12 #[.agg (ints [k, r, i, n, i1, i2, t, ck, a, b, cn, p, q]).toArray] w fun e w' => ∃ a' c', e = .returned (.slice a' 21 c') ∧ Sl w' a' 21 1 (bcells (encS k r i n ck a b cn p q)) ∧ Below w.heap.size w w' from rput31_any k r i n i1 i2 t ck a b cn p q w)
  clear hc zk zo zn zq e1 e2 e3 DE
  have TX : RowT 27 (ints [k, r, i, n, i1, i2, t, ck, a, b, cn, p, q]).length := rowS
  clear hf hT hG
  go_enter Tryd.func3, Tryd.ntmps3
  go_upto_region 1 with fail
  generalize w.alloc (.cells #[.int .i64 k, .int .i64 r, .int .i64 i, .int .i64 n, .int .i64 i1, .int .i64 i2, .int .i64 t, .int .i64 ck, .int .i64 a, .int .i64 b, .int .i64 cn, .int .i64 p, .int .i64 q] 27) = W at *
  go_wp2_with fail
  refine AL.out.mono ?_
  rintro e w2 ⟨rfl, hb2⟩
  have B2 := Lib.hid (HB.out.trans (hb2.mono HB.out.size))
  have A2 := Lib.hid (HA.out.keep hb2 HA.out.lt)
  have r2 : w2.rangeAt w.heap.size 0 (ints [k, r, i, n, i1, i2, t, ck, a, b, cn, p, q]) := A2.out.range 0 _ rfl
  clear hb2 HB HA AL
  go_wp2_with (first
    | ((with_reducible refine ld_row r2 TX ?_ ?_ ?_); (· rfl); (· rfl); (simp only [Act.put, List.setIfInBounds_toArray, List.set_cons_zero, List.set_cons_succ])))
  refine (RK.out w2).mono ?_
  rintro e w3 ⟨rfl, hb3⟩
  have B3 := Lib.hid (B2.out.trans (hb3.mono B2.out.size))
  have A3 := Lib.hid (A2.out.keep hb3 A2.out.lt)
  have r3 : w3.rangeAt w.heap.size 0 (ints [k, r, i, n, i1, i2, t, ck, a, b, cn, p, q]) := A3.out.range 0 _ rfl
  clear hb3 B2 A2 r2 RK
  go_wp2_with (first
    | ((with_reducible refine ld_row r3 TX ?_ ?_ ?_); (· rfl); (· rfl); (simp only [Act.put, List.setIfInBounds_toArray, List.set_cons_zero, List.set_cons_succ])))
  refine (CP.out w3 B3.out).mono ?_
  rintro e w4 ⟨a4, c4, rfl, hs4, hb4⟩
  have B4 := Lib.hid (B3.out.trans (hb4.mono B3.out.size))
  have A4 := Lib.hid (A3.out.keep hb4 A3.out.lt)
  have r4 : w4.rangeAt w.heap.size 0 (ints [k, r, i, n, i1, i2, t, ck, a, b, cn, p, q]) := A4.out.range 0 _ rfl
  clear hb4 B3 A3 r3 CP
  have S4 := Lib.hid hs4
  clear hs4
  go_wp2_with (first
    | ((with_reducible refine ld_row r4 TX ?_ ?_ ?_); (· rfl); (· rfl); (simp only [Act.put, List.setIfInBounds_toArray, List.set_cons_zero, List.set_cons_succ])))
  refine (KC.out w4 B4.out).mono ?_
  rintro e w5 ⟨rfl, hb5⟩
  have B5 := Lib.hid (B4.out.trans (hb5.mono B4.out.size))
  have A5 := Lib.hid (A4.out.keep hb5 A4.out.lt)
  have S5 := Lib.hid (S4.out.keep hb5)
  clear hb5 B4 A4 r4 KC S4
  go_wp2_with fail
  refine (RD1.out a4 c4 w5 B5.out S5.out).mono ?_
  rintro e w6 ⟨rfl, hb6⟩
  have B6 := Lib.hid (B5.out.trans (hb6.mono B5.out.size))
  have A6 := Lib.hid (A5.out.keep hb6 A5.out.lt)
  have S6 := Lib.hid (S5.out.keep hb6)
  have hal : Below w6.heap.size w6 (w6.alloc (.cells #[.int .i64 k, .int .i64 r, .int .i64 i, .int .i64 n, .int .i64 i1, .int .i64 i2, .int .i64 t, .int .i64 ck, .int .i64 a, .int .i64 b, .int .i64 cn, .int .i64 p, .int .i64 q] 27)) := (Below.refl _ _).alloc (Nat.le_refl _) _
  have Y7 : Hid (Blk (w6.alloc (.cells #[.int .i64 k, .int .i64 r, .int .i64 i, .int .i64 n, .int .i64 i1, .int .i64 i2, .int .i64 t, .int .i64 ck, .int .i64 a, .int .i64 b, .int .i64 cn, .int .i64 p, .int .i64 q] 27)) w6.heap.size (ints [k, r, i, n, i1, i2, t, ck, a, b, cn, p, q]) 27) := Lib.hid (Blk.new w6 #[.int .i64 k, .int .i64 r, .int .i64 i, .int .i64 n, .int .i64 i1, .int .i64 i2, .int .i64 t, .int .i64 ck, .int .i64 a, .int .i64 b, .int .i64 cn, .int .i64 p, .int .i64 q] 27)
  have B7 := Lib.hid (B6.out.trans (hal.mono B6.out.size))
  have A7 := Lib.hid (A6.out.keep hal A6.out.lt)
  have S7 := Lib.hid (S6.out.keep hal)
  clear hb6 hal B5 A5 S5 B6 A6 S6
  go_upto_region 10 with fail
  generalize hw7 : w6.alloc (.cells #[.int .i64 k, .int .i64 r, .int .i64 i, .int .i64 n, .int .i64 i1, .int .i64 i2, .int .i64 t, .int .i64 ck, .int .i64 a, .int .i64 b, .int .i64 cn, .int .i64 p, .int .i64 q] 27) = w7 at *
  generalize hg7 : w6.heap.size = g7 at *
  clear hw7 hg7 RD1
  refine held_begin (fun w' => Below w7.heap.size w7 w') 16 [false, false, false, false, false, false, false, false, false, false, false, false, false, false, false, false] (by kernel_rfl) rfl (by rfl) ?_
  have hHeld : Below w7.heap.size w7 w7.drew := (Below.refl _ _).drew
  refine held_take (v := ?_) 0 36 [true, false, false, false, false, false, false, false, false, false, false, false, false, false, false, false] rfl (by rfl) (by rfl) (by kernel_rfl) (by kernel_rfl) (by kernel_rfl) (by rfl) (fun _ _ _ h => h) ?_ hHeld ?_
  rotate_left
  · intro w hSw; go_simp <;> with_reducible rfl
  simp only [Act.put, List.setIfInBounds_toArray, List.set_cons_zero, List.set_cons_succ]
  refine held_take (v := .string ⟨(encS k r i n ck a b cn p q).toArray⟩) 1 37 [true, true, false, false, false, false, false, false, false, false, false, false, false, false, false, false] rfl (by rfl) (by rfl) (by kernel_rfl) (by kernel_rfl) (by kernel_rfl) (by rfl) (fun _ _ _ h => h) (fun w' h => run_op_conv rfl rfl (conv_bytes (S7.out.keep h) _)) hHeld ?_
  simp only [Act.put, List.setIfInBounds_toArray, List.set_cons_zero, List.set_cons_succ]
  refine held_take (v := .agg (ints [k, r, i, n, i1, i2, t, ck, a, b, cn, p, q]).toArray) 2 38 [true, true, true, false, false, false, false, false, false, false, false, false, false, false, false, false] rfl (by rfl) (by rfl) (by kernel_rfl) (by kernel_rfl) (by kernel_rfl) (by rfl) (fun _ _ _ h => h) (fun w' h => run_op_load rfl rfl ((A7.out.keep h A7.out.lt).range 0 (ints [k, r, i, n, i1, i2, t, ck, a, b, cn, p, q]) rfl) rowS.1.choose_spec.1 rowS.1.choose_spec.2 rowS.2) hHeld ?_
  simp only [Act.put, List.setIfInBounds_toArray, List.set_cons_zero, List.set_cons_succ]
  refine held_call 3 39 [true, true, true, true, false, false, false, false, false, false, false, false, false, false, false, false] (by kernel_rfl) rfl (by rfl) (by rfl) (by rfl) (by go_simp) ((RP.out _).mono ?_)
  rintro e w9 ⟨a9, c9, rfl, hs9, hb9⟩
  refine ⟨_, rfl, hHeld.trans (hb9.mono hHeld.size), fun hHeld => ?_⟩
  simp only [Act.put, List.setIfInBounds_toArray, List.set_cons_zero, List.set_cons_succ]
  have hHeld : Below w7.heap.size w7 _ := hHeld
  refine held_one 4 (by kernel_rfl) ?_
  refine op_value (v := .string ⟨(encS k r i n ck a b cn p q).toArray⟩) 40 [true, true, true, true, true, false, false, false, false, false, false, false, false, false, false, false] rfl (by rfl) (by rfl) (by rfl) (run_op_conv rfl rfl (conv_bytes hs9 _)) (hHeld) fun hHeld => ?_
  simp only [Act.put, List.setIfInBounds_toArray, List.set_cons_zero, List.set_cons_succ]
  refine held_take (v := .bool true) 5 41 [true, true, true, true, true, true, false, false, false, false, false, false, false, false, false, false] rfl (by rfl) (by rfl) (by kernel_rfl) (by kernel_rfl) (by kernel_rfl) (by rfl) (fun _ _ _ h => h) (fun w h => by go_simp) hHeld ?_
  simp only [Act.put, List.setIfInBounds_toArray, List.set_cons_zero, List.set_cons_succ]
  refine held_take (v := ?_) 6 42 [true, true, true, true, true, true, true, false, false, false, false, false, false, false, false, false] rfl (by rfl) (by rfl) (by kernel_rfl) (by kernel_rfl) (by kernel_rfl) (by rfl) (fun _ _ _ h => h) ?_ hHeld ?_
  rotate_left
  · intro w hSw; go_simp <;> with_reducible rfl
  simp only [Act.put, List.setIfInBounds_toArray, List.set_cons_zero, List.set_cons_succ]
  refine held_take (v := ?_) 7 43 [true, true, true, true, true, true, true, true, false, false, false, false, false, false, false, false] rfl (by rfl) (by rfl) (by kernel_rfl) (by kernel_rfl) (by kernel_rfl) (by rfl) (fun _ _ _ h => h) ?_ hHeld ?_
  rotate_left
  · intro w hSw; go_simp <;> with_reducible rfl
  simp only [Act.put, List.setIfInBounds_toArray, List.set_cons_zero, List.set_cons_succ]
  refine held_take (v := .bool true) 8 44 [true, true, true, true, true, true, true, true, true, false, false, false, false, false, false, false] rfl (by rfl) (by rfl) (by kernel_rfl) (by kernel_rfl) (by kernel_rfl) (by rfl) (fun _ _ _ h => h) (fun w h => by go_simp) hHeld ?_
  simp only [Act.put, List.setIfInBounds_toArray, List.set_cons_zero, List.set_cons_succ]
  refine held_take (v := .bool true) 9 45 [true, true, true, true, true, true, true, true, true, true, false, false, false, false, false, false] rfl (by rfl) (by rfl) (by kernel_rfl) (by kernel_rfl) (by kernel_rfl) (by rfl) (fun _ _ _ h => h) (fun w h => by go_simp) hHeld ?_
  simp only [Act.put, List.setIfInBounds_toArray, List.set_cons_zero, List.set_cons_succ]
  refine held_take (v := ?_) 10 46 [true, true, true, true, true, true, true, true, true, true, true, false, false, false, false, false] rfl (by rfl) (by rfl) (by kernel_rfl) (by kernel_rfl) (by kernel_rfl) (by rfl) (fun _ _ _ h => h) ?_ hHeld ?_
  rotate_left
  · intro w hSw; go_simp <;> with_reducible rfl
  simp only [Act.put, List.setIfInBounds_toArray, List.set_cons_zero, List.set_cons_succ]
  refine held_take (v := .agg (ints [k, r, i, n, i1, i2, t, ck, a, b, cn, p, q]).toArray) 11 47 [true, true, true, true, true, true, true, true, true, true, true, true, false, false, false, false] rfl (by rfl) (by rfl) (by kernel_rfl) (by kernel_rfl) (by kernel_rfl) (by rfl) (fun _ _ _ h => h) (fun w' h => run_op_load rfl rfl ((Y7.out.keep h Y7.out.lt).range 0 (ints [k, r, i, n, i1, i2, t, ck, a, b, cn, p, q]) rfl) rowS.1.choose_spec.1 rowS.1.choose_spec.2 rowS.2) hHeld ?_
  simp only [Act.put, List.setIfInBounds_toArray, List.set_cons_zero, List.set_cons_succ]
  refine held_take (v := .agg (ints [k, r, i, n, i1, i2, t, ck, a, b, cn, p, q]).toArray) 12 48 [true, true, true, true, true, true, true, true, true, true, true, true, true, false, false, false] rfl (by rfl) (by rfl) (by kernel_rfl) (by kernel_rfl) (by kernel_rfl) (by rfl) (fun _ _ _ h => h) (fun w' h => run_op_load rfl rfl ((A7.out.keep h A7.out.lt).range 0 (ints [k, r, i, n, i1, i2, t, ck, a, b, cn, p, q]) rfl) rowS.1.choose_spec.1 rowS.1.choose_spec.2 rowS.2) hHeld ?_
  simp only [Act.put, List.setIfInBounds_toArray, List.set_cons_zero, List.set_cons_succ]
  refine held_take (v := .bool true) 13 49 [true, true, true, true, true, true, true, true, true, true, true, true, true, true, false, false] rfl (by rfl) (by rfl) (by kernel_rfl) (by kernel_rfl) (by kernel_rfl) (by rfl) (fun _ _ _ h => h) (fun w h => run_op_cmp rfl rfl rfl (by kernel_rfl) (EX.out w)) hHeld ?_
  simp only [Act.put, List.setIfInBounds_toArray, List.set_cons_zero, List.set_cons_succ]
  refine held_take (v := .bool true) 14 50 [true, true, true, true, true, true, true, true, true, true, true, true, true, true, true, false] rfl (by rfl) (by rfl) (by kernel_rfl) (by kernel_rfl) (by kernel_rfl) (by rfl) (fun _ _ _ h => h) (fun w h => by go_simp) hHeld ?_
  simp only [Act.put, List.setIfInBounds_toArray, List.set_cons_zero, List.set_cons_succ]
  refine held_take (v := ?_) 15 2 [true, true, true, true, true, true, true, true, true, true, true, true, true, true, true, true] rfl (by rfl) (by rfl) (by kernel_rfl) (by kernel_rfl) (by kernel_rfl) (by rfl) (fun _ _ _ h => h) ?_ hHeld ?_
  rotate_left
  · intro w hSw; go_simp <;> with_reducible rfl
  simp only [Act.put, List.setIfInBounds_toArray, List.set_cons_zero, List.set_cons_succ]
  refine held_done (by kernel_rfl) ?_
  go_wp2_with fail
  go_ret
  exact ⟨rfl, B7.out.trans (hHeld.mono B7.out.size)⟩
theorem Arg.step {W : World} {v : Value} (h : Arg Tryd.prog W 27 v) : ∃ k r i n i1 i2 t ck a b cn p q : Int, v = .agg #[.int .i64 k, .int .i64 r, .int .i64 i, .int .i64 n, .int .i64 i1, .int .i64 i2, .int .i64 t, .int .i64 ck, .int .i64 a, .int .i64 b, .int .i64 cn, .int .i64 p, .int .i64 q] ∧ ∀ z ∈ ([k, r, i, n, i1, i2, t, ck, a, b, cn, p, q] : List Int), fits z = true := by
  obtain ⟨cs, rfl, hok⟩ := h.flat_struct (f := 5) (ks := List.replicate 13 (some IntKind.i64)) Tryd.underlying27 flatS
  have hl := hok.len
  obtain ⟨cs⟩ := cs
  match cs, hl, hok with
  | [x0, x1, x2, x3, x4, x5, x6, x7, x8, x9, x10, x11, x12], _, hok =>
    obtain ⟨⟨z0, rfl, f0⟩, ⟨z1, rfl, f1⟩, ⟨z2, rfl, f2⟩, ⟨z3, rfl, f3⟩, ⟨z4, rfl, f4⟩, ⟨z5, rfl, f5⟩, ⟨z6, rfl, f6⟩, ⟨z7, rfl, f7⟩, ⟨z8, rfl, f8⟩, ⟨z9, rfl, f9⟩, ⟨z10, rfl, f10⟩, ⟨z11, rfl, f11⟩, ⟨z12, rfl, f12⟩, _⟩ := hok
    refine ⟨z0, z1, z2, z3, z4, z5, z6, z7, z8, z9, z10, z11, z12, rfl, ?_⟩
    intro z hz
    simp only [List.mem_cons, List.not_mem_nil, or_false] at hz
    rcases hz with rfl | rfl | rfl | rfl | rfl | rfl | rfl | rfl | rfl | rfl | rfl | rfl | rfl
    · exact fits_wf f0
    · exact fits_wf f1
    · exact fits_wf f2
    · exact fits_wf f3
    · exact fits_wf f4
    · exact fits_wf f5
    · exact fits_wf f6
    · exact fits_wf f7
    · exact fits_wf f8
    · exact fits_wf f9
    · exact fits_wf f10
    · exact fits_wf f11
    · exact fits_wf f12
theorem puts31_walk (v0 : Value) (w : World) (hL : laidMet Tryd.prog Rows.codePutsRow.laid w) (h0 : Arg Tryd.prog w 27 v0) :
    Calls Tryd.prog 3 #[v0] w fun e w' => e = .returned (.bool true) ∧ Below w.heap.size w w' := by
  have hT : TabF w := tabF_of hL
  obtain ⟨k, r, i, n, i1, i2, t, ck, a, b, cn, p, q, rfl, hf⟩ := h0.step
  by_cases hc : chkS k r i n i1 i2 t ck a b cn p q = 0
  · exact puts31_yes k r i n i1 i2 t ck a b cn p q w (Lib.hid hf) hT hc
  · exact puts31_no k r i n i1 i2 t ck a b cn p q w (Lib.hid hf) hT hc
end Go.Proofs.YteijahcbfncebaaDoor
