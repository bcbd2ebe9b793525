/- The statement of steps read. -/
import Derived.Test.YteijahcbfncebaaDoorCode20
import Derived.Deep.DeepCutAuto
import Derived.RegionTactic
import Derived.BigRegion
import Derived.ChangeAlike
namespace Go.Proofs.YteijahcbfncebaaDoor
set_option linter.unusedVariables false
set_option linter.unusedSimpArgs false
open Go.ChangeShapes Go.WideShapes Go.ChangeAt Go.RowKit
theorem fits_wrapS (x : Int) : fits (wrap64 x) = true := (fits_iff _).2 (by unfold wrap64; omega)
theorem be_back (xs : List UInt8) (h : xs.length ≤ 8) : beOf (u64 (wrap64 (numOf xs : Int))) xs.length = xs := by
  have h1 := numOf_small64 xs h
  have hu : u64 (wrap64 (numOf xs : Int)) = numOf xs := by unfold u64 wrap64; omega
  rw [hu, nb_back]
theorem be_oneS (x : UInt8) : beOf (u64 (wrap64 (x.toNat : Int))) 1 = [x] := by
  have := be_back [x] (by simp)
  simpa [numOf] using this
theorem len21 {bs : List UInt8} (h : bs.length = 21) : ∃ a b c d e f g i j k l m n o p q r s t u v, bs = [a, b, c, d, e, f, g, i, j, k, l, m, n, o, p, q, r, s, t, u, v] := by
  match bs, h with
  | [a, b, c, d, e, f, g, i, j, k, l, m, n, o, p, q, r, s, t, u, v], _ => exact ⟨a, b, c, d, e, f, g, i, j, k, l, m, n, o, p, q, r, s, t, u, v, rfl⟩
/-- the octets of the step that octets are. -/
theorem decS_parts {bs : List UInt8} (h : bs.length = 21) : ∃ k r i n ck a b cn p q : Int, decS bs = [k, r, i, n, 0, 0, 0, ck, a, b, cn, p, q] ∧ encS k r i n ck a b cn p q = bs ∧ ∀ z ∈ ([k, r, i, n, 0, 0, 0, ck, a, b, cn, p, q] : List Int), fits z = true := by
  refine ⟨_, _, _, _, _, _, _, _, _, _, decS_at h, ?_, ?_⟩
  · obtain ⟨a, b, c, d, e, f, g, i, j, k, l, m, n, o, p, q, r, s, t, u, v, rfl⟩ := len21 h
    unfold encS
    have e3 := be_back [d, e, f, g] (by simp)
    have e10 := be_back [l, m, n, o, p, q, r, s] (by simp)
    have e19 := be_back [u, v] (by simp)
    simp only [List.getD_cons_zero, List.getD_cons_succ, List.drop_succ_cons, List.drop_zero, List.take_succ_cons, List.take_zero, List.length_cons, List.length_nil, Nat.reduceAdd, Nat.zero_add] at e3 e10 e19 ⊢
    rw [e3, e10, e19]
    simp only [be_oneS]
    rfl
  · intro z hz
    simp only [List.mem_cons, List.not_mem_nil, or_false] at hz
    rcases hz with h | h | h | h | h | h | h | h | h | h | h | h | h <;> rw [h] <;> first | exact fits_wrapS _ | exact fits0S
set_option maxRecDepth 100000 in
set_option maxHeartbeats 8000000 in
theorem reads31_len (a1 : Option Addr) (c1 : Nat) (n1 : Nat) (bs : List UInt8) (hn : n1 ≠ 21) (w : World) (hT : TabF w) (hcl : n1 ≤ c1) (hcm : c1 ≤ 9223372036854775807) (hsl : Sl w a1 n1 1 (bcells bs)) :
    Calls Tryd.prog 4 #[.slice a1 n1 c1] w fun e w' => e = .returned (.bool true) ∧ Below w.heap.size w w' := by
  have hG := glob_lt hT
  have AL := Lib.hid (alive31 w hT)
  have RD1 := Lib.hid (fun w' => show Calls Tryd.prog 11 #[.slice a1 n1 c1] w' fun e w'' => e = .returned (.tuple #[.agg #[.int .i64 0, .int .i64 0, .int .i64 0, .int .i64 0, .int .i64 0, .int .i64 0, .int .i64 0, .int .i64 0, .int .i64 0, .int .i64 0, .int .i64 0, .int .i64 0, .int .i64 0], .int .i64 16]) ∧ Below w'.heap.size w' w'' from read31_len a1 n1 c1 w' hn)
  have h21 : ¬ (n1 : Int) = 21 := by omega
  clear hn
  have EZ := Lib.hid (fun w => show (binOp .eql 27 (.agg (ints [0, 0, 0, 0, 0, 0, 0, 0, 0, 0, 0, 0, 0]).toArray) (.agg (ints [0, 0, 0, 0, 0, 0, 0, 0, 0, 0, 0, 0, 0]).toArray)).run Tryd.prog w = .ok (.bool true) w from by have := eq_step (x := [0, 0, 0, 0, 0, 0, 0, 0, 0, 0, 0, 0, 0]) (y := [0, 0, 0, 0, 0, 0, 0, 0, 0, 0, 0, 0, 0]) rfl rfl (by decide) (by decide) w; rwa [sameB_refl] at this)
  have TX : RowT 27 (ints [0, 0, 0, 0, 0, 0, 0, 0, 0, 0, 0, 0, 0]).length := rowS
  have TZ : RowT 27 (ints [0, 0, 0, 0, 0, 0, 0, 0, 0, 0, 0, 0, 0]).length := rowS
  have gS : Tryd.prog.eqGuardType Tryd.prog.depth 27 = false := by kernel_rfl
  have HS := Lib.hid hsl
  clear hT hG hsl hcl hcm
  go_enter Tryd.func4, Tryd.ntmps4
  go_wp2_with fail
  refine AL.out.mono ?_
  rintro e w2 ⟨rfl, hb2⟩
  have B2 := Lib.hid hb2
  have S2 := Lib.hid (HS.out.keep hb2)
  clear hb2 HS AL
  go_wp2_with fail
  refine (RD1.out w2).mono ?_
  rintro e w3 ⟨rfl, hb3⟩
  have hal : Below w3.heap.size w3 (w3.alloc (.cells #[.int .i64 0, .int .i64 0, .int .i64 0, .int .i64 0, .int .i64 0, .int .i64 0, .int .i64 0, .int .i64 0, .int .i64 0, .int .i64 0, .int .i64 0, .int .i64 0, .int .i64 0] 27)) := (Below.refl _ _).alloc (Nat.le_refl _) _
  have X4 : Hid (Blk (w3.alloc (.cells #[.int .i64 0, .int .i64 0, .int .i64 0, .int .i64 0, .int .i64 0, .int .i64 0, .int .i64 0, .int .i64 0, .int .i64 0, .int .i64 0, .int .i64 0, .int .i64 0, .int .i64 0] 27)) w3.heap.size (ints [0, 0, 0, 0, 0, 0, 0, 0, 0, 0, 0, 0, 0]) 27) := Lib.hid (Blk.new w3 #[.int .i64 0, .int .i64 0, .int .i64 0, .int .i64 0, .int .i64 0, .int .i64 0, .int .i64 0, .int .i64 0, .int .i64 0, .int .i64 0, .int .i64 0, .int .i64 0, .int .i64 0] 27)
  have B4 := Lib.hid ((B2.out.trans (hb3.mono B2.out.size)).trans (hal.mono (Nat.le_trans B2.out.size hb3.size)))
  have S4 := Lib.hid ((S2.out.keep hb3).keep hal)
  clear hb3 hal B2 S2 RD1
  go_upto_region 4 with fail
  generalize hw4 : w3.alloc (.cells #[.int .i64 0, .int .i64 0, .int .i64 0, .int .i64 0, .int .i64 0, .int .i64 0, .int .i64 0, .int .i64 0, .int .i64 0, .int .i64 0, .int .i64 0, .int .i64 0, .int .i64 0] 27) = w4 at *
  generalize hg4 : w3.heap.size = g4 at *
  clear hw4 hg4
  have r4 : w4.rangeAt g4 0 (ints [0, 0, 0, 0, 0, 0, 0, 0, 0, 0, 0, 0, 0]) := X4.out.range 0 _ rfl
  go_wp2_with (first
    | ((with_reducible refine ld_row r4 TZ ?_ ?_ ?_); (· rfl); (· rfl); (simp only [Act.put, List.setIfInBounds_toArray, List.set_cons_zero, List.set_cons_succ]))
    | ((with_reducible refine cmp_row gS EZ.out ?_ ?_ ?_ ?_); (· first | rfl | (show _ = Value.agg (ints [0, 0, 0, 0, 0, 0, 0, 0, 0, 0, 0, 0, 0]).toArray; rfl)); (· first | rfl | (show _ = Value.agg (ints [0, 0, 0, 0, 0, 0, 0, 0, 0, 0, 0, 0, 0]).toArray; rfl)); (· rfl); (simp only [Act.put, List.setIfInBounds_toArray, List.set_cons_zero, List.set_cons_succ])))
  go_ret
  exact ⟨rfl, B4.out⟩
set_option maxRecDepth 100000 in
set_option maxHeartbeats 8000000 in
theorem reads31_no (a1 : Option Addr) (c1 : Nat) (k r i n ck a b cn p q : Int) (w : World) (hd : decS (encS k r i n ck a b cn p q) = [k, r, i, n, 0, 0, 0, ck, a, b, cn, p, q]) (hf : ∀ z ∈ ([k, r, i, n, 0, 0, 0, ck, a, b, cn, p, q] : List Int), fits z = true) (hc : chkS k r i n 0 0 0 ck a b cn p q ≠ 0) (hT : TabF w) (hcl : 21 ≤ c1) (hcm : c1 ≤ 9223372036854775807) (hsl : Sl w a1 21 1 (bcells (encS k r i n ck a b cn p q))) :
    Calls Tryd.prog 4 #[.slice a1 21 c1] w fun e w' => e = .returned (.bool true) ∧ Below w.heap.size w w' := by
  have hG := glob_lt hT
  have AL := Lib.hid (alive31 w hT)
  have KC := Lib.hid (fun w' (hb : Below w.heap.size w w') => show Calls Tryd.prog 10 #[.agg (ints [k, r, i, n, 0, 0, 0, ck, a, b, cn, p, q]).toArray] w' fun e w'' => e = .returned (.int .i64 (chkS k r i n 0 0 0 ck a b cn p q)) ∧ Below w'.heap.size w' w'' from chk31_any k r i n 0 0 0 ck a b cn p q w' (Lib.hid hf) (Lib.hid (hT.keep hb hG)) (glob_lt (hT.keep hb hG)))
  have RK := Lib.hid (fun w => show Calls Tryd.prog 8 #[.agg (ints [k, r, i, n, 0, 0, 0, ck, a, b, cn, p, q]).toArray] w fun e w' => e = .returned (.int .i64 (chkS k r i n 0 0 0 ck a b cn p q)) ∧ Below w.heap.size w w' from rchk31_any k r i n 0 0 0 ck a b cn p q w (Lib.hid hf))
  have RR1 := Lib.hid (fun w' (hs : Sl w' a1 21 1 (bcells (encS k r i n ck a b cn p q))) => show Calls Tryd.prog 13 #[.slice a1 21 c1] w' fun e w'' => e = .returned (.agg #[.int .i64 k, .int .i64 r, .int .i64 i, .int .i64 n, .int .i64 0, .int .i64 0, .int .i64 0, .int .i64 ck, .int .i64 a, .int .i64 b, .int .i64 cn, .int .i64 p, .int .i64 q]) ∧ Below w'.heap.size w' w'' from (by have := rread31_any a1 c1 (encS k r i n ck a b cn p q) w' hs hcl hcm; rw [hd] at this; exact this))
  generalize chkS k r i n 0 0 0 ck a b cn p q = code at *
  have RD1 := Lib.hid (fun w' (hb : Below w.heap.size w w') (hs : Sl w' a1 21 1 (bcells (encS k r i n ck a b cn p q))) => show Calls Tryd.prog 11 #[.slice a1 21 c1] w' fun e w'' => e = .returned (.tuple #[.agg #[.int .i64 0, .int .i64 0, .int .i64 0, .int .i64 0, .int .i64 0, .int .i64 0, .int .i64 0, .int .i64 0, .int .i64 0, .int .i64 0, .int .i64 0, .int .i64 0, .int .i64 0], .int .i64 code]) ∧ Below w'.heap.size w' w'' from read31_no a1 c1 (encS k r i n ck a b cn p q) w' hs hc (Lib.hid (by rw [hd]; exact fun w'' hb' => KC.out w'' (hb.trans (hb'.mono hb.size)))))
  have hcb : (code != 0) = true := by simpa using hc
  clear hc hd hf
  have EZ := Lib.hid (fun w => show (binOp .eql 27 (.agg (ints [0, 0, 0, 0, 0, 0, 0, 0, 0, 0, 0, 0, 0]).toArray) (.agg (ints [0, 0, 0, 0, 0, 0, 0, 0, 0, 0, 0, 0, 0]).toArray)).run Tryd.prog w = .ok (.bool true) w from by have := eq_step (x := [0, 0, 0, 0, 0, 0, 0, 0, 0, 0, 0, 0, 0]) (y := [0, 0, 0, 0, 0, 0, 0, 0, 0, 0, 0, 0, 0]) rfl rfl (by decide) (by decide) w; rwa [sameB_refl] at this)
  have TX : RowT 27 (ints [k, r, i, n, 0, 0, 0, ck, a, b, cn, p, q]).length := rowS
  have TZ : RowT 27 (ints [0, 0, 0, 0, 0, 0, 0, 0, 0, 0, 0, 0, 0]).length := rowS
  have gS : Tryd.prog.eqGuardType Tryd.prog.depth 27 = false := by kernel_rfl
  have HS := Lib.hid hsl
  clear hT hG hsl hcl hcm
  go_enter Tryd.func4, Tryd.ntmps4
  go_wp2_with fail
  refine AL.out.mono ?_
  rintro e w2 ⟨rfl, hb2⟩
  have B2 := Lib.hid hb2
  have S2 := Lib.hid (HS.out.keep hb2)
  clear hb2 HS AL
  go_wp2_with fail
  refine (RD1.out w2 B2.out S2.out).mono ?_
  rintro e w3 ⟨rfl, hb3⟩
  have hal : Below w3.heap.size w3 (w3.alloc (.cells #[.int .i64 0, .int .i64 0, .int .i64 0, .int .i64 0, .int .i64 0, .int .i64 0, .int .i64 0, .int .i64 0, .int .i64 0, .int .i64 0, .int .i64 0, .int .i64 0, .int .i64 0] 27)) := (Below.refl _ _).alloc (Nat.le_refl _) _
  have X4 : Hid (Blk (w3.alloc (.cells #[.int .i64 0, .int .i64 0, .int .i64 0, .int .i64 0, .int .i64 0, .int .i64 0, .int .i64 0, .int .i64 0, .int .i64 0, .int .i64 0, .int .i64 0, .int .i64 0, .int .i64 0] 27)) w3.heap.size (ints [0, 0, 0, 0, 0, 0, 0, 0, 0, 0, 0, 0, 0]) 27) := Lib.hid (Blk.new w3 #[.int .i64 0, .int .i64 0, .int .i64 0, .int .i64 0, .int .i64 0, .int .i64 0, .int .i64 0, .int .i64 0, .int .i64 0, .int .i64 0, .int .i64 0, .int .i64 0, .int .i64 0] 27)
  have B4 := Lib.hid ((B2.out.trans (hb3.mono B2.out.size)).trans (hal.mono (Nat.le_trans B2.out.size hb3.size)))
  have S4 := Lib.hid ((S2.out.keep hb3).keep hal)
  clear hb3 hal B2 S2 RD1
  go_upto_region 4 with fail
  generalize hw4 : w3.alloc (.cells #[.int .i64 0, .int .i64 0, .int .i64 0, .int .i64 0, .int .i64 0, .int .i64 0, .int .i64 0, .int .i64 0, .int .i64 0, .int .i64 0, .int .i64 0, .int .i64 0, .int .i64 0] 27) = w4 at *
  generalize hg4 : w3.heap.size = g4 at *
  clear hw4 hg4
  go_wp2_with fail
  refine (RR1.out w4 S4.out).mono ?_
  rintro e w5 ⟨rfl, hb5⟩
  have hal : Below w5.heap.size w5 (w5.alloc (.cells #[.int .i64 k, .int .i64 r, .int .i64 i, .int .i64 n, .int .i64 0, .int .i64 0, .int .i64 0, .int .i64 ck, .int .i64 a, .int .i64 b, .int .i64 cn, .int .i64 p, .int .i64 q] 27)) := (Below.refl _ _).alloc (Nat.le_refl _) _
  have Y6 : Hid (Blk (w5.alloc (.cells #[.int .i64 k, .int .i64 r, .int .i64 i, .int .i64 n, .int .i64 0, .int .i64 0, .int .i64 0, .int .i64 ck, .int .i64 a, .int .i64 b, .int .i64 cn, .int .i64 p, .int .i64 q] 27)) w5.heap.size (ints [k, r, i, n, 0, 0, 0, ck, a, b, cn, p, q]) 27) := Lib.hid (Blk.new w5 #[.int .i64 k, .int .i64 r, .int .i64 i, .int .i64 n, .int .i64 0, .int .i64 0, .int .i64 0, .int .i64 ck, .int .i64 a, .int .i64 b, .int .i64 cn, .int .i64 p, .int .i64 q] 27)
  have B6 := Lib.hid ((B4.out.trans (hb5.mono B4.out.size)).trans (hal.mono (Nat.le_trans B4.out.size hb5.size)))
  have S6 := Lib.hid ((S4.out.keep hb5).keep hal)
  have X6 := Lib.hid ((X4.out.keep hb5 X4.out.lt).alloc (.cells #[.int .i64 k, .int .i64 r, .int .i64 i, .int .i64 n, .int .i64 0, .int .i64 0, .int .i64 0, .int .i64 ck, .int .i64 a, .int .i64 b, .int .i64 cn, .int .i64 p, .int .i64 q] 27))
  clear hb5 hal B4 S4 X4 RR1
  go_upto_region 7 with fail
  generalize hw6 : w5.alloc (.cells #[.int .i64 k, .int .i64 r, .int .i64 i, .int .i64 n, .int .i64 0, .int .i64 0, .int .i64 0, .int .i64 ck, .int .i64 a, .int .i64 b, .int .i64 cn, .int .i64 p, .int .i64 q] 27) = w6 at *
  generalize hg6 : w5.heap.size = g6 at *
  clear hw6 hg6
  have r6 : w6.rangeAt g6 0 (ints [k, r, i, n, 0, 0, 0, ck, a, b, cn, p, q]) := Y6.out.range 0 _ rfl
  go_wp2_with (first
    | ((with_reducible refine ld_row r6 TX ?_ ?_ ?_); (· rfl); (· rfl); (simp only [Act.put, List.setIfInBounds_toArray, List.set_cons_zero, List.set_cons_succ])))
  refine (RK.out w6).mono ?_
  rintro e w7 ⟨rfl, hb7⟩
  have B7 := Lib.hid (B6.out.trans (hb7.mono B6.out.size))
  have S7 := Lib.hid (S6.out.keep hb7)
  have X7 := Lib.hid (X6.out.keep hb7 X6.out.lt)
  have Y7 := Lib.hid (Y6.out.keep hb7 Y6.out.lt)
  clear hb7 B6 S6 X6 Y6 r6 RK KC
  have r7 : w7.rangeAt g4 0 (ints [0, 0, 0, 0, 0, 0, 0, 0, 0, 0, 0, 0, 0]) := X7.out.range 0 _ rfl
  go_wp2_with (first
    | ((with_reducible refine ld_row r7 TZ ?_ ?_ ?_); (· rfl); (· rfl); (simp only [Act.put, List.setIfInBounds_toArray, List.set_cons_zero, List.set_cons_succ]))
    | ((with_reducible refine cmp_row gS EZ.out ?_ ?_ ?_ ?_); (· first | rfl | (show _ = Value.agg (ints [0, 0, 0, 0, 0, 0, 0, 0, 0, 0, 0, 0, 0]).toArray; rfl)); (· first | rfl | (show _ = Value.agg (ints [0, 0, 0, 0, 0, 0, 0, 0, 0, 0, 0, 0, 0]).toArray; rfl)); (· rfl); (simp only [Act.put, List.setIfInBounds_toArray, List.set_cons_zero, List.set_cons_succ])))
  go_ret
  exact ⟨rfl, B7.out⟩
set_option maxRecDepth 100000 in
set_option maxHeartbeats 8000000 in
theorem reads31_yes (a1 : Option Addr) (c1 : Nat) (k r i n ck a b cn p q : Int) (w : World) (hd : decS (encS k r i n ck a b cn p q) = [k, r, i, n, 0, 0, 0, ck, a, b, cn, p, q]) (hf : ∀ z ∈ ([k, r, i, n, 0, 0, 0, ck, a, b, cn, p, q] : List Int), fits z = true) (hc : chkS k r i n 0 0 0 ck a b cn p q = 0) (hT : TabF w) (hcl : 21 ≤ c1) (hcm : c1 ≤ 9223372036854775807) (hsl : Sl w a1 21 1 (bcells (encS k r i n ck a b cn p q))) :
    Calls Tryd.prog 4 #[.slice a1 21 c1] w fun e w' => e = .returned (.bool true) ∧ Below w.heap.size w w' := by
  have hG := glob_lt hT
  have AL := Lib.hid (alive31 w hT)
  have KC := Lib.hid (fun w' (hb : Below w.heap.size w w') => show Calls Tryd.prog 10 #[.agg (ints [k, r, i, n, 0, 0, 0, ck, a, b, cn, p, q]).toArray] w' fun e w'' => e = .returned (.int .i64 (chkS k r i n 0 0 0 ck a b cn p q)) ∧ Below w'.heap.size w' w'' from chk31_any k r i n 0 0 0 ck a b cn p q w' (Lib.hid hf) (Lib.hid (hT.keep hb hG)) (glob_lt (hT.keep hb hG)))
  have RK := Lib.hid (fun w => show Calls Tryd.prog 8 #[.agg (ints [k, r, i, n, 0, 0, 0, ck, a, b, cn, p, q]).toArray] w fun e w' => e = .returned (.int .i64 (chkS k r i n 0 0 0 ck a b cn p q)) ∧ Below w.heap.size w w' from rchk31_any k r i n 0 0 0 ck a b cn p q w (Lib.hid hf))
  have RR1 := Lib.hid (fun w' (hs : Sl w' a1 21 1 (bcells (encS k r i n ck a b cn p q))) => show Calls Tryd.prog 13 #[.slice a1 21 c1] w' fun e w'' => e = .returned (.agg #[.int .i64 k, .int .i64 r, .int .i64 i, .int .i64 n, .int .i64 0, .int .i64 0, .int .i64 0, .int .i64 ck, .int .i64 a, .int .i64 b, .int .i64 cn, .int .i64 p, .int .i64 q]) ∧ Below w'.heap.size w' w'' from (by have := rread31_any a1 c1 (encS k r i n ck a b cn p q) w' hs hcl hcm; rw [hd] at this; exact this))
  rw [hc] at KC RK
  have RD1 := Lib.hid (fun w' (hb : Below w.heap.size w w') (hs : Sl w' a1 21 1 (bcells (encS k r i n ck a b cn p q))) => show Calls Tryd.prog 11 #[.slice a1 21 c1] w' fun e w'' => e = .returned (.tuple #[.agg #[.int .i64 k, .int .i64 r, .int .i64 i, .int .i64 n, .int .i64 0, .int .i64 0, .int .i64 0, .int .i64 ck, .int .i64 a, .int .i64 b, .int .i64 cn, .int .i64 p, .int .i64 q], .int .i64 0]) ∧ Below w'.heap.size w' w'' from (by
    have := read31_yes a1 c1 (encS k r i n ck a b cn p q) w' hs (Lib.hid (by rw [hd]; exact fun w'' hb' => KC.out w'' (hb.trans (hb'.mono hb.size))))
    rw [hd] at this
    exact this))
  have EX := Lib.hid (fun w => show (binOp .eql 27 (.agg (ints [k, r, i, n, 0, 0, 0, ck, a, b, cn, p, q]).toArray) (.agg (ints [k, r, i, n, 0, 0, 0, ck, a, b, cn, p, q]).toArray)).run Tryd.prog w = .ok (.bool true) w from by have := eq_step (x := [k, r, i, n, 0, 0, 0, ck, a, b, cn, p, q]) (y := [k, r, i, n, 0, 0, 0, ck, a, b, cn, p, q]) rfl rfl hf hf w; rwa [sameB_refl] at this)
  have RP := Lib.hid (fun w => show Calls Tryd.prog 12 #[.agg (ints [k, r, i, n, 0, 0, 0, ck, a, b, cn, p, q]).toArray] w fun e w' => ∃ a' c', e = .returned (.slice a' 21 c') ∧ Sl w' a' 21 1 (bcells (encS k r i n ck a b cn p q)) ∧ Below w.heap.size w w' from rput31_any k r i n 0 0 0 ck a b cn p q w)
  clear hc hd hf
  have TX : RowT 27 (ints [k, r, i, n, 0, 0, 0, ck, a, b, cn, p, q]).length := rowS
  have TZ : RowT 27 (ints [0, 0, 0, 0, 0, 0, 0, 0, 0, 0, 0, 0, 0]).length := rowS
  have gS : Tryd.prog.eqGuardType Tryd.prog.depth 27 = false := by kernel_rfl
  have HS := Lib.hid hsl
  clear hT hG hsl hcl hcm
  go_enter Tryd.func4, Tryd.ntmps4
  go_wp2_with fail
  refine AL.out.mono ?_
  rintro e w2 ⟨rfl, hb2⟩
  have B2 := Lib.hid hb2
  have S2 := Lib.hid (HS.out.keep hb2)
  clear hb2 HS AL
  go_wp2_with fail
  refine (RD1.out w2 B2.out S2.out).mono ?_
  rintro e w3 ⟨rfl, hb3⟩
  have hal : Below w3.heap.size w3 (w3.alloc (.cells #[.int .i64 k, .int .i64 r, .int .i64 i, .int .i64 n, .int .i64 0, .int .i64 0, .int .i64 0, .int .i64 ck, .int .i64 a, .int .i64 b, .int .i64 cn, .int .i64 p, .int .i64 q] 27)) := (Below.refl _ _).alloc (Nat.le_refl _) _
  have X4 : Hid (Blk (w3.alloc (.cells #[.int .i64 k, .int .i64 r, .int .i64 i, .int .i64 n, .int .i64 0, .int .i64 0, .int .i64 0, .int .i64 ck, .int .i64 a, .int .i64 b, .int .i64 cn, .int .i64 p, .int .i64 q] 27)) w3.heap.size (ints [k, r, i, n, 0, 0, 0, ck, a, b, cn, p, q]) 27) := Lib.hid (Blk.new w3 #[.int .i64 k, .int .i64 r, .int .i64 i, .int .i64 n, .int .i64 0, .int .i64 0, .int .i64 0, .int .i64 ck, .int .i64 a, .int .i64 b, .int .i64 cn, .int .i64 p, .int .i64 q] 27)
  have B4 := Lib.hid ((B2.out.trans (hb3.mono B2.out.size)).trans (hal.mono (Nat.le_trans B2.out.size hb3.size)))
  have S4 := Lib.hid ((S2.out.keep hb3).keep hal)
  clear hb3 hal B2 S2 RD1
  go_upto_region 4 with fail
  generalize hw4 : w3.alloc (.cells #[.int .i64 k, .int .i64 r, .int .i64 i, .int .i64 n, .int .i64 0, .int .i64 0, .int .i64 0, .int .i64 ck, .int .i64 a, .int .i64 b, .int .i64 cn, .int .i64 p, .int .i64 q] 27) = w4 at *
  generalize hg4 : w3.heap.size = g4 at *
  clear hw4 hg4
  go_wp2_with fail
  refine (RR1.out w4 S4.out).mono ?_
  rintro e w5 ⟨rfl, hb5⟩
  have hal : Below w5.heap.size w5 (w5.alloc (.cells #[.int .i64 k, .int .i64 r, .int .i64 i, .int .i64 n, .int .i64 0, .int .i64 0, .int .i64 0, .int .i64 ck, .int .i64 a, .int .i64 b, .int .i64 cn, .int .i64 p, .int .i64 q] 27)) := (Below.refl _ _).alloc (Nat.le_refl _) _
  have Y6 : Hid (Blk (w5.alloc (.cells #[.int .i64 k, .int .i64 r, .int .i64 i, .int .i64 n, .int .i64 0, .int .i64 0, .int .i64 0, .int .i64 ck, .int .i64 a, .int .i64 b, .int .i64 cn, .int .i64 p, .int .i64 q] 27)) w5.heap.size (ints [k, r, i, n, 0, 0, 0, ck, a, b, cn, p, q]) 27) := Lib.hid (Blk.new w5 #[.int .i64 k, .int .i64 r, .int .i64 i, .int .i64 n, .int .i64 0, .int .i64 0, .int .i64 0, .int .i64 ck, .int .i64 a, .int .i64 b, .int .i64 cn, .int .i64 p, .int .i64 q] 27)
  have B6 := Lib.hid ((B4.out.trans (hb5.mono B4.out.size)).trans (hal.mono (Nat.le_trans B4.out.size hb5.size)))
  have S6 := Lib.hid ((S4.out.keep hb5).keep hal)
  have X6 := Lib.hid ((X4.out.keep hb5 X4.out.lt).alloc (.cells #[.int .i64 k, .int .i64 r, .int .i64 i, .int .i64 n, .int .i64 0, .int .i64 0, .int .i64 0, .int .i64 ck, .int .i64 a, .int .i64 b, .int .i64 cn, .int .i64 p, .int .i64 q] 27))
  clear hb5 hal B4 S4 X4 RR1
  go_upto_region 7 with fail
  generalize hw6 : w5.alloc (.cells #[.int .i64 k, .int .i64 r, .int .i64 i, .int .i64 n, .int .i64 0, .int .i64 0, .int .i64 0, .int .i64 ck, .int .i64 a, .int .i64 b, .int .i64 cn, .int .i64 p, .int .i64 q] 27) = w6 at *
  generalize hg6 : w5.heap.size = g6 at *
  clear hw6 hg6
  have r6 : w6.rangeAt g6 0 (ints [k, r, i, n, 0, 0, 0, ck, a, b, cn, p, q]) := Y6.out.range 0 _ rfl
  go_wp2_with (first
    | ((with_reducible refine ld_row r6 TX ?_ ?_ ?_); (· rfl); (· rfl); (simp only [Act.put, List.setIfInBounds_toArray, List.set_cons_zero, List.set_cons_succ])))
  refine (RK.out w6).mono ?_
  rintro e w7 ⟨rfl, hb7⟩
  have B7 := Lib.hid (B6.out.trans (hb7.mono B6.out.size))
  have S7 := Lib.hid (S6.out.keep hb7)
  have X7 := Lib.hid (X6.out.keep hb7 X6.out.lt)
  have Y7 := Lib.hid (Y6.out.keep hb7 Y6.out.lt)
  clear hb7 B6 S6 X6 Y6 r6 RK KC
  go_upto_region 10 with fail
  refine held_begin (fun w' => Below w7.heap.size w7 w') 16 [false, false, false, false, false, false, false, false, false, false, false, false, false, false, false, false] (by kernel_rfl) rfl (by rfl) ?_
  have hHeld : Below w7.heap.size w7 w7.drew := (Below.refl _ _).drew
  refine held_take (v := ?_) 0 38 [true, false, false, false, false, false, false, false, false, false, false, false, false, false, false, false] rfl (by rfl) (by rfl) (by kernel_rfl) (by kernel_rfl) (by kernel_rfl) (by rfl) (fun _ _ _ h => h) ?_ hHeld ?_
  rotate_left
  · intro w hSw; go_simp <;> with_reducible rfl
  simp only [Act.put, List.setIfInBounds_toArray, List.set_cons_zero, List.set_cons_succ]
  refine held_take (v := .bool true) 1 39 [true, true, false, false, false, false, false, false, false, false, false, false, false, false, false, false] rfl (by rfl) (by rfl) (by kernel_rfl) (by kernel_rfl) (by kernel_rfl) (by rfl) (fun _ _ _ h => h) (fun w h => by go_simp) hHeld ?_
  simp only [Act.put, List.setIfInBounds_toArray, List.set_cons_zero, List.set_cons_succ]
  refine held_take (v := ?_) 2 40 [true, true, true, false, false, false, false, false, false, false, false, false, false, false, false, false] rfl (by rfl) (by rfl) (by kernel_rfl) (by kernel_rfl) (by kernel_rfl) (by rfl) (fun _ _ _ h => h) ?_ hHeld ?_
  rotate_left
  · intro w hSw; go_simp <;> with_reducible rfl
  simp only [Act.put, List.setIfInBounds_toArray, List.set_cons_zero, List.set_cons_succ]
  refine held_take (v := .agg (ints [k, r, i, n, 0, 0, 0, ck, a, b, cn, p, q]).toArray) 3 41 [true, true, true, true, false, false, false, false, false, false, false, false, false, false, false, false] rfl (by rfl) (by rfl) (by kernel_rfl) (by kernel_rfl) (by kernel_rfl) (by rfl) (fun _ _ _ h => h) (fun w' h => run_op_load rfl rfl ((X7.out.keep h X7.out.lt).range 0 (ints [k, r, i, n, 0, 0, 0, ck, a, b, cn, p, q]) rfl) rowS.1.choose_spec.1 rowS.1.choose_spec.2 rowS.2) hHeld ?_
  simp only [Act.put, List.setIfInBounds_toArray, List.set_cons_zero, List.set_cons_succ]
  refine held_take (v := .agg (ints [k, r, i, n, 0, 0, 0, ck, a, b, cn, p, q]).toArray) 4 42 [true, true, true, true, true, false, false, false, false, false, false, false, false, false, false, false] rfl (by rfl) (by rfl) (by kernel_rfl) (by kernel_rfl) (by kernel_rfl) (by rfl) (fun _ _ _ h => h) (fun w' h => run_op_load rfl rfl ((Y7.out.keep h Y7.out.lt).range 0 (ints [k, r, i, n, 0, 0, 0, ck, a, b, cn, p, q]) rfl) rowS.1.choose_spec.1 rowS.1.choose_spec.2 rowS.2) hHeld ?_
  simp only [Act.put, List.setIfInBounds_toArray, List.set_cons_zero, List.set_cons_succ]
  refine held_take (v := .bool true) 5 43 [true, true, true, true, true, true, false, false, false, false, false, false, false, false, false, false] rfl (by rfl) (by rfl) (by kernel_rfl) (by kernel_rfl) (by kernel_rfl) (by rfl) (fun _ _ _ h => h) (fun w h => run_op_cmp rfl rfl rfl (by kernel_rfl) (EX.out w)) hHeld ?_
  simp only [Act.put, List.setIfInBounds_toArray, List.set_cons_zero, List.set_cons_succ]
  refine held_take (v := .bool true) 6 44 [true, true, true, true, true, true, true, false, false, false, false, false, false, false, false, false] rfl (by rfl) (by rfl) (by kernel_rfl) (by kernel_rfl) (by kernel_rfl) (by rfl) (fun _ _ _ h => h) (fun w h => by go_simp) hHeld ?_
  simp only [Act.put, List.setIfInBounds_toArray, List.set_cons_zero, List.set_cons_succ]
  refine held_take (v := ?_) 7 45 [true, true, true, true, true, true, true, true, false, false, false, false, false, false, false, false] rfl (by rfl) (by rfl) (by kernel_rfl) (by kernel_rfl) (by kernel_rfl) (by rfl) (fun _ _ _ h => h) ?_ hHeld ?_
  rotate_left
  · intro w hSw; go_simp <;> with_reducible rfl
  simp only [Act.put, List.setIfInBounds_toArray, List.set_cons_zero, List.set_cons_succ]
  refine held_take (v := .agg (ints [k, r, i, n, 0, 0, 0, ck, a, b, cn, p, q]).toArray) 8 46 [true, true, true, true, true, true, true, true, true, false, false, false, false, false, false, false] rfl (by rfl) (by rfl) (by kernel_rfl) (by kernel_rfl) (by kernel_rfl) (by rfl) (fun _ _ _ h => h) (fun w' h => run_op_load rfl rfl ((Y7.out.keep h Y7.out.lt).range 0 (ints [k, r, i, n, 0, 0, 0, ck, a, b, cn, p, q]) rfl) rowS.1.choose_spec.1 rowS.1.choose_spec.2 rowS.2) hHeld ?_
  simp only [Act.put, List.setIfInBounds_toArray, List.set_cons_zero, List.set_cons_succ]
  refine held_take (v := ?_) 11 49 [true, true, true, true, true, true, true, true, true, false, false, true, false, false, false, false] rfl (by rfl) (by rfl) (by kernel_rfl) (by kernel_rfl) (by kernel_rfl) (by rfl) (fun _ _ _ h => h) ?_ hHeld ?_
  rotate_left
  · intro w hSw; go_simp <;> with_reducible rfl
  simp only [Act.put, List.setIfInBounds_toArray, List.set_cons_zero, List.set_cons_succ]
  refine held_take (v := .string ⟨(encS k r i n ck a b cn p q).toArray⟩) 12 50 [true, true, true, true, true, true, true, true, true, false, false, true, true, false, false, false] rfl (by rfl) (by rfl) (by kernel_rfl) (by kernel_rfl) (by kernel_rfl) (by rfl) (fun _ _ _ h => h) (fun w' h => run_op_conv rfl rfl (conv_bytes (S7.out.keep h) _)) hHeld ?_
  simp only [Act.put, List.setIfInBounds_toArray, List.set_cons_zero, List.set_cons_succ]
  refine held_call 9 47 [true, true, true, true, true, true, true, true, true, true, false, true, true, false, false, false] (by kernel_rfl) rfl (by rfl) (by rfl) (by rfl) (by go_simp) ((RP.out _).mono ?_)
  rintro e w9 ⟨a9, c9, rfl, hs9, hb9⟩
  refine ⟨_, rfl, hHeld.trans (hb9.mono hHeld.size), fun hHeld => ?_⟩
  simp only [Act.put, List.setIfInBounds_toArray, List.set_cons_zero, List.set_cons_succ]
  have hHeld : Below w7.heap.size w7 _ := hHeld
  refine held_one 10 (by kernel_rfl) ?_
  refine op_value (v := .string ⟨(encS k r i n ck a b cn p q).toArray⟩) 48 [true, true, true, true, true, true, true, true, true, true, true, true, true, false, false, false] rfl (by rfl) (by rfl) (by rfl) (run_op_conv rfl rfl (conv_bytes hs9 _)) (hHeld) fun hHeld => ?_
  simp only [Act.put, List.setIfInBounds_toArray, List.set_cons_zero, List.set_cons_succ]
  refine held_take (v := .bool true) 13 51 [true, true, true, true, true, true, true, true, true, true, true, true, true, true, false, false] rfl (by rfl) (by rfl) (by kernel_rfl) (by kernel_rfl) (by kernel_rfl) (by rfl) (fun _ _ _ h => h) (fun w h => by go_simp) hHeld ?_
  simp only [Act.put, List.setIfInBounds_toArray, List.set_cons_zero, List.set_cons_succ]
  refine held_take (v := .bool true) 14 52 [true, true, true, true, true, true, true, true, true, true, true, true, true, true, true, false] rfl (by rfl) (by rfl) (by kernel_rfl) (by kernel_rfl) (by kernel_rfl) (by rfl) (fun _ _ _ h => h) (fun w h => by go_simp) hHeld ?_
  simp only [Act.put, List.setIfInBounds_toArray, List.set_cons_zero, List.set_cons_succ]
  refine held_take (v := ?_) 15 2 [true, true, true, true, true, true, true, true, true, true, true, true, true, true, true, true] rfl (by rfl) (by rfl) (by kernel_rfl) (by kernel_rfl) (by kernel_rfl) (by rfl) (fun _ _ _ h => h) ?_ hHeld ?_
  rotate_left
  · intro w hSw; go_simp <;> with_reducible rfl
  simp only [Act.put, List.setIfInBounds_toArray, List.set_cons_zero, List.set_cons_succ]
  refine held_done (by kernel_rfl) ?_
  go_wp2_with fail
  go_ret
  exact ⟨rfl, B7.out.trans (hHeld.mono B7.out.size)⟩
theorem reads31_walk (v0 : Value) (w : World) (hL : laidMet Tryd.prog Rows.codeReadsRow.laid w) (h0 : Arg Tryd.prog w 30 v0) :
    Calls Tryd.prog 4 #[v0] w fun e w' => e = .returned (.bool true) ∧ Below w.heap.size w w' := by
  have hT : TabF w := tabF_of hL
  obtain ⟨a1, n1, c1, bs, rfl, hn1, hc1, _, hbl, hsl⟩ := h0.bytes
  by_cases h21 : n1 = 21
  · subst h21
    obtain ⟨k, r, i, n, ck, a, b, cn, p, q, hd, he, hf⟩ := decS_parts hbl
    subst he
    by_cases hc : chkS k r i n 0 0 0 ck a b cn p q = 0
    · exact reads31_yes a1 c1 k r i n ck a b cn p q w hd hf hc hT hn1 hc1 hsl
    · exact reads31_no a1 c1 k r i n ck a b cn p q w hd hf hc hT hn1 hc1 hsl
  · exact reads31_len a1 c1 n1 bs h21 w hT hn1 hc1 hsl
end Go.Proofs.YteijahcbfncebaaDoor
