/- The statement of answers' octets: the walk, case by case. -/
import Derived.Test.YteijahcbfncebaaDoorCode11
import Derived.Test.YteijahcbfncebaaDoorHeld
import Derived.RegionTactic
import Derived.BigRegion
import Derived.ChangeAlike
namespace Go.Proofs.YteijahcbfncebaaDoor
set_option linter.unusedVariables false
set_option linter.unusedSimpArgs false
open Go.ChangeShapes Go.WideShapes Go.ChangeAt Go.RowKit
set_option maxRecDepth 100000 in
set_option maxHeartbeats 4000000 in
theorem tells_len_bad (x n m : Int) (a1 : Option Addr) (c1 : Nat) (w : World) (n1 : Nat) (bs : List UInt8) (hn1 : n1 ≠ 6) (hn2 : (n1 : Int) ≤ 9223372036854775807) (hbad : (inB x 0 255 && inB m 0 255 && inB n 0 2147483647) = false) (hfx : fits x = true ∧ fits n = true ∧ fits m = true) (hT : TabF w) (hsl : Sl w a1 n1 1 (bcells bs)) :
    Calls Tryd.prog 6 #[.agg #[.int .i64 x, .int .i64 n, .int .i64 m], .slice a1 n1 c1] w fun e w' => e = .returned (.bool true) ∧ Below w.heap.size w w' := by
  have HA : Hid (Blk (w.alloc (.cells #[.int .i64 x, .int .i64 n, .int .i64 m] 49)) w.heap.size (ints [x, n, m]) 49) := Lib.hid (Blk.new w #[.int .i64 x, .int .i64 n, .int .i64 m] 49)
  have HB := Lib.hid ((Below.refl w.heap.size w).alloc (Nat.le_refl _) (.cells #[.int .i64 x, .int .i64 n, .int .i64 m] 49))
  have HS := Lib.hid (hsl.keep HB.out)
  have AL := Lib.hid (alive31 _ (hT.keep HB.out (glob_lt hT)))
  have CT := Lib.hid (fun w => tell_bad x n m w hbad)
  have CD := Lib.hid (fun w1 => told_len a1 n1 c1 w1 hn1)
  have h6 : ¬ (n1 : Int) = 6 := by omega
  clear hn1
  have EZ : Hid (∀ w, (binOp .neq 49 (.agg (ints [0, 0, 0]).toArray) (.agg (ints [0, 0, 0]).toArray)).run Tryd.prog w = .ok (.bool false) w) := Lib.hid (fun w => by have := neq_flat (P := Tryd.prog) 5 6 49 (List.replicate 3 (some IntKind.i64)) (ints [0, 0, 0]) (ints [0, 0, 0]) w (by kernel_rfl) (by kernel_rfl) (by kernel_rfl) (by kernel_rfl) (by decide) (ok_ints [0, 0, 0] (by decide)) (ok_ints [0, 0, 0] (by decide)); rwa [sameB_refl] at this)
  have g2 : Tryd.prog.eqGuardType Tryd.prog.depth 49 = false := by kernel_rfl
  have TX : RowT 49 (ints [x, n, m]).length := rowA3
  have TO : RowT 49 (ints [0, 0, 0]).length := rowA3
  clear hT hsl hfx
  go_enter Tryd.func6, Tryd.ntmps6
  go_upto_region 1 with fail
  generalize w.alloc (.cells #[.int .i64 x, .int .i64 n, .int .i64 m] 49) = W at *
  go_wp2_with fail
  refine AL.out.mono ?_
  rintro e w2 ⟨rfl, hb2⟩
  have B2 := Lib.hid (HB.out.trans (hb2.mono HB.out.size))
  have A2 := Lib.hid (HA.out.keep hb2 HA.out.lt)
  have S2 := Lib.hid (HS.out.keep hb2)
  have r1 : w2.rangeAt w.heap.size 0 (ints [x, n, m]) := A2.out.range 0 _ rfl
  clear hb2 HB HA HS AL
  go_wp2_with (first
    | ((with_reducible refine ld_row r1 TX ?_ ?_ ?_); (· rfl); (· rfl); (simp only [Act.put, List.setIfInBounds_toArray, List.set_cons_zero, List.set_cons_succ])))
  refine (CT.out w2).mono ?_
  rintro e w3 ⟨rfl, hb3⟩
  have B3 := Lib.hid (B2.out.trans (hb3.mono B2.out.size))
  have A3 := Lib.hid (A2.out.keep hb3 A2.out.lt)
  have S3 := Lib.hid (S2.out.keep hb3)
  clear hb3 B2 A2 S2 r1 CT
  go_wp2_with fail
  refine (CD.out w3).mono ?_
  rintro e w4 ⟨rfl, hb4⟩
  have B4 := Lib.hid (B3.out.trans (hb4.mono B3.out.size))
  have A4 := Lib.hid (A3.out.keep hb4 A3.out.lt)
  have S4 := Lib.hid (S3.out.keep hb4)
  clear hb4 B3 A3 S3
  have hal : Below w4.heap.size w4 (w4.alloc (.cells #[.int .i64 0, .int .i64 0, .int .i64 0] 49)) := (Below.refl _ _).alloc (Nat.le_refl _) _
  have Y5 : Hid (Blk (w4.alloc (.cells #[.int .i64 0, .int .i64 0, .int .i64 0] 49)) w4.heap.size (ints [0, 0, 0]) 49) := Lib.hid (Blk.new w4 #[.int .i64 0, .int .i64 0, .int .i64 0] 49)
  have B5 := Lib.hid (B4.out.trans (hal.mono B4.out.size))
  have A5 := Lib.hid (A4.out.keep hal A4.out.lt)
  have S5 := Lib.hid (S4.out.keep hal)
  clear hal B4 A4 S4
  go_upto_region 5 with fail
  generalize hw5 : w4.alloc (.cells #[.int .i64 0, .int .i64 0, .int .i64 0] 49) = w5 at *
  generalize hg5 : w4.heap.size = g5 at *
  clear hw5 hg5
  have r5 : w5.rangeAt g5 0 (ints [0, 0, 0]) := Y5.out.range 0 _ rfl
  go_upto_region 11 with (first
    | ((with_reducible refine ld_row r5 TO ?_ ?_ ?_); (· rfl); (· rfl); (simp only [Act.put, List.setIfInBounds_toArray, List.set_cons_zero, List.set_cons_succ]))
    | ((with_reducible refine cmp_row g2 EZ.out ?_ ?_ ?_ ?_); (· rfl); (· first | rfl | (show _ = Value.agg (ints [0, 0, 0]).toArray; rfl)); (· first | rfl | (show _ = Value.agg (ints [0, 0, 0]).toArray; rfl)); (simp only [Act.put, List.setIfInBounds_toArray, List.set_cons_zero, List.set_cons_succ])))
  have d0 : w5.cell? ⟨w.heap.size, 0, none⟩ = some (.int .i64 x) := A5.out.cell 0
  have d1 : w5.cell? ⟨w.heap.size, 1, none⟩ = some (.int .i64 n) := A5.out.cell 1
  have d2 : w5.cell? ⟨w.heap.size, 2, none⟩ = some (.int .i64 m) := A5.out.cell 2
  have hcase : (x < 0) ∨ (¬ x < 0 ∧ 255 < x) ∨ (¬ x < 0 ∧ ¬ 255 < x ∧ m < 0) ∨ (¬ x < 0 ∧ ¬ 255 < x ∧ ¬ m < 0 ∧ 255 < m) ∨ (¬ x < 0 ∧ ¬ 255 < x ∧ ¬ m < 0 ∧ ¬ 255 < m ∧ n < 0) ∨ (¬ x < 0 ∧ ¬ 255 < x ∧ ¬ m < 0 ∧ ¬ 255 < m ∧ ¬ n < 0 ∧ 2147483647 < n) := by
    have hb := hbad
    simp only [Bool.and_eq_false_iff] at hb
    have N1 : ∀ {z a b : Int}, inB z a b = false → ¬ (a ≤ z ∧ z ≤ b) := fun h h' => by rw [inB_iff.2 h'] at h; cases h
    rcases hb with (hb | hb) | hb <;> have hb' := N1 hb <;> omega
  clear hbad
  rcases hcase with q0 | ⟨q0, q1⟩ | ⟨q0, q1, q2⟩ | ⟨q0, q1, q2, q3⟩ | ⟨q0, q1, q2, q3, q4⟩ | ⟨q0, q1, q2, q3, q4, q5⟩
  all_goals
    go_wp2_with fail
    go_ret
    exact ⟨rfl, B5.out⟩
set_option maxRecDepth 100000 in
set_option maxHeartbeats 4000000 in
theorem tells_len_ok (x n m : Int) (a1 : Option Addr) (c1 : Nat) (w : World) (n1 : Nat) (bs : List UInt8) (hn1 : n1 ≠ 6) (hn2 : (n1 : Int) ≤ 9223372036854775807) (hx : inB x 0 255 = true) (hm : inB m 0 255 = true) (hn : inB n 0 2147483647 = true) (hfx : fits x = true ∧ fits n = true ∧ fits m = true) (hT : TabF w) (hsl : Sl w a1 n1 1 (bcells bs)) :
    Calls Tryd.prog 6 #[.agg #[.int .i64 x, .int .i64 n, .int .i64 m], .slice a1 n1 c1] w fun e w' => e = .returned (.bool true) ∧ Below w.heap.size w w' := by
  have HA : Hid (Blk (w.alloc (.cells #[.int .i64 x, .int .i64 n, .int .i64 m] 49)) w.heap.size (ints [x, n, m]) 49) := Lib.hid (Blk.new w #[.int .i64 x, .int .i64 n, .int .i64 m] 49)
  have HB := Lib.hid ((Below.refl w.heap.size w).alloc (Nat.le_refl _) (.cells #[.int .i64 x, .int .i64 n, .int .i64 m] 49))
  have HS := Lib.hid (hsl.keep HB.out)
  have AL := Lib.hid (alive31 _ (hT.keep HB.out (glob_lt hT)))
  have CT := Lib.hid (fun w => tell_yes x n m w hx hm hn)
  have CD2 := Lib.hid (fun a c w1 (hs : Sl w1 a 6 1 (bcells (encA x n m))) => show Calls Tryd.prog 19 #[.slice a 6 c] w1 fun e w' => e = .returned (.tuple #[.agg #[.int .i64 x, .int .i64 n, .int .i64 m], .int .i64 0]) ∧ Below w1.heap.size w1 w' from (by
    have E := ans_enc hx hm hn
    have := told_yes a c (encA x n m) w1 hs (by
      have E1 := E
      unfold ansL at E1
      simp only [List.cons.injEq] at E1
      rw [E1.2.1]
      exact hn)
    rw [E] at this
    exact this))
  have RT := Lib.hid (fun w => show Calls Tryd.prog 20 #[.agg (ints [x, n, m]).toArray] w _ from rtell_any x n m w)
  have OKX : OkAll (List.replicate 3 (some IntKind.i64)) (ints [x, n, m]) := by have h1 := hfx; refine ok_ints [x, n, m] ?_; intro z hz; rcases List.mem_cons.1 hz with rfl | hz; exact h1.1; rcases List.mem_cons.1 hz with rfl | hz; exact h1.2.1; rcases List.mem_cons.1 hz with rfl | hz; exact h1.2.2; cases hz
  have EX := Lib.hid (fun w => show (binOp .eql 49 (.agg (ints [x, n, m]).toArray) (.agg (ints [x, n, m]).toArray)).run Tryd.prog w = .ok (.bool true) w from by have := eql_flat (P := Tryd.prog) 5 6 49 (List.replicate 3 (some IntKind.i64)) (ints [x, n, m]) (ints [x, n, m]) w (by kernel_rfl) (by kernel_rfl) (by kernel_rfl) (by kernel_rfl) (by simp [ints_len]) (OKX) (OKX); rwa [sameB_refl] at this)
  have LX := inB_iff.1 hx
  have LM := inB_iff.1 hm
  have LN := inB_iff.1 hn
  clear hx hm hn OKX
  have CD := Lib.hid (fun w1 => told_len a1 n1 c1 w1 hn1)
  have h6 : ¬ (n1 : Int) = 6 := by omega
  clear hn1
  have EZ : Hid (∀ w, (binOp .neq 49 (.agg (ints [0, 0, 0]).toArray) (.agg (ints [0, 0, 0]).toArray)).run Tryd.prog w = .ok (.bool false) w) := Lib.hid (fun w => by have := neq_flat (P := Tryd.prog) 5 6 49 (List.replicate 3 (some IntKind.i64)) (ints [0, 0, 0]) (ints [0, 0, 0]) w (by kernel_rfl) (by kernel_rfl) (by kernel_rfl) (by kernel_rfl) (by decide) (ok_ints [0, 0, 0] (by decide)) (ok_ints [0, 0, 0] (by decide)); rwa [sameB_refl] at this)
  have g2 : Tryd.prog.eqGuardType Tryd.prog.depth 49 = false := by kernel_rfl
  have TX : RowT 49 (ints [x, n, m]).length := rowA3
  have TO : RowT 49 (ints [0, 0, 0]).length := rowA3
  clear hT hsl hfx
  go_enter Tryd.func6, Tryd.ntmps6
  go_upto_region 1 with fail
  generalize w.alloc (.cells #[.int .i64 x, .int .i64 n, .int .i64 m] 49) = W at *
  go_wp2_with fail
  refine AL.out.mono ?_
  rintro e w2 ⟨rfl, hb2⟩
  have B2 := Lib.hid (HB.out.trans (hb2.mono HB.out.size))
  have A2 := Lib.hid (HA.out.keep hb2 HA.out.lt)
  have S2 := Lib.hid (HS.out.keep hb2)
  have r1 : w2.rangeAt w.heap.size 0 (ints [x, n, m]) := A2.out.range 0 _ rfl
  clear hb2 HB HA HS AL
  go_wp2_with (first
    | ((with_reducible refine ld_row r1 TX ?_ ?_ ?_); (· rfl); (· rfl); (simp only [Act.put, List.setIfInBounds_toArray, List.set_cons_zero, List.set_cons_succ])))
  refine (CT.out w2).mono ?_
  rintro e w3 ⟨a4, c4, rfl, hs4, hb3⟩
  have B3 := Lib.hid (B2.out.trans (hb3.mono B2.out.size))
  have A3 := Lib.hid (A2.out.keep hb3 A2.out.lt)
  have S3 := Lib.hid (S2.out.keep hb3)
  have P3 := Lib.hid hs4
  clear hs4
  clear hb3 B2 A2 S2 r1 CT
  go_wp2_with fail
  refine (CD.out w3).mono ?_
  rintro e w4 ⟨rfl, hb4⟩
  have B4 := Lib.hid (B3.out.trans (hb4.mono B3.out.size))
  have A4 := Lib.hid (A3.out.keep hb4 A3.out.lt)
  have S4 := Lib.hid (S3.out.keep hb4)
  have P4 := Lib.hid (P3.out.keep hb4)
  clear hb4 B3 A3 S3 P3
  have hal : Below w4.heap.size w4 (w4.alloc (.cells #[.int .i64 0, .int .i64 0, .int .i64 0] 49)) := (Below.refl _ _).alloc (Nat.le_refl _) _
  have Y5 : Hid (Blk (w4.alloc (.cells #[.int .i64 0, .int .i64 0, .int .i64 0] 49)) w4.heap.size (ints [0, 0, 0]) 49) := Lib.hid (Blk.new w4 #[.int .i64 0, .int .i64 0, .int .i64 0] 49)
  have B5 := Lib.hid (B4.out.trans (hal.mono B4.out.size))
  have A5 := Lib.hid (A4.out.keep hal A4.out.lt)
  have S5 := Lib.hid (S4.out.keep hal)
  have P5 := Lib.hid (P4.out.keep hal)
  clear hal B4 A4 S4 P4
  go_upto_region 5 with fail
  generalize hw5 : w4.alloc (.cells #[.int .i64 0, .int .i64 0, .int .i64 0] 49) = w5 at *
  generalize hg5 : w4.heap.size = g5 at *
  clear hw5 hg5
  have r5 : w5.rangeAt g5 0 (ints [0, 0, 0]) := Y5.out.range 0 _ rfl
  go_upto_region 11 with (first
    | ((with_reducible refine ld_row r5 TO ?_ ?_ ?_); (· rfl); (· rfl); (simp only [Act.put, List.setIfInBounds_toArray, List.set_cons_zero, List.set_cons_succ]))
    | ((with_reducible refine cmp_row g2 EZ.out ?_ ?_ ?_ ?_); (· rfl); (· first | rfl | (show _ = Value.agg (ints [0, 0, 0]).toArray; rfl)); (· first | rfl | (show _ = Value.agg (ints [0, 0, 0]).toArray; rfl)); (simp only [Act.put, List.setIfInBounds_toArray, List.set_cons_zero, List.set_cons_succ])))
  have d0 : w5.cell? ⟨w.heap.size, 0, none⟩ = some (.int .i64 x) := A5.out.cell 0
  have d1 : w5.cell? ⟨w.heap.size, 1, none⟩ = some (.int .i64 n) := A5.out.cell 1
  have d2 : w5.cell? ⟨w.heap.size, 2, none⟩ = some (.int .i64 m) := A5.out.cell 2
  have hx1 : ¬ x < 0 := by omega
  have hx2 : ¬ 255 < x := by omega
  have hm1 : ¬ m < 0 := by omega
  have hm2 : ¬ 255 < m := by omega
  have hn1' : ¬ n < 0 := by omega
  have hn2' : ¬ 2147483647 < n := by omega
  clear LX LM LN
  go_wp2_with fail
  refine (CD2.out a4 c4 w5 P5.out).mono ?_
  rintro e w7 ⟨rfl, hb7⟩
  clear d0 d1 d2
  have B7 := Lib.hid (B5.out.trans (hb7.mono B5.out.size))
  have A7 := Lib.hid (A5.out.keep hb7 A5.out.lt)
  have S7 := Lib.hid (S5.out.keep hb7)
  have P7 := Lib.hid (P5.out.keep hb7)
  clear hb7 B5 A5 S5 P5
  have hal : Below w7.heap.size w7 (w7.alloc (.cells #[.int .i64 x, .int .i64 n, .int .i64 m] 49)) := (Below.refl _ _).alloc (Nat.le_refl _) _
  have Y8 : Hid (Blk (w7.alloc (.cells #[.int .i64 x, .int .i64 n, .int .i64 m] 49)) w7.heap.size (ints [x, n, m]) 49) := Lib.hid (Blk.new w7 #[.int .i64 x, .int .i64 n, .int .i64 m] 49)
  have B8 := Lib.hid (B7.out.trans (hal.mono B7.out.size))
  have A8 := Lib.hid (A7.out.keep hal A7.out.lt)
  have Q8 := Lib.hid (S7.out.keep hal)
  have S8 := Lib.hid (P7.out.keep hal)
  clear hal B7 A7 S7 P7
  go_upto_region 14 with fail
  generalize hw8 : w7.alloc (.cells #[.int .i64 x, .int .i64 n, .int .i64 m] 49) = w8 at *
  generalize hg8 : w7.heap.size = g8 at *
  clear hw8 hg8 hx1 hx2 hm1 hm2 hn1' hn2' CD CD2
  refine held_begin (fun w' => Below w8.heap.size w8 w') 20 [false, false, false, false, false, false, false, false, false, false, false, false, false, false, false, false, false, false, false, false] (by kernel_rfl) rfl (by rfl) ?_
  have hHeld : Below w8.heap.size w8 w8.drew := (Below.refl _ _).drew
  refine held_take (v := ?_) 0 99 [true, false, false, false, false, false, false, false, false, false, false, false, false, false, false, false, false, false, false, false] rfl (by rfl) (by rfl) (by kernel_rfl) (by kernel_rfl) (by kernel_rfl) (by rfl) (fun _ _ _ h => h) ?_ hHeld ?_
  rotate_left
  · intro w hSw; go_simp <;> with_reducible rfl
  simp only [Act.put, List.setIfInBounds_toArray, List.set_cons_zero, List.set_cons_succ]
  refine held_take (v := .bool true) 1 100 [true, true, false, false, false, false, false, false, false, false, false, false, false, false, false, false, false, false, false, false] rfl (by rfl) (by rfl) (by kernel_rfl) (by kernel_rfl) (by kernel_rfl) (by rfl) (fun _ _ _ h => h) (fun w h => by go_simp) hHeld ?_
  simp only [Act.put, List.setIfInBounds_toArray, List.set_cons_zero, List.set_cons_succ]
  refine held_take (v := ?_) 2 101 [true, true, true, false, false, false, false, false, false, false, false, false, false, false, false, false, false, false, false, false] rfl (by rfl) (by rfl) (by kernel_rfl) (by kernel_rfl) (by kernel_rfl) (by rfl) (fun _ _ _ h => h) ?_ hHeld ?_
  rotate_left
  · intro w hSw; go_simp <;> with_reducible rfl
  simp only [Act.put, List.setIfInBounds_toArray, List.set_cons_zero, List.set_cons_succ]
  refine held_take (v := ?_) 3 102 [true, true, true, true, false, false, false, false, false, false, false, false, false, false, false, false, false, false, false, false] rfl (by rfl) (by rfl) (by kernel_rfl) (by kernel_rfl) (by kernel_rfl) (by rfl) (fun _ _ _ h => h) ?_ hHeld ?_
  rotate_left
  · intro w hSw; go_simp <;> with_reducible rfl
  simp only [Act.put, List.setIfInBounds_toArray, List.set_cons_zero, List.set_cons_succ]
  refine held_take (v := .string ⟨(encA x n m).toArray⟩) 4 103 [true, true, true, true, true, false, false, false, false, false, false, false, false, false, false, false, false, false, false, false] rfl (by rfl) (by rfl) (by kernel_rfl) (by kernel_rfl) (by kernel_rfl) (by rfl) (fun _ _ _ h => h) (fun w' h => run_op_conv rfl rfl (conv_bytes (S8.out.keep h) _)) hHeld ?_
  simp only [Act.put, List.setIfInBounds_toArray, List.set_cons_zero, List.set_cons_succ]
  refine held_take (v := .agg (ints [x, n, m]).toArray) 5 104 [true, true, true, true, true, true, false, false, false, false, false, false, false, false, false, false, false, false, false, false] rfl (by rfl) (by rfl) (by kernel_rfl) (by kernel_rfl) (by kernel_rfl) (by rfl) (fun _ _ _ h => h) (fun w' h => run_op_load rfl rfl ((A8.out.keep h A8.out.lt).range 0 (ints [x, n, m]) rfl) rowA3.1.choose_spec.1 rowA3.1.choose_spec.2 rowA3.2) hHeld ?_
  simp only [Act.put, List.setIfInBounds_toArray, List.set_cons_zero, List.set_cons_succ]
  refine held_call 6 105 [true, true, true, true, true, true, true, false, false, false, false, false, false, false, false, false, false, false, false, false] (by kernel_rfl) rfl (by rfl) (by rfl) (by rfl) (by go_simp) ((RT.out _).mono ?_)
  rintro e w9 ⟨a9, c9, rfl, hs9, hb9⟩
  refine ⟨_, rfl, hHeld.trans (hb9.mono hHeld.size), fun hHeld => ?_⟩
  simp only [Act.put, List.setIfInBounds_toArray, List.set_cons_zero, List.set_cons_succ]
  have hHeld : Below w8.heap.size w8 _ := hHeld
  refine held_one 7 (by kernel_rfl) ?_
  refine op_value (v := .string ⟨(encA x n m).toArray⟩) 106 [true, true, true, true, true, true, true, true, false, false, false, false, false, false, false, false, false, false, false, false] rfl (by rfl) (by rfl) (by rfl) (run_op_conv rfl rfl (conv_bytes hs9 _)) (hHeld) fun hHeld => ?_
  simp only [Act.put, List.setIfInBounds_toArray, List.set_cons_zero, List.set_cons_succ]
  refine held_take (v := .bool true) 8 107 [true, true, true, true, true, true, true, true, true, false, false, false, false, false, false, false, false, false, false, false] rfl (by rfl) (by rfl) (by kernel_rfl) (by kernel_rfl) (by kernel_rfl) (by rfl) (fun _ _ _ h => h) (fun w h => by go_simp) hHeld ?_
  simp only [Act.put, List.setIfInBounds_toArray, List.set_cons_zero, List.set_cons_succ]
  refine held_take (v := .bool true) 9 108 [true, true, true, true, true, true, true, true, true, true, false, false, false, false, false, false, false, false, false, false] rfl (by rfl) (by rfl) (by kernel_rfl) (by kernel_rfl) (by kernel_rfl) (by rfl) (fun _ _ _ h => h) (fun w h => by go_simp) hHeld ?_
  simp only [Act.put, List.setIfInBounds_toArray, List.set_cons_zero, List.set_cons_succ]
  refine held_take (v := ?_) 10 109 [true, true, true, true, true, true, true, true, true, true, true, false, false, false, false, false, false, false, false, false] rfl (by rfl) (by rfl) (by kernel_rfl) (by kernel_rfl) (by kernel_rfl) (by rfl) (fun _ _ _ h => h) ?_ hHeld ?_
  rotate_left
  · intro w hSw; go_simp <;> with_reducible rfl
  simp only [Act.put, List.setIfInBounds_toArray, List.set_cons_zero, List.set_cons_succ]
  refine held_take (v := ?_) 11 110 [true, true, true, true, true, true, true, true, true, true, true, true, false, false, false, false, false, false, false, false] rfl (by rfl) (by rfl) (by kernel_rfl) (by kernel_rfl) (by kernel_rfl) (by rfl) (fun _ _ _ h => h) ?_ hHeld ?_
  rotate_left
  · intro w hSw; go_simp <;> with_reducible rfl
  simp only [Act.put, List.setIfInBounds_toArray, List.set_cons_zero, List.set_cons_succ]
  refine held_take (v := .bool true) 12 111 [true, true, true, true, true, true, true, true, true, true, true, true, true, false, false, false, false, false, false, false] rfl (by rfl) (by rfl) (by kernel_rfl) (by kernel_rfl) (by kernel_rfl) (by rfl) (fun _ _ _ h => h) (fun w h => by go_simp) hHeld ?_
  simp only [Act.put, List.setIfInBounds_toArray, List.set_cons_zero, List.set_cons_succ]
  refine held_take (v := .bool true) 13 112 [true, true, true, true, true, true, true, true, true, true, true, true, true, true, false, false, false, false, false, false] rfl (by rfl) (by rfl) (by kernel_rfl) (by kernel_rfl) (by kernel_rfl) (by rfl) (fun _ _ _ h => h) (fun w h => by go_simp) hHeld ?_
  simp only [Act.put, List.setIfInBounds_toArray, List.set_cons_zero, List.set_cons_succ]
  refine held_take (v := ?_) 14 113 [true, true, true, true, true, true, true, true, true, true, true, true, true, true, true, false, false, false, false, false] rfl (by rfl) (by rfl) (by kernel_rfl) (by kernel_rfl) (by kernel_rfl) (by rfl) (fun _ _ _ h => h) ?_ hHeld ?_
  rotate_left
  · intro w hSw; go_simp <;> with_reducible rfl
  simp only [Act.put, List.setIfInBounds_toArray, List.set_cons_zero, List.set_cons_succ]
  refine held_take (v := .agg (ints [x, n, m]).toArray) 15 114 [true, true, true, true, true, true, true, true, true, true, true, true, true, true, true, true, false, false, false, false] rfl (by rfl) (by rfl) (by kernel_rfl) (by kernel_rfl) (by kernel_rfl) (by rfl) (fun _ _ _ h => h) (fun w' h => run_op_load rfl rfl ((Y8.out.keep h Y8.out.lt).range 0 (ints [x, n, m]) rfl) rowA3.1.choose_spec.1 rowA3.1.choose_spec.2 rowA3.2) hHeld ?_
  simp only [Act.put, List.setIfInBounds_toArray, List.set_cons_zero, List.set_cons_succ]
  refine held_take (v := .agg (ints [x, n, m]).toArray) 16 115 [true, true, true, true, true, true, true, true, true, true, true, true, true, true, true, true, true, false, false, false] rfl (by rfl) (by rfl) (by kernel_rfl) (by kernel_rfl) (by kernel_rfl) (by rfl) (fun _ _ _ h => h) (fun w' h => run_op_load rfl rfl ((A8.out.keep h A8.out.lt).range 0 (ints [x, n, m]) rfl) rowA3.1.choose_spec.1 rowA3.1.choose_spec.2 rowA3.2) hHeld ?_
  simp only [Act.put, List.setIfInBounds_toArray, List.set_cons_zero, List.set_cons_succ]
  refine held_take (v := .bool true) 17 116 [true, true, true, true, true, true, true, true, true, true, true, true, true, true, true, true, true, true, false, false] rfl (by rfl) (by rfl) (by kernel_rfl) (by kernel_rfl) (by kernel_rfl) (by rfl) (fun _ _ _ h => h) (fun w h => run_op_cmp rfl rfl rfl (by kernel_rfl) (EX.out w)) hHeld ?_
  simp only [Act.put, List.setIfInBounds_toArray, List.set_cons_zero, List.set_cons_succ]
  refine held_take (v := .bool true) 18 117 [true, true, true, true, true, true, true, true, true, true, true, true, true, true, true, true, true, true, true, false] rfl (by rfl) (by rfl) (by kernel_rfl) (by kernel_rfl) (by kernel_rfl) (by rfl) (fun _ _ _ h => h) (fun w h => by go_simp) hHeld ?_
  simp only [Act.put, List.setIfInBounds_toArray, List.set_cons_zero, List.set_cons_succ]
  refine held_take (v := ?_) 19 4 [true, true, true, true, true, true, true, true, true, true, true, true, true, true, true, true, true, true, true, true] rfl (by rfl) (by rfl) (by kernel_rfl) (by kernel_rfl) (by kernel_rfl) (by rfl) (fun _ _ _ h => h) ?_ hHeld ?_
  rotate_left
  · intro w hSw; go_simp <;> with_reducible rfl
  simp only [Act.put, List.setIfInBounds_toArray, List.set_cons_zero, List.set_cons_succ]
  refine held_done (by kernel_rfl) ?_
  go_wp2_with fail
  go_ret
  exact ⟨rfl, B8.out.trans (hHeld.mono B8.out.size)⟩
set_option maxRecDepth 100000 in
set_option maxHeartbeats 4000000 in
theorem tells_no_bad (x n m : Int) (a1 : Option Addr) (c1 : Nat) (w : World) (bs : List UInt8) (hv : inB (wrap64 (tkN (tkS (bs, true) 1) 4 : Int)) 0 2147483647 = false) (hbad : (inB x 0 255 && inB m 0 255 && inB n 0 2147483647) = false) (hfx : fits x = true ∧ fits n = true ∧ fits m = true) (hT : TabF w) (hsl : Sl w a1 6 1 (bcells bs)) :
    Calls Tryd.prog 6 #[.agg #[.int .i64 x, .int .i64 n, .int .i64 m], .slice a1 6 c1] w fun e w' => e = .returned (.bool true) ∧ Below w.heap.size w w' := by
  have HA : Hid (Blk (w.alloc (.cells #[.int .i64 x, .int .i64 n, .int .i64 m] 49)) w.heap.size (ints [x, n, m]) 49) := Lib.hid (Blk.new w #[.int .i64 x, .int .i64 n, .int .i64 m] 49)
  have HB := Lib.hid ((Below.refl w.heap.size w).alloc (Nat.le_refl _) (.cells #[.int .i64 x, .int .i64 n, .int .i64 m] 49))
  have HS := Lib.hid (hsl.keep HB.out)
  have AL := Lib.hid (alive31 _ (hT.keep HB.out (glob_lt hT)))
  have CT := Lib.hid (fun w => tell_bad x n m w hbad)
  have CD := Lib.hid (fun w1 (hs : Sl w1 a1 6 1 (bcells bs)) => show Calls Tryd.prog 19 #[.slice a1 6 c1] w1 fun e w' => e = .returned (.tuple #[.agg #[.int .i64 0, .int .i64 0, .int .i64 0], .int .i64 16]) ∧ Below w1.heap.size w1 w' from told_no a1 c1 bs w1 hs hv)
  obtain ⟨zh, hz1, hz2, hzc⟩ := ans_high (by have := sl_one hsl; exact this) hv
  have HZ := Lib.hid hzc
  have hz128 : ¬ zh < 128 := by omega
  clear hzc hv hz1 hz2
  have EZ : Hid (∀ w, (binOp .neq 49 (.agg (ints [0, 0, 0]).toArray) (.agg (ints [0, 0, 0]).toArray)).run Tryd.prog w = .ok (.bool false) w) := Lib.hid (fun w => by have := neq_flat (P := Tryd.prog) 5 6 49 (List.replicate 3 (some IntKind.i64)) (ints [0, 0, 0]) (ints [0, 0, 0]) w (by kernel_rfl) (by kernel_rfl) (by kernel_rfl) (by kernel_rfl) (by decide) (ok_ints [0, 0, 0] (by decide)) (ok_ints [0, 0, 0] (by decide)); rwa [sameB_refl] at this)
  have g2 : Tryd.prog.eqGuardType Tryd.prog.depth 49 = false := by kernel_rfl
  have TX : RowT 49 (ints [x, n, m]).length := rowA3
  have TO : RowT 49 (ints [0, 0, 0]).length := rowA3
  clear hT hsl hfx
  go_enter Tryd.func6, Tryd.ntmps6
  go_upto_region 1 with fail
  generalize w.alloc (.cells #[.int .i64 x, .int .i64 n, .int .i64 m] 49) = W at *
  go_wp2_with fail
  refine AL.out.mono ?_
  rintro e w2 ⟨rfl, hb2⟩
  have B2 := Lib.hid (HB.out.trans (hb2.mono HB.out.size))
  have A2 := Lib.hid (HA.out.keep hb2 HA.out.lt)
  have S2 := Lib.hid (HS.out.keep hb2)
  have r1 : w2.rangeAt w.heap.size 0 (ints [x, n, m]) := A2.out.range 0 _ rfl
  clear hb2 HB HA HS AL
  go_wp2_with (first
    | ((with_reducible refine ld_row r1 TX ?_ ?_ ?_); (· rfl); (· rfl); (simp only [Act.put, List.setIfInBounds_toArray, List.set_cons_zero, List.set_cons_succ])))
  refine (CT.out w2).mono ?_
  rintro e w3 ⟨rfl, hb3⟩
  have B3 := Lib.hid (B2.out.trans (hb3.mono B2.out.size))
  have A3 := Lib.hid (A2.out.keep hb3 A2.out.lt)
  have S3 := Lib.hid (S2.out.keep hb3)
  clear hb3 B2 A2 S2 r1 CT
  go_wp2_with fail
  refine (CD.out w3 S3.out).mono ?_
  rintro e w4 ⟨rfl, hb4⟩
  have B4 := Lib.hid (B3.out.trans (hb4.mono B3.out.size))
  have A4 := Lib.hid (A3.out.keep hb4 A3.out.lt)
  have S4 := Lib.hid (S3.out.keep hb4)
  clear hb4 B3 A3 S3
  have hal : Below w4.heap.size w4 (w4.alloc (.cells #[.int .i64 0, .int .i64 0, .int .i64 0] 49)) := (Below.refl _ _).alloc (Nat.le_refl _) _
  have Y5 : Hid (Blk (w4.alloc (.cells #[.int .i64 0, .int .i64 0, .int .i64 0] 49)) w4.heap.size (ints [0, 0, 0]) 49) := Lib.hid (Blk.new w4 #[.int .i64 0, .int .i64 0, .int .i64 0] 49)
  have B5 := Lib.hid (B4.out.trans (hal.mono B4.out.size))
  have A5 := Lib.hid (A4.out.keep hal A4.out.lt)
  have S5 := Lib.hid (S4.out.keep hal)
  clear hal B4 A4 S4
  go_upto_region 5 with fail
  generalize hw5 : w4.alloc (.cells #[.int .i64 0, .int .i64 0, .int .i64 0] 49) = w5 at *
  generalize hg5 : w4.heap.size = g5 at *
  clear hw5 hg5
  have r5 : w5.rangeAt g5 0 (ints [0, 0, 0]) := Y5.out.range 0 _ rfl
  obtain ⟨_, b1, o1, rfl, hb1, hcl⟩ := S5.out.byte (by decide)
  have hc1 : w5.cell? ⟨b1, o1 + 1, none⟩ = some (.int .u8 zh) := by
    have h1 := hcl 1 (by decide)
    rw [h1]
    have h2 := HZ.out
    unfold bcells at h2
    rw [List.getElem?_map] at h2
    rcases hk : bs[1]? with _ | u
    · rw [hk] at h2; cases h2
    · rw [hk] at h2
      rw [List.getD_eq_getElem?_getD, hk]
      simpa using h2
  clear hb1 hcl
  go_upto_region 11 with (first
    | ((with_reducible refine ld_row r5 TO ?_ ?_ ?_); (· rfl); (· rfl); (simp only [Act.put, List.setIfInBounds_toArray, List.set_cons_zero, List.set_cons_succ]))
    | ((with_reducible refine cmp_row g2 EZ.out ?_ ?_ ?_ ?_); (· rfl); (· first | rfl | (show _ = Value.agg (ints [0, 0, 0]).toArray; rfl)); (· first | rfl | (show _ = Value.agg (ints [0, 0, 0]).toArray; rfl)); (simp only [Act.put, List.setIfInBounds_toArray, List.set_cons_zero, List.set_cons_succ])))
  have d0 : w5.cell? ⟨w.heap.size, 0, none⟩ = some (.int .i64 x) := A5.out.cell 0
  have d1 : w5.cell? ⟨w.heap.size, 1, none⟩ = some (.int .i64 n) := A5.out.cell 1
  have d2 : w5.cell? ⟨w.heap.size, 2, none⟩ = some (.int .i64 m) := A5.out.cell 2
  have hcase : (x < 0) ∨ (¬ x < 0 ∧ 255 < x) ∨ (¬ x < 0 ∧ ¬ 255 < x ∧ m < 0) ∨ (¬ x < 0 ∧ ¬ 255 < x ∧ ¬ m < 0 ∧ 255 < m) ∨ (¬ x < 0 ∧ ¬ 255 < x ∧ ¬ m < 0 ∧ ¬ 255 < m ∧ n < 0) ∨ (¬ x < 0 ∧ ¬ 255 < x ∧ ¬ m < 0 ∧ ¬ 255 < m ∧ ¬ n < 0 ∧ 2147483647 < n) := by
    have hb := hbad
    simp only [Bool.and_eq_false_iff] at hb
    have N1 : ∀ {z a b : Int}, inB z a b = false → ¬ (a ≤ z ∧ z ≤ b) := fun h h' => by rw [inB_iff.2 h'] at h; cases h
    rcases hb with (hb | hb) | hb <;> have hb' := N1 hb <;> omega
  clear hbad
  rcases hcase with q0 | ⟨q0, q1⟩ | ⟨q0, q1, q2⟩ | ⟨q0, q1, q2, q3⟩ | ⟨q0, q1, q2, q3, q4⟩ | ⟨q0, q1, q2, q3, q4, q5⟩
  all_goals
    go_wp2_with fail
    go_ret
    exact ⟨rfl, B5.out⟩
set_option maxRecDepth 100000 in
set_option maxHeartbeats 4000000 in
theorem tells_no_ok (x n m : Int) (a1 : Option Addr) (c1 : Nat) (w : World) (bs : List UInt8) (hv : inB (wrap64 (tkN (tkS (bs, true) 1) 4 : Int)) 0 2147483647 = false) (hx : inB x 0 255 = true) (hm : inB m 0 255 = true) (hn : inB n 0 2147483647 = true) (hfx : fits x = true ∧ fits n = true ∧ fits m = true) (hT : TabF w) (hsl : Sl w a1 6 1 (bcells bs)) :
    Calls Tryd.prog 6 #[.agg #[.int .i64 x, .int .i64 n, .int .i64 m], .slice a1 6 c1] w fun e w' => e = .returned (.bool true) ∧ Below w.heap.size w w' := by
  have HA : Hid (Blk (w.alloc (.cells #[.int .i64 x, .int .i64 n, .int .i64 m] 49)) w.heap.size (ints [x, n, m]) 49) := Lib.hid (Blk.new w #[.int .i64 x, .int .i64 n, .int .i64 m] 49)
  have HB := Lib.hid ((Below.refl w.heap.size w).alloc (Nat.le_refl _) (.cells #[.int .i64 x, .int .i64 n, .int .i64 m] 49))
  have HS := Lib.hid (hsl.keep HB.out)
  have AL := Lib.hid (alive31 _ (hT.keep HB.out (glob_lt hT)))
  have CT := Lib.hid (fun w => tell_yes x n m w hx hm hn)
  have CD2 := Lib.hid (fun a c w1 (hs : Sl w1 a 6 1 (bcells (encA x n m))) => show Calls Tryd.prog 19 #[.slice a 6 c] w1 fun e w' => e = .returned (.tuple #[.agg #[.int .i64 x, .int .i64 n, .int .i64 m], .int .i64 0]) ∧ Below w1.heap.size w1 w' from (by
    have E := ans_enc hx hm hn
    have := told_yes a c (encA x n m) w1 hs (by
      have E1 := E
      unfold ansL at E1
      simp only [List.cons.injEq] at E1
      rw [E1.2.1]
      exact hn)
    rw [E] at this
    exact this))
  have RT := Lib.hid (fun w => show Calls Tryd.prog 20 #[.agg (ints [x, n, m]).toArray] w _ from rtell_any x n m w)
  have OKX : OkAll (List.replicate 3 (some IntKind.i64)) (ints [x, n, m]) := by have h1 := hfx; refine ok_ints [x, n, m] ?_; intro z hz; rcases List.mem_cons.1 hz with rfl | hz; exact h1.1; rcases List.mem_cons.1 hz with rfl | hz; exact h1.2.1; rcases List.mem_cons.1 hz with rfl | hz; exact h1.2.2; cases hz
  have EX := Lib.hid (fun w => show (binOp .eql 49 (.agg (ints [x, n, m]).toArray) (.agg (ints [x, n, m]).toArray)).run Tryd.prog w = .ok (.bool true) w from by have := eql_flat (P := Tryd.prog) 5 6 49 (List.replicate 3 (some IntKind.i64)) (ints [x, n, m]) (ints [x, n, m]) w (by kernel_rfl) (by kernel_rfl) (by kernel_rfl) (by kernel_rfl) (by simp [ints_len]) (OKX) (OKX); rwa [sameB_refl] at this)
  have LX := inB_iff.1 hx
  have LM := inB_iff.1 hm
  have LN := inB_iff.1 hn
  clear hx hm hn OKX
  have CD := Lib.hid (fun w1 (hs : Sl w1 a1 6 1 (bcells bs)) => show Calls Tryd.prog 19 #[.slice a1 6 c1] w1 fun e w' => e = .returned (.tuple #[.agg #[.int .i64 0, .int .i64 0, .int .i64 0], .int .i64 16]) ∧ Below w1.heap.size w1 w' from told_no a1 c1 bs w1 hs hv)
  obtain ⟨zh, hz1, hz2, hzc⟩ := ans_high (by have := sl_one hsl; exact this) hv
  have HZ := Lib.hid hzc
  have hz128 : ¬ zh < 128 := by omega
  clear hzc hv hz1 hz2
  have EZ : Hid (∀ w, (binOp .neq 49 (.agg (ints [0, 0, 0]).toArray) (.agg (ints [0, 0, 0]).toArray)).run Tryd.prog w = .ok (.bool false) w) := Lib.hid (fun w => by have := neq_flat (P := Tryd.prog) 5 6 49 (List.replicate 3 (some IntKind.i64)) (ints [0, 0, 0]) (ints [0, 0, 0]) w (by kernel_rfl) (by kernel_rfl) (by kernel_rfl) (by kernel_rfl) (by decide) (ok_ints [0, 0, 0] (by decide)) (ok_ints [0, 0, 0] (by decide)); rwa [sameB_refl] at this)
  have g2 : Tryd.prog.eqGuardType Tryd.prog.depth 49 = false := by kernel_rfl
  have TX : RowT 49 (ints [x, n, m]).length := rowA3
  have TO : RowT 49 (ints [0, 0, 0]).length := rowA3
  clear hT hsl hfx
  go_enter Tryd.func6, Tryd.ntmps6
  go_upto_region 1 with fail
  generalize w.alloc (.cells #[.int .i64 x, .int .i64 n, .int .i64 m] 49) = W at *
  go_wp2_with fail
  refine AL.out.mono ?_
  rintro e w2 ⟨rfl, hb2⟩
  have B2 := Lib.hid (HB.out.trans (hb2.mono HB.out.size))
  have A2 := Lib.hid (HA.out.keep hb2 HA.out.lt)
  have S2 := Lib.hid (HS.out.keep hb2)
  have r1 : w2.rangeAt w.heap.size 0 (ints [x, n, m]) := A2.out.range 0 _ rfl
  clear hb2 HB HA HS AL
  go_wp2_with (first
    | ((with_reducible refine ld_row r1 TX ?_ ?_ ?_); (· rfl); (· rfl); (simp only [Act.put, List.setIfInBounds_toArray, List.set_cons_zero, List.set_cons_succ])))
  refine (CT.out w2).mono ?_
  rintro e w3 ⟨a4, c4, rfl, hs4, hb3⟩
  have B3 := Lib.hid (B2.out.trans (hb3.mono B2.out.size))
  have A3 := Lib.hid (A2.out.keep hb3 A2.out.lt)
  have S3 := Lib.hid (S2.out.keep hb3)
  have P3 := Lib.hid hs4
  clear hs4
  clear hb3 B2 A2 S2 r1 CT
  go_wp2_with fail
  refine (CD.out w3 S3.out).mono ?_
  rintro e w4 ⟨rfl, hb4⟩
  have B4 := Lib.hid (B3.out.trans (hb4.mono B3.out.size))
  have A4 := Lib.hid (A3.out.keep hb4 A3.out.lt)
  have S4 := Lib.hid (S3.out.keep hb4)
  have P4 := Lib.hid (P3.out.keep hb4)
  clear hb4 B3 A3 S3 P3
  have hal : Below w4.heap.size w4 (w4.alloc (.cells #[.int .i64 0, .int .i64 0, .int .i64 0] 49)) := (Below.refl _ _).alloc (Nat.le_refl _) _
  have Y5 : Hid (Blk (w4.alloc (.cells #[.int .i64 0, .int .i64 0, .int .i64 0] 49)) w4.heap.size (ints [0, 0, 0]) 49) := Lib.hid (Blk.new w4 #[.int .i64 0, .int .i64 0, .int .i64 0] 49)
  have B5 := Lib.hid (B4.out.trans (hal.mono B4.out.size))
  have A5 := Lib.hid (A4.out.keep hal A4.out.lt)
  have S5 := Lib.hid (S4.out.keep hal)
  have P5 := Lib.hid (P4.out.keep hal)
  clear hal B4 A4 S4 P4
  go_upto_region 5 with fail
  generalize hw5 : w4.alloc (.cells #[.int .i64 0, .int .i64 0, .int .i64 0] 49) = w5 at *
  generalize hg5 : w4.heap.size = g5 at *
  clear hw5 hg5
  have r5 : w5.rangeAt g5 0 (ints [0, 0, 0]) := Y5.out.range 0 _ rfl
  obtain ⟨_, b1, o1, rfl, hb1, hcl⟩ := S5.out.byte (by decide)
  have hc1 : w5.cell? ⟨b1, o1 + 1, none⟩ = some (.int .u8 zh) := by
    have h1 := hcl 1 (by decide)
    rw [h1]
    have h2 := HZ.out
    unfold bcells at h2
    rw [List.getElem?_map] at h2
    rcases hk : bs[1]? with _ | u
    · rw [hk] at h2; cases h2
    · rw [hk] at h2
      rw [List.getD_eq_getElem?_getD, hk]
      simpa using h2
  clear hb1 hcl
  go_upto_region 11 with (first
    | ((with_reducible refine ld_row r5 TO ?_ ?_ ?_); (· rfl); (· rfl); (simp only [Act.put, List.setIfInBounds_toArray, List.set_cons_zero, List.set_cons_succ]))
    | ((with_reducible refine cmp_row g2 EZ.out ?_ ?_ ?_ ?_); (· rfl); (· first | rfl | (show _ = Value.agg (ints [0, 0, 0]).toArray; rfl)); (· first | rfl | (show _ = Value.agg (ints [0, 0, 0]).toArray; rfl)); (simp only [Act.put, List.setIfInBounds_toArray, List.set_cons_zero, List.set_cons_succ])))
  have d0 : w5.cell? ⟨w.heap.size, 0, none⟩ = some (.int .i64 x) := A5.out.cell 0
  have d1 : w5.cell? ⟨w.heap.size, 1, none⟩ = some (.int .i64 n) := A5.out.cell 1
  have d2 : w5.cell? ⟨w.heap.size, 2, none⟩ = some (.int .i64 m) := A5.out.cell 2
  have hx1 : ¬ x < 0 := by omega
  have hx2 : ¬ 255 < x := by omega
  have hm1 : ¬ m < 0 := by omega
  have hm2 : ¬ 255 < m := by omega
  have hn1' : ¬ n < 0 := by omega
  have hn2' : ¬ 2147483647 < n := by omega
  clear LX LM LN
  go_wp2_with fail
  refine (CD2.out a4 c4 w5 P5.out).mono ?_
  rintro e w7 ⟨rfl, hb7⟩
  clear d0 d1 d2
  have B7 := Lib.hid (B5.out.trans (hb7.mono B5.out.size))
  have A7 := Lib.hid (A5.out.keep hb7 A5.out.lt)
  have S7 := Lib.hid (S5.out.keep hb7)
  have P7 := Lib.hid (P5.out.keep hb7)
  clear hb7 B5 A5 S5 P5
  have hal : Below w7.heap.size w7 (w7.alloc (.cells #[.int .i64 x, .int .i64 n, .int .i64 m] 49)) := (Below.refl _ _).alloc (Nat.le_refl _) _
  have Y8 : Hid (Blk (w7.alloc (.cells #[.int .i64 x, .int .i64 n, .int .i64 m] 49)) w7.heap.size (ints [x, n, m]) 49) := Lib.hid (Blk.new w7 #[.int .i64 x, .int .i64 n, .int .i64 m] 49)
  have B8 := Lib.hid (B7.out.trans (hal.mono B7.out.size))
  have A8 := Lib.hid (A7.out.keep hal A7.out.lt)
  have Q8 := Lib.hid (S7.out.keep hal)
  have S8 := Lib.hid (P7.out.keep hal)
  clear hal B7 A7 S7 P7
  go_upto_region 14 with fail
  generalize hw8 : w7.alloc (.cells #[.int .i64 x, .int .i64 n, .int .i64 m] 49) = w8 at *
  generalize hg8 : w7.heap.size = g8 at *
  clear hw8 hg8 hx1 hx2 hm1 hm2 hn1' hn2' CD CD2
  refine held_begin (fun w' => Below w8.heap.size w8 w') 20 [false, false, false, false, false, false, false, false, false, false, false, false, false, false, false, false, false, false, false, false] (by kernel_rfl) rfl (by rfl) ?_
  have hHeld : Below w8.heap.size w8 w8.drew := (Below.refl _ _).drew
  refine held_take (v := ?_) 0 99 [true, false, false, false, false, false, false, false, false, false, false, false, false, false, false, false, false, false, false, false] rfl (by rfl) (by rfl) (by kernel_rfl) (by kernel_rfl) (by kernel_rfl) (by rfl) (fun _ _ _ h => h) ?_ hHeld ?_
  rotate_left
  · intro w hSw; go_simp <;> with_reducible rfl
  simp only [Act.put, List.setIfInBounds_toArray, List.set_cons_zero, List.set_cons_succ]
  refine held_take (v := .bool true) 1 100 [true, true, false, false, false, false, false, false, false, false, false, false, false, false, false, false, false, false, false, false] rfl (by rfl) (by rfl) (by kernel_rfl) (by kernel_rfl) (by kernel_rfl) (by rfl) (fun _ _ _ h => h) (fun w h => by go_simp) hHeld ?_
  simp only [Act.put, List.setIfInBounds_toArray, List.set_cons_zero, List.set_cons_succ]
  refine held_take (v := ?_) 2 101 [true, true, true, false, false, false, false, false, false, false, false, false, false, false, false, false, false, false, false, false] rfl (by rfl) (by rfl) (by kernel_rfl) (by kernel_rfl) (by kernel_rfl) (by rfl) (fun _ _ _ h => h) ?_ hHeld ?_
  rotate_left
  · intro w hSw; go_simp <;> with_reducible rfl
  simp only [Act.put, List.setIfInBounds_toArray, List.set_cons_zero, List.set_cons_succ]
  refine held_take (v := ?_) 3 102 [true, true, true, true, false, false, false, false, false, false, false, false, false, false, false, false, false, false, false, false] rfl (by rfl) (by rfl) (by kernel_rfl) (by kernel_rfl) (by kernel_rfl) (by rfl) (fun _ _ _ h => h) ?_ hHeld ?_
  rotate_left
  · intro w hSw; go_simp <;> with_reducible rfl
  simp only [Act.put, List.setIfInBounds_toArray, List.set_cons_zero, List.set_cons_succ]
  refine held_take (v := .string ⟨(encA x n m).toArray⟩) 4 103 [true, true, true, true, true, false, false, false, false, false, false, false, false, false, false, false, false, false, false, false] rfl (by rfl) (by rfl) (by kernel_rfl) (by kernel_rfl) (by kernel_rfl) (by rfl) (fun _ _ _ h => h) (fun w' h => run_op_conv rfl rfl (conv_bytes (S8.out.keep h) _)) hHeld ?_
  simp only [Act.put, List.setIfInBounds_toArray, List.set_cons_zero, List.set_cons_succ]
  refine held_take (v := .agg (ints [x, n, m]).toArray) 5 104 [true, true, true, true, true, true, false, false, false, false, false, false, false, false, false, false, false, false, false, false] rfl (by rfl) (by rfl) (by kernel_rfl) (by kernel_rfl) (by kernel_rfl) (by rfl) (fun _ _ _ h => h) (fun w' h => run_op_load rfl rfl ((A8.out.keep h A8.out.lt).range 0 (ints [x, n, m]) rfl) rowA3.1.choose_spec.1 rowA3.1.choose_spec.2 rowA3.2) hHeld ?_
  simp only [Act.put, List.setIfInBounds_toArray, List.set_cons_zero, List.set_cons_succ]
  refine held_call 6 105 [true, true, true, true, true, true, true, false, false, false, false, false, false, false, false, false, false, false, false, false] (by kernel_rfl) rfl (by rfl) (by rfl) (by rfl) (by go_simp) ((RT.out _).mono ?_)
  rintro e w9 ⟨a9, c9, rfl, hs9, hb9⟩
  refine ⟨_, rfl, hHeld.trans (hb9.mono hHeld.size), fun hHeld => ?_⟩
  simp only [Act.put, List.setIfInBounds_toArray, List.set_cons_zero, List.set_cons_succ]
  have hHeld : Below w8.heap.size w8 _ := hHeld
  refine held_one 7 (by kernel_rfl) ?_
  refine op_value (v := .string ⟨(encA x n m).toArray⟩) 106 [true, true, true, true, true, true, true, true, false, false, false, false, false, false, false, false, false, false, false, false] rfl (by rfl) (by rfl) (by rfl) (run_op_conv rfl rfl (conv_bytes hs9 _)) (hHeld) fun hHeld => ?_
  simp only [Act.put, List.setIfInBounds_toArray, List.set_cons_zero, List.set_cons_succ]
  refine held_take (v := .bool true) 8 107 [true, true, true, true, true, true, true, true, true, false, false, false, false, false, false, false, false, false, false, false] rfl (by rfl) (by rfl) (by kernel_rfl) (by kernel_rfl) (by kernel_rfl) (by rfl) (fun _ _ _ h => h) (fun w h => by go_simp) hHeld ?_
  simp only [Act.put, List.setIfInBounds_toArray, List.set_cons_zero, List.set_cons_succ]
  refine held_take (v := .bool true) 9 108 [true, true, true, true, true, true, true, true, true, true, false, false, false, false, false, false, false, false, false, false] rfl (by rfl) (by rfl) (by kernel_rfl) (by kernel_rfl) (by kernel_rfl) (by rfl) (fun _ _ _ h => h) (fun w h => by go_simp) hHeld ?_
  simp only [Act.put, List.setIfInBounds_toArray, List.set_cons_zero, List.set_cons_succ]
  refine held_take (v := ?_) 10 109 [true, true, true, true, true, true, true, true, true, true, true, false, false, false, false, false, false, false, false, false] rfl (by rfl) (by rfl) (by kernel_rfl) (by kernel_rfl) (by kernel_rfl) (by rfl) (fun _ _ _ h => h) ?_ hHeld ?_
  rotate_left
  · intro w hSw; go_simp <;> with_reducible rfl
  simp only [Act.put, List.setIfInBounds_toArray, List.set_cons_zero, List.set_cons_succ]
  refine held_take (v := ?_) 11 110 [true, true, true, true, true, true, true, true, true, true, true, true, false, false, false, false, false, false, false, false] rfl (by rfl) (by rfl) (by kernel_rfl) (by kernel_rfl) (by kernel_rfl) (by rfl) (fun _ _ _ h => h) ?_ hHeld ?_
  rotate_left
  · intro w hSw; go_simp <;> with_reducible rfl
  simp only [Act.put, List.setIfInBounds_toArray, List.set_cons_zero, List.set_cons_succ]
  refine held_take (v := .bool true) 12 111 [true, true, true, true, true, true, true, true, true, true, true, true, true, false, false, false, false, false, false, false] rfl (by rfl) (by rfl) (by kernel_rfl) (by kernel_rfl) (by kernel_rfl) (by rfl) (fun _ _ _ h => h) (fun w h => by go_simp) hHeld ?_
  simp only [Act.put, List.setIfInBounds_toArray, List.set_cons_zero, List.set_cons_succ]
  refine held_take (v := .bool true) 13 112 [true, true, true, true, true, true, true, true, true, true, true, true, true, true, false, false, false, false, false, false] rfl (by rfl) (by rfl) (by kernel_rfl) (by kernel_rfl) (by kernel_rfl) (by rfl) (fun _ _ _ h => h) (fun w h => by go_simp) hHeld ?_
  simp only [Act.put, List.setIfInBounds_toArray, List.set_cons_zero, List.set_cons_succ]
  refine held_take (v := ?_) 14 113 [true, true, true, true, true, true, true, true, true, true, true, true, true, true, true, false, false, false, false, false] rfl (by rfl) (by rfl) (by kernel_rfl) (by kernel_rfl) (by kernel_rfl) (by rfl) (fun _ _ _ h => h) ?_ hHeld ?_
  rotate_left
  · intro w hSw; go_simp <;> with_reducible rfl
  simp only [Act.put, List.setIfInBounds_toArray, List.set_cons_zero, List.set_cons_succ]
  refine held_take (v := .agg (ints [x, n, m]).toArray) 15 114 [true, true, true, true, true, true, true, true, true, true, true, true, true, true, true, true, false, false, false, false] rfl (by rfl) (by rfl) (by kernel_rfl) (by kernel_rfl) (by kernel_rfl) (by rfl) (fun _ _ _ h => h) (fun w' h => run_op_load rfl rfl ((Y8.out.keep h Y8.out.lt).range 0 (ints [x, n, m]) rfl) rowA3.1.choose_spec.1 rowA3.1.choose_spec.2 rowA3.2) hHeld ?_
  simp only [Act.put, List.setIfInBounds_toArray, List.set_cons_zero, List.set_cons_succ]
  refine held_take (v := .agg (ints [x, n, m]).toArray) 16 115 [true, true, true, true, true, true, true, true, true, true, true, true, true, true, true, true, true, false, false, false] rfl (by rfl) (by rfl) (by kernel_rfl) (by kernel_rfl) (by kernel_rfl) (by rfl) (fun _ _ _ h => h) (fun w' h => run_op_load rfl rfl ((A8.out.keep h A8.out.lt).range 0 (ints [x, n, m]) rfl) rowA3.1.choose_spec.1 rowA3.1.choose_spec.2 rowA3.2) hHeld ?_
  simp only [Act.put, List.setIfInBounds_toArray, List.set_cons_zero, List.set_cons_succ]
  refine held_take (v := .bool true) 17 116 [true, true, true, true, true, true, true, true, true, true, true, true, true, true, true, true, true, true, false, false] rfl (by rfl) (by rfl) (by kernel_rfl) (by kernel_rfl) (by kernel_rfl) (by rfl) (fun _ _ _ h => h) (fun w h => run_op_cmp rfl rfl rfl (by kernel_rfl) (EX.out w)) hHeld ?_
  simp only [Act.put, List.setIfInBounds_toArray, List.set_cons_zero, List.set_cons_succ]
  refine held_take (v := .bool true) 18 117 [true, true, true, true, true, true, true, true, true, true, true, true, true, true, true, true, true, true, true, false] rfl (by rfl) (by rfl) (by kernel_rfl) (by kernel_rfl) (by kernel_rfl) (by rfl) (fun _ _ _ h => h) (fun w h => by go_simp) hHeld ?_
  simp only [Act.put, List.setIfInBounds_toArray, List.set_cons_zero, List.set_cons_succ]
  refine held_take (v := ?_) 19 4 [true, true, true, true, true, true, true, true, true, true, true, true, true, true, true, true, true, true, true, true] rfl (by rfl) (by rfl) (by kernel_rfl) (by kernel_rfl) (by kernel_rfl) (by rfl) (fun _ _ _ h => h) ?_ hHeld ?_
  rotate_left
  · intro w hSw; go_simp <;> with_reducible rfl
  simp only [Act.put, List.setIfInBounds_toArray, List.set_cons_zero, List.set_cons_succ]
  refine held_done (by kernel_rfl) ?_
  go_wp2_with fail
  go_ret
  exact ⟨rfl, B8.out.trans (hHeld.mono B8.out.size)⟩
set_option maxRecDepth 100000 in
set_option maxHeartbeats 4000000 in
theorem tells_yes_bad (x n m : Int) (a1 : Option Addr) (c1 : Nat) (w : World) (z1 z2 z3 : Int) (hz1 : inB z1 0 255 = true) (hz3 : inB z3 0 255 = true) (hz2 : inB z2 0 2147483647 = true) (hfz : fits z1 = true ∧ fits z2 = true ∧ fits z3 = true) (hbad : (inB x 0 255 && inB m 0 255 && inB n 0 2147483647) = false) (hfx : fits x = true ∧ fits n = true ∧ fits m = true) (hT : TabF w) (hsl : Sl w a1 6 1 (bcells (encA z1 z2 z3))) :
    Calls Tryd.prog 6 #[.agg #[.int .i64 x, .int .i64 n, .int .i64 m], .slice a1 6 c1] w fun e w' => e = .returned (.bool true) ∧ Below w.heap.size w w' := by
  have HA : Hid (Blk (w.alloc (.cells #[.int .i64 x, .int .i64 n, .int .i64 m] 49)) w.heap.size (ints [x, n, m]) 49) := Lib.hid (Blk.new w #[.int .i64 x, .int .i64 n, .int .i64 m] 49)
  have HB := Lib.hid ((Below.refl w.heap.size w).alloc (Nat.le_refl _) (.cells #[.int .i64 x, .int .i64 n, .int .i64 m] 49))
  have HS := Lib.hid (hsl.keep HB.out)
  have AL := Lib.hid (alive31 _ (hT.keep HB.out (glob_lt hT)))
  have CT := Lib.hid (fun w => tell_bad x n m w hbad)
  have CD := Lib.hid (fun w1 (hs : Sl w1 a1 6 1 (bcells (encA z1 z2 z3))) => show Calls Tryd.prog 19 #[.slice a1 6 c1] w1 fun e w' => e = .returned (.tuple #[.agg #[.int .i64 z1, .int .i64 z2, .int .i64 z3], .int .i64 0]) ∧ Below w1.heap.size w1 w' from (by
    have E := ans_enc hz1 hz3 hz2
    have := told_yes a1 c1 (encA z1 z2 z3) w1 hs (by
      have E1 := E
      unfold ansL at E1
      simp only [List.cons.injEq] at E1
      rw [E1.2.1]
      exact hz2)
    rw [E] at this
    exact this))
  have CT2 := Lib.hid (fun w => tell_yes z1 z2 z3 w hz1 hz3 hz2)
  clear hz1 hz2 hz3 hfz
  have g2 : Tryd.prog.eqGuardType Tryd.prog.depth 49 = false := by kernel_rfl
  have TX : RowT 49 (ints [x, n, m]).length := rowA3
  have TO : RowT 49 (ints [0, 0, 0]).length := rowA3
  clear hT hsl hfx
  go_enter Tryd.func6, Tryd.ntmps6
  go_upto_region 1 with fail
  generalize w.alloc (.cells #[.int .i64 x, .int .i64 n, .int .i64 m] 49) = W at *
  go_wp2_with fail
  refine AL.out.mono ?_
  rintro e w2 ⟨rfl, hb2⟩
  have B2 := Lib.hid (HB.out.trans (hb2.mono HB.out.size))
  have A2 := Lib.hid (HA.out.keep hb2 HA.out.lt)
  have S2 := Lib.hid (HS.out.keep hb2)
  have r1 : w2.rangeAt w.heap.size 0 (ints [x, n, m]) := A2.out.range 0 _ rfl
  clear hb2 HB HA HS AL
  go_wp2_with (first
    | ((with_reducible refine ld_row r1 TX ?_ ?_ ?_); (· rfl); (· rfl); (simp only [Act.put, List.setIfInBounds_toArray, List.set_cons_zero, List.set_cons_succ])))
  refine (CT.out w2).mono ?_
  rintro e w3 ⟨rfl, hb3⟩
  have B3 := Lib.hid (B2.out.trans (hb3.mono B2.out.size))
  have A3 := Lib.hid (A2.out.keep hb3 A2.out.lt)
  have S3 := Lib.hid (S2.out.keep hb3)
  clear hb3 B2 A2 S2 r1 CT
  go_wp2_with fail
  refine (CD.out w3 S3.out).mono ?_
  rintro e w4 ⟨rfl, hb4⟩
  have B4 := Lib.hid (B3.out.trans (hb4.mono B3.out.size))
  have A4 := Lib.hid (A3.out.keep hb4 A3.out.lt)
  have S4 := Lib.hid (S3.out.keep hb4)
  clear hb4 B3 A3 S3
  have hal : Below w4.heap.size w4 (w4.alloc (.cells #[.int .i64 z1, .int .i64 z2, .int .i64 z3] 49)) := (Below.refl _ _).alloc (Nat.le_refl _) _
  have Y5 : Hid (Blk (w4.alloc (.cells #[.int .i64 z1, .int .i64 z2, .int .i64 z3] 49)) w4.heap.size (ints [z1, z2, z3]) 49) := Lib.hid (Blk.new w4 #[.int .i64 z1, .int .i64 z2, .int .i64 z3] 49)
  have B5 := Lib.hid (B4.out.trans (hal.mono B4.out.size))
  have A5 := Lib.hid (A4.out.keep hal A4.out.lt)
  have S5 := Lib.hid (S4.out.keep hal)
  clear hal B4 A4 S4
  go_upto_region 5 with fail
  generalize hw5 : w4.alloc (.cells #[.int .i64 z1, .int .i64 z2, .int .i64 z3] 49) = w5 at *
  generalize hg5 : w4.heap.size = g5 at *
  clear hw5 hg5
  have r5 : w5.rangeAt g5 0 (ints [z1, z2, z3]) := Y5.out.range 0 _ rfl
  have TZ : RowT 49 (ints [z1, z2, z3]).length := rowA3
  go_wp2_with (first
    | ((with_reducible refine ld_row r5 TZ ?_ ?_ ?_); (· rfl); (· rfl); (simp only [Act.put, List.setIfInBounds_toArray, List.set_cons_zero, List.set_cons_succ])))
  refine (CT2.out w5).mono ?_
  rintro e w6 ⟨a6, c6, rfl, hs6, hb6⟩
  clear r5
  have B6 := Lib.hid (B5.out.trans (hb6.mono B5.out.size))
  have A6 := Lib.hid (A5.out.keep hb6 A5.out.lt)
  have S6 := Lib.hid (S5.out.keep hb6)
  clear hb6 B5 A5 S5
  have cv1 := conv_bytes hs6 c6
  have cv2 := conv_bytes S6.out c1
  go_upto_region 11 with fail
  clear cv1 cv2 hs6
  have d0 : w6.cell? ⟨w.heap.size, 0, none⟩ = some (.int .i64 x) := A6.out.cell 0
  have d1 : w6.cell? ⟨w.heap.size, 1, none⟩ = some (.int .i64 n) := A6.out.cell 1
  have d2 : w6.cell? ⟨w.heap.size, 2, none⟩ = some (.int .i64 m) := A6.out.cell 2
  have hcase : (x < 0) ∨ (¬ x < 0 ∧ 255 < x) ∨ (¬ x < 0 ∧ ¬ 255 < x ∧ m < 0) ∨ (¬ x < 0 ∧ ¬ 255 < x ∧ ¬ m < 0 ∧ 255 < m) ∨ (¬ x < 0 ∧ ¬ 255 < x ∧ ¬ m < 0 ∧ ¬ 255 < m ∧ n < 0) ∨ (¬ x < 0 ∧ ¬ 255 < x ∧ ¬ m < 0 ∧ ¬ 255 < m ∧ ¬ n < 0 ∧ 2147483647 < n) := by
    have hb := hbad
    simp only [Bool.and_eq_false_iff] at hb
    have N1 : ∀ {z a b : Int}, inB z a b = false → ¬ (a ≤ z ∧ z ≤ b) := fun h h' => by rw [inB_iff.2 h'] at h; cases h
    rcases hb with (hb | hb) | hb <;> have hb' := N1 hb <;> omega
  clear hbad
  rcases hcase with q0 | ⟨q0, q1⟩ | ⟨q0, q1, q2⟩ | ⟨q0, q1, q2, q3⟩ | ⟨q0, q1, q2, q3, q4⟩ | ⟨q0, q1, q2, q3, q4, q5⟩
  all_goals
    go_wp2_with fail
    go_ret
    exact ⟨rfl, B6.out⟩
set_option maxRecDepth 100000 in
set_option maxHeartbeats 4000000 in
theorem tells_yes_ok (x n m : Int) (a1 : Option Addr) (c1 : Nat) (w : World) (z1 z2 z3 : Int) (hz1 : inB z1 0 255 = true) (hz3 : inB z3 0 255 = true) (hz2 : inB z2 0 2147483647 = true) (hfz : fits z1 = true ∧ fits z2 = true ∧ fits z3 = true) (hx : inB x 0 255 = true) (hm : inB m 0 255 = true) (hn : inB n 0 2147483647 = true) (hfx : fits x = true ∧ fits n = true ∧ fits m = true) (hT : TabF w) (hsl : Sl w a1 6 1 (bcells (encA z1 z2 z3))) :
    Calls Tryd.prog 6 #[.agg #[.int .i64 x, .int .i64 n, .int .i64 m], .slice a1 6 c1] w fun e w' => e = .returned (.bool true) ∧ Below w.heap.size w w' := by
  have HA : Hid (Blk (w.alloc (.cells #[.int .i64 x, .int .i64 n, .int .i64 m] 49)) w.heap.size (ints [x, n, m]) 49) := Lib.hid (Blk.new w #[.int .i64 x, .int .i64 n, .int .i64 m] 49)
  have HB := Lib.hid ((Below.refl w.heap.size w).alloc (Nat.le_refl _) (.cells #[.int .i64 x, .int .i64 n, .int .i64 m] 49))
  have HS := Lib.hid (hsl.keep HB.out)
  have AL := Lib.hid (alive31 _ (hT.keep HB.out (glob_lt hT)))
  have CT := Lib.hid (fun w => tell_yes x n m w hx hm hn)
  have CD2 := Lib.hid (fun a c w1 (hs : Sl w1 a 6 1 (bcells (encA x n m))) => show Calls Tryd.prog 19 #[.slice a 6 c] w1 fun e w' => e = .returned (.tuple #[.agg #[.int .i64 x, .int .i64 n, .int .i64 m], .int .i64 0]) ∧ Below w1.heap.size w1 w' from (by
    have E := ans_enc hx hm hn
    have := told_yes a c (encA x n m) w1 hs (by
      have E1 := E
      unfold ansL at E1
      simp only [List.cons.injEq] at E1
      rw [E1.2.1]
      exact hn)
    rw [E] at this
    exact this))
  have RT := Lib.hid (fun w => show Calls Tryd.prog 20 #[.agg (ints [x, n, m]).toArray] w _ from rtell_any x n m w)
  have OKX : OkAll (List.replicate 3 (some IntKind.i64)) (ints [x, n, m]) := by have h1 := hfx; refine ok_ints [x, n, m] ?_; intro z hz; rcases List.mem_cons.1 hz with rfl | hz; exact h1.1; rcases List.mem_cons.1 hz with rfl | hz; exact h1.2.1; rcases List.mem_cons.1 hz with rfl | hz; exact h1.2.2; cases hz
  have EX := Lib.hid (fun w => show (binOp .eql 49 (.agg (ints [x, n, m]).toArray) (.agg (ints [x, n, m]).toArray)).run Tryd.prog w = .ok (.bool true) w from by have := eql_flat (P := Tryd.prog) 5 6 49 (List.replicate 3 (some IntKind.i64)) (ints [x, n, m]) (ints [x, n, m]) w (by kernel_rfl) (by kernel_rfl) (by kernel_rfl) (by kernel_rfl) (by simp [ints_len]) (OKX) (OKX); rwa [sameB_refl] at this)
  have LX := inB_iff.1 hx
  have LM := inB_iff.1 hm
  have LN := inB_iff.1 hn
  clear hx hm hn OKX
  have CD := Lib.hid (fun w1 (hs : Sl w1 a1 6 1 (bcells (encA z1 z2 z3))) => show Calls Tryd.prog 19 #[.slice a1 6 c1] w1 fun e w' => e = .returned (.tuple #[.agg #[.int .i64 z1, .int .i64 z2, .int .i64 z3], .int .i64 0]) ∧ Below w1.heap.size w1 w' from (by
    have E := ans_enc hz1 hz3 hz2
    have := told_yes a1 c1 (encA z1 z2 z3) w1 hs (by
      have E1 := E
      unfold ansL at E1
      simp only [List.cons.injEq] at E1
      rw [E1.2.1]
      exact hz2)
    rw [E] at this
    exact this))
  have CT2 := Lib.hid (fun w => tell_yes z1 z2 z3 w hz1 hz3 hz2)
  clear hz1 hz2 hz3 hfz
  have g2 : Tryd.prog.eqGuardType Tryd.prog.depth 49 = false := by kernel_rfl
  have TX : RowT 49 (ints [x, n, m]).length := rowA3
  have TO : RowT 49 (ints [0, 0, 0]).length := rowA3
  clear hT hsl hfx
  go_enter Tryd.func6, Tryd.ntmps6
  go_upto_region 1 with fail
  generalize w.alloc (.cells #[.int .i64 x, .int .i64 n, .int .i64 m] 49) = W at *
  go_wp2_with fail
  refine AL.out.mono ?_
  rintro e w2 ⟨rfl, hb2⟩
  have B2 := Lib.hid (HB.out.trans (hb2.mono HB.out.size))
  have A2 := Lib.hid (HA.out.keep hb2 HA.out.lt)
  have S2 := Lib.hid (HS.out.keep hb2)
  have r1 : w2.rangeAt w.heap.size 0 (ints [x, n, m]) := A2.out.range 0 _ rfl
  clear hb2 HB HA HS AL
  go_wp2_with (first
    | ((with_reducible refine ld_row r1 TX ?_ ?_ ?_); (· rfl); (· rfl); (simp only [Act.put, List.setIfInBounds_toArray, List.set_cons_zero, List.set_cons_succ])))
  refine (CT.out w2).mono ?_
  rintro e w3 ⟨a4, c4, rfl, hs4, hb3⟩
  have B3 := Lib.hid (B2.out.trans (hb3.mono B2.out.size))
  have A3 := Lib.hid (A2.out.keep hb3 A2.out.lt)
  have S3 := Lib.hid (S2.out.keep hb3)
  have P3 := Lib.hid hs4
  clear hs4
  clear hb3 B2 A2 S2 r1 CT
  go_wp2_with fail
  refine (CD.out w3 S3.out).mono ?_
  rintro e w4 ⟨rfl, hb4⟩
  have B4 := Lib.hid (B3.out.trans (hb4.mono B3.out.size))
  have A4 := Lib.hid (A3.out.keep hb4 A3.out.lt)
  have S4 := Lib.hid (S3.out.keep hb4)
  have P4 := Lib.hid (P3.out.keep hb4)
  clear hb4 B3 A3 S3 P3
  have hal : Below w4.heap.size w4 (w4.alloc (.cells #[.int .i64 z1, .int .i64 z2, .int .i64 z3] 49)) := (Below.refl _ _).alloc (Nat.le_refl _) _
  have Y5 : Hid (Blk (w4.alloc (.cells #[.int .i64 z1, .int .i64 z2, .int .i64 z3] 49)) w4.heap.size (ints [z1, z2, z3]) 49) := Lib.hid (Blk.new w4 #[.int .i64 z1, .int .i64 z2, .int .i64 z3] 49)
  have B5 := Lib.hid (B4.out.trans (hal.mono B4.out.size))
  have A5 := Lib.hid (A4.out.keep hal A4.out.lt)
  have S5 := Lib.hid (S4.out.keep hal)
  have P5 := Lib.hid (P4.out.keep hal)
  clear hal B4 A4 S4 P4
  go_upto_region 5 with fail
  generalize hw5 : w4.alloc (.cells #[.int .i64 z1, .int .i64 z2, .int .i64 z3] 49) = w5 at *
  generalize hg5 : w4.heap.size = g5 at *
  clear hw5 hg5
  have r5 : w5.rangeAt g5 0 (ints [z1, z2, z3]) := Y5.out.range 0 _ rfl
  have TZ : RowT 49 (ints [z1, z2, z3]).length := rowA3
  go_wp2_with (first
    | ((with_reducible refine ld_row r5 TZ ?_ ?_ ?_); (· rfl); (· rfl); (simp only [Act.put, List.setIfInBounds_toArray, List.set_cons_zero, List.set_cons_succ])))
  refine (CT2.out w5).mono ?_
  rintro e w6 ⟨a6, c6, rfl, hs6, hb6⟩
  clear r5
  have B6 := Lib.hid (B5.out.trans (hb6.mono B5.out.size))
  have A6 := Lib.hid (A5.out.keep hb6 A5.out.lt)
  have S6 := Lib.hid (S5.out.keep hb6)
  have P6 := Lib.hid (P5.out.keep hb6)
  clear hb6 B5 A5 S5 P5
  have cv1 := conv_bytes hs6 c6
  have cv2 := conv_bytes S6.out c1
  go_upto_region 11 with fail
  clear cv1 cv2 hs6
  have d0 : w6.cell? ⟨w.heap.size, 0, none⟩ = some (.int .i64 x) := A6.out.cell 0
  have d1 : w6.cell? ⟨w.heap.size, 1, none⟩ = some (.int .i64 n) := A6.out.cell 1
  have d2 : w6.cell? ⟨w.heap.size, 2, none⟩ = some (.int .i64 m) := A6.out.cell 2
  have hx1 : ¬ x < 0 := by omega
  have hx2 : ¬ 255 < x := by omega
  have hm1 : ¬ m < 0 := by omega
  have hm2 : ¬ 255 < m := by omega
  have hn1' : ¬ n < 0 := by omega
  have hn2' : ¬ 2147483647 < n := by omega
  clear LX LM LN
  go_wp2_with fail
  refine (CD2.out a4 c4 w6 P6.out).mono ?_
  rintro e w7 ⟨rfl, hb7⟩
  clear d0 d1 d2
  have B7 := Lib.hid (B6.out.trans (hb7.mono B6.out.size))
  have A7 := Lib.hid (A6.out.keep hb7 A6.out.lt)
  have S7 := Lib.hid (S6.out.keep hb7)
  have P7 := Lib.hid (P6.out.keep hb7)
  clear hb7 B6 A6 S6 P6
  have hal : Below w7.heap.size w7 (w7.alloc (.cells #[.int .i64 x, .int .i64 n, .int .i64 m] 49)) := (Below.refl _ _).alloc (Nat.le_refl _) _
  have Y8 : Hid (Blk (w7.alloc (.cells #[.int .i64 x, .int .i64 n, .int .i64 m] 49)) w7.heap.size (ints [x, n, m]) 49) := Lib.hid (Blk.new w7 #[.int .i64 x, .int .i64 n, .int .i64 m] 49)
  have B8 := Lib.hid (B7.out.trans (hal.mono B7.out.size))
  have A8 := Lib.hid (A7.out.keep hal A7.out.lt)
  have Q8 := Lib.hid (S7.out.keep hal)
  have S8 := Lib.hid (P7.out.keep hal)
  clear hal B7 A7 S7 P7
  go_upto_region 14 with fail
  generalize hw8 : w7.alloc (.cells #[.int .i64 x, .int .i64 n, .int .i64 m] 49) = w8 at *
  generalize hg8 : w7.heap.size = g8 at *
  clear hw8 hg8 hx1 hx2 hm1 hm2 hn1' hn2' CD CD2
  refine held_begin (fun w' => Below w8.heap.size w8 w') 20 [false, false, false, false, false, false, false, false, false, false, false, false, false, false, false, false, false, false, false, false] (by kernel_rfl) rfl (by rfl) ?_
  have hHeld : Below w8.heap.size w8 w8.drew := (Below.refl _ _).drew
  refine held_take (v := ?_) 0 99 [true, false, false, false, false, false, false, false, false, false, false, false, false, false, false, false, false, false, false, false] rfl (by rfl) (by rfl) (by kernel_rfl) (by kernel_rfl) (by kernel_rfl) (by rfl) (fun _ _ _ h => h) ?_ hHeld ?_
  rotate_left
  · intro w hSw; go_simp <;> with_reducible rfl
  simp only [Act.put, List.setIfInBounds_toArray, List.set_cons_zero, List.set_cons_succ]
  refine held_take (v := .bool true) 1 100 [true, true, false, false, false, false, false, false, false, false, false, false, false, false, false, false, false, false, false, false] rfl (by rfl) (by rfl) (by kernel_rfl) (by kernel_rfl) (by kernel_rfl) (by rfl) (fun _ _ _ h => h) (fun w h => by go_simp) hHeld ?_
  simp only [Act.put, List.setIfInBounds_toArray, List.set_cons_zero, List.set_cons_succ]
  refine held_take (v := ?_) 2 101 [true, true, true, false, false, false, false, false, false, false, false, false, false, false, false, false, false, false, false, false] rfl (by rfl) (by rfl) (by kernel_rfl) (by kernel_rfl) (by kernel_rfl) (by rfl) (fun _ _ _ h => h) ?_ hHeld ?_
  rotate_left
  · intro w hSw; go_simp <;> with_reducible rfl
  simp only [Act.put, List.setIfInBounds_toArray, List.set_cons_zero, List.set_cons_succ]
  refine held_take (v := ?_) 3 102 [true, true, true, true, false, false, false, false, false, false, false, false, false, false, false, false, false, false, false, false] rfl (by rfl) (by rfl) (by kernel_rfl) (by kernel_rfl) (by kernel_rfl) (by rfl) (fun _ _ _ h => h) ?_ hHeld ?_
  rotate_left
  · intro w hSw; go_simp <;> with_reducible rfl
  simp only [Act.put, List.setIfInBounds_toArray, List.set_cons_zero, List.set_cons_succ]
  refine held_take (v := .string ⟨(encA x n m).toArray⟩) 4 103 [true, true, true, true, true, false, false, false, false, false, false, false, false, false, false, false, false, false, false, false] rfl (by rfl) (by rfl) (by kernel_rfl) (by kernel_rfl) (by kernel_rfl) (by rfl) (fun _ _ _ h => h) (fun w' h => run_op_conv rfl rfl (conv_bytes (S8.out.keep h) _)) hHeld ?_
  simp only [Act.put, List.setIfInBounds_toArray, List.set_cons_zero, List.set_cons_succ]
  refine held_take (v := .agg (ints [x, n, m]).toArray) 5 104 [true, true, true, true, true, true, false, false, false, false, false, false, false, false, false, false, false, false, false, false] rfl (by rfl) (by rfl) (by kernel_rfl) (by kernel_rfl) (by kernel_rfl) (by rfl) (fun _ _ _ h => h) (fun w' h => run_op_load rfl rfl ((A8.out.keep h A8.out.lt).range 0 (ints [x, n, m]) rfl) rowA3.1.choose_spec.1 rowA3.1.choose_spec.2 rowA3.2) hHeld ?_
  simp only [Act.put, List.setIfInBounds_toArray, List.set_cons_zero, List.set_cons_succ]
  refine held_call 6 105 [true, true, true, true, true, true, true, false, false, false, false, false, false, false, false, false, false, false, false, false] (by kernel_rfl) rfl (by rfl) (by rfl) (by rfl) (by go_simp) ((RT.out _).mono ?_)
  rintro e w9 ⟨a9, c9, rfl, hs9, hb9⟩
  refine ⟨_, rfl, hHeld.trans (hb9.mono hHeld.size), fun hHeld => ?_⟩
  simp only [Act.put, List.setIfInBounds_toArray, List.set_cons_zero, List.set_cons_succ]
  have hHeld : Below w8.heap.size w8 _ := hHeld
  refine held_one 7 (by kernel_rfl) ?_
  refine op_value (v := .string ⟨(encA x n m).toArray⟩) 106 [true, true, true, true, true, true, true, true, false, false, false, false, false, false, false, false, false, false, false, false] rfl (by rfl) (by rfl) (by rfl) (run_op_conv rfl rfl (conv_bytes hs9 _)) (hHeld) fun hHeld => ?_
  simp only [Act.put, List.setIfInBounds_toArray, List.set_cons_zero, List.set_cons_succ]
  refine held_take (v := .bool true) 8 107 [true, true, true, true, true, true, true, true, true, false, false, false, false, false, false, false, false, false, false, false] rfl (by rfl) (by rfl) (by kernel_rfl) (by kernel_rfl) (by kernel_rfl) (by rfl) (fun _ _ _ h => h) (fun w h => by go_simp) hHeld ?_
  simp only [Act.put, List.setIfInBounds_toArray, List.set_cons_zero, List.set_cons_succ]
  refine held_take (v := .bool true) 9 108 [true, true, true, true, true, true, true, true, true, true, false, false, false, false, false, false, false, false, false, false] rfl (by rfl) (by rfl) (by kernel_rfl) (by kernel_rfl) (by kernel_rfl) (by rfl) (fun _ _ _ h => h) (fun w h => by go_simp) hHeld ?_
  simp only [Act.put, List.setIfInBounds_toArray, List.set_cons_zero, List.set_cons_succ]
  refine held_take (v := ?_) 10 109 [true, true, true, true, true, true, true, true, true, true, true, false, false, false, false, false, false, false, false, false] rfl (by rfl) (by rfl) (by kernel_rfl) (by kernel_rfl) (by kernel_rfl) (by rfl) (fun _ _ _ h => h) ?_ hHeld ?_
  rotate_left
  · intro w hSw; go_simp <;> with_reducible rfl
  simp only [Act.put, List.setIfInBounds_toArray, List.set_cons_zero, List.set_cons_succ]
  refine held_take (v := ?_) 11 110 [true, true, true, true, true, true, true, true, true, true, true, true, false, false, false, false, false, false, false, false] rfl (by rfl) (by rfl) (by kernel_rfl) (by kernel_rfl) (by kernel_rfl) (by rfl) (fun _ _ _ h => h) ?_ hHeld ?_
  rotate_left
  · intro w hSw; go_simp <;> with_reducible rfl
  simp only [Act.put, List.setIfInBounds_toArray, List.set_cons_zero, List.set_cons_succ]
  refine held_take (v := .bool true) 12 111 [true, true, true, true, true, true, true, true, true, true, true, true, true, false, false, false, false, false, false, false] rfl (by rfl) (by rfl) (by kernel_rfl) (by kernel_rfl) (by kernel_rfl) (by rfl) (fun _ _ _ h => h) (fun w h => by go_simp) hHeld ?_
  simp only [Act.put, List.setIfInBounds_toArray, List.set_cons_zero, List.set_cons_succ]
  refine held_take (v := .bool true) 13 112 [true, true, true, true, true, true, true, true, true, true, true, true, true, true, false, false, false, false, false, false] rfl (by rfl) (by rfl) (by kernel_rfl) (by kernel_rfl) (by kernel_rfl) (by rfl) (fun _ _ _ h => h) (fun w h => by go_simp) hHeld ?_
  simp only [Act.put, List.setIfInBounds_toArray, List.set_cons_zero, List.set_cons_succ]
  refine held_take (v := ?_) 14 113 [true, true, true, true, true, true, true, true, true, true, true, true, true, true, true, false, false, false, false, false] rfl (by rfl) (by rfl) (by kernel_rfl) (by kernel_rfl) (by kernel_rfl) (by rfl) (fun _ _ _ h => h) ?_ hHeld ?_
  rotate_left
  · intro w hSw; go_simp <;> with_reducible rfl
  simp only [Act.put, List.setIfInBounds_toArray, List.set_cons_zero, List.set_cons_succ]
  refine held_take (v := .agg (ints [x, n, m]).toArray) 15 114 [true, true, true, true, true, true, true, true, true, true, true, true, true, true, true, true, false, false, false, false] rfl (by rfl) (by rfl) (by kernel_rfl) (by kernel_rfl) (by kernel_rfl) (by rfl) (fun _ _ _ h => h) (fun w' h => run_op_load rfl rfl ((Y8.out.keep h Y8.out.lt).range 0 (ints [x, n, m]) rfl) rowA3.1.choose_spec.1 rowA3.1.choose_spec.2 rowA3.2) hHeld ?_
  simp only [Act.put, List.setIfInBounds_toArray, List.set_cons_zero, List.set_cons_succ]
  refine held_take (v := .agg (ints [x, n, m]).toArray) 16 115 [true, true, true, true, true, true, true, true, true, true, true, true, true, true, true, true, true, false, false, false] rfl (by rfl) (by rfl) (by kernel_rfl) (by kernel_rfl) (by kernel_rfl) (by rfl) (fun _ _ _ h => h) (fun w' h => run_op_load rfl rfl ((A8.out.keep h A8.out.lt).range 0 (ints [x, n, m]) rfl) rowA3.1.choose_spec.1 rowA3.1.choose_spec.2 rowA3.2) hHeld ?_
  simp only [Act.put, List.setIfInBounds_toArray, List.set_cons_zero, List.set_cons_succ]
  refine held_take (v := .bool true) 17 116 [true, true, true, true, true, true, true, true, true, true, true, true, true, true, true, true, true, true, false, false] rfl (by rfl) (by rfl) (by kernel_rfl) (by kernel_rfl) (by kernel_rfl) (by rfl) (fun _ _ _ h => h) (fun w h => run_op_cmp rfl rfl rfl (by kernel_rfl) (EX.out w)) hHeld ?_
  simp only [Act.put, List.setIfInBounds_toArray, List.set_cons_zero, List.set_cons_succ]
  refine held_take (v := .bool true) 18 117 [true, true, true, true, true, true, true, true, true, true, true, true, true, true, true, true, true, true, true, false] rfl (by rfl) (by rfl) (by kernel_rfl) (by kernel_rfl) (by kernel_rfl) (by rfl) (fun _ _ _ h => h) (fun w h => by go_simp) hHeld ?_
  simp only [Act.put, List.setIfInBounds_toArray, List.set_cons_zero, List.set_cons_succ]
  refine held_take (v := ?_) 19 4 [true, true, true, true, true, true, true, true, true, true, true, true, true, true, true, true, true, true, true, true] rfl (by rfl) (by rfl) (by kernel_rfl) (by kernel_rfl) (by kernel_rfl) (by rfl) (fun _ _ _ h => h) ?_ hHeld ?_
  rotate_left
  · intro w hSw; go_simp <;> with_reducible rfl
  simp only [Act.put, List.setIfInBounds_toArray, List.set_cons_zero, List.set_cons_succ]
  refine held_done (by kernel_rfl) ?_
  go_wp2_with fail
  go_ret
  exact ⟨rfl, B8.out.trans (hHeld.mono B8.out.size)⟩
end Go.Proofs.YteijahcbfncebaaDoor
