/- The statements of codes: one that is alive. -/
import Derived.Test.YteijahcbfncebaaDoorCode8
import Derived.Deep.DeepCutAuto
import Derived.RegionTactic
import Derived.BigRegion
import Derived.ChangeAlike
namespace Go.Proofs.YteijahcbfncebaaDoor
set_option linter.unusedVariables false
set_option linter.unusedSimpArgs false
open Go.ChangeShapes Go.WideShapes Go.ChangeAt Go.RowKit
set_option maxRecDepth 100000 in
set_option maxHeartbeats 4000000 in
theorem alive31 (w : World) (hT : TabF w) : Calls Tryd.prog 7 #[] w fun e w' => e = .returned (.bool true) ∧ Below w.heap.size w w' := by
  have hG := glob_lt hT
  have CP := Lib.hid (put31_yes 2 2 0 0 0 0 0 0 0 0 0 0 0 w (Lib.hid (fun w' hb => show Calls Tryd.prog 10 #[.agg (ints [2, 2, 0, 0, 0, 0, 0, 0, 0, 0, 0, 0, 0]).toArray] w' fun e w'' => e = .returned (.int .i64 0) ∧ Below w'.heap.size w' w'' from (by have := chk31_any 2 2 0 0 0 0 0 0 0 0 0 0 0 w' (Lib.hid (by decide)) (Lib.hid (hT.keep hb hG)) (glob_lt (hT.keep hb hG)); rw [chk_2] at this; exact this))))
  have CR := Lib.hid (fun a c w1 (hb1 : Below w.heap.size w w1) (hs : Sl w1 a 21 1 (bcells (encS 2 2 0 0 0 0 0 0 0 0))) => show Calls Tryd.prog 11 #[.slice a 21 c] w1 fun e w' => e = .returned (.tuple #[.agg #[.int .i64 2, .int .i64 2, .int .i64 0, .int .i64 0, .int .i64 0, .int .i64 0, .int .i64 0, .int .i64 0, .int .i64 0, .int .i64 0, .int .i64 0, .int .i64 0, .int .i64 0], .int .i64 0]) ∧ Below w1.heap.size w1 w' from (by
    have hT1 := hT.keep hb1 hG
    have hG1 := glob_lt hT1
    have := read31_yes a c (encS 2 2 0 0 0 0 0 0 0 0) w1 hs (Lib.hid (by rw [dec_2]; exact fun w' hb => show Calls Tryd.prog 10 #[.agg (ints [2, 2, 0, 0, 0, 0, 0, 0, 0, 0, 0, 0, 0]).toArray] w' fun e w'' => e = .returned (.int .i64 0) ∧ Below w'.heap.size w' w'' from (by have := chk31_any 2 2 0 0 0 0 0 0 0 0 0 0 0 w' (Lib.hid (by decide)) (Lib.hid (hT1.keep hb hG1)) (glob_lt (hT1.keep hb hG1)); rw [chk_2] at this; exact this)))
    rw [dec_2] at this
    exact this))
  have CT := Lib.hid (fun w => tell_yes 3 258 0 w inb_3.1 inb_3.2.1 inb_3.2.2)
  have CD := Lib.hid (fun a c w1 (hs : Sl w1 a 6 1 (bcells (encA 3 258 0))) => show Calls Tryd.prog 19 #[.slice a 6 c] w1 fun e w' => e = .returned (.tuple #[.agg #[.int .i64 3, .int .i64 258, .int .i64 0], .int .i64 0]) ∧ Below w1.heap.size w1 w' from (by
    have := told_yes a c (encA 3 258 0) w1 hs (by kernel_rfl)
    rw [ans_3] at this
    exact this))
  clear hT hG
  go_enter Tryd.func7, Tryd.ntmps7
  go_wp2_with fail
  refine CP.out.mono ?_
  rintro e w1 ⟨a1, c1, rfl, hs1, hb1⟩
  have H1 := Lib.hid hb1
  have S1 := Lib.hid hs1
  clear hs1 hb1 CP
  go_wp2_with fail
  refine (CR.out a1 c1 w1 H1.out S1.out).mono ?_
  rintro e w2 ⟨rfl, hb2⟩
  have V3 : Hid (Blk (w2.alloc (.cells #[.int .i64 2, .int .i64 2, .int .i64 0, .int .i64 0, .int .i64 0, .int .i64 0, .int .i64 0, .int .i64 0, .int .i64 0, .int .i64 0, .int .i64 0, .int .i64 0, .int .i64 0] 27)) w2.heap.size (ints [2, 2, 0, 0, 0, 0, 0, 0, 0, 0, 0, 0, 0]) 27) := Lib.hid (Blk.new w2 #[.int .i64 2, .int .i64 2, .int .i64 0, .int .i64 0, .int .i64 0, .int .i64 0, .int .i64 0, .int .i64 0, .int .i64 0, .int .i64 0, .int .i64 0, .int .i64 0, .int .i64 0] 27)
  have H2 := Lib.hid (H1.out.trans (hb2.mono H1.out.size))
  have H3 := Lib.hid (H2.out.alloc H2.out.size (.cells #[.int .i64 2, .int .i64 2, .int .i64 0, .int .i64 0, .int .i64 0, .int .i64 0, .int .i64 0, .int .i64 0, .int .i64 0, .int .i64 0, .int .i64 0, .int .i64 0, .int .i64 0] 27))
  clear hb2 S1 H1 H2
  go_upto_region 3 with fail
  generalize hw3 : w2.alloc (.cells #[.int .i64 2, .int .i64 2, .int .i64 0, .int .i64 0, .int .i64 0, .int .i64 0, .int .i64 0, .int .i64 0, .int .i64 0, .int .i64 0, .int .i64 0, .int .i64 0, .int .i64 0] 27) = w3 at *
  generalize hg3 : w2.heap.size = g3 at *
  clear hw3 hg3
  go_wp2_with fail
  refine (CT.out w3).mono ?_
  rintro e w4 ⟨a4, c4, rfl, hs4, hb4⟩
  have S4 := Lib.hid hs4
  have V4 := Lib.hid (V3.out.keep hb4 V3.out.lt)
  have H4 := Lib.hid (H3.out.trans (hb4.mono H3.out.size))
  clear hs4 hb4 V3 H3
  go_wp2_with fail
  refine (CD.out a4 c4 w4 S4.out).mono ?_
  rintro e w5 ⟨rfl, hb5⟩
  have V5 := Lib.hid ((V4.out.keep hb5 V4.out.lt).alloc (.cells #[.int .i64 3, .int .i64 258, .int .i64 0] 49))
  have H5 := Lib.hid (H4.out.trans (hb5.mono H4.out.size))
  have H6 := Lib.hid (H5.out.alloc H5.out.size (.cells #[.int .i64 3, .int .i64 258, .int .i64 0] 49))
  have W6 : Hid (Blk (w5.alloc (.cells #[.int .i64 3, .int .i64 258, .int .i64 0] 49)) w5.heap.size (ints [3, 258, 0]) 49) := Lib.hid (Blk.new w5 #[.int .i64 3, .int .i64 258, .int .i64 0] 49)
  clear hb5 S4 V4 H4 H5
  go_upto_region 5 with fail
  generalize hw6 : w5.alloc (.cells #[.int .i64 3, .int .i64 258, .int .i64 0] 49) = w6 at *
  generalize hg6 : w5.heap.size = g6 at *
  clear hw6 hg6
  have r1 : w6.rangeAt g3 0 (ints [2, 2, 0, 0, 0, 0, 0, 0, 0, 0, 0, 0, 0]) := V5.out.range 0 _ rfl
  have r2 : w6.rangeAt g6 0 (ints [3, 258, 0]) := W6.out.range 0 _ rfl
  have T1 : RowT 27 (ints [2, 2, 0, 0, 0, 0, 0, 0, 0, 0, 0, 0, 0]).length := rowS
  have T2 : RowT 49 (ints [3, 258, 0]).length := rowA3
  have E1 := Lib.hid (fun w => by have := eq_step (x := [2, 2, 0, 0, 0, 0, 0, 0, 0, 0, 0, 0, 0]) (y := [2, 2, 0, 0, 0, 0, 0, 0, 0, 0, 0, 0, 0]) rfl rfl (by decide) (by decide) w; rwa [sameB_refl] at this)
  have g1 : Tryd.prog.eqGuardType Tryd.prog.depth 27 = false := by kernel_rfl
  have g2 : Tryd.prog.eqGuardType Tryd.prog.depth 49 = false := by kernel_rfl
  have E2 := Lib.hid (fun w => by have := eql_flat (P := Tryd.prog) 5 6 49 (List.replicate 3 (some IntKind.i64)) (ints [3, 258, 0]) (ints [3, 258, 0]) w (by kernel_rfl) (by kernel_rfl) (by kernel_rfl) (by kernel_rfl) (by decide) (ok_ints [3, 258, 0] (by decide)) (ok_ints [3, 258, 0] (by decide)); rwa [sameB_refl] at this)
  go_wp2_with (first
    | ((with_reducible refine ld_row r1 T1 ?_ ?_ ?_); (· rfl); (· rfl); (simp only [Act.put, List.setIfInBounds_toArray, List.set_cons_zero, List.set_cons_succ]))
    | ((with_reducible refine ld_row r2 T2 ?_ ?_ ?_); (· rfl); (· rfl); (simp only [Act.put, List.setIfInBounds_toArray, List.set_cons_zero, List.set_cons_succ]))
    | ((with_reducible refine cmp_row g1 E1.out ?_ ?_ ?_ ?_); (· rfl); (· first | rfl | (show _ = Value.agg (ints [2, 2, 0, 0, 0, 0, 0, 0, 0, 0, 0, 0, 0]).toArray; rfl)); (· rfl); (simp only [Act.put, List.setIfInBounds_toArray, List.set_cons_zero, List.set_cons_succ]))
    | ((with_reducible refine cmp_row g2 E2.out ?_ ?_ ?_ ?_); (· rfl); (· first | rfl | (show _ = Value.agg (ints [3, 258, 0]).toArray; rfl)); (· rfl); (simp only [Act.put, List.setIfInBounds_toArray, List.set_cons_zero, List.set_cons_succ])))
  go_ret
  exact ⟨rfl, H6.out⟩
end Go.Proofs.YteijahcbfncebaaDoor
