/- The reference's Check of a record that has its kind's fields alone. -/
import Derived.Test.YtfffbhkenggdcaaRec17
import Derived.Test.YtfffbhkenggdcaaChgEq
import Derived.Test.YtfffbhkenggdcaaLd
import Derived.Test.YtfffbhkenggdcaaRow
import Derived.Test.YtfffbhkenggdcaaOps
import Derived.Test.YtfffbhkenggdcaaEq
import Derived.Test.YtfffbhkenggdcaaChgOps
import Derived.RegionTactic
import Derived.BigRegion
import Derived.ChangeAlike
namespace Go.Proofs.Ytfffbhkenggdcaa
set_option linter.unusedVariables false
set_option linter.unusedSimpArgs false
open Go.ChangeShapes Go.WideShapes Go.ChangeAt Go.RowKit
set_option maxRecDepth 100000 in
set_option maxHeartbeats 2000000 in
theorem rmaykey_any (k1 k2 ko : Int) (ku : Bool) (w : World) : Calls Try.prog 34 #[.agg #[.int .i64 k1, .int .i64 k2, .int .i64 ko, .bool ku]] w fun e w' => e = .returned (.bool (mayKey k1 k2 ko)) ∧ Below w.heap.size w w' := by
  have A := Blk.new w #[.int .i64 k1, .int .i64 k2, .int .i64 ko, .bool ku] 29
  have HB := Lib.hid ((Below.refl w.heap.size w).alloc (Nat.le_refl _) (.cells #[.int .i64 k1, .int .i64 k2, .int .i64 ko, .bool ku] 29))
  go_enter Try.func34, Try.ntmps34
  go_upto_region 1 with fail
  generalize w.alloc (.cells #[.int .i64 k1, .int .i64 k2, .int .i64 ko, .bool ku] 29) = W at *
  have c0 : W.cell? ⟨w.heap.size, 0, none⟩ = some (.int .i64 k1) := A.cell 0
  have c1 : W.cell? ⟨w.heap.size, 1, none⟩ = some (.int .i64 k2) := A.cell 1
  have HA := Lib.hid A
  clear A
  go_wp2_with fail
  refine (rmay_any k1 k2 _).mono ?_
  rintro e w2 ⟨rfl, hb⟩
  have c2 : w2.cell? ⟨w.heap.size, 2, none⟩ = some (.int .i64 ko) := (HA.out.keep hb HA.out.lt).cell 2
  have HB2 := Lib.hid (HB.out.trans (hb.mono HB.out.size))
  clear hb HA HB c0 c1
  rcases hm : mayId k1 k2 with _ | _
  · have E := Lib.hid (mayKey_no (k1 := k1) (k2 := k2) (ko := ko) (by rw [hm]; rintro ⟨h, _⟩; cases h))
    clear hm
    go_wp2_with fail
    go_ret
    exact ⟨by rw [E.out]; first | rfl | (rw [← HD.out]; rfl), HB2.out⟩
  · by_cases h1 : 1 ≤ ko
    · by_cases h2 : ko ≤ 255
      · have E : Hid (mayKey k1 k2 ko = true) := Lib.hid (decide_eq_true ⟨hm, h1, h2⟩)
        clear hm
        go_wp2_with fail
        go_ret
        exact ⟨by rw [E.out]; first | rfl | (rw [← HD.out]; rfl), HB2.out⟩
      · have E := Lib.hid (mayKey_no (k1 := k1) (k2 := k2) (ko := ko) (by rintro ⟨_, _, h⟩; exact h2 h))
        have HD := Lib.hid (decide_eq_false h2)
        clear hm
        go_wp2_with fail
        go_ret
        exact ⟨by rw [E.out]; first | rfl | (rw [← HD.out]; rfl), HB2.out⟩
    · have E := Lib.hid (mayKey_no (k1 := k1) (k2 := k2) (ko := ko) (by rintro ⟨_, h, _⟩; exact h1 h))
      have HD := Lib.hid (decide_eq_false h1)
      clear hm
      go_wp2_with fail
      go_ret
      exact ⟨by rw [E.out]; first | rfl | (rw [← HD.out]; rfl), HB2.out⟩
theorem neq_g {d t t' : Nat} {T ty rt : TypeId} {ps : String} {af : Array Edge} {gd : Option (Nat × Bool)} {a : Act} {w : World} {ops : Array Oper} {rest : List Oper} {Q : Exit → Act → World → Prop} {xs ys : Array Value} {v : Bool} (hm : Try.prog.eqGuardType Try.prog.depth T = false) (NE : Hid (∀ w, (binOp .neq T (.agg xs) (.agg ys)).run Try.prog w = .ok (.bool v) w))
    (hw : Region.wanted ⟨some d, .binOp .neq T (.tmp t) (.tmp t') rt, ty, ps, af, gd⟩ (yielded ops a.tmps) = true) (hx : a.eval (.tmp t) = .agg xs) (hy : a.eval (.tmp t') = .agg ys) (h : wpList Try.prog ops Q rest (a.put (some d) (.bool v)) w) :
    wpList Try.prog ops Q (⟨some d, .binOp .neq T (.tmp t) (.tmp t') rt, ty, ps, af, gd⟩ :: rest) a w :=
  ls_run_g hw (run_op_cmp rfl hx hy hm (NE.out w)) h
theorem ne_c0 : Hid (∀ w, (binOp .neq 27 (.agg (ints [0, 0, 0, 0, 0, 0, 0, 0, 0]).toArray) (.agg #[.int .i64 0, .int .i64 0, .int .i64 0, .int .i64 0, .int .i64 0, .int .i64 0, .int .i64 0, .int .i64 0, .int .i64 0])).run Try.prog w = .ok (.bool false) w) := Lib.hid fun w => by
  have h := ok9 [0, 0, 0, 0, 0, 0, 0, 0, 0] (fun k => by match k with | 0 | 1 | 2 | 3 | 4 | 5 | 6 | 7 | 8 => rfl | n + 9 => rfl)
  exact (neq_flat 3 4 27 _ _ _ w flat9 (by kernel_rfl) (by kernel_rfl) (by kernel_rfl) (by decide) h h).trans (by rw [sameB_refl]; rfl)
theorem ne_i0 : Hid (∀ w, (binOp .neq 25 (.agg (ints [0, 0]).toArray) (.agg #[.int .i64 0, .int .i64 0])).run Try.prog w = .ok (.bool false) w) := Lib.hid fun w => by
  have h := ok9 [0, 0] (fun k => by match k with | 0 | 1 => rfl | n + 2 => rfl)
  exact (neq_flat 2 3 25 _ _ _ w (show flat Try.prog 2 25 = some (List.replicate 2 (some .i64)) by kernel_rfl) (by kernel_rfl) (by kernel_rfl) (by kernel_rfl) (by decide) h h).trans (by rw [sameB_refl]; rfl)
theorem ne_k0 : Hid (∀ w, (binOp .neq 29 (.agg (key4 0 0 0 false).toArray) (.agg #[.int .i64 0, .int .i64 0, .int .i64 0, .bool false])).run Try.prog w = .ok (.bool false) w) := Lib.hid fun w => by
  have h : OkAll [some .i64, some .i64, some .i64, none] (key4 0 0 0 false) := ⟨⟨0, rfl, rfl⟩, ⟨0, rfl, rfl⟩, ⟨0, rfl, rfl⟩, ⟨_, rfl⟩, trivial⟩
  exact (neq_flat 3 4 29 _ _ _ w (show flat Try.prog 3 29 = some [some .i64, some .i64, some .i64, none] by kernel_rfl) (by kernel_rfl) (by kernel_rfl) (by kernel_rfl) (by decide) h h).trans (by rw [sameB_refl]; rfl)
theorem eg_c : Try.prog.eqGuardType Try.prog.depth 27 = false := by kernel_rfl
theorem eg_i : Try.prog.eqGuardType Try.prog.depth 25 = false := by kernel_rfl
theorem eg_k : Try.prog.eqGuardType Try.prog.depth 29 = false := by kernel_rfl
theorem rowC : RowT 27 9 := ⟨⟨_, Try.underlying27, rfl⟩, cg_size⟩
theorem rowI : RowT 25 2 := ⟨⟨_, Try.underlying25, rfl⟩, id_size⟩
theorem rowK : RowT 29 4 := ⟨⟨_, Try.underlying29, rfl⟩, ky_size⟩
def rcode (b : Bool) : Int := match b with | true => 0 | false => 4
set_option maxRecDepth 100000 in
set_option maxHeartbeats 8000000 in
theorem rchkM (i1 i2 : Int) (w : World) : Calls Try.prog 20 #[.agg (rec17 2 0 0 0 0 0 0 0 0 0 i1 i2 0 0 0 false 0).toArray] w fun e w' => e = .returned (.int .i64 (rcode (mayId i1 i2))) ∧ Below w.heap.size w w' := by
  have X0 : Hid ((rec17 2 0 0 0 0 0 0 0 0 0 i1 i2 0 0 0 false 0)[0]? = some (.int .i64 2)) := Lib.hid rfl
  have XN : Hid ((rec17 2 0 0 0 0 0 0 0 0 0 i1 i2 0 0 0 false 0)[16]? = some (.int .i64 0)) := Lib.hid rfl
  have XC : Hid (((rec17 2 0 0 0 0 0 0 0 0 0 i1 i2 0 0 0 false 0).drop 1).take (ints [0, 0, 0, 0, 0, 0, 0, 0, 0]).length = ints [0, 0, 0, 0, 0, 0, 0, 0, 0]) := Lib.hid rfl
  have XI : Hid (((rec17 2 0 0 0 0 0 0 0 0 0 i1 i2 0 0 0 false 0).drop 10).take (ints [i1, i2]).length = ints [i1, i2]) := Lib.hid rfl
  have XK : Hid (((rec17 2 0 0 0 0 0 0 0 0 0 i1 i2 0 0 0 false 0).drop 12).take (key4 0 0 0 false).length = key4 0 0 0 false) := Lib.hid rfl
  have AX0 := Lib.hid (Blk.new w (rec17 2 0 0 0 0 0 0 0 0 0 i1 i2 0 0 0 false 0).toArray 35)
  have HB := Lib.hid ((Below.refl w.heap.size w).alloc (Nat.le_refl _) (.cells (rec17 2 0 0 0 0 0 0 0 0 0 i1 i2 0 0 0 false 0).toArray 35))
  have MK := Lib.hid fun w => rmaykey_any 0 0 0 false w
  have TK : RowT 29 (key4 0 0 0 false).length := rowK
  have TC : RowT 27 (ints [0, 0, 0, 0, 0, 0, 0, 0, 0]).length := rowC
  have TI : RowT 25 (ints [i1, i2]).length := rowI
  rw [show mayKey 0 0 0 = false from by decide] at MK
  have MI := Lib.hid fun w => rmay_any i1 i2 w
  generalize rec17 2 0 0 0 0 0 0 0 0 0 i1 i2 0 0 0 false 0 = X at *
  generalize mayId i1 i2 = v at *
  go_enter Try.func20, Try.ntmps20
  go_upto_region 1 with fail
  generalize w.alloc (.cells X.toArray 35) = W at *
  have AX := AX0
  have c0 : W.cell? ⟨w.heap.size, 0, none⟩ = some (.int .i64 2) := (AX.out.cell 0).trans X0.out
  have c16 : W.cell? ⟨w.heap.size, 16, none⟩ = some (.int .i64 0) := (AX.out.cell 16).trans XN.out
  have rc : W.rangeAt w.heap.size 1 (ints [0, 0, 0, 0, 0, 0, 0, 0, 0]) := AX.out.range 1 _ XC.out
  have ri : W.rangeAt w.heap.size 10 (ints [i1, i2]) := AX.out.range 10 _ XI.out
  have rk : W.rangeAt w.heap.size 12 (key4 0 0 0 false) := AX.out.range 12 _ XK.out
  go_wp2_with (first
    | ((with_reducible refine ld_row rk TK ?_ ?_ ?_); (· rfl); (· rfl); (simp only [Act.put, List.setIfInBounds_toArray, List.set_cons_zero, List.set_cons_succ]))
    | ((with_reducible refine ld_row rc TC ?_ ?_ ?_); (· rfl); (· rfl); (simp only [Act.put, List.setIfInBounds_toArray, List.set_cons_zero, List.set_cons_succ]))
    | ((with_reducible refine ld_row ri TI ?_ ?_ ?_); (· rfl); (· rfl); (simp only [Act.put, List.setIfInBounds_toArray, List.set_cons_zero, List.set_cons_succ]))
    | ((with_reducible refine cmp_row (v := .bool false) eg_c ne_c0.out ?_ ?_ ?_ ?_); (· rfl); (· rfl); (· rfl); (simp only [Act.put, List.setIfInBounds_toArray, List.set_cons_zero, List.set_cons_succ]))
    | ((with_reducible refine cmp_row (v := .bool false) eg_i ne_i0.out ?_ ?_ ?_ ?_); (· rfl); (· rfl); (· rfl); (simp only [Act.put, List.setIfInBounds_toArray, List.set_cons_zero, List.set_cons_succ]))
    | ((with_reducible refine cmp_row (v := .bool false) eg_k ne_k0.out ?_ ?_ ?_ ?_); (· rfl); (· rfl); (· rfl); (simp only [Act.put, List.setIfInBounds_toArray, List.set_cons_zero, List.set_cons_succ])))
  refine (MK.out _).mono ?_
  rintro e w2 ⟨rfl, hb⟩
  have HB2 := Lib.hid (HB.out.trans (hb.mono HB.out.size))
  have AX2 := Lib.hid (AX.out.keep hb AX.out.lt)
  clear hb HB c0 c16 rc ri rk AX AX0
  have AX := AX2
  clear AX2
  have c0 : w2.cell? ⟨w.heap.size, 0, none⟩ = some (.int .i64 2) := (AX.out.cell 0).trans X0.out
  have c16 : w2.cell? ⟨w.heap.size, 16, none⟩ = some (.int .i64 0) := (AX.out.cell 16).trans XN.out
  have rc : w2.rangeAt w.heap.size 1 (ints [0, 0, 0, 0, 0, 0, 0, 0, 0]) := AX.out.range 1 _ XC.out
  have ri : w2.rangeAt w.heap.size 10 (ints [i1, i2]) := AX.out.range 10 _ XI.out
  have rk : w2.rangeAt w.heap.size 12 (key4 0 0 0 false) := AX.out.range 12 _ XK.out
  go_wp2_with (first
    | ((with_reducible refine ld_row rk TK ?_ ?_ ?_); (· rfl); (· rfl); (simp only [Act.put, List.setIfInBounds_toArray, List.set_cons_zero, List.set_cons_succ]))
    | ((with_reducible refine ld_row rc TC ?_ ?_ ?_); (· rfl); (· rfl); (simp only [Act.put, List.setIfInBounds_toArray, List.set_cons_zero, List.set_cons_succ]))
    | ((with_reducible refine ld_row ri TI ?_ ?_ ?_); (· rfl); (· rfl); (simp only [Act.put, List.setIfInBounds_toArray, List.set_cons_zero, List.set_cons_succ]))
    | ((with_reducible refine cmp_row (v := .bool false) eg_c ne_c0.out ?_ ?_ ?_ ?_); (· rfl); (· rfl); (· rfl); (simp only [Act.put, List.setIfInBounds_toArray, List.set_cons_zero, List.set_cons_succ]))
    | ((with_reducible refine cmp_row (v := .bool false) eg_i ne_i0.out ?_ ?_ ?_ ?_); (· rfl); (· rfl); (· rfl); (simp only [Act.put, List.setIfInBounds_toArray, List.set_cons_zero, List.set_cons_succ]))
    | ((with_reducible refine cmp_row (v := .bool false) eg_k ne_k0.out ?_ ?_ ?_ ?_); (· rfl); (· rfl); (· rfl); (simp only [Act.put, List.setIfInBounds_toArray, List.set_cons_zero, List.set_cons_succ])))
  refine (MI.out _).mono ?_
  rintro e w3 ⟨rfl, hb⟩
  have HB3 := Lib.hid (HB2.out.trans (hb.mono HB2.out.size))
  have AX3 := Lib.hid (AX.out.keep hb AX.out.lt)
  clear hb HB2 c0 c16 rc ri rk AX
  have AX := AX3
  clear AX3
  have c0 : w3.cell? ⟨w.heap.size, 0, none⟩ = some (.int .i64 2) := (AX.out.cell 0).trans X0.out
  have c16 : w3.cell? ⟨w.heap.size, 16, none⟩ = some (.int .i64 0) := (AX.out.cell 16).trans XN.out
  have rc : w3.rangeAt w.heap.size 1 (ints [0, 0, 0, 0, 0, 0, 0, 0, 0]) := AX.out.range 1 _ XC.out
  have ri : w3.rangeAt w.heap.size 10 (ints [i1, i2]) := AX.out.range 10 _ XI.out
  have rk : w3.rangeAt w.heap.size 12 (key4 0 0 0 false) := AX.out.range 12 _ XK.out
  rcases v with _ | _
  · go_wp2_with (first
      | ((with_reducible refine ld_row rk TK ?_ ?_ ?_); (· rfl); (· rfl); (simp only [Act.put, List.setIfInBounds_toArray, List.set_cons_zero, List.set_cons_succ]))
      | ((with_reducible refine ld_row rc TC ?_ ?_ ?_); (· rfl); (· rfl); (simp only [Act.put, List.setIfInBounds_toArray, List.set_cons_zero, List.set_cons_succ]))
      | ((with_reducible refine ld_row ri TI ?_ ?_ ?_); (· rfl); (· rfl); (simp only [Act.put, List.setIfInBounds_toArray, List.set_cons_zero, List.set_cons_succ]))
      | ((with_reducible refine cmp_row (v := .bool false) eg_c ne_c0.out ?_ ?_ ?_ ?_); (· rfl); (· rfl); (· rfl); (simp only [Act.put, List.setIfInBounds_toArray, List.set_cons_zero, List.set_cons_succ]))
      | ((with_reducible refine cmp_row (v := .bool false) eg_i ne_i0.out ?_ ?_ ?_ ?_); (· rfl); (· rfl); (· rfl); (simp only [Act.put, List.setIfInBounds_toArray, List.set_cons_zero, List.set_cons_succ]))
      | ((with_reducible refine cmp_row (v := .bool false) eg_k ne_k0.out ?_ ?_ ?_ ?_); (· rfl); (· rfl); (· rfl); (simp only [Act.put, List.setIfInBounds_toArray, List.set_cons_zero, List.set_cons_succ])))
    go_ret
    exact ⟨rfl, HB3.out⟩
  · go_wp2_with (first
      | ((with_reducible refine ld_row rk TK ?_ ?_ ?_); (· rfl); (· rfl); (simp only [Act.put, List.setIfInBounds_toArray, List.set_cons_zero, List.set_cons_succ]))
      | ((with_reducible refine ld_row rc TC ?_ ?_ ?_); (· rfl); (· rfl); (simp only [Act.put, List.setIfInBounds_toArray, List.set_cons_zero, List.set_cons_succ]))
      | ((with_reducible refine ld_row ri TI ?_ ?_ ?_); (· rfl); (· rfl); (simp only [Act.put, List.setIfInBounds_toArray, List.set_cons_zero, List.set_cons_succ]))
      | ((with_reducible refine cmp_row (v := .bool false) eg_c ne_c0.out ?_ ?_ ?_ ?_); (· rfl); (· rfl); (· rfl); (simp only [Act.put, List.setIfInBounds_toArray, List.set_cons_zero, List.set_cons_succ]))
      | ((with_reducible refine cmp_row (v := .bool false) eg_i ne_i0.out ?_ ?_ ?_ ?_); (· rfl); (· rfl); (· rfl); (simp only [Act.put, List.setIfInBounds_toArray, List.set_cons_zero, List.set_cons_succ]))
      | ((with_reducible refine cmp_row (v := .bool false) eg_k ne_k0.out ?_ ?_ ?_ ?_); (· rfl); (· rfl); (· rfl); (simp only [Act.put, List.setIfInBounds_toArray, List.set_cons_zero, List.set_cons_succ])))
    go_ret
    exact ⟨rfl, HB3.out⟩
set_option maxRecDepth 100000 in
set_option maxHeartbeats 8000000 in
theorem rchkA (k1 k2 ko : Int) (ku : Bool) (w : World) : Calls Try.prog 20 #[.agg (rec17 4 0 0 0 0 0 0 0 0 0 0 0 k1 k2 ko ku 0).toArray] w fun e w' => e = .returned (.int .i64 (rcode (mayKey k1 k2 ko))) ∧ Below w.heap.size w w' := by
  have X0 : Hid ((rec17 4 0 0 0 0 0 0 0 0 0 0 0 k1 k2 ko ku 0)[0]? = some (.int .i64 4)) := Lib.hid rfl
  have XN : Hid ((rec17 4 0 0 0 0 0 0 0 0 0 0 0 k1 k2 ko ku 0)[16]? = some (.int .i64 0)) := Lib.hid rfl
  have XC : Hid (((rec17 4 0 0 0 0 0 0 0 0 0 0 0 k1 k2 ko ku 0).drop 1).take (ints [0, 0, 0, 0, 0, 0, 0, 0, 0]).length = ints [0, 0, 0, 0, 0, 0, 0, 0, 0]) := Lib.hid rfl
  have XI : Hid (((rec17 4 0 0 0 0 0 0 0 0 0 0 0 k1 k2 ko ku 0).drop 10).take (ints [0, 0]).length = ints [0, 0]) := Lib.hid rfl
  have XK : Hid (((rec17 4 0 0 0 0 0 0 0 0 0 0 0 k1 k2 ko ku 0).drop 12).take (key4 k1 k2 ko ku).length = key4 k1 k2 ko ku) := Lib.hid rfl
  have AX0 := Lib.hid (Blk.new w (rec17 4 0 0 0 0 0 0 0 0 0 0 0 k1 k2 ko ku 0).toArray 35)
  have HB := Lib.hid ((Below.refl w.heap.size w).alloc (Nat.le_refl _) (.cells (rec17 4 0 0 0 0 0 0 0 0 0 0 0 k1 k2 ko ku 0).toArray 35))
  have MK := Lib.hid fun w => rmaykey_any k1 k2 ko ku w
  have TK : RowT 29 (key4 k1 k2 ko ku).length := rowK
  have TC : RowT 27 (ints [0, 0, 0, 0, 0, 0, 0, 0, 0]).length := rowC
  have TI : RowT 25 (ints [0, 0]).length := rowI
  generalize rec17 4 0 0 0 0 0 0 0 0 0 0 0 k1 k2 ko ku 0 = X at *
  generalize mayKey k1 k2 ko = v at *
  go_enter Try.func20, Try.ntmps20
  go_upto_region 1 with fail
  generalize w.alloc (.cells X.toArray 35) = W at *
  have AX := AX0
  have c0 : W.cell? ⟨w.heap.size, 0, none⟩ = some (.int .i64 4) := (AX.out.cell 0).trans X0.out
  have c16 : W.cell? ⟨w.heap.size, 16, none⟩ = some (.int .i64 0) := (AX.out.cell 16).trans XN.out
  have rc : W.rangeAt w.heap.size 1 (ints [0, 0, 0, 0, 0, 0, 0, 0, 0]) := AX.out.range 1 _ XC.out
  have ri : W.rangeAt w.heap.size 10 (ints [0, 0]) := AX.out.range 10 _ XI.out
  have rk : W.rangeAt w.heap.size 12 (key4 k1 k2 ko ku) := AX.out.range 12 _ XK.out
  go_wp2_with (first
    | ((with_reducible refine ld_row rk TK ?_ ?_ ?_); (· rfl); (· rfl); (simp only [Act.put, List.setIfInBounds_toArray, List.set_cons_zero, List.set_cons_succ]))
    | ((with_reducible refine ld_row rc TC ?_ ?_ ?_); (· rfl); (· rfl); (simp only [Act.put, List.setIfInBounds_toArray, List.set_cons_zero, List.set_cons_succ]))
    | ((with_reducible refine ld_row ri TI ?_ ?_ ?_); (· rfl); (· rfl); (simp only [Act.put, List.setIfInBounds_toArray, List.set_cons_zero, List.set_cons_succ]))
    | ((with_reducible refine cmp_row (v := .bool false) eg_c ne_c0.out ?_ ?_ ?_ ?_); (· rfl); (· rfl); (· rfl); (simp only [Act.put, List.setIfInBounds_toArray, List.set_cons_zero, List.set_cons_succ]))
    | ((with_reducible refine cmp_row (v := .bool false) eg_i ne_i0.out ?_ ?_ ?_ ?_); (· rfl); (· rfl); (· rfl); (simp only [Act.put, List.setIfInBounds_toArray, List.set_cons_zero, List.set_cons_succ]))
    | ((with_reducible refine cmp_row (v := .bool false) eg_k ne_k0.out ?_ ?_ ?_ ?_); (· rfl); (· rfl); (· rfl); (simp only [Act.put, List.setIfInBounds_toArray, List.set_cons_zero, List.set_cons_succ])))
  refine (MK.out _).mono ?_
  rintro e w2 ⟨rfl, hb⟩
  have HB2 := Lib.hid (HB.out.trans (hb.mono HB.out.size))
  have AX2 := Lib.hid (AX.out.keep hb AX.out.lt)
  clear hb HB c0 c16 rc ri rk AX AX0
  have AX := AX2
  clear AX2
  have c0 : w2.cell? ⟨w.heap.size, 0, none⟩ = some (.int .i64 4) := (AX.out.cell 0).trans X0.out
  have c16 : w2.cell? ⟨w.heap.size, 16, none⟩ = some (.int .i64 0) := (AX.out.cell 16).trans XN.out
  have rc : w2.rangeAt w.heap.size 1 (ints [0, 0, 0, 0, 0, 0, 0, 0, 0]) := AX.out.range 1 _ XC.out
  have ri : w2.rangeAt w.heap.size 10 (ints [0, 0]) := AX.out.range 10 _ XI.out
  have rk : w2.rangeAt w.heap.size 12 (key4 k1 k2 ko ku) := AX.out.range 12 _ XK.out
  rcases v with _ | _
  · go_wp2_with (first
      | ((with_reducible refine ld_row rk TK ?_ ?_ ?_); (· rfl); (· rfl); (simp only [Act.put, List.setIfInBounds_toArray, List.set_cons_zero, List.set_cons_succ]))
      | ((with_reducible refine ld_row rc TC ?_ ?_ ?_); (· rfl); (· rfl); (simp only [Act.put, List.setIfInBounds_toArray, List.set_cons_zero, List.set_cons_succ]))
      | ((with_reducible refine ld_row ri TI ?_ ?_ ?_); (· rfl); (· rfl); (simp only [Act.put, List.setIfInBounds_toArray, List.set_cons_zero, List.set_cons_succ]))
      | ((with_reducible refine cmp_row (v := .bool false) eg_c ne_c0.out ?_ ?_ ?_ ?_); (· rfl); (· rfl); (· rfl); (simp only [Act.put, List.setIfInBounds_toArray, List.set_cons_zero, List.set_cons_succ]))
      | ((with_reducible refine cmp_row (v := .bool false) eg_i ne_i0.out ?_ ?_ ?_ ?_); (· rfl); (· rfl); (· rfl); (simp only [Act.put, List.setIfInBounds_toArray, List.set_cons_zero, List.set_cons_succ]))
      | ((with_reducible refine cmp_row (v := .bool false) eg_k ne_k0.out ?_ ?_ ?_ ?_); (· rfl); (· rfl); (· rfl); (simp only [Act.put, List.setIfInBounds_toArray, List.set_cons_zero, List.set_cons_succ])))
    go_ret
    exact ⟨rfl, HB2.out⟩
  · go_wp2_with (first
      | ((with_reducible refine ld_row rk TK ?_ ?_ ?_); (· rfl); (· rfl); (simp only [Act.put, List.setIfInBounds_toArray, List.set_cons_zero, List.set_cons_succ]))
      | ((with_reducible refine ld_row rc TC ?_ ?_ ?_); (· rfl); (· rfl); (simp only [Act.put, List.setIfInBounds_toArray, List.set_cons_zero, List.set_cons_succ]))
      | ((with_reducible refine ld_row ri TI ?_ ?_ ?_); (· rfl); (· rfl); (simp only [Act.put, List.setIfInBounds_toArray, List.set_cons_zero, List.set_cons_succ]))
      | ((with_reducible refine cmp_row (v := .bool false) eg_c ne_c0.out ?_ ?_ ?_ ?_); (· rfl); (· rfl); (· rfl); (simp only [Act.put, List.setIfInBounds_toArray, List.set_cons_zero, List.set_cons_succ]))
      | ((with_reducible refine cmp_row (v := .bool false) eg_i ne_i0.out ?_ ?_ ?_ ?_); (· rfl); (· rfl); (· rfl); (simp only [Act.put, List.setIfInBounds_toArray, List.set_cons_zero, List.set_cons_succ]))
      | ((with_reducible refine cmp_row (v := .bool false) eg_k ne_k0.out ?_ ?_ ?_ ?_); (· rfl); (· rfl); (· rfl); (simp only [Act.put, List.setIfInBounds_toArray, List.set_cons_zero, List.set_cons_succ])))
    go_ret
    exact ⟨rfl, HB2.out⟩
set_option maxRecDepth 100000 in
set_option maxHeartbeats 8000000 in
theorem rchkT (k1 k2 ko : Int) (ku : Bool) (now : Int) (w : World) : Calls Try.prog 20 #[.agg (rec17 3 0 0 0 0 0 0 0 0 0 0 0 k1 k2 ko ku now).toArray] w fun e w' => e = .returned (.int .i64 (rcode ((mayKey k1 k2 ko && inB now 0 1073741824)))) ∧ Below w.heap.size w w' := by
  have X0 : Hid ((rec17 3 0 0 0 0 0 0 0 0 0 0 0 k1 k2 ko ku now)[0]? = some (.int .i64 3)) := Lib.hid rfl
  have XN : Hid ((rec17 3 0 0 0 0 0 0 0 0 0 0 0 k1 k2 ko ku now)[16]? = some (.int .i64 now)) := Lib.hid rfl
  have XC : Hid (((rec17 3 0 0 0 0 0 0 0 0 0 0 0 k1 k2 ko ku now).drop 1).take (ints [0, 0, 0, 0, 0, 0, 0, 0, 0]).length = ints [0, 0, 0, 0, 0, 0, 0, 0, 0]) := Lib.hid rfl
  have XI : Hid (((rec17 3 0 0 0 0 0 0 0 0 0 0 0 k1 k2 ko ku now).drop 10).take (ints [0, 0]).length = ints [0, 0]) := Lib.hid rfl
  have XK : Hid (((rec17 3 0 0 0 0 0 0 0 0 0 0 0 k1 k2 ko ku now).drop 12).take (key4 k1 k2 ko ku).length = key4 k1 k2 ko ku) := Lib.hid rfl
  have AX0 := Lib.hid (Blk.new w (rec17 3 0 0 0 0 0 0 0 0 0 0 0 k1 k2 ko ku now).toArray 35)
  have HB := Lib.hid ((Below.refl w.heap.size w).alloc (Nat.le_refl _) (.cells (rec17 3 0 0 0 0 0 0 0 0 0 0 0 k1 k2 ko ku now).toArray 35))
  have MK := Lib.hid fun w => rmaykey_any k1 k2 ko ku w
  have TK : RowT 29 (key4 k1 k2 ko ku).length := rowK
  have TC : RowT 27 (ints [0, 0, 0, 0, 0, 0, 0, 0, 0]).length := rowC
  have TI : RowT 25 (ints [0, 0]).length := rowI
  generalize rec17 3 0 0 0 0 0 0 0 0 0 0 0 k1 k2 ko ku now = X at *
  have HI : Hid (inB now 0 1073741824 = decide (0 ≤ now ∧ now ≤ 1073741824)) := Lib.hid (by unfold inB; rw [Bool.eq_iff_iff]; simp)
  generalize inB now 0 1073741824 = u at *
  generalize mayKey k1 k2 ko = v at *
  go_enter Try.func20, Try.ntmps20
  go_upto_region 1 with fail
  generalize w.alloc (.cells X.toArray 35) = W at *
  have AX := AX0
  have c0 : W.cell? ⟨w.heap.size, 0, none⟩ = some (.int .i64 3) := (AX.out.cell 0).trans X0.out
  have c16 : W.cell? ⟨w.heap.size, 16, none⟩ = some (.int .i64 now) := (AX.out.cell 16).trans XN.out
  have rc : W.rangeAt w.heap.size 1 (ints [0, 0, 0, 0, 0, 0, 0, 0, 0]) := AX.out.range 1 _ XC.out
  have ri : W.rangeAt w.heap.size 10 (ints [0, 0]) := AX.out.range 10 _ XI.out
  have rk : W.rangeAt w.heap.size 12 (key4 k1 k2 ko ku) := AX.out.range 12 _ XK.out
  go_wp2_with (first
    | ((with_reducible refine ld_row rk TK ?_ ?_ ?_); (· rfl); (· rfl); (simp only [Act.put, List.setIfInBounds_toArray, List.set_cons_zero, List.set_cons_succ]))
    | ((with_reducible refine ld_row rc TC ?_ ?_ ?_); (· rfl); (· rfl); (simp only [Act.put, List.setIfInBounds_toArray, List.set_cons_zero, List.set_cons_succ]))
    | ((with_reducible refine ld_row ri TI ?_ ?_ ?_); (· rfl); (· rfl); (simp only [Act.put, List.setIfInBounds_toArray, List.set_cons_zero, List.set_cons_succ]))
    | ((with_reducible refine cmp_row (v := .bool false) eg_c ne_c0.out ?_ ?_ ?_ ?_); (· rfl); (· rfl); (· rfl); (simp only [Act.put, List.setIfInBounds_toArray, List.set_cons_zero, List.set_cons_succ]))
    | ((with_reducible refine cmp_row (v := .bool false) eg_i ne_i0.out ?_ ?_ ?_ ?_); (· rfl); (· rfl); (· rfl); (simp only [Act.put, List.setIfInBounds_toArray, List.set_cons_zero, List.set_cons_succ]))
    | ((with_reducible refine cmp_row (v := .bool false) eg_k ne_k0.out ?_ ?_ ?_ ?_); (· rfl); (· rfl); (· rfl); (simp only [Act.put, List.setIfInBounds_toArray, List.set_cons_zero, List.set_cons_succ])))
  refine (MK.out _).mono ?_
  rintro e w2 ⟨rfl, hb⟩
  have HB2 := Lib.hid (HB.out.trans (hb.mono HB.out.size))
  have AX2 := Lib.hid (AX.out.keep hb AX.out.lt)
  clear hb HB c0 c16 rc ri rk AX AX0
  have AX := AX2
  clear AX2
  have c0 : w2.cell? ⟨w.heap.size, 0, none⟩ = some (.int .i64 3) := (AX.out.cell 0).trans X0.out
  have c16 : w2.cell? ⟨w.heap.size, 16, none⟩ = some (.int .i64 now) := (AX.out.cell 16).trans XN.out
  have rc : w2.rangeAt w.heap.size 1 (ints [0, 0, 0, 0, 0, 0, 0, 0, 0]) := AX.out.range 1 _ XC.out
  have ri : w2.rangeAt w.heap.size 10 (ints [0, 0]) := AX.out.range 10 _ XI.out
  have rk : w2.rangeAt w.heap.size 12 (key4 k1 k2 ko ku) := AX.out.range 12 _ XK.out
  rcases v with _ | _
  · skip
    go_wp2_with (first
        | ((with_reducible refine ld_row rk TK ?_ ?_ ?_); (· rfl); (· rfl); (simp only [Act.put, List.setIfInBounds_toArray, List.set_cons_zero, List.set_cons_succ]))
        | ((with_reducible refine ld_row rc TC ?_ ?_ ?_); (· rfl); (· rfl); (simp only [Act.put, List.setIfInBounds_toArray, List.set_cons_zero, List.set_cons_succ]))
        | ((with_reducible refine ld_row ri TI ?_ ?_ ?_); (· rfl); (· rfl); (simp only [Act.put, List.setIfInBounds_toArray, List.set_cons_zero, List.set_cons_succ]))
        | ((with_reducible refine cmp_row (v := .bool false) eg_c ne_c0.out ?_ ?_ ?_ ?_); (· rfl); (· rfl); (· rfl); (simp only [Act.put, List.setIfInBounds_toArray, List.set_cons_zero, List.set_cons_succ]))
        | ((with_reducible refine cmp_row (v := .bool false) eg_i ne_i0.out ?_ ?_ ?_ ?_); (· rfl); (· rfl); (· rfl); (simp only [Act.put, List.setIfInBounds_toArray, List.set_cons_zero, List.set_cons_succ]))
        | ((with_reducible refine cmp_row (v := .bool false) eg_k ne_k0.out ?_ ?_ ?_ ?_); (· rfl); (· rfl); (· rfl); (simp only [Act.put, List.setIfInBounds_toArray, List.set_cons_zero, List.set_cons_succ])))
    go_ret
    exact ⟨by first | rfl | (rw [E.out]; rfl), HB2.out⟩
  · by_cases h0 : 0 ≤ now
    · by_cases h1 : now ≤ 1073741824
      · have E : Hid (u = true) := Lib.hid (HI.out.trans (decide_eq_true ⟨h0, h1⟩))
        clear HI
        go_wp2_with (first
            | ((with_reducible refine ld_row rk TK ?_ ?_ ?_); (· rfl); (· rfl); (simp only [Act.put, List.setIfInBounds_toArray, List.set_cons_zero, List.set_cons_succ]))
            | ((with_reducible refine ld_row rc TC ?_ ?_ ?_); (· rfl); (· rfl); (simp only [Act.put, List.setIfInBounds_toArray, List.set_cons_zero, List.set_cons_succ]))
            | ((with_reducible refine ld_row ri TI ?_ ?_ ?_); (· rfl); (· rfl); (simp only [Act.put, List.setIfInBounds_toArray, List.set_cons_zero, List.set_cons_succ]))
            | ((with_reducible refine cmp_row (v := .bool false) eg_c ne_c0.out ?_ ?_ ?_ ?_); (· rfl); (· rfl); (· rfl); (simp only [Act.put, List.setIfInBounds_toArray, List.set_cons_zero, List.set_cons_succ]))
            | ((with_reducible refine cmp_row (v := .bool false) eg_i ne_i0.out ?_ ?_ ?_ ?_); (· rfl); (· rfl); (· rfl); (simp only [Act.put, List.setIfInBounds_toArray, List.set_cons_zero, List.set_cons_succ]))
            | ((with_reducible refine cmp_row (v := .bool false) eg_k ne_k0.out ?_ ?_ ?_ ?_); (· rfl); (· rfl); (· rfl); (simp only [Act.put, List.setIfInBounds_toArray, List.set_cons_zero, List.set_cons_succ])))
        go_ret
        exact ⟨by first | rfl | (rw [E.out]; rfl), HB2.out⟩
      · have E : Hid (u = false) := Lib.hid (HI.out.trans (decide_eq_false (fun h => h1 h.2)))
        clear HI
        go_wp2_with (first
            | ((with_reducible refine ld_row rk TK ?_ ?_ ?_); (· rfl); (· rfl); (simp only [Act.put, List.setIfInBounds_toArray, List.set_cons_zero, List.set_cons_succ]))
            | ((with_reducible refine ld_row rc TC ?_ ?_ ?_); (· rfl); (· rfl); (simp only [Act.put, List.setIfInBounds_toArray, List.set_cons_zero, List.set_cons_succ]))
            | ((with_reducible refine ld_row ri TI ?_ ?_ ?_); (· rfl); (· rfl); (simp only [Act.put, List.setIfInBounds_toArray, List.set_cons_zero, List.set_cons_succ]))
            | ((with_reducible refine cmp_row (v := .bool false) eg_c ne_c0.out ?_ ?_ ?_ ?_); (· rfl); (· rfl); (· rfl); (simp only [Act.put, List.setIfInBounds_toArray, List.set_cons_zero, List.set_cons_succ]))
            | ((with_reducible refine cmp_row (v := .bool false) eg_i ne_i0.out ?_ ?_ ?_ ?_); (· rfl); (· rfl); (· rfl); (simp only [Act.put, List.setIfInBounds_toArray, List.set_cons_zero, List.set_cons_succ]))
            | ((with_reducible refine cmp_row (v := .bool false) eg_k ne_k0.out ?_ ?_ ?_ ?_); (· rfl); (· rfl); (· rfl); (simp only [Act.put, List.setIfInBounds_toArray, List.set_cons_zero, List.set_cons_succ])))
        go_ret
        exact ⟨by first | rfl | (rw [E.out]; rfl), HB2.out⟩
    · have E : Hid (u = false) := Lib.hid (HI.out.trans (decide_eq_false (fun h => h0 h.1)))
      clear HI
      go_wp2_with (first
          | ((with_reducible refine ld_row rk TK ?_ ?_ ?_); (· rfl); (· rfl); (simp only [Act.put, List.setIfInBounds_toArray, List.set_cons_zero, List.set_cons_succ]))
          | ((with_reducible refine ld_row rc TC ?_ ?_ ?_); (· rfl); (· rfl); (simp only [Act.put, List.setIfInBounds_toArray, List.set_cons_zero, List.set_cons_succ]))
          | ((with_reducible refine ld_row ri TI ?_ ?_ ?_); (· rfl); (· rfl); (simp only [Act.put, List.setIfInBounds_toArray, List.set_cons_zero, List.set_cons_succ]))
          | ((with_reducible refine cmp_row (v := .bool false) eg_c ne_c0.out ?_ ?_ ?_ ?_); (· rfl); (· rfl); (· rfl); (simp only [Act.put, List.setIfInBounds_toArray, List.set_cons_zero, List.set_cons_succ]))
          | ((with_reducible refine cmp_row (v := .bool false) eg_i ne_i0.out ?_ ?_ ?_ ?_); (· rfl); (· rfl); (· rfl); (simp only [Act.put, List.setIfInBounds_toArray, List.set_cons_zero, List.set_cons_succ]))
          | ((with_reducible refine cmp_row (v := .bool false) eg_k ne_k0.out ?_ ?_ ?_ ?_); (· rfl); (· rfl); (· rfl); (simp only [Act.put, List.setIfInBounds_toArray, List.set_cons_zero, List.set_cons_succ])))
      go_ret
      exact ⟨by first | rfl | (rw [E.out]; rfl), HB2.out⟩
end Go.Proofs.Ytfffbhkenggdcaa
