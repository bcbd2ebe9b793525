/- The statements of records: what they lean on; the constructors. -/
import Derived.Test.YtfffbhkenggdcaaRec16
import Derived.Test.YtfffbhkenggdcaaQt
import Derived.Test.YtfffbhkenggdcaaRow
import Derived.Test.YtfffbhkenggdcaaOps
import Derived.Test.YtfffbhkenggdcaaEq
import Derived.Test.YtfffbhkenggdcaaChgOps
import Derived.RegionTactic
import Derived.BigRegion
import Derived.ChangeAlike
namespace Go.Proofs.Ytfffbhkenggdcaa
set_option linter.unusedVariables false
set_option linter.unusedSimpArgs false
open Go.ChangeShapes Go.WideShapes Go.ChangeAt Go.RowKit
theorem rc_eql {d t t' : Nat} {ty rt : TypeId} {ps : String} {af : Array Edge} {gd : Option (Nat × Bool)} {a : Act} {w : World} {ops : Array Oper} {rest : List Oper} {Q : Exit → Act → World → Prop} {xs ys : Array Value} {v : Bool} (NE : Hid (∀ w, (binOp .eql 31 (.agg xs) (.agg ys)).run Try.prog w = .ok (.bool v) w))
    (hw : Region.wanted ⟨some d, .binOp .eql 31 (.tmp t) (.tmp t') rt, ty, ps, af, gd⟩ (yielded ops a.tmps) = true) (hx : a.eval (.tmp t) = .agg xs) (hy : a.eval (.tmp t') = .agg ys) (h : wpList Try.prog ops Q rest (a.put (some d) (.bool v)) w) :
    wpList Try.prog ops Q (⟨some d, .binOp .eql 31 (.tmp t) (.tmp t') rt, ty, ps, af, gd⟩ :: rest) a w :=
  ls_run_g hw (run_op_cmp rfl hx hy (by kernel_rfl) (NE.out w)) h
theorem chkM12 : Hid (∀ w, Calls Try.prog 14 #[.agg ((rec17 2 0 0 0 0 0 0 0 0 0 1 2 0 0 0 false 0)).toArray] w fun e w' => e = .returned (.int .i64 0) ∧ Below w.heap.size w w') := by
  have := chk_own (ky := 2) (X := (rec17 2 0 0 0 0 0 0 0 0 0 1 2 0 0 0 false 0)) (v := mayId 1 2) (ok17 (by decide)) (rec17_ok 2 0 0 0 0 0 0 0 0 0 1 2 0 0 0 false 0) rfl (by decide) (Lib.hid fun w => fieldsM_any 0 0 0 0 0 0 0 0 0 1 2 0 0 0 false 0 w)
  rw [show mayId 1 2 = true from by decide, if_pos rfl] at this
  exact this
theorem chkZ0 : Hid (∀ w, Calls Try.prog 14 #[.agg #[.int .i64 0, .int .i64 0, .int .i64 0, .int .i64 0, .int .i64 0, .int .i64 0, .int .i64 0, .int .i64 0, .int .i64 0, .int .i64 0, .int .i64 0, .int .i64 0, .int .i64 0, .int .i64 0, .int .i64 0, .bool false, .int .i64 0]] w fun e w' => e = .returned (.int .i64 12) ∧ Below w.heap.size w w') := Lib.hid fun w => by
  have HV := rec17_ok 0 0 0 0 0 0 0 0 0 0 0 0 0 0 0 false 0
  have hX : OkAll (List.replicate 15 (some IntKind.i64) ++ ([none, some IntKind.i64] : List (Option IntKind))) (rec17 0 0 0 0 0 0 0 0 0 0 0 0 0 0 0 false 0) := ok17 (by intro z hz; simp only [List.mem_cons, List.not_mem_nil, or_false] at hz; rcases hz with rfl | rfl | rfl | rfl | rfl | rfl | rfl | rfl | rfl | rfl | rfl | rfl | rfl | rfl | rfl | rfl <;> decide)
  have := check_of hX hX HV HV (ky := 0) rfl (Lib.hid fun w => fieldsZ_any w) w
  rw [if_pos rfl] at this
  exact this
theorem okM12 : okM (2 :: idOcts 1 2) = true ∧ tkN (2 :: idOcts 1 2, true) 1 = 2 ∧ rec17 2 0 0 0 0 0 0 0 0 0 (fld (2 :: idOcts 1 2) 1 1) (fld (2 :: idOcts 1 2) 2 2) 0 0 0 false 0 = (rec17 2 0 0 0 0 0 0 0 0 0 1 2 0 0 0 false 0) := by
  have e : (2 :: idOcts 1 2 : List UInt8) = [2, 1, 0, 2] := by decide
  rw [e]
  have f1 : fld [2, 1, 0, 2] 1 1 = 1 := by unfold fld; rw [s64_small (by decide)]; decide
  have f2 : fld [2, 1, 0, 2] 2 2 = 2 := by unfold fld; rw [s64_small (by decide)]; decide
  refine ⟨?_, by decide, by rw [f1, f2]⟩
  unfold okM
  rw [f1, f2]
  decide
set_option maxRecDepth 100000 in
set_option maxHeartbeats 8000000 in
theorem alive23 (w : World) : Calls Try.prog 5 #[] w fun e w' => e = .returned (.bool true) ∧ Below w.heap.size w w' := by
  have HV := rec17_ok 2 0 0 0 0 0 0 0 0 0 1 2 0 0 0 false 0
  have C1 : Hid (∀ w, Calls Try.prog 11 #[.agg #[.int .i64 1, .int .i64 2]] w fun e w' => e = .returned (.agg ((rec17 2 0 0 0 0 0 0 0 0 0 1 2 0 0 0 false 0)).toArray) ∧ Below w.heap.size w w') := Lib.hid fun w => mkM_any 1 2 w
  have C2 := Lib.hid fun w => rput_M 1 2 chkM12 w
  have C3 : Hid (∀ a c w, Sl w a 4 1 (bcells (2 :: idOcts 1 2)) → Calls Try.prog 6 #[.slice a 4 c] w fun e w' => e = .returned (.tuple #[.agg ((rec17 2 0 0 0 0 0 0 0 0 0 1 2 0 0 0 false 0)).toArray, .int .i64 0]) ∧ Below w.heap.size w w') := Lib.hid fun a c w h => by
    have := recgetM a 4 c _ w h (by decide) okM12.2.1
    rw [okM12.1, okM12.2.2] at this
    exact this
  have EQ := Lib.hid (fun w => show (binOp .eql 31 (.agg ((rec17 2 0 0 0 0 0 0 0 0 0 1 2 0 0 0 false 0)).toArray) (.agg ((rec17 2 0 0 0 0 0 0 0 0 0 1 2 0 0 0 false 0)).toArray)).run Try.prog w = .ok (.bool true) w from by rw [rc_eq (ok17 (by decide)) (ok17 (by decide)), sameB_refl])
  generalize (rec17 2 0 0 0 0 0 0 0 0 0 1 2 0 0 0 false 0) = X at *
  generalize hoc : (2 :: idOcts 1 2 : List UInt8) = oc at *
  clear hoc
  go_enter Try.func5, Try.ntmps5
  go_wp2_with fail
  refine (C1.out _).mono ?_
  rintro e w1 ⟨rfl, hb1⟩
  have HB1 := Lib.hid (hb1.alloc hb1.size (.cells X.toArray 31))
  have AX1 := Lib.hid (Blk.new w1 X.toArray 31)
  rw [List.toList_toArray] at AX1
  clear hb1 C1
  go_upto_region 2 with (first
    | ((with_reducible apply rc_store_new); (· rfl); (· first | rfl | simp); (· rfl); (· rfl); (· assumption); (simp only [Act.put, List.setIfInBounds_toArray, List.set_cons_zero, List.set_cons_succ])))
  generalize hW1 : w1.alloc (.cells X.toArray 31) = W1 at *
  generalize hg1 : w1.heap.size = g1 at *
  clear hW1 hg1
  have rx : W1.rangeAt g1 0 X := AX1.out.range 0 _ (by simp)
  go_wp2_with (first
    | ((with_reducible apply rc_load); (· rfl); (· (first | assumption)); (· assumption); (simp only [Act.put, List.setIfInBounds_toArray, List.set_cons_zero, List.set_cons_succ])))
  refine (C2.out _).mono ?_
  rintro e w2 ⟨a2, c2, rfl, hs2, hb2⟩
  have HB2 := Lib.hid (HB1.out.trans (hb2.mono HB1.out.size))
  have AX2 := Lib.hid (AX1.out.keep hb2 AX1.out.lt)
  have C3' := Lib.hid (C3.out a2 c2 w2 hs2)
  clear hb2 hs2 rx HB1 AX1 C2 C3
  go_wp2_with fail
  refine C3'.out.mono ?_
  rintro e w3 ⟨rfl, hb3⟩
  have HB3 := Lib.hid ((HB2.out.trans (hb3.mono HB2.out.size)).alloc (HB2.out.trans (hb3.mono HB2.out.size)).size (.cells X.toArray 31))
  have AX3 := Lib.hid ((AX2.out.keep hb3 AX2.out.lt).alloc (.cells X.toArray 31))
  have AY3 := Lib.hid (Blk.new w3 X.toArray 31)
  rw [List.toList_toArray] at AY3
  clear hb3 HB2 AX2 C3'
  go_upto_region 4 with (first
    | ((with_reducible apply rc_store_new); (· rfl); (· first | rfl | simp); (· rfl); (· rfl); (· assumption); (simp only [Act.put, List.setIfInBounds_toArray, List.set_cons_zero, List.set_cons_succ])))
  generalize hW3 : w3.alloc (.cells X.toArray 31) = W3 at *
  generalize hg3 : w3.heap.size = g3 at *
  clear hW3 hg3
  have rx : W3.rangeAt g1 0 X := AX3.out.range 0 _ (by simp)
  have ry : W3.rangeAt g3 0 X := AY3.out.range 0 _ (by simp)
  go_wp2_with (first
    | ((with_reducible apply rc_load); (· rfl); (· (first | assumption)); (· assumption); (simp only [Act.put, List.setIfInBounds_toArray, List.set_cons_zero, List.set_cons_succ]))
    | ((with_reducible apply rc_load_g); (· rfl); (· rfl); (· (first | assumption)); (· assumption); (simp only [Act.put, List.setIfInBounds_toArray, List.set_cons_zero, List.set_cons_succ]))
    | ((with_reducible apply rc_eql EQ); (· rfl); (· rfl); (· rfl); (simp only [Act.put, List.setIfInBounds_toArray, List.set_cons_zero, List.set_cons_succ])))
  refine (chkZ0.out _).mono ?_
  rintro e w4 ⟨rfl, hb4⟩
  have HB4 := HB3.out.trans (hb4.mono HB3.out.size)
  clear hb4
  go_wp2_with fail
  go_ret
  exact ⟨rfl, HB4⟩
end Go.Proofs.Ytfffbhkenggdcaa
