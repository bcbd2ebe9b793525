/- The statements of requests that were tried: one that is alive. -/
import Derived.Test.YtalbkpahphndiaaEnt12
import Derived.Test.YtalbkpahphndiaaRow
import Derived.Test.YtalbkpahphndiaaOps
import Derived.RegionTactic
import Derived.BigRegion
import Derived.ChangeAlike
namespace Go.Proofs.Ytalbkpahphndiaa
set_option linter.unusedVariables false
set_option linter.unusedSimpArgs false
open Go.ChangeShapes Go.WideShapes Go.ChangeAt Go.RowKit
set_option maxRecDepth 100000 in
set_option maxHeartbeats 8000000 in
theorem alive20 (w : World) : Calls Try.prog 20 #[] w fun e w' => e = .returned (.bool true) ∧ Below w.heap.size w w' := by
  have CC := Lib.hid (fun w => show Calls Try.prog 22 #[.agg (enc12 1 1 0 0 0 0 1 5 false false 0 0).toArray] w fun e w' => e = .returned (.bool true) ∧ Below w.heap.size w w' from by have := ecent_any 1 1 0 0 0 0 1 5 false false 0 0 w; rwa [show mayEnt 1 1 0 0 0 1 5 false false 0 0 = true from by decide] at this)
  have CO := Lib.hid (fun w => show Calls Try.prog 24 #[.agg (enc12 1 1 0 0 0 0 1 5 false false 0 0).toArray] w fun e w' => e = .returned (.bool true) ∧ Below w.heap.size w w' from open_any 1 1 0 0 0 0 1 5 false false 0 0 w)
  have CU := Lib.hid (fun w => show Calls Try.prog 26 #[.agg (enc12 1 1 0 0 0 0 1 5 false false 0 0).toArray] w fun e w' => e = .returned (.bool false) ∧ Below w.heap.size w w' from undoes_any 1 1 0 0 0 0 1 5 false false 0 0 w)
  have R7 := Lib.hid (fun w => show Calls Try.prog 28 #[.agg (enc12 1 1 0 0 0 0 1 5 false false 0 0).toArray, .agg (ints [0, 0, 2, 3, 9]).toArray, .int .i64 7] w fun e w' => e = .returned (.bool false) ∧ Below w.heap.size w w' from by have := nready_any 1 1 0 0 0 0 1 5 false false 0 0 0 0 2 3 9 7 w; rwa [show readyE 1 5 false false 0 0 2 3 9 7 = false from by decide] at this)
  have R8 := Lib.hid (fun w => show Calls Try.prog 28 #[.agg (enc12 1 1 0 0 0 0 1 5 false false 0 0).toArray, .agg (ints [0, 0, 2, 3, 9]).toArray, .int .i64 8] w fun e w' => e = .returned (.bool true) ∧ Below w.heap.size w w' from by have := nready_any 1 1 0 0 0 0 1 5 false false 0 0 0 0 2 3 9 8 w; rwa [show readyE 1 5 false false 0 0 2 3 9 8 = true from by decide] at this)
  have TR := Lib.hid (fun w => show Calls Try.prog 32 #[.agg (enc12 1 1 0 0 0 0 1 5 false false 0 0).toArray, .int .i64 8] w fun e w' => e = .returned (.agg #[.int .i64 1, .int .i64 1, .int .i64 0, .int .i64 0, .int .i64 0, .int .i64 0, .int .i64 2, .int .i64 8, .bool false, .bool false, .int .i64 0, .int .i64 0]) ∧ Below w.heap.size w w' from by have := ntry_any 1 1 0 0 0 0 1 5 false false 0 0 8 w; rwa [show (tryE 8 1 1 0 0 0 0 1 5 false false 0 0).toArray = #[.int .i64 1, .int .i64 1, .int .i64 0, .int .i64 0, .int .i64 0, .int .i64 0, .int .i64 2, .int .i64 8, .bool false, .bool false, .int .i64 0, .int .i64 0] from by kernel_rfl] at this)
  have WD := Lib.hid (fun w => show Calls Try.prog 34 #[.agg (enc12 1 1 0 0 0 0 1 5 false false 0 0).toArray, .agg (ints [0, 0, 2, 3, 9]).toArray, .int .i64 9] w fun e w' => e = .returned (.string ⟨#[115, 101, 110, 116]⟩) ∧ Below w.heap.size w w' from by have := nword_any 1 1 0 0 0 0 1 5 false false 0 0 0 0 2 3 9 9 w; rwa [show wordE (deadE 1 5 false false 0 0 2 3 9 9) false false = .string ⟨#[115, 101, 110, 116]⟩ from by kernel_rfl] at this)
  have DD := Lib.hid (fun w => show Calls Try.prog 30 #[.agg #[.int .i64 1, .int .i64 1, .int .i64 0, .int .i64 0, .int .i64 0, .int .i64 0, .int .i64 2, .int .i64 8, .bool false, .bool false, .int .i64 0, .int .i64 0], .agg (ints [0, 0, 2, 3, 9]).toArray, .int .i64 14] w fun e w' => e = .returned (.bool true) ∧ Below w.heap.size w w' from by have := ndead_any 1 1 0 0 0 0 2 8 false false 0 0 0 0 2 3 9 14 w; rwa [show deadE 2 8 false false 0 0 2 3 9 14 = true from by decide] at this)
  have CP := Lib.hid (fun w => nput_yes 1 1 0 0 0 0 1 5 false false 0 0 w (by decide))
  have EQ := Lib.hid (fun w => show (binOp .eql 49 (.agg (enc12 1 1 0 0 0 0 1 5 false false 0 0).toArray) (.agg (enc12 1 1 0 0 0 0 1 5 false false 0 0).toArray)).run Try.prog w = .ok (.bool true) w from by rw [en_eq (ok12 (by decide)) (ok12 (by decide)), sameB_refl])
  have HV := enc12_ok 1 1 0 0 0 0 1 5 false false 0 0
  have HI5 : Hid ((Try.prog.info? 51).map (·.size) = some (ints [0, 0, 2, 3, 9]).length) := Lib.hid cf_size
  have HI12 : Hid ((Try.prog.info? 49).map (·.size) = some (enc12 1 1 0 0 0 0 1 5 false false 0 0).length) := Lib.hid en_size
  have HA1 := Lib.hid (Blk.new w (ints [0, 0, 2, 3, 9]).toArray 51)
  have HB1 := Lib.hid ((Below.refl w.heap.size w).alloc (Nat.le_refl _) (.cells (ints [0, 0, 2, 3, 9]).toArray 51))
  go_enter Try.func20, Try.ntmps20
  go_upto_region 2 with (first
    | ((with_reducible apply cf_store_new (x := [0, 0, 2, 3, 9])); (· rfl); (· first | rfl | simp); (· rfl); (· rfl); (· exact Lib.hid rfl); (simp only [Act.put, List.setIfInBounds_toArray, List.set_cons_zero, List.set_cons_succ])))
  generalize w.alloc (.cells (ints [0, 0, 2, 3, 9]).toArray 51) = w1 at *
  have HA2 := Lib.hid (Blk.new w1 (enc12 1 1 0 0 0 0 1 5 false false 0 0).toArray 49)
  have HC2 := Lib.hid (HA1.out.alloc (.cells (enc12 1 1 0 0 0 0 1 5 false false 0 0).toArray 49))
  have HB2 := Lib.hid (HB1.out.alloc HB1.out.size (.cells (enc12 1 1 0 0 0 0 1 5 false false 0 0).toArray 49))
  go_upto_region 3 with (first
    | ((with_reducible apply en_store_new (x := enc12 1 1 0 0 0 0 1 5 false false 0 0)); (· rfl); (· first | rfl | simp); (· rfl); (· rfl); (· exact HV); (simp only [Act.put, List.setIfInBounds_toArray, List.set_cons_zero, List.set_cons_succ])))
  generalize hg2 : w1.heap.size = g2 at *
  generalize w1.alloc (.cells (enc12 1 1 0 0 0 0 1 5 false false 0 0).toArray 49) = w2 at *
  rw [List.toList_toArray] at HA1 HA2
  clear HA1 HB1
  have rx : w2.rangeAt g2 0 (enc12 1 1 0 0 0 0 1 5 false false 0 0) := HA2.out.range 0 _ (by simp)
  go_wp2_with (first
    | ((with_reducible apply en_load); (· rfl); (· (first | assumption)); (· assumption); (simp only [Act.put, List.setIfInBounds_toArray, List.set_cons_zero, List.set_cons_succ])))
  refine (CP.out _).mono ?_
  rintro e w3 ⟨a', c', rfl, hs, ⟨hc1, hc2⟩, hb⟩
  have G := Lib.hid (nget_enc (show mayEnt 1 1 0 0 0 1 5 false false 0 0 = true from by decide) (show fits 0 = true from by decide) a' c' w3 hs hc1 hc2)
  have HB3 := Lib.hid (HB2.out.trans (hb.mono HB2.out.size))
  have HA3 := Lib.hid (HA2.out.keep hb HA2.out.lt)
  have HC3 := Lib.hid (HC2.out.keep hb HC2.out.lt)
  clear hs hc1 hc2 hb HB2 HA2 HC2 rx CP
  go_wp2_with fail
  refine G.out.mono ?_
  rintro e w4 ⟨rfl, hb⟩
  have HB4 := Lib.hid (HB3.out.trans (hb.mono HB3.out.size))
  have HA4 := Lib.hid (HA3.out.keep hb HA3.out.lt)
  have HC4 := Lib.hid (HC3.out.keep hb HC3.out.lt)
  clear hb HB3 HA3 HC3 G
  have HD5 := Lib.hid (Blk.new w4 (enc12 1 1 0 0 0 0 1 5 false false 0 0).toArray 49)
  have HA5 := Lib.hid (HA4.out.alloc (.cells (enc12 1 1 0 0 0 0 1 5 false false 0 0).toArray 49))
  have HC5 := Lib.hid (HC4.out.alloc (.cells (enc12 1 1 0 0 0 0 1 5 false false 0 0).toArray 49))
  have HB5 := Lib.hid (HB4.out.alloc HB4.out.size (.cells (enc12 1 1 0 0 0 0 1 5 false false 0 0).toArray 49))
  rw [List.toList_toArray] at HD5
  clear HA4 HB4 HC4
  go_upto_region 4 with (first
    | ((with_reducible apply en_store_new (x := enc12 1 1 0 0 0 0 1 5 false false 0 0)); (· rfl); (· first | rfl | simp); (· rfl); (· rfl); (· exact HV); (simp only [Act.put, List.setIfInBounds_toArray, List.set_cons_zero, List.set_cons_succ])))
  generalize hg3 : w4.heap.size = g3 at *
  generalize w4.alloc (.cells (enc12 1 1 0 0 0 0 1 5 false false 0 0).toArray 49) = w5 at *
  have hl1 := Lib.hid HC5.out.lt
  have hl2 := Lib.hid HA5.out.lt
  have hl3 := Lib.hid HD5.out.lt
  clear hg2 hg3
  refine q_begin (by kernel_rfl) (by kernel_rfl) ?_
  repeat (first
    | go_big_quiet_skip
    | ((with_reducible apply q_row); (· rfl); (· rfl); (· exact Try.underlying49); (· rfl); (· exact HA5.out); (· exact hl2.out); (· exact HI12.out); (simp only [Act.put, List.setIfInBounds_toArray, List.set_cons_zero, List.set_cons_succ]))
    | ((with_reducible apply q_row); (· rfl); (· rfl); (· exact Try.underlying49); (· rfl); (· exact HD5.out); (· exact hl3.out); (· exact HI12.out); (simp only [Act.put, List.setIfInBounds_toArray, List.set_cons_zero, List.set_cons_succ]))
    | ((with_reducible apply q_row); (· rfl); (· rfl); (· exact Try.underlying51); (· rfl); (· exact HC5.out); (· exact hl1.out); (· exact HI5.out); (simp only [Act.put, List.setIfInBounds_toArray, List.set_cons_zero, List.set_cons_succ]))
    | ((with_reducible apply q_call 22 (.bool true)); (· rfl); (· exact Nat.le_refl _); (· intro w _; exact CC.out w); (· intro w; go_simp); (simp only [Act.put, List.setIfInBounds_toArray, List.set_cons_zero, List.set_cons_succ]))
    | ((with_reducible apply q_call 24 (.bool true)); (· rfl); (· exact Nat.le_refl _); (· intro w _; exact CO.out w); (· intro w; go_simp); (simp only [Act.put, List.setIfInBounds_toArray, List.set_cons_zero, List.set_cons_succ]))
    | ((with_reducible apply q_call 26 (.bool false)); (· rfl); (· exact Nat.le_refl _); (· intro w _; exact CU.out w); (· intro w; go_simp); (simp only [Act.put, List.setIfInBounds_toArray, List.set_cons_zero, List.set_cons_succ]))
    | ((with_reducible apply q_call 28 (.bool false)); (· rfl); (· exact Nat.le_refl _); (· intro w _; exact R7.out w); (· intro w; go_simp); (simp only [Act.put, List.setIfInBounds_toArray, List.set_cons_zero, List.set_cons_succ]))
    | ((with_reducible apply q_call 28 (.bool true)); (· rfl); (· exact Nat.le_refl _); (· intro w _; exact R8.out w); (· intro w; go_simp); (simp only [Act.put, List.setIfInBounds_toArray, List.set_cons_zero, List.set_cons_succ]))
    | ((with_reducible apply q_call 32 (.agg #[.int .i64 1, .int .i64 1, .int .i64 0, .int .i64 0, .int .i64 0, .int .i64 0, .int .i64 2, .int .i64 8, .bool false, .bool false, .int .i64 0, .int .i64 0])); (· rfl); (· exact Nat.le_refl _); (· intro w _; exact TR.out w); (· intro w; go_simp); (simp only [Act.put, List.setIfInBounds_toArray, List.set_cons_zero, List.set_cons_succ]))
    | ((with_reducible apply q_call 34 (.string ⟨#[115, 101, 110, 116]⟩)); (· rfl); (· exact Nat.le_refl _); (· intro w _; exact WD.out w); (· intro w; go_simp); (simp only [Act.put, List.setIfInBounds_toArray, List.set_cons_zero, List.set_cons_succ]))
    | ((with_reducible apply q_call 30 (.bool true)); (· rfl); (· exact Nat.le_refl _); (· intro w _; exact DD.out w); (· intro w; go_simp); (simp only [Act.put, List.setIfInBounds_toArray, List.set_cons_zero, List.set_cons_succ]))
    | ((with_reducible apply q_cmp); (· rfl); (· rfl); (· rfl); (· kernel_rfl); (· intro w; exact EQ.out w); (simp only [Act.put, List.setIfInBounds_toArray, List.set_cons_zero, List.set_cons_succ]))
    | ((with_reducible apply q_field (.int .i64 2)); (· rfl); (· intro w; go_simp <;> rfl); (simp only [Act.put, List.setIfInBounds_toArray, List.set_cons_zero, List.set_cons_succ]))
    | (go_big_quiet_want; go_big_quiet_op; (first | go_big_quiet_on | (apply Exists.intro; refine ⟨fun _ _ => rfl, ?_⟩; go_big_quiet_on))))
  refine q_end ?_
  intro w6 hb
  have HB6 := HB5.out.trans (hb.mono HB5.out.size)
  go_wp2_with fail
  go_ret
  exact ⟨rfl, HB6⟩
end Go.Proofs.Ytalbkpahphndiaa
