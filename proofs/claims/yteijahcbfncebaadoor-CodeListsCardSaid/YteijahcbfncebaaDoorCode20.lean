/- The reference's Read of a step. -/
import Derived.Test.YteijahcbfncebaaDoorCode19
import Derived.Deep.DeepCutAuto
import Derived.RegionTactic
import Derived.BigRegion
import Derived.ChangeAlike
namespace Go.Proofs.YteijahcbfncebaaDoor
set_option linter.unusedVariables false
set_option linter.unusedSimpArgs false
open Go.ChangeShapes Go.WideShapes Go.ChangeAt Go.RowKit
theorem i64_wrapS (x : Int) : IntKind.i64.wrap x = wrap64 x := (IntKind.wrap_i64 x).trans (by unfold wrap64; rfl)
theorem sub_atS {w : World} {bb off c i k m : Nat} {bs : List UInt8} (h : Sl w (some ⟨bb, off, none⟩) m 1 (bcells bs)) (hk : i + k ≤ m) (hc : m ≤ c) (hi : i < m) : Sl w (some ⟨bb, off + i, none⟩) k 1 (bcells ((bs.drop i).take k)) := by
  have := h.sub (c := c) hk hc
  unfold restOf at this
  rw [if_neg (by omega)] at this
  simpa [add_plain] using this
theorem st_part_runS {o : Oper} {T : TypeId} {x y : Operand} {a : Act} {w : World} {g off U : Nat} {old cs : List Value} (ho : o.op = .store T x y) (hx : a.eval x = .pointer (some ⟨g, off, none⟩)) (hy : a.eval y = .agg cs.toArray) (hb : Blk w g old U) (hl : off + cs.length ≤ old.length) (hi : (Tryd.prog.info? T).map (·.size) = some cs.length) (h1 : ∀ u ∈ cs, u.oneCell' = true) :
    (execOp a.eval o).run Tryd.prog w = .ok .skip (w.setCells g off cs) := by
  have := run_storeAt_mid (P := Tryd.prog) w g off T cs.toArray (hb.there off _ (by rw [List.size_toArray]; exact hl)) (by rw [hi, List.size_toArray]) (all_oneCell_toArray h1)
  rw [List.toList_toArray] at this
  unfold execOp
  simp only [ho, hx, hy, Sem.run_bind, this, Result.andThen_ok, Sem.run_pure]
theorem tk_dr (bs : List UInt8) (j k : Nat) (h : j + k ≤ bs.length) : tkN (bs.drop j, true) k = numOf ((bs.drop j).take k) ∧ tkS (bs.drop j, true) k = (bs.drop (j + k), true) := by
  unfold tkN tkS tkB
  have h2 : k ≤ bs.length - j := by omega
  simp [h2, List.drop_drop]
theorem num_oneS {bs : List UInt8} {i : Nat} (h : i < bs.length) : numOf ((bs.drop i).take 1) = (bs.getD i 0).toNat := by
  have h1 : (bs.drop i).take 1 = [bs.getD i 0] := by
    rw [List.take_one, List.head?_drop, List.getElem?_eq_getElem h, List.getD_eq_getElem?_getD, List.getElem?_eq_getElem h]; rfl
  rw [h1]; simp [numOf]
theorem decS_at {bs : List UInt8} (h : bs.length = 21) : decS bs = [wrap64 ((bs.getD 0 0).toNat : Int), wrap64 ((bs.getD 1 0).toNat : Int), wrap64 ((bs.getD 2 0).toNat : Int), wrap64 (numOf ((bs.drop 3).take 4) : Int), 0, 0, 0, wrap64 ((bs.getD 7 0).toNat : Int), wrap64 ((bs.getD 8 0).toNat : Int), wrap64 ((bs.getD 9 0).toNat : Int), wrap64 (numOf ((bs.drop 10).take 8) : Int), wrap64 ((bs.getD 18 0).toNat : Int), wrap64 (numOf ((bs.drop 19).take 2) : Int)] := by
  have e : (bs, true) = (bs.drop 0, true) := by simp
  unfold decS
  rw [e, (tk_dr bs 0 1 (by omega)).1, (tk_dr bs 0 1 (by omega)).2, num_oneS (by omega)]
  simp only [Nat.zero_add]
  rw [(tk_dr bs 1 1 (by omega)).1, (tk_dr bs 1 1 (by omega)).2, num_oneS (by omega)]
  simp only [Nat.reduceAdd]
  rw [(tk_dr bs 2 1 (by omega)).1, (tk_dr bs 2 1 (by omega)).2, num_oneS (by omega)]
  simp only [Nat.reduceAdd]
  rw [(tk_dr bs 3 4 (by omega)).1, (tk_dr bs 3 4 (by omega)).2]
  simp only [Nat.reduceAdd]
  rw [(tk_dr bs 7 1 (by omega)).1, (tk_dr bs 7 1 (by omega)).2, num_oneS (by omega)]
  simp only [Nat.reduceAdd]
  rw [(tk_dr bs 8 1 (by omega)).1, (tk_dr bs 8 1 (by omega)).2, num_oneS (by omega)]
  simp only [Nat.reduceAdd]
  rw [(tk_dr bs 9 1 (by omega)).1, (tk_dr bs 9 1 (by omega)).2, num_oneS (by omega)]
  simp only [Nat.reduceAdd]
  rw [(tk_dr bs 10 8 (by omega)).1, (tk_dr bs 10 8 (by omega)).2]
  simp only [Nat.reduceAdd]
  rw [(tk_dr bs 18 1 (by omega)).1, (tk_dr bs 18 1 (by omega)).2, num_oneS (by omega)]
  simp only [Nat.reduceAdd]
  rw [(tk_dr bs 19 2 (by omega)).1]
set_option maxRecDepth 100000 in
set_option maxHeartbeats 8000000 in
theorem rread31_any (a : Option Addr) (c : Nat) (bs : List UInt8) (w : World) (h : Sl w a 21 1 (bcells bs)) (hc : 21 ≤ c) (hcm : c ≤ 9223372036854775807) :
    Calls Tryd.prog 13 #[.slice a 21 c] w fun e w' => e = .returned (.agg (ints (decS bs)).toArray) ∧ Below w.heap.size w w' := by
  have hbl : bs.length = 21 := sl_one h
  have HWR := Lib.hid (decS_at hbl)
  simp only [← i64_wrapS] at HWR
  obtain ⟨_, bb, off, rfl, hb, hcell⟩ := h.byte (by omega)
  have HCL := Lib.hid hcell
  have HS := Lib.hid h
  clear hbl hcell h
  go_enter Tryd.func13, Tryd.ntmps13
  have HB1 := Lib.hid (((Below.refl w.heap.size w).alloc (Nat.le_refl _) (.cells #[.int .i64 0, .int .i64 0, .int .i64 0, .int .i64 0, .int .i64 0, .int .i64 0, .int .i64 0, .int .i64 0, .int .i64 0, .int .i64 0, .int .i64 0, .int .i64 0, .int .i64 0] 27)).drew)
  have BW : Hid (Blk (w.alloc (.cells #[.int .i64 0, .int .i64 0, .int .i64 0, .int .i64 0, .int .i64 0, .int .i64 0, .int .i64 0, .int .i64 0, .int .i64 0, .int .i64 0, .int .i64 0, .int .i64 0, .int .i64 0] 27)) w.heap.size (ints [0, 0, 0, 0, 0, 0, 0, 0, 0, 0, 0, 0, 0]) 27) := Lib.hid (Blk.new w #[.int .i64 0, .int .i64 0, .int .i64 0, .int .i64 0, .int .i64 0, .int .i64 0, .int .i64 0, .int .i64 0, .int .i64 0, .int .i64 0, .int .i64 0, .int .i64 0, .int .i64 0] 27)
  go_upto_region 1 with fail
  have hWz : (w.alloc (.cells #[.int .i64 0, .int .i64 0, .int .i64 0, .int .i64 0, .int .i64 0, .int .i64 0, .int .i64 0, .int .i64 0, .int .i64 0, .int .i64 0, .int .i64 0, .int .i64 0, .int .i64 0] 27)).heap.size = w.heap.size + 1 := by simp
  generalize (w.alloc (.cells #[.int .i64 0, .int .i64 0, .int .i64 0, .int .i64 0, .int .i64 0, .int .i64 0, .int .i64 0, .int .i64 0, .int .i64 0, .int .i64 0, .int .i64 0, .int .i64 0, .int .i64 0] 27)) = W at *
  have HCL2 := Lib.hid (fun i (hi : i < 21) w' (hb' : Below w.heap.size w w') => show w'.cell? ⟨bb, off + i, none⟩ = some (.int .u8 ((bs.getD i 0).toNat : Int)) from (hb'.cell (p := ⟨bb, off + i, none⟩) hb).trans (HCL.out i hi))
  have HL0 := Lib.hid (fun w' (hb' : Below w.heap.size w w') => show w'.cell? ⟨bb, off, none⟩ = some (.int .u8 ((bs.getD 0 0).toNat : Int)) from HCL2.out 0 (by decide) w' hb')
  have HL1 := Lib.hid (HCL2.out 1 (by decide))
  have HL2 := Lib.hid (HCL2.out 2 (by decide))
  have HL7 := Lib.hid (HCL2.out 7 (by decide))
  have HL8 := Lib.hid (HCL2.out 8 (by decide))
  have HL9 := Lib.hid (HCL2.out 9 (by decide))
  have HL18 := Lib.hid (HCL2.out 18 (by decide))
  have HSL := Lib.hid (fun i k (hk : i + k ≤ 21) (hi : i < 21) w' (hb' : Below w.heap.size w w') => (sub_atS HS.out (i := i) (k := k) hk hc hi).keep hb')
  have HG3 := Lib.hid (fun w' (hb' : Below w.heap.size w w') => rget_any (some ⟨bb, off + 3, none⟩) 4 (c - 3) ((bs.drop 3).take 4) w' (HSL.out 3 4 (by decide) (by decide) w' hb') (by decide))
  have HG10 := Lib.hid (fun w' (hb' : Below w.heap.size w w') => rget_any (some ⟨bb, off + 10, none⟩) 8 (c - 10) ((bs.drop 10).take 8) w' (HSL.out 10 8 (by decide) (by decide) w' hb') (by decide))
  have HG19 := Lib.hid (fun w' (hb' : Below w.heap.size w w') => rget_any (some ⟨bb, off + 19, none⟩) 2 (c - 19) ((bs.drop 19).take 2) w' (HSL.out 19 2 (by decide) (by decide) w' hb') (by decide))
  clear HSL
  generalize numOf ((bs.drop 3).take 4) = m3 at *
  generalize numOf ((bs.drop 10).take 8) = m10 at *
  generalize numOf ((bs.drop 19).take 2) = m19 at *
  generalize (bs.getD 0 0).toNat = x0 at *
  generalize (bs.getD 1 0).toNat = x1 at *
  generalize (bs.getD 2 0).toNat = x2 at *
  generalize (bs.getD 7 0).toNat = x7 at *
  generalize (bs.getD 8 0).toNat = x8 at *
  generalize (bs.getD 9 0).toNat = x9 at *
  generalize (bs.getD 18 0).toNat = x18 at *
  clear HCL2 HCL HS
  have hc3 : ¬ c = 3 := by omega
  have hc10 : ¬ c = 10 := by omega
  have hc19 : ¬ c = 19 := by omega
  have d3 : (3 : Int) ≤ c := by omega
  have d7 : (7 : Int) ≤ c := by omega
  have d10 : (10 : Int) ≤ c := by omega
  have d18 : (18 : Int) ≤ c := by omega
  have d19 : (19 : Int) ≤ c := by omega
  have d21 : (21 : Int) ≤ c := by omega
  go_cut [3] (fun s3 wx => s3 = .pointer (some ⟨w.heap.size + 1, 0, none⟩) ∧ wx = (World.drew W).alloc (.cells #[.int .i64 (IntKind.i64.wrap (x0 : Int)), .int .i64 (IntKind.i64.wrap (x1 : Int)), .int .i64 (IntKind.i64.wrap (x2 : Int)), .int .i64 (IntKind.i64.wrap (m3 : Int)), .int .i64 0, .int .i64 0, .int .i64 0, .int .i64 0, .int .i64 0, .int .i64 0, .int .i64 0, .int .i64 0, .int .i64 0] 27))
  case first =>
    refine held_begin (fun w' => Below w.heap.size w w') 19 [false, false, false, false, false, false, false, false, false, false, false, false, false, false, false, false, false, false, false] (by kernel_rfl) rfl (by rfl) ?_
    have hHeld : Below w.heap.size w W.drew := HB1.out
    refine held_take (v := ?_) 0 4 [true, false, false, false, false, false, false, false, false, false, false, false, false, false, false, false, false, false, false] rfl (by rfl) (by rfl) (by kernel_rfl) (by kernel_rfl) (by kernel_rfl) (by rfl) (fun _ _ _ h => h) ?_ hHeld ?_
    rotate_left
    · intro w hSw; go_simp <;> with_reducible rfl
    simp only [Act.put, List.setIfInBounds_toArray, List.set_cons_zero, List.set_cons_succ]
    refine held_take (v := ?_) 1 5 [true, true, false, false, false, false, false, false, false, false, false, false, false, false, false, false, false, false, false] rfl (by rfl) (by rfl) (by kernel_rfl) (by kernel_rfl) (by kernel_rfl) (by rfl) (fun _ _ _ h => h) ?_ hHeld ?_
    rotate_left
    · intro w hSw; go_simp <;> with_reducible rfl
    simp only [Act.put, List.setIfInBounds_toArray, List.set_cons_zero, List.set_cons_succ]
    refine held_take (v := .int .u8 x0) 2 6 [true, true, true, false, false, false, false, false, false, false, false, false, false, false, false, false, false, false, false] rfl (by rfl) (by rfl) (by kernel_rfl) (by kernel_rfl) (by kernel_rfl) (by rfl) (fun _ _ _ h => h) (fun w' h => by have k := HL0.out w' h; go_simp) hHeld ?_
    simp only [Act.put, List.setIfInBounds_toArray, List.set_cons_zero, List.set_cons_succ]
    refine held_take (v := ?_) 3 7 [true, true, true, true, false, false, false, false, false, false, false, false, false, false, false, false, false, false, false] rfl (by rfl) (by rfl) (by kernel_rfl) (by kernel_rfl) (by kernel_rfl) (by rfl) (fun _ _ _ h => h) ?_ hHeld ?_
    rotate_left
    · intro w hSw; go_simp <;> with_reducible rfl
    simp only [Act.put, List.setIfInBounds_toArray, List.set_cons_zero, List.set_cons_succ]
    refine held_take (v := ?_) 4 8 [true, true, true, true, true, false, false, false, false, false, false, false, false, false, false, false, false, false, false] rfl (by rfl) (by rfl) (by kernel_rfl) (by kernel_rfl) (by kernel_rfl) (by rfl) (fun _ _ _ h => h) ?_ hHeld ?_
    rotate_left
    · intro w hSw; go_simp <;> with_reducible rfl
    simp only [Act.put, List.setIfInBounds_toArray, List.set_cons_zero, List.set_cons_succ]
    refine held_take (v := ?_) 5 9 [true, true, true, true, true, true, false, false, false, false, false, false, false, false, false, false, false, false, false] rfl (by rfl) (by rfl) (by kernel_rfl) (by kernel_rfl) (by kernel_rfl) (by rfl) (fun _ _ _ h => h) ?_ hHeld ?_
    rotate_left
    · intro w hSw; go_simp <;> with_reducible rfl
    simp only [Act.put, List.setIfInBounds_toArray, List.set_cons_zero, List.set_cons_succ]
    refine held_take (v := .int .u8 x1) 6 10 [true, true, true, true, true, true, true, false, false, false, false, false, false, false, false, false, false, false, false] rfl (by rfl) (by rfl) (by kernel_rfl) (by kernel_rfl) (by kernel_rfl) (by rfl) (fun _ _ _ h => h) (fun w' h => by have k := HL1.out w' h; go_simp) hHeld ?_
    simp only [Act.put, List.setIfInBounds_toArray, List.set_cons_zero, List.set_cons_succ]
    refine held_take (v := ?_) 7 11 [true, true, true, true, true, true, true, true, false, false, false, false, false, false, false, false, false, false, false] rfl (by rfl) (by rfl) (by kernel_rfl) (by kernel_rfl) (by kernel_rfl) (by rfl) (fun _ _ _ h => h) ?_ hHeld ?_
    rotate_left
    · intro w hSw; go_simp <;> with_reducible rfl
    simp only [Act.put, List.setIfInBounds_toArray, List.set_cons_zero, List.set_cons_succ]
    refine held_take (v := ?_) 8 12 [true, true, true, true, true, true, true, true, true, false, false, false, false, false, false, false, false, false, false] rfl (by rfl) (by rfl) (by kernel_rfl) (by kernel_rfl) (by kernel_rfl) (by rfl) (fun _ _ _ h => h) ?_ hHeld ?_
    rotate_left
    · intro w hSw; go_simp <;> with_reducible rfl
    simp only [Act.put, List.setIfInBounds_toArray, List.set_cons_zero, List.set_cons_succ]
    refine held_take (v := ?_) 9 13 [true, true, true, true, true, true, true, true, true, true, false, false, false, false, false, false, false, false, false] rfl (by rfl) (by rfl) (by kernel_rfl) (by kernel_rfl) (by kernel_rfl) (by rfl) (fun _ _ _ h => h) ?_ hHeld ?_
    rotate_left
    · intro w hSw; go_simp <;> with_reducible rfl
    simp only [Act.put, List.setIfInBounds_toArray, List.set_cons_zero, List.set_cons_succ]
    refine held_take (v := .int .u8 x2) 10 14 [true, true, true, true, true, true, true, true, true, true, true, false, false, false, false, false, false, false, false] rfl (by rfl) (by rfl) (by kernel_rfl) (by kernel_rfl) (by kernel_rfl) (by rfl) (fun _ _ _ h => h) (fun w' h => by have k := HL2.out w' h; go_simp) hHeld ?_
    simp only [Act.put, List.setIfInBounds_toArray, List.set_cons_zero, List.set_cons_succ]
    refine held_take (v := ?_) 11 15 [true, true, true, true, true, true, true, true, true, true, true, true, false, false, false, false, false, false, false] rfl (by rfl) (by rfl) (by kernel_rfl) (by kernel_rfl) (by kernel_rfl) (by rfl) (fun _ _ _ h => h) ?_ hHeld ?_
    rotate_left
    · intro w hSw; go_simp <;> with_reducible rfl
    simp only [Act.put, List.setIfInBounds_toArray, List.set_cons_zero, List.set_cons_succ]
    refine held_take (v := ?_) 12 16 [true, true, true, true, true, true, true, true, true, true, true, true, true, false, false, false, false, false, false] rfl (by rfl) (by rfl) (by kernel_rfl) (by kernel_rfl) (by kernel_rfl) (by rfl) (fun _ _ _ h => h) ?_ hHeld ?_
    rotate_left
    · intro w hSw; go_simp <;> with_reducible rfl
    simp only [Act.put, List.setIfInBounds_toArray, List.set_cons_zero, List.set_cons_succ]
    refine held_take (v := ?_) 13 17 [true, true, true, true, true, true, true, true, true, true, true, true, true, true, false, false, false, false, false] rfl (by rfl) (by rfl) (by kernel_rfl) (by kernel_rfl) (by kernel_rfl) (by rfl) (fun _ _ _ h => h) ?_ hHeld ?_
    rotate_left
    · intro w hSw; go_simp <;> with_reducible rfl
    simp only [Act.put, List.setIfInBounds_toArray, List.set_cons_zero, List.set_cons_succ]
    refine held_two 14 17 (by kernel_rfl) ?_ ?_
    · refine op_call 18 [true, true, true, true, true, true, true, true, true, true, true, true, true, true, true, false, false, false, false] rfl (by rfl) (by rfl) (by rfl) (by go_simp) ((HG3.out _ hHeld).mono ?_)
      rintro e w' ⟨rfl, rfl⟩
      refine ⟨_, rfl, hHeld, fun hHeld => ?_⟩
      simp only [Act.put, List.setIfInBounds_toArray, List.set_cons_zero, List.set_cons_succ]
      refine held_take (v := (.int .i64 (IntKind.i64.wrap m3))) 15 19 [true, true, true, true, true, true, true, true, true, true, true, true, true, true, true, true, false, false, false] rfl (by rfl) (by rfl) (by kernel_rfl) (by kernel_rfl) (by kernel_rfl) (by rfl) (fun _ _ _ h => h) (fun w' h => by go_simp <;> rfl) hHeld ?_
      simp only [Act.put, List.setIfInBounds_toArray, List.set_cons_zero, List.set_cons_succ]
      refine held_take (v := ?_) 16 20 [true, true, true, true, true, true, true, true, true, true, true, true, true, true, true, true, true, false, false] rfl (by rfl) (by rfl) (by kernel_rfl) (by kernel_rfl) (by kernel_rfl) (by rfl) (fun _ _ _ h => h) ?_ hHeld ?_
      rotate_left
      · intro w hSw; go_simp <;> with_reducible rfl
      simp only [Act.put, List.setIfInBounds_toArray, List.set_cons_zero, List.set_cons_succ]
      refine held_one 17 (by kernel_rfl) ?_
      refine op_value (v := .pointer (some ⟨W.heap.size, 0, none⟩)) 3 [true, true, true, true, true, true, true, true, true, true, true, true, true, true, true, true, true, true, false] rfl (by rfl) (by rfl) (by rfl) (by go_simp <;> rfl) (hHeld.alloc hHeld.size (.cells #[.int .i64 0, .int .i64 0, .int .i64 0, .int .i64 0, .int .i64 0, .int .i64 0, .int .i64 0, .int .i64 0, .int .i64 0, .int .i64 0, .int .i64 0, .int .i64 0, .int .i64 0] 27)) fun hHeld => ?_
      simp only [Act.put, List.setIfInBounds_toArray, List.set_cons_zero, List.set_cons_succ]
      refine held_one 18 (by kernel_rfl) ?_
      refine op_skip [true, true, true, true, true, true, true, true, true, true, true, true, true, true, true, true, true, true, true] rfl (by rfl) (by rfl) (by rfl) (run_op_store_new rfl rfl rfl (by kernel_rfl) rfl (by simp [Value.oneCell'])) ((HB1.out.alloc HB1.out.size _)) fun hHeld => ?_
      refine held_done (by kernel_rfl) ?_
      go_wp2_with fail
      go_meet
      exact ⟨by rw [hWz], rfl⟩
    · refine op_value (v := .pointer (some ⟨W.heap.size, 0, none⟩)) 3 [true, true, true, true, true, true, true, true, true, true, true, true, true, true, false, false, false, true, false] rfl (by rfl) (by rfl) (by rfl) (by go_simp <;> rfl) (hHeld.alloc hHeld.size (.cells #[.int .i64 0, .int .i64 0, .int .i64 0, .int .i64 0, .int .i64 0, .int .i64 0, .int .i64 0, .int .i64 0, .int .i64 0, .int .i64 0, .int .i64 0, .int .i64 0, .int .i64 0] 27)) fun hHeld => ?_
      simp only [Act.put, List.setIfInBounds_toArray, List.set_cons_zero, List.set_cons_succ]
      refine held_one 14 (by kernel_rfl) ?_
      refine op_call 18 [true, true, true, true, true, true, true, true, true, true, true, true, true, true, true, false, false, true, false] rfl (by rfl) (by rfl) (by rfl) (by go_simp) ((HG3.out _ hHeld).mono ?_)
      rintro e w' ⟨rfl, rfl⟩
      refine ⟨_, rfl, hHeld, fun hHeld => ?_⟩
      simp only [Act.put, List.setIfInBounds_toArray, List.set_cons_zero, List.set_cons_succ]
      refine held_take (v := (.int .i64 (IntKind.i64.wrap m3))) 15 19 [true, true, true, true, true, true, true, true, true, true, true, true, true, true, true, true, false, true, false] rfl (by rfl) (by rfl) (by kernel_rfl) (by kernel_rfl) (by kernel_rfl) (by rfl) (fun _ _ _ h => h) (fun w' h => by go_simp <;> rfl) hHeld ?_
      simp only [Act.put, List.setIfInBounds_toArray, List.set_cons_zero, List.set_cons_succ]
      refine held_take (v := ?_) 16 20 [true, true, true, true, true, true, true, true, true, true, true, true, true, true, true, true, true, true, false] rfl (by rfl) (by rfl) (by kernel_rfl) (by kernel_rfl) (by kernel_rfl) (by rfl) (fun _ _ _ h => h) ?_ hHeld ?_
      rotate_left
      · intro w hSw; go_simp <;> with_reducible rfl
      simp only [Act.put, List.setIfInBounds_toArray, List.set_cons_zero, List.set_cons_succ]
      refine held_one 18 (by kernel_rfl) ?_
      refine op_skip [true, true, true, true, true, true, true, true, true, true, true, true, true, true, true, true, true, true, true] rfl (by rfl) (by rfl) (by rfl) (run_op_store_new rfl rfl rfl (by kernel_rfl) rfl (by simp [Value.oneCell'])) ((HB1.out.alloc HB1.out.size _)) fun hHeld => ?_
      refine held_done (by kernel_rfl) ?_
      go_wp2_with fail
      go_meet
      exact ⟨by rw [hWz], rfl⟩
  case rest =>
    obtain ⟨rfl, rfl⟩ := hcut
    have AX : Hid (Blk ((World.drew W).alloc (.cells #[.int .i64 (IntKind.i64.wrap (x0 : Int)), .int .i64 (IntKind.i64.wrap (x1 : Int)), .int .i64 (IntKind.i64.wrap (x2 : Int)), .int .i64 (IntKind.i64.wrap (m3 : Int)), .int .i64 0, .int .i64 0, .int .i64 0, .int .i64 0, .int .i64 0, .int .i64 0, .int .i64 0, .int .i64 0, .int .i64 0] 27)) (World.drew W).heap.size (ints [IntKind.i64.wrap (x0 : Int), IntKind.i64.wrap (x1 : Int), IntKind.i64.wrap (x2 : Int), IntKind.i64.wrap (m3 : Int), 0, 0, 0, 0, 0, 0, 0, 0, 0]) 27) := Lib.hid (Blk.new (World.drew W) #[.int .i64 (IntKind.i64.wrap (x0 : Int)), .int .i64 (IntKind.i64.wrap (x1 : Int)), .int .i64 (IntKind.i64.wrap (x2 : Int)), .int .i64 (IntKind.i64.wrap (m3 : Int)), .int .i64 0, .int .i64 0, .int .i64 0, .int .i64 0, .int .i64 0, .int .i64 0, .int .i64 0, .int .i64 0, .int .i64 0] 27)
    have hgx : (World.drew W).heap.size = w.heap.size + 1 := hWz
    rw [hgx] at AX
    have AZ : Hid (Blk ((World.drew W).alloc (.cells #[.int .i64 (IntKind.i64.wrap (x0 : Int)), .int .i64 (IntKind.i64.wrap (x1 : Int)), .int .i64 (IntKind.i64.wrap (x2 : Int)), .int .i64 (IntKind.i64.wrap (m3 : Int)), .int .i64 0, .int .i64 0, .int .i64 0, .int .i64 0, .int .i64 0, .int .i64 0, .int .i64 0, .int .i64 0, .int .i64 0] 27)) w.heap.size (ints [0, 0, 0, 0, 0, 0, 0, 0, 0, 0, 0, 0, 0]) 27) := Lib.hid (BW.out.drew.alloc _)
    have HBX : Hid (Below w.heap.size w ((World.drew W).alloc (.cells #[.int .i64 (IntKind.i64.wrap (x0 : Int)), .int .i64 (IntKind.i64.wrap (x1 : Int)), .int .i64 (IntKind.i64.wrap (x2 : Int)), .int .i64 (IntKind.i64.wrap (m3 : Int)), .int .i64 0, .int .i64 0, .int .i64 0, .int .i64 0, .int .i64 0, .int .i64 0, .int .i64 0, .int .i64 0, .int .i64 0] 27))) := Lib.hid (HB1.out.alloc HB1.out.size _)
    generalize (World.drew W).alloc (.cells #[.int .i64 (IntKind.i64.wrap (x0 : Int)), .int .i64 (IntKind.i64.wrap (x1 : Int)), .int .i64 (IntKind.i64.wrap (x2 : Int)), .int .i64 (IntKind.i64.wrap (m3 : Int)), .int .i64 0, .int .i64 0, .int .i64 0, .int .i64 0, .int .i64 0, .int .i64 0, .int .i64 0, .int .i64 0, .int .i64 0] 27) = y1 at *
    clear hgx hWz BW HB1 HL0 HL1 HL2 HG3
    go_upto_region 2 with fail
    go_cut [] (fun wx => Hid (Blk wx (w.heap.size + 1) (ints [IntKind.i64.wrap (x0 : Int), IntKind.i64.wrap (x1 : Int), IntKind.i64.wrap (x2 : Int), IntKind.i64.wrap (m3 : Int), 0, 0, 0, IntKind.i64.wrap (x7 : Int), IntKind.i64.wrap (x8 : Int), IntKind.i64.wrap (x9 : Int), IntKind.i64.wrap (m10 : Int), IntKind.i64.wrap (x18 : Int), IntKind.i64.wrap (m19 : Int)]) 27) ∧ Hid (Blk wx w.heap.size (ints [0, 0, 0, 0, 0, 0, 0, 0, 0, 0, 0, 0, 0]) 27) ∧ Hid (Below w.heap.size w wx))
    case first =>
      refine held_begin (fun w' => Below w.heap.size w w') 28 [false, false, false, false, false, false, false, false, false, false, false, false, false, false, false, false, false, false, false, false, false, false, false, false, false, false, false, false] (by kernel_rfl) rfl (by rfl) ?_
      have hHeld : Below w.heap.size w y1.drew := HBX.out.drew
      refine held_take (v := ?_) 0 21 [true, false, false, false, false, false, false, false, false, false, false, false, false, false, false, false, false, false, false, false, false, false, false, false, false, false, false, false] rfl (by rfl) (by rfl) (by kernel_rfl) (by kernel_rfl) (by kernel_rfl) (by rfl) (fun _ _ _ h => h) ?_ hHeld ?_
      rotate_left
      · intro w hSw; go_simp <;> with_reducible rfl
      simp only [Act.put, List.setIfInBounds_toArray, List.set_cons_zero, List.set_cons_succ]
      refine held_take (v := ?_) 1 22 [true, true, false, false, false, false, false, false, false, false, false, false, false, false, false, false, false, false, false, false, false, false, false, false, false, false, false, false] rfl (by rfl) (by rfl) (by kernel_rfl) (by kernel_rfl) (by kernel_rfl) (by rfl) (fun _ _ _ h => h) ?_ hHeld ?_
      rotate_left
      · intro w hSw; go_simp <;> with_reducible rfl
      simp only [Act.put, List.setIfInBounds_toArray, List.set_cons_zero, List.set_cons_succ]
      refine held_take (v := .int .u8 x7) 2 23 [true, true, true, false, false, false, false, false, false, false, false, false, false, false, false, false, false, false, false, false, false, false, false, false, false, false, false, false] rfl (by rfl) (by rfl) (by kernel_rfl) (by kernel_rfl) (by kernel_rfl) (by rfl) (fun _ _ _ h => h) (fun w' h => by have k := HL7.out w' h; go_simp) hHeld ?_
      simp only [Act.put, List.setIfInBounds_toArray, List.set_cons_zero, List.set_cons_succ]
      refine held_take (v := ?_) 3 24 [true, true, true, true, false, false, false, false, false, false, false, false, false, false, false, false, false, false, false, false, false, false, false, false, false, false, false, false] rfl (by rfl) (by rfl) (by kernel_rfl) (by kernel_rfl) (by kernel_rfl) (by rfl) (fun _ _ _ h => h) ?_ hHeld ?_
      rotate_left
      · intro w hSw; go_simp <;> with_reducible rfl
      simp only [Act.put, List.setIfInBounds_toArray, List.set_cons_zero, List.set_cons_succ]
      refine held_take (v := ?_) 4 25 [true, true, true, true, true, false, false, false, false, false, false, false, false, false, false, false, false, false, false, false, false, false, false, false, false, false, false, false] rfl (by rfl) (by rfl) (by kernel_rfl) (by kernel_rfl) (by kernel_rfl) (by rfl) (fun _ _ _ h => h) ?_ hHeld ?_
      rotate_left
      · intro w hSw; go_simp <;> with_reducible rfl
      simp only [Act.put, List.setIfInBounds_toArray, List.set_cons_zero, List.set_cons_succ]
      refine held_take (v := ?_) 5 26 [true, true, true, true, true, true, false, false, false, false, false, false, false, false, false, false, false, false, false, false, false, false, false, false, false, false, false, false] rfl (by rfl) (by rfl) (by kernel_rfl) (by kernel_rfl) (by kernel_rfl) (by rfl) (fun _ _ _ h => h) ?_ hHeld ?_
      rotate_left
      · intro w hSw; go_simp <;> with_reducible rfl
      simp only [Act.put, List.setIfInBounds_toArray, List.set_cons_zero, List.set_cons_succ]
      refine held_take (v := .int .u8 x8) 6 27 [true, true, true, true, true, true, true, false, false, false, false, false, false, false, false, false, false, false, false, false, false, false, false, false, false, false, false, false] rfl (by rfl) (by rfl) (by kernel_rfl) (by kernel_rfl) (by kernel_rfl) (by rfl) (fun _ _ _ h => h) (fun w' h => by have k := HL8.out w' h; go_simp) hHeld ?_
      simp only [Act.put, List.setIfInBounds_toArray, List.set_cons_zero, List.set_cons_succ]
      refine held_take (v := ?_) 7 28 [true, true, true, true, true, true, true, true, false, false, false, false, false, false, false, false, false, false, false, false, false, false, false, false, false, false, false, false] rfl (by rfl) (by rfl) (by kernel_rfl) (by kernel_rfl) (by kernel_rfl) (by rfl) (fun _ _ _ h => h) ?_ hHeld ?_
      rotate_left
      · intro w hSw; go_simp <;> with_reducible rfl
      simp only [Act.put, List.setIfInBounds_toArray, List.set_cons_zero, List.set_cons_succ]
      refine held_take (v := ?_) 8 29 [true, true, true, true, true, true, true, true, true, false, false, false, false, false, false, false, false, false, false, false, false, false, false, false, false, false, false, false] rfl (by rfl) (by rfl) (by kernel_rfl) (by kernel_rfl) (by kernel_rfl) (by rfl) (fun _ _ _ h => h) ?_ hHeld ?_
      rotate_left
      · intro w hSw; go_simp <;> with_reducible rfl
      simp only [Act.put, List.setIfInBounds_toArray, List.set_cons_zero, List.set_cons_succ]
      refine held_take (v := ?_) 9 30 [true, true, true, true, true, true, true, true, true, true, false, false, false, false, false, false, false, false, false, false, false, false, false, false, false, false, false, false] rfl (by rfl) (by rfl) (by kernel_rfl) (by kernel_rfl) (by kernel_rfl) (by rfl) (fun _ _ _ h => h) ?_ hHeld ?_
      rotate_left
      · intro w hSw; go_simp <;> with_reducible rfl
      simp only [Act.put, List.setIfInBounds_toArray, List.set_cons_zero, List.set_cons_succ]
      refine held_take (v := .int .u8 x9) 10 31 [true, true, true, true, true, true, true, true, true, true, true, false, false, false, false, false, false, false, false, false, false, false, false, false, false, false, false, false] rfl (by rfl) (by rfl) (by kernel_rfl) (by kernel_rfl) (by kernel_rfl) (by rfl) (fun _ _ _ h => h) (fun w' h => by have k := HL9.out w' h; go_simp) hHeld ?_
      simp only [Act.put, List.setIfInBounds_toArray, List.set_cons_zero, List.set_cons_succ]
      refine held_take (v := ?_) 11 32 [true, true, true, true, true, true, true, true, true, true, true, true, false, false, false, false, false, false, false, false, false, false, false, false, false, false, false, false] rfl (by rfl) (by rfl) (by kernel_rfl) (by kernel_rfl) (by kernel_rfl) (by rfl) (fun _ _ _ h => h) ?_ hHeld ?_
      rotate_left
      · intro w hSw; go_simp <;> with_reducible rfl
      simp only [Act.put, List.setIfInBounds_toArray, List.set_cons_zero, List.set_cons_succ]
      refine held_take (v := ?_) 12 33 [true, true, true, true, true, true, true, true, true, true, true, true, true, false, false, false, false, false, false, false, false, false, false, false, false, false, false, false] rfl (by rfl) (by rfl) (by kernel_rfl) (by kernel_rfl) (by kernel_rfl) (by rfl) (fun _ _ _ h => h) ?_ hHeld ?_
      rotate_left
      · intro w hSw; go_simp <;> with_reducible rfl
      simp only [Act.put, List.setIfInBounds_toArray, List.set_cons_zero, List.set_cons_succ]
      refine held_take (v := ?_) 13 34 [true, true, true, true, true, true, true, true, true, true, true, true, true, true, false, false, false, false, false, false, false, false, false, false, false, false, false, false] rfl (by rfl) (by rfl) (by kernel_rfl) (by kernel_rfl) (by kernel_rfl) (by rfl) (fun _ _ _ h => h) ?_ hHeld ?_
      rotate_left
      · intro w hSw; go_simp <;> with_reducible rfl
      simp only [Act.put, List.setIfInBounds_toArray, List.set_cons_zero, List.set_cons_succ]
      refine held_take (v := ?_) 16 37 [true, true, true, true, true, true, true, true, true, true, true, true, true, true, false, false, true, false, false, false, false, false, false, false, false, false, false, false] rfl (by rfl) (by rfl) (by kernel_rfl) (by kernel_rfl) (by kernel_rfl) (by rfl) (fun _ _ _ h => h) ?_ hHeld ?_
      rotate_left
      · intro w hSw; go_simp <;> with_reducible rfl
      simp only [Act.put, List.setIfInBounds_toArray, List.set_cons_zero, List.set_cons_succ]
      refine held_take (v := ?_) 17 38 [true, true, true, true, true, true, true, true, true, true, true, true, true, true, false, false, true, true, false, false, false, false, false, false, false, false, false, false] rfl (by rfl) (by rfl) (by kernel_rfl) (by kernel_rfl) (by kernel_rfl) (by rfl) (fun _ _ _ h => h) ?_ hHeld ?_
      rotate_left
      · intro w hSw; go_simp <;> with_reducible rfl
      simp only [Act.put, List.setIfInBounds_toArray, List.set_cons_zero, List.set_cons_succ]
      refine held_take (v := .int .u8 x18) 18 39 [true, true, true, true, true, true, true, true, true, true, true, true, true, true, false, false, true, true, true, false, false, false, false, false, false, false, false, false] rfl (by rfl) (by rfl) (by kernel_rfl) (by kernel_rfl) (by kernel_rfl) (by rfl) (fun _ _ _ h => h) (fun w' h => by have k := HL18.out w' h; go_simp) hHeld ?_
      simp only [Act.put, List.setIfInBounds_toArray, List.set_cons_zero, List.set_cons_succ]
      refine held_take (v := ?_) 19 40 [true, true, true, true, true, true, true, true, true, true, true, true, true, true, false, false, true, true, true, true, false, false, false, false, false, false, false, false] rfl (by rfl) (by rfl) (by kernel_rfl) (by kernel_rfl) (by kernel_rfl) (by rfl) (fun _ _ _ h => h) ?_ hHeld ?_
      rotate_left
      · intro w hSw; go_simp <;> with_reducible rfl
      simp only [Act.put, List.setIfInBounds_toArray, List.set_cons_zero, List.set_cons_succ]
      refine held_take (v := ?_) 20 41 [true, true, true, true, true, true, true, true, true, true, true, true, true, true, false, false, true, true, true, true, true, false, false, false, false, false, false, false] rfl (by rfl) (by rfl) (by kernel_rfl) (by kernel_rfl) (by kernel_rfl) (by rfl) (fun _ _ _ h => h) ?_ hHeld ?_
      rotate_left
      · intro w hSw; go_simp <;> with_reducible rfl
      simp only [Act.put, List.setIfInBounds_toArray, List.set_cons_zero, List.set_cons_succ]
      refine held_take (v := ?_) 21 42 [true, true, true, true, true, true, true, true, true, true, true, true, true, true, false, false, true, true, true, true, true, true, false, false, false, false, false, false] rfl (by rfl) (by rfl) (by kernel_rfl) (by kernel_rfl) (by kernel_rfl) (by rfl) (fun _ _ _ h => h) ?_ hHeld ?_
      rotate_left
      · intro w hSw; go_simp <;> with_reducible rfl
      simp only [Act.put, List.setIfInBounds_toArray, List.set_cons_zero, List.set_cons_succ]
      refine held_one 14 (by kernel_rfl) ?_
      refine op_call 35 [true, true, true, true, true, true, true, true, true, true, true, true, true, true, true, false, true, true, true, true, true, true, false, false, false, false, false, false] rfl (by rfl) (by rfl) (by rfl) (by go_simp) ((HG10.out _ hHeld).mono ?_)
      rintro e w' ⟨rfl, rfl⟩
      refine ⟨_, rfl, hHeld, fun hHeld => ?_⟩
      simp only [Act.put, List.setIfInBounds_toArray, List.set_cons_zero, List.set_cons_succ]
      refine held_take (v := (.int .i64 (IntKind.i64.wrap m10))) 15 36 [true, true, true, true, true, true, true, true, true, true, true, true, true, true, true, true, true, true, true, true, true, true, false, false, false, false, false, false] rfl (by rfl) (by rfl) (by kernel_rfl) (by kernel_rfl) (by kernel_rfl) (by rfl) (fun _ _ _ h => h) (fun w' h => by go_simp <;> rfl) hHeld ?_
      simp only [Act.put, List.setIfInBounds_toArray, List.set_cons_zero, List.set_cons_succ]
      refine held_one 22 (by kernel_rfl) ?_
      refine op_call 43 [true, true, true, true, true, true, true, true, true, true, true, true, true, true, true, true, true, true, true, true, true, true, true, false, false, false, false, false] rfl (by rfl) (by rfl) (by rfl) (by go_simp) ((HG19.out _ hHeld).mono ?_)
      rintro e w' ⟨rfl, rfl⟩
      refine ⟨_, rfl, hHeld, fun hHeld => ?_⟩
      simp only [Act.put, List.setIfInBounds_toArray, List.set_cons_zero, List.set_cons_succ]
      refine held_take (v := (.int .i64 (IntKind.i64.wrap m19))) 23 44 [true, true, true, true, true, true, true, true, true, true, true, true, true, true, true, true, true, true, true, true, true, true, true, true, false, false, false, false] rfl (by rfl) (by rfl) (by kernel_rfl) (by kernel_rfl) (by kernel_rfl) (by rfl) (fun _ _ _ h => h) (fun w' h => by go_simp <;> rfl) hHeld ?_
      simp only [Act.put, List.setIfInBounds_toArray, List.set_cons_zero, List.set_cons_succ]
      refine held_take (v := ?_) 24 45 [true, true, true, true, true, true, true, true, true, true, true, true, true, true, true, true, true, true, true, true, true, true, true, true, true, false, false, false] rfl (by rfl) (by rfl) (by kernel_rfl) (by kernel_rfl) (by kernel_rfl) (by rfl) (fun _ _ _ h => h) ?_ hHeld ?_
      rotate_left
      · intro w hSw; go_simp <;> with_reducible rfl
      simp only [Act.put, List.setIfInBounds_toArray, List.set_cons_zero, List.set_cons_succ]
      refine held_take (v := ?_) 25 46 [true, true, true, true, true, true, true, true, true, true, true, true, true, true, true, true, true, true, true, true, true, true, true, true, true, true, false, false] rfl (by rfl) (by rfl) (by kernel_rfl) (by kernel_rfl) (by kernel_rfl) (by rfl) (fun _ _ _ h => h) ?_ hHeld ?_
      rotate_left
      · intro w hSw; go_simp <;> with_reducible rfl
      simp only [Act.put, List.setIfInBounds_toArray, List.set_cons_zero, List.set_cons_succ]
      refine held_take (v := ?_) 26 47 [true, true, true, true, true, true, true, true, true, true, true, true, true, true, true, true, true, true, true, true, true, true, true, true, true, true, true, false] rfl (by rfl) (by rfl) (by kernel_rfl) (by kernel_rfl) (by kernel_rfl) (by rfl) (fun _ _ _ h => h) ?_ hHeld ?_
      rotate_left
      · intro w hSw; go_simp <;> with_reducible rfl
      simp only [Act.put, List.setIfInBounds_toArray, List.set_cons_zero, List.set_cons_succ]
      refine held_one 27 (by kernel_rfl) ?_
      refine op_skip [true, true, true, true, true, true, true, true, true, true, true, true, true, true, true, true, true, true, true, true, true, true, true, true, true, true, true, true] rfl (by rfl) (by rfl) (by rfl) (st_part_runS (cs := [.int .i64 0, .int .i64 0, .int .i64 0, .int .i64 (IntKind.i64.wrap (x7 : Int)), .int .i64 (IntKind.i64.wrap (x8 : Int)), .int .i64 (IntKind.i64.wrap (x9 : Int)), .int .i64 (IntKind.i64.wrap (m10 : Int)), .int .i64 (IntKind.i64.wrap (x18 : Int)), .int .i64 (IntKind.i64.wrap (m19 : Int))]) rfl rfl rfl AX.out.drew (by show 4 + 9 ≤ 13; decide) rowC.2 (by simp [Value.oneCell'])) (below_setsS (Nat.le_succ _) _ _ _ hHeld) fun hHeld => ?_
      refine held_done (by kernel_rfl) ?_
      go_wp2_with fail
      go_meet
      have AY : Blk _ _ (ints [IntKind.i64.wrap (x0 : Int), IntKind.i64.wrap (x1 : Int), IntKind.i64.wrap (x2 : Int), IntKind.i64.wrap (m3 : Int), 0, 0, 0, IntKind.i64.wrap (x7 : Int), IntKind.i64.wrap (x8 : Int), IntKind.i64.wrap (x9 : Int), IntKind.i64.wrap (m10 : Int), IntKind.i64.wrap (x18 : Int), IntKind.i64.wrap (m19 : Int)]) _ := Blk.setAt [.int .i64 0, .int .i64 0, .int .i64 0, .int .i64 (IntKind.i64.wrap (x7 : Int)), .int .i64 (IntKind.i64.wrap (x8 : Int)), .int .i64 (IntKind.i64.wrap (x9 : Int)), .int .i64 (IntKind.i64.wrap (m10 : Int)), .int .i64 (IntKind.i64.wrap (x18 : Int)), .int .i64 (IntKind.i64.wrap (m19 : Int))] 4 _ _ AX.out.drew (by show 4 + 9 ≤ 13; decide)
      exact ⟨Lib.hid AY, Lib.hid (Blk.sets_otherS (by omega) _ _ _ AZ.out.drew), Lib.hid hHeld⟩
    case rest =>
      obtain ⟨HF, HZ, HBF⟩ := hcut
      clear AX AZ HBX
      generalize hY : [IntKind.i64.wrap (x0 : Int), IntKind.i64.wrap (x1 : Int), IntKind.i64.wrap (x2 : Int), IntKind.i64.wrap (m3 : Int), 0, 0, 0, IntKind.i64.wrap (x7 : Int), IntKind.i64.wrap (x8 : Int), IntKind.i64.wrap (x9 : Int), IntKind.i64.wrap (m10 : Int), IntKind.i64.wrap (x18 : Int), IntKind.i64.wrap (m19 : Int)] = Y at *
      have LY : Hid ((ints Y).length = 13) := Lib.hid (by rw [← hY]; simp [ints_len])
      clear hY
      have TY : RowT 27 (ints Y).length := by rw [LY.out]; exact rowS
      have OY : Hid (∀ u ∈ ints Y, u.oneCell' = true) := Lib.hid fun u hu => ints_one hu
      have HLF : Hid (((ints [0, 0, 0, 0, 0, 0, 0, 0, 0, 0, 0, 0, 0]) : List Value).length = (ints Y).length) := Lib.hid (by rw [LY.out]; rfl)
      have HCF := Lib.hid (HZ.out.setAll (ints Y) HLF.out.symm)
      have HBG := Lib.hid (below_setsS (Nat.le_refl w.heap.size) (ints Y) 0 _ HBF.out)
      have ry : wc.rangeAt (w.heap.size + 1) 0 (ints Y) := HF.out.range 0 _ (by simp)
      go_wp2_with (first
        | ((with_reducible refine ld_row ry TY ?_ ?_ ?_); (· rfl); (· rfl); (simp only [Act.put, List.setIfInBounds_toArray, List.set_cons_zero, List.set_cons_succ]))
        | ((with_reducible refine st_row (cs := ints Y) HZ.out HLF.out TY OY.out ?_ ?_ ?_); (· rfl); (· rfl); (simp only [Act.put, List.setIfInBounds_toArray, List.set_cons_zero, List.set_cons_succ]); (generalize wc.setCells w.heap.size 0 (ints Y) = yf at *)))
      refine ret_cell (p := 2) (cs := ints Y) rfl rfl HCF.out Tryd.underlying27 rfl TY.2 rfl ?_
      exact ⟨by rw [HWR.out], HBG.out⟩
end Go.Proofs.YteijahcbfncebaaDoor
