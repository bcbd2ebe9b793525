/- EntP: several texts in one. -/
import Derived.Test.YtalbkpahphndiaaEnt12
import Derived.Test.YtalbkpahphndiaaRow
import Derived.Test.YtalbkpahphndiaaOps
import Derived.RegionTactic
import Derived.BigRegion
import Derived.ChangeAlike
import Derived.Test.YtalbkpahphndiaaEnt6
import Derived.Test.YtalbkpahphndiaaChg7
import Derived.Test.YtalbkpahphndiaaHeld
import Derived.Deep.DeepCutAuto
import Derived.StillTailTactics
import Derived.Test.YtalbkpahphndiaaEff2
import Derived.Test.YtalbkpahphndiaaChg6
import Derived.Test.YtalbkpahphndiaaRef02
import Derived.Test.YtalbkpahphndiaaApp
import Derived.Test.YtalbkpahphndiaaEnt4
import Derived.Test.YtalbkpahphndiaaMath20
import Derived.Test.YtalbkpahphndiaaChg8
import Derived.Test.YtalbkpahphndiaaLaw09
import Derived.Test.YtalbkpahphndiaaChg4
import Derived.Test.YtalbkpahphndiaaMath9
import Derived.Test.YtalbkpahphndiaaChgEq
import Derived.Test.YtalbkpahphndiaaLaw02
import Derived.Test.YtalbkpahphndiaaRd
import Derived.Test.YtalbkpahphndiaaOct
namespace Go.Proofs.Ytalbkpahphndiaa
set_option linter.unusedVariables false
set_option linter.unusedSimpArgs false
open Go.ChangeShapes Go.WideShapes Go.ChangeAt Go.RowKit
set_option maxRecDepth 100000 in
set_option maxHeartbeats 8000000 in
theorem alive20 (w : World) : Calls Try.prog 20 #[] w fun e w' => e = .returned (.bool true) ∧ Below w.heap.size w w' := by
  have CC := Lib.hid (fun w => show Calls Try.prog 22 #[.agg (enc12 1 1 0 0 0 0 1 5 false false 0 0).toArray] w fun e w' => e = .returned (.bool true) ∧ Below w.heap.size w w' from by have := ecent_any 1 1 0 0 0 0 1 5 false false 0 0 w; rwa [show mayEnt 1 1 0 0 0 1 5 false false 0 0 = true from by decide] at this)
  have CO := Lib.hid (fun w => show Calls Try.prog 24 #[.agg (enc12 1 1 0 0 0 0 1 5 false false 0 0).toArray] w fun e w' => e = .returned (.bool true) ∧ Below w.heap.size w w' from open_any 1 1 0 0 0 0 1 5 false false 0 0 w)
  have CU := Lib.hid (fun w => show Calls Try.prog 26 #[.agg (enc12 1 1 0 0 0 0 1 5 false false 0 0).toArray] w fun e w' => e = .returned (.bool false) ∧ Below w.heap.size w w' from undoes_any 1 1 0 0 0 0 1 5 false false 0 0 w)
  have R7 := Lib.hid (fun w => show Calls Try.prog 28 #[.agg (enc12 1 1 0 0 0 0 1 5 false false 0 0).toArray, .agg (ints [0, 0, 2, 3, 9]).toArray, .int .i64 7] w fun e w' => e = .returned (.bool false) ∧ Below w.heap.size w w' from by have := nready_any 1 1 0 0 0 0 1 5 false false 0 0 0 0 2 3 9 7 w; rwa [show readyE 1 5 false false 0 0 2 3 9 7 = false from by decide] at this)
  have R8 := Lib.hid (fun w => show Calls Try.prog 28 #[.agg (enc12 1 1 0 0 0 0 1 5 false false 0 0).toArray, .agg (ints [0, 0, 2, 3, 9]).toArray, .int .i64 8] w fun e w' => e = .returned (.bool true) ∧ Below w.heap.size w w' from by have := nready_any 1 1 0 0 0 0 1 5 false false 0 0 0 0 2 3 9 8 w; rwa [show readyE 1 5 false false 0 0 2 3 9 8 = true from by decide] at this)
  have TR := Lib.hid (fun w => show Calls Try.prog 32 #[.agg (enc12 1 1 0 0 0 0 1 5 false false 0 0).toArray, .int .i64 8] w fun e w' => e = .returned (.agg #[.int .i64 1, .int .i64 1, .int .i64 0, .int .i64 0, .int .i64 0, .int .i64 0, .int .i64 2, .int .i64 8, .bool false, .bool false, .int .i64 0, .int .i64 0]) ∧ Below w.heap.size w w' from by have := ntry_any 1 1 0 0 0 0 1 5 false false 0 0 8 w; rwa [show (tryE 8 1 1 0 0 0 0 1 5 false false 0 0).toArray = #[.int .i64 1, .int .i64 1, .int .i64 0, .int .i64 0, .int .i64 0, .int .i64 0, .int .i64 2, .int .i64 8, .bool false, .bool false, .int .i64 0, .int .i64 0] from by kernel_rfl] at this)
  have WD := Lib.hid (fun w => show Calls Try.prog 34 #[.agg (enc12 1 1 0 0 0 0 1 5 false false 0 0).toArray, .agg (ints [0, 0, 2, 3, 9]).toArray, .int .i64 9] w fun e w' => e = .returned (.string ⟨#[115, 101, 110, 116]⟩) ∧ Below w.heap.size w w' from by have := nword_any 1 1 0 0 0 0 1 5 false false 0 0 0 0 2 3 9 9 w; rwa [show wordE (deadE 1 5 false false 0 0 2 3 9 9) false false = .string ⟨#[115, 101, 110, 116]⟩ from by kernel_rfl] at this)
  have DD := Lib.hid (fun w => show Calls Try.prog 30 #[.agg #[.int .i64 1, .int .i64 1, .int .i64 0, .int .i64 0, .int .i64 0, .int .i64 0, .int .i64 2, .int .i64 8, .bool false, .bool false, .int .i64 0, .int .i64 0], .agg (ints [0, 0, 2, 3, 9]).toArray, .int .i64 14] w fun e w' => e = .returned (.bool true) ∧ Below w.heap.size w w' from by have := ndead_any 1 1 0 0 0 0 2 8 false false 0 0 0 0 2 3 9 14 w; rwa [show deadE 2 8 false false 0 0 2 3 9 14 = true from by decide] at this)
  have CP := Lib.hid (fun w => nput_yes 1 1 0 0 0 0 1 5 false false 0 0 w (by decide))
  have EQ := Lib.hid (fun w => show (binOp .eql 49 (.agg (enc12 1 1 0 0 0 0 1 5 false false 0 0).toArray) (.agg (enc12 1 1 0 0 0 0 1 5 false false 0 0).toArray)).run Try.prog w = .ok (.bool true) w from by rw [en_eq (ok12 (by decide)) (ok12 (by decide)), sameB_refl])
  have HV := enc12_ok 1 1 0 0 0 0 1 5 false false 0 0
  have HI5 : Hid ((Try.prog.info? 51).map (·.size) = some (ints [0, 0, 2, 3, 9]).length) := Lib.hid cf_size
  have HI12 : Hid ((Try.prog.info? 49).map (·.size) = some (enc12 1 1 0 0 0 0 1 5 false false 0 0).length) := Lib.hid en_size
  have HA1 := Lib.hid (Blk.new w (ints [0, 0, 2, 3, 9]).toArray 51)
  have HB1 := Lib.hid ((Below.refl w.heap.size w).alloc (Nat.le_refl _) (.cells (ints [0, 0, 2, 3, 9]).toArray 51))
  go_enter Try.func20, Try.ntmps20
  go_upto_region 2 with (first
    | ((with_reducible apply cf_store_new (x := [0, 0, 2, 3, 9])); (· rfl); (· first | rfl | simp); (· rfl); (· rfl); (· exact Lib.hid rfl); (simp only [Act.put, List.setIfInBounds_toArray, List.set_cons_zero, List.set_cons_succ])))
  generalize w.alloc (.cells (ints [0, 0, 2, 3, 9]).toArray 51) = w1 at *
  have HA2 := Lib.hid (Blk.new w1 (enc12 1 1 0 0 0 0 1 5 false false 0 0).toArray 49)
  have HC2 := Lib.hid (HA1.out.alloc (.cells (enc12 1 1 0 0 0 0 1 5 false false 0 0).toArray 49))
  have HB2 := Lib.hid (HB1.out.alloc HB1.out.size (.cells (enc12 1 1 0 0 0 0 1 5 false false 0 0).toArray 49))
  go_upto_region 3 with (first
    | ((with_reducible apply en_store_new (x := enc12 1 1 0 0 0 0 1 5 false false 0 0)); (· rfl); (· first | rfl | simp); (· rfl); (· rfl); (· exact HV); (simp only [Act.put, List.setIfInBounds_toArray, List.set_cons_zero, List.set_cons_succ])))
  generalize hg2 : w1.heap.size = g2 at *
  generalize w1.alloc (.cells (enc12 1 1 0 0 0 0 1 5 false false 0 0).toArray 49) = w2 at *
  rw [List.toList_toArray] at HA1 HA2
  clear HA1 HB1
  have rx : w2.rangeAt g2 0 (enc12 1 1 0 0 0 0 1 5 false false 0 0) := HA2.out.range 0 _ (by simp)
  go_wp2_with (first
    | ((with_reducible apply en_load); (· rfl); (· (first | assumption)); (· assumption); (simp only [Act.put, List.setIfInBounds_toArray, List.set_cons_zero, List.set_cons_succ])))
  refine (CP.out _).mono ?_
  rintro e w3 ⟨a', c', rfl, hs, ⟨hc1, hc2⟩, hb⟩
  have G := Lib.hid (nget_enc (show mayEnt 1 1 0 0 0 1 5 false false 0 0 = true from by decide) (show fits 0 = true from by decide) a' c' w3 hs hc1 hc2)
  have HB3 := Lib.hid (HB2.out.trans (hb.mono HB2.out.size))
  have HA3 := Lib.hid (HA2.out.keep hb HA2.out.lt)
  have HC3 := Lib.hid (HC2.out.keep hb HC2.out.lt)
  clear hs hc1 hc2 hb HB2 HA2 HC2 rx CP
  go_wp2_with fail
  refine G.out.mono ?_
  rintro e w4 ⟨rfl, hb⟩
  have HB4 := Lib.hid (HB3.out.trans (hb.mono HB3.out.size))
  have HA4 := Lib.hid (HA3.out.keep hb HA3.out.lt)
  have HC4 := Lib.hid (HC3.out.keep hb HC3.out.lt)
  clear hb HB3 HA3 HC3 G
  have HD5 := Lib.hid (Blk.new w4 (enc12 1 1 0 0 0 0 1 5 false false 0 0).toArray 49)
  have HA5 := Lib.hid (HA4.out.alloc (.cells (enc12 1 1 0 0 0 0 1 5 false false 0 0).toArray 49))
  have HC5 := Lib.hid (HC4.out.alloc (.cells (enc12 1 1 0 0 0 0 1 5 false false 0 0).toArray 49))
  have HB5 := Lib.hid (HB4.out.alloc HB4.out.size (.cells (enc12 1 1 0 0 0 0 1 5 false false 0 0).toArray 49))
  rw [List.toList_toArray] at HD5
  clear HA4 HB4 HC4
  go_upto_region 4 with (first
    | ((with_reducible apply en_store_new (x := enc12 1 1 0 0 0 0 1 5 false false 0 0)); (· rfl); (· first | rfl | simp); (· rfl); (· rfl); (· exact HV); (simp only [Act.put, List.setIfInBounds_toArray, List.set_cons_zero, List.set_cons_succ])))
  generalize hg3 : w4.heap.size = g3 at *
  generalize w4.alloc (.cells (enc12 1 1 0 0 0 0 1 5 false false 0 0).toArray 49) = w5 at *
  have hl1 := Lib.hid HC5.out.lt
  have hl2 := Lib.hid HA5.out.lt
  have hl3 := Lib.hid HD5.out.lt
  clear hg2 hg3
  refine q_begin (by kernel_rfl) (by kernel_rfl) ?_
  repeat (first
    | go_big_quiet_skip
    | ((with_reducible apply q_row); (· rfl); (· rfl); (· exact Try.underlying49); (· rfl); (· exact HA5.out); (· exact hl2.out); (· exact HI12.out); (simp only [Act.put, List.setIfInBounds_toArray, List.set_cons_zero, List.set_cons_succ]))
    | ((with_reducible apply q_row); (· rfl); (· rfl); (· exact Try.underlying49); (· rfl); (· exact HD5.out); (· exact hl3.out); (· exact HI12.out); (simp only [Act.put, List.setIfInBounds_toArray, List.set_cons_zero, List.set_cons_succ]))
    | ((with_reducible apply q_row); (· rfl); (· rfl); (· exact Try.underlying51); (· rfl); (· exact HC5.out); (· exact hl1.out); (· exact HI5.out); (simp only [Act.put, List.setIfInBounds_toArray, List.set_cons_zero, List.set_cons_succ]))
    | ((with_reducible apply q_call 22 (.bool true)); (· rfl); (· exact Nat.le_refl _); (· intro w _; exact CC.out w); (· intro w; go_simp); (simp only [Act.put, List.setIfInBounds_toArray, List.set_cons_zero, List.set_cons_succ]))
    | ((with_reducible apply q_call 24 (.bool true)); (· rfl); (· exact Nat.le_refl _); (· intro w _; exact CO.out w); (· intro w; go_simp); (simp only [Act.put, List.setIfInBounds_toArray, List.set_cons_zero, List.set_cons_succ]))
    | ((with_reducible apply q_call 26 (.bool false)); (· rfl); (· exact Nat.le_refl _); (· intro w _; exact CU.out w); (· intro w; go_simp); (simp only [Act.put, List.setIfInBounds_toArray, List.set_cons_zero, List.set_cons_succ]))
    | ((with_reducible apply q_call 28 (.bool false)); (· rfl); (· exact Nat.le_refl _); (· intro w _; exact R7.out w); (· intro w; go_simp); (simp only [Act.put, List.setIfInBounds_toArray, List.set_cons_zero, List.set_cons_succ]))
    | ((with_reducible apply q_call 28 (.bool true)); (· rfl); (· exact Nat.le_refl _); (· intro w _; exact R8.out w); (· intro w; go_simp); (simp only [Act.put, List.setIfInBounds_toArray, List.set_cons_zero, List.set_cons_succ]))
    | ((with_reducible apply q_call 32 (.agg #[.int .i64 1, .int .i64 1, .int .i64 0, .int .i64 0, .int .i64 0, .int .i64 0, .int .i64 2, .int .i64 8, .bool false, .bool false, .int .i64 0, .int .i64 0])); (· rfl); (· exact Nat.le_refl _); (· intro w _; exact TR.out w); (· intro w; go_simp); (simp only [Act.put, List.setIfInBounds_toArray, List.set_cons_zero, List.set_cons_succ]))
    | ((with_reducible apply q_call 34 (.string ⟨#[115, 101, 110, 116]⟩)); (· rfl); (· exact Nat.le_refl _); (· intro w _; exact WD.out w); (· intro w; go_simp); (simp only [Act.put, List.setIfInBounds_toArray, List.set_cons_zero, List.set_cons_succ]))
    | ((with_reducible apply q_call 30 (.bool true)); (· rfl); (· exact Nat.le_refl _); (· intro w _; exact DD.out w); (· intro w; go_simp); (simp only [Act.put, List.setIfInBounds_toArray, List.set_cons_zero, List.set_cons_succ]))
    | ((with_reducible apply q_cmp); (· rfl); (· rfl); (· rfl); (· kernel_rfl); (· intro w; exact EQ.out w); (simp only [Act.put, List.setIfInBounds_toArray, List.set_cons_zero, List.set_cons_succ]))
    | ((with_reducible apply q_field (.int .i64 2)); (· rfl); (· intro w; go_simp <;> rfl); (simp only [Act.put, List.setIfInBounds_toArray, List.set_cons_zero, List.set_cons_succ]))
    | (go_big_quiet_want; go_big_quiet_op; (first | go_big_quiet_on | (apply Exists.intro; refine ⟨fun _ _ => rfl, ?_⟩; go_big_quiet_on))))
  refine q_end ?_
  intro w6 hb
  have HB6 := HB5.out.trans (hb.mono HB5.out.size)
  go_wp2_with fail
  go_ret
  exact ⟨rfl, HB6⟩
theorem ent_of_ok {cs : List Value} (h : OkAll (List.replicate 8 (some IntKind.i64) ++ ([none, none, some IntKind.i64, some IntKind.i64] : List (Option IntKind))) cs) : ∃ o k a n p q s l ak gn b bl, cs = [.int .i64 o, .int .i64 k, .int .i64 a, .int .i64 n, .int .i64 p, .int .i64 q, .int .i64 s, .int .i64 l, .bool ak, .bool gn, .int .i64 b, .int .i64 bl] ∧ ∀ z ∈ [o, k, a, n, p, q, s, l, b, bl], fits z = true := by
  have hl := h.len
  match cs, hl, h with
  | [v0, v1, v2, v3, v4, v5, v6, v7, v8, v9, v10, v11], _, h =>
    obtain ⟨⟨o, rfl, h0⟩, ⟨k, rfl, h1⟩, ⟨a, rfl, h2⟩, ⟨n, rfl, h3⟩, ⟨p, rfl, h4⟩, ⟨q, rfl, h5⟩, ⟨s, rfl, h6⟩, ⟨l, rfl, h7⟩, ⟨ak, rfl⟩, ⟨gn, rfl⟩, ⟨b, rfl, h8⟩, ⟨bl, rfl, h9⟩, _⟩ := h
    refine ⟨o, k, a, n, p, q, s, l, ak, gn, b, bl, rfl, ?_⟩
    intro z hz
    simp only [List.mem_cons, List.not_mem_nil, or_false] at hz
    rcases hz with h | h | h | h | h | h | h | h | h | h <;> rw [h]
    · exact fits_wf h0
    · exact fits_wf h1
    · exact fits_wf h2
    · exact fits_wf h3
    · exact fits_wf h4
    · exact fits_wf h5
    · exact fits_wf h6
    · exact fits_wf h7
    · exact fits_wf h8
    · exact fits_wf h9
theorem sub_atm {w : World} {bb off c i k m : Nat} {bs : List UInt8} (h : Sl w (some ⟨bb, off, none⟩) m 1 (bcells bs)) (hk : i + k ≤ m) (hc : m ≤ c) (hi : i < m) : Sl w (some ⟨bb, off + i, none⟩) k 1 (bcells ((bs.drop i).take k)) := by
  have := h.sub (c := c) hk hc
  unfold restOf at this
  rw [if_neg (by omega)] at this
  simpa [add_plain] using this
set_option maxRecDepth 100000 in
set_option maxHeartbeats 8000000 in
theorem rgete_main (a : Option Addr) (c : Nat) (bs : List UInt8) (w : World) (h : Sl w a 13 1 (bcells bs)) (hc : 13 ≤ c) (hcm : c ≤ 9223372036854775807) (code : Int) (hm : effCode (fld bs 0 1) (fld bs 1 1) (fld bs 10 1) (fld bs 11 2) = code) :
    Calls Try.prog 65 #[.slice a 13 c] w fun e w' => e = .returned (.tuple #[.agg (ints (effOf bs)).toArray, .bool (decide (code = 0))]) ∧ Below w.heap.size w w' := by
  have HO : Hid (effOf bs = if code = 0 then [fld bs 0 1, fld bs 1 1, fld bs 2 8, fld bs 10 1, fld bs 11 2] else [0, 0, 0, 0, 0]) := Lib.hid (by unfold effOf; rw [hm])
  have M : Hid (∀ w, Calls Try.prog 50 #[.agg (ints [fld bs 0 1, fld bs 1 1, fld bs 2 8, fld bs 10 1, fld bs 11 2]).toArray] w fun e w' => e = .returned (.int .i64 code) ∧ Below w.heap.size w w') := Lib.hid (fun w => by have := emay_any (fld bs 0 1) (fld bs 1 1) (fld bs 2 8) (fld bs 10 1) (fld bs 11 2) w; rwa [hm] at this)
  have HWR := Lib.hid (show [fld bs 0 1, fld bs 1 1, fld bs 2 8, fld bs 10 1, fld bs 11 2] = [IntKind.i64.wrap ((bs.getD 0 0).toNat : Int), IntKind.i64.wrap ((bs.getD 1 0).toNat : Int), IntKind.i64.wrap (numOf ((bs.drop 2).take 8) : Int), IntKind.i64.wrap ((bs.getD 10 0).toNat : Int), IntKind.i64.wrap (numOf ((bs.drop 11).take 2) : Int)] by
    have hbl0 : bs.length = 13 := sl_one h
    rw [wrap_oct bs 0 (by omega), wrap_oct bs 1 (by omega), wrap_oct bs 10 (by omega)]
    simp only [i64_wrap64]
    rfl)
  clear hm
  have hbl : bs.length = 13 := sl_one h
  obtain ⟨_, bb, off, rfl, hb, hcell⟩ := h.byte (by omega)
  have HCL := Lib.hid hcell
  have HS := Lib.hid h
  clear hbl hcell h
  go_enter Try.func65, Try.ntmps65
  have HB1 := Lib.hid (((Below.refl w.heap.size w).alloc (Nat.le_refl _) (.cells #[.int .i64 0, .int .i64 0, .int .i64 0, .int .i64 0, .int .i64 0] 47)).drew)
  have BW := Lib.hid (Blk.new w #[.int .i64 0, .int .i64 0, .int .i64 0, .int .i64 0, .int .i64 0] 47)
  go_upto_region 3 with fail
  have hWz : (w.alloc (.cells #[.int .i64 0, .int .i64 0, .int .i64 0, .int .i64 0, .int .i64 0] 47)).heap.size = w.heap.size + 1 := by simp
  generalize (w.alloc (.cells #[.int .i64 0, .int .i64 0, .int .i64 0, .int .i64 0, .int .i64 0] 47)) = W at *
  have HCL2 := Lib.hid (fun i (hi : i < 13) w' (hb' : Below w.heap.size w w') => show w'.cell? ⟨bb, off + i, none⟩ = some (.int .u8 ((bs.getD i 0).toNat : Int)) from (hb'.cell (p := ⟨bb, off + i, none⟩) hb).trans (HCL.out i hi))
  have HL0 := Lib.hid (fun w' (hb' : Below w.heap.size w w') => show w'.cell? ⟨bb, off, none⟩ = some (.int .u8 ((bs.getD 0 0).toNat : Int)) from HCL2.out 0 (by decide) w' hb')
  have HL1 := Lib.hid (HCL2.out 1 (by decide))
  have HL10 := Lib.hid (HCL2.out 10 (by decide))
  have HSL := Lib.hid (fun i k (hk : i + k ≤ 13) (hi : i < 13) w' (hb' : Below w.heap.size w w') => (sub_atm HS.out (i := i) (k := k) hk hc hi).keep hb')
  have HG2 := Lib.hid (fun w' (hb' : Below w.heap.size w w') => rget_any (some ⟨bb, off + 2, none⟩) 8 (c - 2) ((bs.drop 2).take 8) w' (HSL.out 2 8 (by decide) (by decide) w' hb') (by decide))
  have HG11 := Lib.hid (fun w' (hb' : Below w.heap.size w w') => rget_any (some ⟨bb, off + 11, none⟩) 2 (c - 11) ((bs.drop 11).take 2) w' (HSL.out 11 2 (by decide) (by decide) w' hb') (by decide))
  clear HSL
  generalize hm2 : numOf ((bs.drop 2).take 8) = m2 at *
  generalize hm11 : numOf ((bs.drop 11).take 2) = m11 at *
  have HM := Lib.hid (And.intro hm2 hm11)
  clear hm2 hm11
  generalize hx0 : (bs.getD 0 0).toNat = x0 at *
  generalize hx1 : (bs.getD 1 0).toNat = x1 at *
  generalize hx10 : (bs.getD 10 0).toNat = x10 at *
  have HX := Lib.hid (And.intro hx0 (And.intro hx1 hx10))
  clear hx0 hx1 hx10 HCL2 HCL HS
  have hc2 : ¬ c = 2 := by omega
  have hc11 : ¬ c = 11 := by omega
  have d10 : (10 : Int) ≤ c := by omega
  have d13 : (13 : Int) ≤ c := by omega
  go_cut [4] (fun s4 wx => s4 = .pointer (some ⟨w.heap.size + 1, 0, none⟩) ∧ wx = (World.drew W).alloc (.cells #[.int .i64 (IntKind.i64.wrap x0), .int .i64 (IntKind.i64.wrap x1), .int .i64 (IntKind.i64.wrap m2), .int .i64 (IntKind.i64.wrap x10), .int .i64 (IntKind.i64.wrap m11)] 47))
  case first =>
    refine held_begin (fun w' => Below w.heap.size w w') 24 [false, false, false, false, false, false, false, false, false, false, false, false, false, false, false, false, false, false, false, false, false, false, false, false] (by kernel_rfl) rfl (by rfl) ?_
    have hHeld : Below w.heap.size w W.drew := HB1.out
    refine held_take (v := ?_) 0 9 [true, false, false, false, false, false, false, false, false, false, false, false, false, false, false, false, false, false, false, false, false, false, false, false] rfl (by rfl) (by rfl) (by kernel_rfl) (by kernel_rfl) (by kernel_rfl) (by rfl) (fun _ _ _ h => h) ?_ hHeld ?_
    rotate_left
    · intro w hSw; go_simp <;> with_reducible rfl
    simp only [Act.put, List.setIfInBounds_toArray, List.set_cons_zero, List.set_cons_succ]
    refine held_take (v := ?_) 1 10 [true, true, false, false, false, false, false, false, false, false, false, false, false, false, false, false, false, false, false, false, false, false, false, false] rfl (by rfl) (by rfl) (by kernel_rfl) (by kernel_rfl) (by kernel_rfl) (by rfl) (fun _ _ _ h => h) ?_ hHeld ?_
    rotate_left
    · intro w hSw; go_simp <;> with_reducible rfl
    simp only [Act.put, List.setIfInBounds_toArray, List.set_cons_zero, List.set_cons_succ]
    refine held_take (v := .int .u8 x0) 2 11 [true, true, true, false, false, false, false, false, false, false, false, false, false, false, false, false, false, false, false, false, false, false, false, false] rfl (by rfl) (by rfl) (by kernel_rfl) (by kernel_rfl) (by kernel_rfl) (by rfl) (fun _ _ _ h => h) (fun w' h => by have k := HL0.out w' h; go_simp) hHeld ?_
    simp only [Act.put, List.setIfInBounds_toArray, List.set_cons_zero, List.set_cons_succ]
    refine held_take (v := ?_) 3 12 [true, true, true, true, false, false, false, false, false, false, false, false, false, false, false, false, false, false, false, false, false, false, false, false] rfl (by rfl) (by rfl) (by kernel_rfl) (by kernel_rfl) (by kernel_rfl) (by rfl) (fun _ _ _ h => h) ?_ hHeld ?_
    rotate_left
    · intro w hSw; go_simp <;> with_reducible rfl
    simp only [Act.put, List.setIfInBounds_toArray, List.set_cons_zero, List.set_cons_succ]
    refine held_take (v := ?_) 4 13 [true, true, true, true, true, false, false, false, false, false, false, false, false, false, false, false, false, false, false, false, false, false, false, false] rfl (by rfl) (by rfl) (by kernel_rfl) (by kernel_rfl) (by kernel_rfl) (by rfl) (fun _ _ _ h => h) ?_ hHeld ?_
    rotate_left
    · intro w hSw; go_simp <;> with_reducible rfl
    simp only [Act.put, List.setIfInBounds_toArray, List.set_cons_zero, List.set_cons_succ]
    refine held_take (v := ?_) 5 14 [true, true, true, true, true, true, false, false, false, false, false, false, false, false, false, false, false, false, false, false, false, false, false, false] rfl (by rfl) (by rfl) (by kernel_rfl) (by kernel_rfl) (by kernel_rfl) (by rfl) (fun _ _ _ h => h) ?_ hHeld ?_
    rotate_left
    · intro w hSw; go_simp <;> with_reducible rfl
    simp only [Act.put, List.setIfInBounds_toArray, List.set_cons_zero, List.set_cons_succ]
    refine held_take (v := .int .u8 x1) 6 15 [true, true, true, true, true, true, true, false, false, false, false, false, false, false, false, false, false, false, false, false, false, false, false, false] rfl (by rfl) (by rfl) (by kernel_rfl) (by kernel_rfl) (by kernel_rfl) (by rfl) (fun _ _ _ h => h) (fun w' h => by have k := HL1.out w' h; go_simp) hHeld ?_
    simp only [Act.put, List.setIfInBounds_toArray, List.set_cons_zero, List.set_cons_succ]
    refine held_take (v := ?_) 7 16 [true, true, true, true, true, true, true, true, false, false, false, false, false, false, false, false, false, false, false, false, false, false, false, false] rfl (by rfl) (by rfl) (by kernel_rfl) (by kernel_rfl) (by kernel_rfl) (by rfl) (fun _ _ _ h => h) ?_ hHeld ?_
    rotate_left
    · intro w hSw; go_simp <;> with_reducible rfl
    simp only [Act.put, List.setIfInBounds_toArray, List.set_cons_zero, List.set_cons_succ]
    refine held_take (v := ?_) 8 17 [true, true, true, true, true, true, true, true, true, false, false, false, false, false, false, false, false, false, false, false, false, false, false, false] rfl (by rfl) (by rfl) (by kernel_rfl) (by kernel_rfl) (by kernel_rfl) (by rfl) (fun _ _ _ h => h) ?_ hHeld ?_
    rotate_left
    · intro w hSw; go_simp <;> with_reducible rfl
    simp only [Act.put, List.setIfInBounds_toArray, List.set_cons_zero, List.set_cons_succ]
    refine held_take (v := ?_) 9 18 [true, true, true, true, true, true, true, true, true, true, false, false, false, false, false, false, false, false, false, false, false, false, false, false] rfl (by rfl) (by rfl) (by kernel_rfl) (by kernel_rfl) (by kernel_rfl) (by rfl) (fun _ _ _ h => h) ?_ hHeld ?_
    rotate_left
    · intro w hSw; go_simp <;> with_reducible rfl
    simp only [Act.put, List.setIfInBounds_toArray, List.set_cons_zero, List.set_cons_succ]
    refine held_take (v := ?_) 12 21 [true, true, true, true, true, true, true, true, true, true, false, false, true, false, false, false, false, false, false, false, false, false, false, false] rfl (by rfl) (by rfl) (by kernel_rfl) (by kernel_rfl) (by kernel_rfl) (by rfl) (fun _ _ _ h => h) ?_ hHeld ?_
    rotate_left
    · intro w hSw; go_simp <;> with_reducible rfl
    simp only [Act.put, List.setIfInBounds_toArray, List.set_cons_zero, List.set_cons_succ]
    refine held_take (v := ?_) 13 22 [true, true, true, true, true, true, true, true, true, true, false, false, true, true, false, false, false, false, false, false, false, false, false, false] rfl (by rfl) (by rfl) (by kernel_rfl) (by kernel_rfl) (by kernel_rfl) (by rfl) (fun _ _ _ h => h) ?_ hHeld ?_
    rotate_left
    · intro w hSw; go_simp <;> with_reducible rfl
    simp only [Act.put, List.setIfInBounds_toArray, List.set_cons_zero, List.set_cons_succ]
    refine held_take (v := .int .u8 x10) 14 23 [true, true, true, true, true, true, true, true, true, true, false, false, true, true, true, false, false, false, false, false, false, false, false, false] rfl (by rfl) (by rfl) (by kernel_rfl) (by kernel_rfl) (by kernel_rfl) (by rfl) (fun _ _ _ h => h) (fun w' h => by have k := HL10.out w' h; go_simp) hHeld ?_
    simp only [Act.put, List.setIfInBounds_toArray, List.set_cons_zero, List.set_cons_succ]
    refine held_take (v := ?_) 15 24 [true, true, true, true, true, true, true, true, true, true, false, false, true, true, true, true, false, false, false, false, false, false, false, false] rfl (by rfl) (by rfl) (by kernel_rfl) (by kernel_rfl) (by kernel_rfl) (by rfl) (fun _ _ _ h => h) ?_ hHeld ?_
    rotate_left
    · intro w hSw; go_simp <;> with_reducible rfl
    simp only [Act.put, List.setIfInBounds_toArray, List.set_cons_zero, List.set_cons_succ]
    refine held_take (v := ?_) 16 25 [true, true, true, true, true, true, true, true, true, true, false, false, true, true, true, true, true, false, false, false, false, false, false, false] rfl (by rfl) (by rfl) (by kernel_rfl) (by kernel_rfl) (by kernel_rfl) (by rfl) (fun _ _ _ h => h) ?_ hHeld ?_
    rotate_left
    · intro w hSw; go_simp <;> with_reducible rfl
    simp only [Act.put, List.setIfInBounds_toArray, List.set_cons_zero, List.set_cons_succ]
    refine held_take (v := ?_) 17 26 [true, true, true, true, true, true, true, true, true, true, false, false, true, true, true, true, true, true, false, false, false, false, false, false] rfl (by rfl) (by rfl) (by kernel_rfl) (by kernel_rfl) (by kernel_rfl) (by rfl) (fun _ _ _ h => h) ?_ hHeld ?_
    rotate_left
    · intro w hSw; go_simp <;> with_reducible rfl
    simp only [Act.put, List.setIfInBounds_toArray, List.set_cons_zero, List.set_cons_succ]
    refine held_two 10 22 (by kernel_rfl) ?_ ?_
    · refine op_call 19 [true, true, true, true, true, true, true, true, true, true, true, false, true, true, true, true, true, true, false, false, false, false, false, false] rfl (by rfl) (by rfl) (by rfl) (by go_simp) ((HG2.out _ hHeld).mono ?_)
      rintro e w' ⟨rfl, rfl⟩
      refine ⟨_, rfl, hHeld, fun hHeld => ?_⟩
      simp only [Act.put, List.setIfInBounds_toArray, List.set_cons_zero, List.set_cons_succ]
      refine held_take (v := (.int .i64 (IntKind.i64.wrap m2))) 11 20 [true, true, true, true, true, true, true, true, true, true, true, true, true, true, true, true, true, true, false, false, false, false, false, false] rfl (by rfl) (by rfl) (by kernel_rfl) (by kernel_rfl) (by kernel_rfl) (by rfl) (fun _ _ _ h => h) (fun w' h => by go_simp <;> rfl) hHeld ?_
      simp only [Act.put, List.setIfInBounds_toArray, List.set_cons_zero, List.set_cons_succ]
      refine held_two 18 22 (by kernel_rfl) ?_ ?_
      · refine op_call 27 [true, true, true, true, true, true, true, true, true, true, true, true, true, true, true, true, true, true, true, false, false, false, false, false] rfl (by rfl) (by rfl) (by rfl) (by go_simp) ((HG11.out _ hHeld).mono ?_)
        rintro e w' ⟨rfl, rfl⟩
        refine ⟨_, rfl, hHeld, fun hHeld => ?_⟩
        simp only [Act.put, List.setIfInBounds_toArray, List.set_cons_zero, List.set_cons_succ]
        refine held_take (v := (.int .i64 (IntKind.i64.wrap m11))) 19 28 [true, true, true, true, true, true, true, true, true, true, true, true, true, true, true, true, true, true, true, true, false, false, false, false] rfl (by rfl) (by rfl) (by kernel_rfl) (by kernel_rfl) (by kernel_rfl) (by rfl) (fun _ _ _ h => h) (fun w' h => by go_simp <;> rfl) hHeld ?_
        simp only [Act.put, List.setIfInBounds_toArray, List.set_cons_zero, List.set_cons_succ]
        refine held_take (v := ?_) 20 29 [true, true, true, true, true, true, true, true, true, true, true, true, true, true, true, true, true, true, true, true, true, false, false, false] rfl (by rfl) (by rfl) (by kernel_rfl) (by kernel_rfl) (by kernel_rfl) (by rfl) (fun _ _ _ h => h) ?_ hHeld ?_
        rotate_left
        · intro w hSw; go_simp <;> with_reducible rfl
        simp only [Act.put, List.setIfInBounds_toArray, List.set_cons_zero, List.set_cons_succ]
        refine held_take (v := ?_) 21 30 [true, true, true, true, true, true, true, true, true, true, true, true, true, true, true, true, true, true, true, true, true, true, false, false] rfl (by rfl) (by rfl) (by kernel_rfl) (by kernel_rfl) (by kernel_rfl) (by rfl) (fun _ _ _ h => h) ?_ hHeld ?_
        rotate_left
        · intro w hSw; go_simp <;> with_reducible rfl
        simp only [Act.put, List.setIfInBounds_toArray, List.set_cons_zero, List.set_cons_succ]
        refine held_one 22 (by kernel_rfl) ?_
        refine op_value (v := .pointer (some ⟨W.heap.size, 0, none⟩)) 4 [true, true, true, true, true, true, true, true, true, true, true, true, true, true, true, true, true, true, true, true, true, true, true, false] rfl (by rfl) (by rfl) (by rfl) (by go_simp <;> rfl) (hHeld.alloc hHeld.size (.cells #[.int .i64 0, .int .i64 0, .int .i64 0, .int .i64 0, .int .i64 0] 47)) fun hHeld => ?_
        simp only [Act.put, List.setIfInBounds_toArray, List.set_cons_zero, List.set_cons_succ]
        refine held_one 23 (by kernel_rfl) ?_
        refine op_skip [true, true, true, true, true, true, true, true, true, true, true, true, true, true, true, true, true, true, true, true, true, true, true, true] rfl (by rfl) (by rfl) (by rfl) (run_op_store_new rfl rfl rfl (by kernel_rfl) rfl (by simp [Value.oneCell'])) ((HB1.out.alloc HB1.out.size _)) fun hHeld => ?_
        refine held_done (by kernel_rfl) ?_
        go_wp2_with fail
        go_meet
        exact ⟨rfl, rfl⟩
      · refine op_value (v := .pointer (some ⟨W.heap.size, 0, none⟩)) 4 [true, true, true, true, true, true, true, true, true, true, true, true, true, true, true, true, true, true, false, false, false, false, true, false] rfl (by rfl) (by rfl) (by rfl) (by go_simp <;> rfl) (hHeld.alloc hHeld.size (.cells #[.int .i64 0, .int .i64 0, .int .i64 0, .int .i64 0, .int .i64 0] 47)) fun hHeld => ?_
        simp only [Act.put, List.setIfInBounds_toArray, List.set_cons_zero, List.set_cons_succ]
        refine held_one 18 (by kernel_rfl) ?_
        refine op_call 27 [true, true, true, true, true, true, true, true, true, true, true, true, true, true, true, true, true, true, true, false, false, false, true, false] rfl (by rfl) (by rfl) (by rfl) (by go_simp) ((HG11.out _ hHeld).mono ?_)
        rintro e w' ⟨rfl, rfl⟩
        refine ⟨_, rfl, hHeld, fun hHeld => ?_⟩
        simp only [Act.put, List.setIfInBounds_toArray, List.set_cons_zero, List.set_cons_succ]
        refine held_take (v := (.int .i64 (IntKind.i64.wrap m11))) 19 28 [true, true, true, true, true, true, true, true, true, true, true, true, true, true, true, true, true, true, true, true, false, false, true, false] rfl (by rfl) (by rfl) (by kernel_rfl) (by kernel_rfl) (by kernel_rfl) (by rfl) (fun _ _ _ h => h) (fun w' h => by go_simp <;> rfl) hHeld ?_
        simp only [Act.put, List.setIfInBounds_toArray, List.set_cons_zero, List.set_cons_succ]
        refine held_take (v := ?_) 20 29 [true, true, true, true, true, true, true, true, true, true, true, true, true, true, true, true, true, true, true, true, true, false, true, false] rfl (by rfl) (by rfl) (by kernel_rfl) (by kernel_rfl) (by kernel_rfl) (by rfl) (fun _ _ _ h => h) ?_ hHeld ?_
        rotate_left
        · intro w hSw; go_simp <;> with_reducible rfl
        simp only [Act.put, List.setIfInBounds_toArray, List.set_cons_zero, List.set_cons_succ]
        refine held_take (v := ?_) 21 30 [true, true, true, true, true, true, true, true, true, true, true, true, true, true, true, true, true, true, true, true, true, true, true, false] rfl (by rfl) (by rfl) (by kernel_rfl) (by kernel_rfl) (by kernel_rfl) (by rfl) (fun _ _ _ h => h) ?_ hHeld ?_
        rotate_left
        · intro w hSw; go_simp <;> with_reducible rfl
        simp only [Act.put, List.setIfInBounds_toArray, List.set_cons_zero, List.set_cons_succ]
        refine held_one 23 (by kernel_rfl) ?_
        refine op_skip [true, true, true, true, true, true, true, true, true, true, true, true, true, true, true, true, true, true, true, true, true, true, true, true] rfl (by rfl) (by rfl) (by rfl) (run_op_store_new rfl rfl rfl (by kernel_rfl) rfl (by simp [Value.oneCell'])) ((HB1.out.alloc HB1.out.size _)) fun hHeld => ?_
        refine held_done (by kernel_rfl) ?_
        go_wp2_with fail
        go_meet
        exact ⟨rfl, rfl⟩
    · refine op_value (v := .pointer (some ⟨W.heap.size, 0, none⟩)) 4 [true, true, true, true, true, true, true, true, true, true, false, false, true, true, true, true, true, true, false, false, false, false, true, false] rfl (by rfl) (by rfl) (by rfl) (by go_simp <;> rfl) (hHeld.alloc hHeld.size (.cells #[.int .i64 0, .int .i64 0, .int .i64 0, .int .i64 0, .int .i64 0] 47)) fun hHeld => ?_
      simp only [Act.put, List.setIfInBounds_toArray, List.set_cons_zero, List.set_cons_succ]
      refine held_one 10 (by kernel_rfl) ?_
      refine op_call 19 [true, true, true, true, true, true, true, true, true, true, true, false, true, true, true, true, true, true, false, false, false, false, true, false] rfl (by rfl) (by rfl) (by rfl) (by go_simp) ((HG2.out _ hHeld).mono ?_)
      rintro e w' ⟨rfl, rfl⟩
      refine ⟨_, rfl, hHeld, fun hHeld => ?_⟩
      simp only [Act.put, List.setIfInBounds_toArray, List.set_cons_zero, List.set_cons_succ]
      refine held_take (v := (.int .i64 (IntKind.i64.wrap m2))) 11 20 [true, true, true, true, true, true, true, true, true, true, true, true, true, true, true, true, true, true, false, false, false, false, true, false] rfl (by rfl) (by rfl) (by kernel_rfl) (by kernel_rfl) (by kernel_rfl) (by rfl) (fun _ _ _ h => h) (fun w' h => by go_simp <;> rfl) hHeld ?_
      simp only [Act.put, List.setIfInBounds_toArray, List.set_cons_zero, List.set_cons_succ]
      refine held_one 18 (by kernel_rfl) ?_
      refine op_call 27 [true, true, true, true, true, true, true, true, true, true, true, true, true, true, true, true, true, true, true, false, false, false, true, false] rfl (by rfl) (by rfl) (by rfl) (by go_simp) ((HG11.out _ hHeld).mono ?_)
      rintro e w' ⟨rfl, rfl⟩
      refine ⟨_, rfl, hHeld, fun hHeld => ?_⟩
      simp only [Act.put, List.setIfInBounds_toArray, List.set_cons_zero, List.set_cons_succ]
      refine held_take (v := (.int .i64 (IntKind.i64.wrap m11))) 19 28 [true, true, true, true, true, true, true, true, true, true, true, true, true, true, true, true, true, true, true, true, false, false, true, false] rfl (by rfl) (by rfl) (by kernel_rfl) (by kernel_rfl) (by kernel_rfl) (by rfl) (fun _ _ _ h => h) (fun w' h => by go_simp <;> rfl) hHeld ?_
      simp only [Act.put, List.setIfInBounds_toArray, List.set_cons_zero, List.set_cons_succ]
      refine held_take (v := ?_) 20 29 [true, true, true, true, true, true, true, true, true, true, true, true, true, true, true, true, true, true, true, true, true, false, true, false] rfl (by rfl) (by rfl) (by kernel_rfl) (by kernel_rfl) (by kernel_rfl) (by rfl) (fun _ _ _ h => h) ?_ hHeld ?_
      rotate_left
      · intro w hSw; go_simp <;> with_reducible rfl
      simp only [Act.put, List.setIfInBounds_toArray, List.set_cons_zero, List.set_cons_succ]
      refine held_take (v := ?_) 21 30 [true, true, true, true, true, true, true, true, true, true, true, true, true, true, true, true, true, true, true, true, true, true, true, false] rfl (by rfl) (by rfl) (by kernel_rfl) (by kernel_rfl) (by kernel_rfl) (by rfl) (fun _ _ _ h => h) ?_ hHeld ?_
      rotate_left
      · intro w hSw; go_simp <;> with_reducible rfl
      simp only [Act.put, List.setIfInBounds_toArray, List.set_cons_zero, List.set_cons_succ]
      refine held_one 23 (by kernel_rfl) ?_
      refine op_skip [true, true, true, true, true, true, true, true, true, true, true, true, true, true, true, true, true, true, true, true, true, true, true, true] rfl (by rfl) (by rfl) (by rfl) (run_op_store_new rfl rfl rfl (by kernel_rfl) rfl (by simp [Value.oneCell'])) ((HB1.out.alloc HB1.out.size _)) fun hHeld => ?_
      refine held_done (by kernel_rfl) ?_
      go_wp2_with fail
      go_meet
      exact ⟨rfl, rfl⟩
  case rest =>
    obtain ⟨rfl, rfl⟩ := hcut
    have AX : Hid (Blk ((World.drew W).alloc (.cells #[.int .i64 (IntKind.i64.wrap x0), .int .i64 (IntKind.i64.wrap x1), .int .i64 (IntKind.i64.wrap m2), .int .i64 (IntKind.i64.wrap x10), .int .i64 (IntKind.i64.wrap m11)] 47)) (World.drew W).heap.size (ints [IntKind.i64.wrap (x0 : Int), IntKind.i64.wrap (x1 : Int), IntKind.i64.wrap (m2 : Int), IntKind.i64.wrap (x10 : Int), IntKind.i64.wrap (m11 : Int)]) 47) := Lib.hid (Blk.new (World.drew W) #[.int .i64 (IntKind.i64.wrap x0), .int .i64 (IntKind.i64.wrap x1), .int .i64 (IntKind.i64.wrap m2), .int .i64 (IntKind.i64.wrap x10), .int .i64 (IntKind.i64.wrap m11)] 47)
    have hgx : (World.drew W).heap.size = w.heap.size + 1 := hWz
    rw [hgx] at AX
    have AZ : Hid (Blk ((World.drew W).alloc (.cells #[.int .i64 (IntKind.i64.wrap x0), .int .i64 (IntKind.i64.wrap x1), .int .i64 (IntKind.i64.wrap m2), .int .i64 (IntKind.i64.wrap x10), .int .i64 (IntKind.i64.wrap m11)] 47)) w.heap.size (ints [0, 0, 0, 0, 0]) 47) := Lib.hid (BW.out.drew.alloc _)
    have HBX : Hid (Below w.heap.size w ((World.drew W).alloc (.cells #[.int .i64 (IntKind.i64.wrap x0), .int .i64 (IntKind.i64.wrap x1), .int .i64 (IntKind.i64.wrap m2), .int .i64 (IntKind.i64.wrap x10), .int .i64 (IntKind.i64.wrap m11)] 47))) := Lib.hid (HB1.out.alloc HB1.out.size _)
    have h5 : Hid (([IntKind.i64.wrap (x0 : Int), IntKind.i64.wrap (x1 : Int), IntKind.i64.wrap (m2 : Int), IntKind.i64.wrap (x10 : Int), IntKind.i64.wrap (m11 : Int)] : List Int).length = 5) := Lib.hid rfl
    generalize (World.drew W).alloc (.cells #[.int .i64 (IntKind.i64.wrap x0), .int .i64 (IntKind.i64.wrap x1), .int .i64 (IntKind.i64.wrap m2), .int .i64 (IntKind.i64.wrap x10), .int .i64 (IntKind.i64.wrap m11)] 47) = wy at *
    generalize [IntKind.i64.wrap (x0 : Int), IntKind.i64.wrap (x1 : Int), IntKind.i64.wrap (m2 : Int), IntKind.i64.wrap (x10 : Int), IntKind.i64.wrap (m11 : Int)] = X at *
    have rx : wy.rangeAt (w.heap.size + 1) 0 (ints X) := AX.out.ef h5
    rw [HWR.out] at M
    go_wp2_with (first
      | ((with_reducible apply ef_load); (· rfl); (· (first | assumption)); (· assumption); (simp only [Act.put, List.setIfInBounds_toArray, List.set_cons_zero, List.set_cons_succ])))
    refine (M.out _).mono ?_
    rintro e w4 ⟨rfl, hb4⟩
    have HB4 := Lib.hid (HBX.out.trans (hb4.mono HBX.out.size))
    have AX4 := Lib.hid (AX.out.keep hb4 AX.out.lt)
    have AZ4 := Lib.hid (AZ.out.keep hb4 AZ.out.lt)
    have rx4 : w4.rangeAt (w.heap.size + 1) 0 (ints X) := AX4.out.ef h5
    clear hb4 rx AX AZ HBX M
    by_cases hcd : code = 0
    · have HO2 : Hid (effOf bs = X) := Lib.hid (by rw [HO.out, if_pos hcd, HWR.out])
      have HCD := Lib.hid hcd
      subst hcd
      go_wp2_with (first
        | ((with_reducible apply ef_load); (· rfl); (· (first | assumption)); (· assumption); (simp only [Act.put, List.setIfInBounds_toArray, List.set_cons_zero, List.set_cons_succ]))
        | ((with_reducible apply ef_store); (· rfl); (· rfl); (· assumption); (· first | rfl | assumption); (· assumption); (simp only [Act.put, List.setIfInBounds_toArray, List.set_cons_zero, List.set_cons_succ])))
      have C5 := AZ4.out.setAll (ints X) (by rw [ints_len, h5.out]; rfl)
      refine ret_cell_tmp (p := 2) (q := 3) rfl rfl rfl C5 Try.underlying47 rfl (by rw [ef_size, ints_len, h5.out]) rfl ⟨by rw [HO2.out]; rfl, below_sets (Nat.le_refl _) _ _ _ HB4.out⟩
    · have HO2 : Hid (effOf bs = [0, 0, 0, 0, 0]) := Lib.hid (by rw [HO.out, if_neg hcd])
      have HD : Hid (decide (code = 0) = false) := Lib.hid (decide_eq_false hcd)
      have C5 := Lib.hid (AZ4.out.setAll (ints [0, 0, 0, 0, 0]) rfl)
      have HBZ := Lib.hid (below_sets (Nat.le_refl _) (ints [0, 0, 0, 0, 0]) 0 _ HB4.out)
      go_wp2_with (first
        | ((with_reducible apply ef_store0); (· rfl); (· rfl); (· exact AZ4.out); (· rfl); (simp only [Act.put, List.setIfInBounds_toArray, List.set_cons_zero, List.set_cons_succ]); (generalize w4.setCells w.heap.size 0 (ints [0, 0, 0, 0, 0]) = WW at *)))
      refine ret_cell_tmp (p := 2) (q := 3) rfl rfl rfl C5.out Try.underlying47 rfl (by rw [ef_size]; rfl) rfl ⟨by rw [HO2.out, HD.out]; rfl, HBZ.out⟩
theorem flag3 (x : Nat) (h : x ≤ 3) : ((x : Int).tmod 2 == 1) = actB (IntKind.i64.wrap (x : Int)) ∧ decide (1 < (x : Int)) = gonB (IntKind.i64.wrap (x : Int)) := by
  rcases (show x = 0 ∨ x = 1 ∨ x = 2 ∨ x = 3 by omega) with rfl | rfl | rfl | rfl <;> exact ⟨by decide, by decide⟩
theorem er_store0 {t t' g T : Nat} {ty : TypeId} {ps : String} {af : Array Edge} {a : Act} {w : World} {ops : Array Oper} {rest : List Oper} {Q : Exit → Act → World → Prop} {old : List Value}
    (hx : a.eval (.tmp t) = .pointer (some ⟨g, 0, none⟩)) (hy : a.eval (.tmp t') = (.agg #[.int .i64 0, .int .i64 0, .int .i64 0, .int .i64 0, .int .i64 0, .int .i64 0, .int .i64 0, .int .i64 0, .bool false, .bool false, .int .i64 0, .int .i64 0])) (hb : Blk w g old T) (hl : old.length = 12) (h : wpList Try.prog ops Q rest (a.put none undef) (w.setCells g 0 (enc12 0 0 0 0 0 0 0 0 false false 0 0))) :
    wpList Try.prog ops Q (⟨none, .store 52 (.tmp t) (.tmp t'), ty, ps, af, none⟩ :: rest) a w :=
  er_store (x := enc12 0 0 0 0 0 0 0 0 false false 0 0) hx hy hb hl (enc12_ok 0 0 0 0 0 0 0 0 false false 0 0) h


set_option maxRecDepth 100000 in
set_option maxHeartbeats 8000000 in
theorem rread_main (a : Option Addr) (c : Nat) (bs : List UInt8) (w : World) (h : Sl w a 27 1 (bcells bs)) (hc : 27 ≤ c) (hcm : c ≤ 9223372036854775807) (h24 : (bs.getD 24 0).toNat ≤ 3) (h25 : (bs.getD 25 0).toNat = 69) (h26 : (bs.getD 26 0).toNat = 69) (ek ea en ep eq : Int) (hE : effOf ((bs.drop 1).take 13) = [ek, ea, en, ep, eq]) (code : Int) (hcode : effCode (fld ((bs.drop 1).take 13) 0 1) (fld ((bs.drop 1).take 13) 1 1) (fld ((bs.drop 1).take 13) 10 1) (fld ((bs.drop 1).take 13) 11 2) = code) (ok : Bool) (hok : ok = (decide (code = 0) && mayEnt (fld bs 0 1) ek ea ep eq (fld bs 14 1) (fld bs 15 4) (actB (fld bs 24 1)) (gonB (fld bs 24 1)) (fld bs 19 1) (fld bs 20 4))) :
    Calls Try.prog 39 #[.slice a 27 c] w fun e w' => e = .returned (.tuple #[.agg (getN ok (fld bs 0 1) ek ea en ep eq (fld bs 14 1) (fld bs 15 4) (actB (fld bs 24 1)) (gonB (fld bs 24 1)) (fld bs 19 1) (fld bs 20 4)).toArray, .bool ok]) ∧ Below w.heap.size w w' := by
  have hbl : bs.length = 27 := sl_one h
  obtain ⟨_, bb, off, rfl, hb, hcell⟩ := h.byte (by omega)
  have b24 : w.cell? ⟨bb, off + 24, none⟩ = some (.int .u8 ((bs.getD 24 0).toNat : Int)) := hcell 24 (by omega)
  have b25 : w.cell? ⟨bb, off + 25, none⟩ = some (.int .u8 69) := by have := hcell 25 (by omega); rw [h25] at this; exact this
  have b26 : w.cell? ⟨bb, off + 26, none⟩ = some (.int .u8 69) := by have := hcell 26 (by omega); rw [h26] at this; exact this
  have HS := Lib.hid h
  have HBL := Lib.hid hbl
  have H24 := Lib.hid h24
  have HW0 := Lib.hid (wrap_oct bs 0 (by omega))
  have HW14 := Lib.hid (wrap_oct bs 14 (by omega))
  have HW19 := Lib.hid (wrap_oct bs 19 (by omega))
  have HW24 := Lib.hid (wrap_oct bs 24 (by omega))
  generalize hdd : decide (code = 0) = d at *
  have HOK := Lib.hid hok
  have HE := Lib.hid hE
  have HCO := Lib.hid hcode
  clear hbl hcell h h25 h26 hok hE hcode
  have BW := Lib.hid (Blk.new w #[.int .i64 0, .int .i64 0, .int .i64 0, .int .i64 0, .int .i64 0, .int .i64 0, .int .i64 0, .int .i64 0, .bool false, .bool false, .int .i64 0, .int .i64 0] 52)
  have HB0 := Lib.hid ((Below.refl w.heap.size w).alloc (Nat.le_refl _) (.cells #[.int .i64 0, .int .i64 0, .int .i64 0, .int .i64 0, .int .i64 0, .int .i64 0, .int .i64 0, .int .i64 0, .bool false, .bool false, .int .i64 0, .int .i64 0] 52))
  generalize hx24 : (bs.getD 24 0).toNat = x24 at *
  have hx3 : (x24 : Int) ≤ 3 := by omega
  have d24 : (24 : Int) < 27 := by decide
  have HX24 := Lib.hid hx24
  clear hx24 h24
  go_enter Try.func39, Try.ntmps39
  go_upto_region 1 with fail
  have a24 := (World.cell?_alloc_some w ⟨bb, off + 24, none⟩ (.cells #[.int .i64 0, .int .i64 0, .int .i64 0, .int .i64 0, .int .i64 0, .int .i64 0, .int .i64 0, .int .i64 0, .bool false, .bool false, .int .i64 0, .int .i64 0] 52) (by rw [b24]; rfl)).trans b24
  have a25 := (World.cell?_alloc_some w ⟨bb, off + 25, none⟩ (.cells #[.int .i64 0, .int .i64 0, .int .i64 0, .int .i64 0, .int .i64 0, .int .i64 0, .int .i64 0, .int .i64 0, .bool false, .bool false, .int .i64 0, .int .i64 0] 52) (by rw [b25]; rfl)).trans b25
  have a26 := (World.cell?_alloc_some w ⟨bb, off + 26, none⟩ (.cells #[.int .i64 0, .int .i64 0, .int .i64 0, .int .i64 0, .int .i64 0, .int .i64 0, .int .i64 0, .int .i64 0, .bool false, .bool false, .int .i64 0, .int .i64 0] 52) (by rw [b26]; rfl)).trans b26
  clear b24 b25 b26
  generalize (w.alloc (.cells #[.int .i64 0, .int .i64 0, .int .i64 0, .int .i64 0, .int .i64 0, .int .i64 0, .int .i64 0, .int .i64 0, .bool false, .bool false, .int .i64 0, .int .i64 0] 52)) = W0 at *
  have G := Lib.hid (rgete_main (some ⟨bb, off + 1, none⟩) (c - 1) ((bs.drop 1).take 13) W0 ((sub_atm HS.out (i := 1) (k := 13) (by decide) hc (by decide)).keep HB0.out) (by omega) (by omega) code HCO.out)
  rw [HE.out, hdd] at G
  clear hdd
  have d14 : (14 : Int) ≤ c := by omega
  have hc1 : ¬ c = 1 := by omega
  go_upto_region 3 with fail
  go_wp2_with fail
  refine G.out.mono ?_
  rintro e w1 ⟨rfl, hb1⟩
  have HB1a := HB0.out.trans (hb1.mono HB0.out.size)
  have BW1 := BW.out.keep hb1 BW.out.lt
  have AE1 := Blk.new w1 (ints [ek, ea, en, ep, eq]).toArray 47
  rw [List.toList_toArray] at AE1
  have HSz : (w1.alloc (.cells (ints [ek, ea, en, ep, eq]).toArray 47)).heap.size = w1.heap.size + 1 := by simp
  have HB2 := Lib.hid (HB1a.alloc HB1a.size (.cells (ints [ek, ea, en, ep, eq]).toArray 47))
  have BW2 := Lib.hid (BW1.alloc (.cells (ints [ek, ea, en, ep, eq]).toArray 47))
  have AE := Lib.hid AE1
  clear hb1 HB1a BW1 AE1 G BW HB0 a24 a25 a26 HSz
  go_upto_region 4 with (first
    | ((with_reducible apply ef_store_new (x := [ek, ea, en, ep, eq])); (· rfl); (· first | rfl | simp); (· rfl); (· rfl); (· exact Lib.hid rfl); (simp only [Act.put, List.setIfInBounds_toArray, List.set_cons_zero, List.set_cons_succ])))
  generalize hg4 : w1.heap.size = g4 at *
  generalize w1.alloc (.cells (ints [ek, ea, en, ep, eq]).toArray 47) = W at *
  clear hg4
  have HSW := Lib.hid (HS.out.keep HB2.out)
  have hbW : bb < W.heap.size := Nat.lt_of_lt_of_le hb HB2.out.size
  have HCL : Hid (∀ j, j < 27 → W.cell? ⟨bb, off + j, none⟩ = some (.int .u8 ((bs.getD j 0).toNat : Int))) := Lib.hid (fun j hj => by
    obtain ⟨_, b2, o2, e2, _, h2⟩ := HSW.out.byte (by decide)
    injection e2 with e2
    injection e2 with e3 e4
    subst e3; subst e4
    exact h2 j hj)
  have HB1 : Hid (Below W.heap.size W W.drew) := Lib.hid ⟨rfl, rfl, rfl, Nat.le_refl _, fun _ _ => rfl⟩
  have HCL2 := Lib.hid (fun i (hi : i < 27) w' (hb' : Below W.heap.size W w') => show w'.cell? ⟨bb, off + i, none⟩ = some (.int .u8 ((bs.getD i 0).toNat : Int)) from (hb'.cell (p := ⟨bb, off + i, none⟩) hbW).trans (HCL.out i hi))
  have HL0 := Lib.hid (fun w' (hb' : Below W.heap.size W w') => show w'.cell? ⟨bb, off, none⟩ = some (.int .u8 ((bs.getD 0 0).toNat : Int)) from HCL2.out 0 (by decide) w' hb')
  have HL14 := Lib.hid (HCL2.out 14 (by decide))
  have HL19 := Lib.hid (HCL2.out 19 (by decide))
  have HL24 := Lib.hid (HCL2.out 24 (by decide))
  rw [HX24.out] at HL24
  have HSL := Lib.hid (fun i k (hk : i + k ≤ 27) (hi : i < 27) w' (hb' : Below W.heap.size W w') => (sub_atm HSW.out (i := i) (k := k) hk hc hi).keep hb')
  have HG15 := Lib.hid (fun w' (hb' : Below W.heap.size W w') => rget_any (some ⟨bb, off + 15, none⟩) 4 (c - 15) ((bs.drop 15).take 4) w' (HSL.out 15 4 (by decide) (by decide) w' hb') (by decide))
  have HG20 := Lib.hid (fun w' (hb' : Below W.heap.size W w') => rget_any (some ⟨bb, off + 20, none⟩) 4 (c - 20) ((bs.drop 20).take 4) w' (HSL.out 20 4 (by decide) (by decide) w' hb') (by decide))
  clear HSL
  generalize hm15 : numOf ((bs.drop 15).take 4) = m15 at *
  generalize hm20 : numOf ((bs.drop 20).take 4) = m20 at *
  have HM := Lib.hid (And.intro hm15 hm20)
  clear hm15 hm20
  generalize hx0 : (bs.getD 0 0).toNat = x0 at *
  generalize hx14 : (bs.getD 14 0).toNat = x14 at *
  generalize hx19 : (bs.getD 19 0).toNat = x19 at *
  have HX := Lib.hid (And.intro hx0 (And.intro hx14 hx19))
  clear hx0 hx14 hx19 HCL2 HCL HS
  have hc15 : ¬ c = 15 := by omega
  have hc20 : ¬ c = 20 := by omega
  have d19 : (19 : Int) ≤ c := by omega
  have d24 : (24 : Int) ≤ c := by omega
  have H24b := Lib.hid (show (x24 : Int) ≤ 3 from by omega)
  go_cut [6] (fun s6 wx => s6 = .pointer (some ⟨W.heap.size, 0, none⟩) ∧ wx = (World.drew W).alloc (.cells #[.int .i64 (IntKind.i64.wrap x0), .int .i64 ek, .int .i64 ea, .int .i64 en, .int .i64 ep, .int .i64 eq, .int .i64 (IntKind.i64.wrap x14), .int .i64 (IntKind.i64.wrap m15), .bool ((x24 : Int).tmod 2 == 1), .bool (decide (1 < (x24 : Int))), .int .i64 (IntKind.i64.wrap x19), .int .i64 (IntKind.i64.wrap m20)] 52))
  case first =>
    refine held_begin (fun w' => Below W.heap.size W w') 33 [false, false, false, false, false, false, false, false, false, false, false, false, false, false, false, false, false, false, false, false, false, false, false, false, false, false, false, false, false, false, false, false, false] (by kernel_rfl) rfl (by rfl) ?_
    have hHeld : Below W.heap.size W W.drew := HB1.out
    refine held_take (v := ?_) 0 35 [true, false, false, false, false, false, false, false, false, false, false, false, false, false, false, false, false, false, false, false, false, false, false, false, false, false, false, false, false, false, false, false, false] rfl (by rfl) (by rfl) (by kernel_rfl) (by kernel_rfl) (by kernel_rfl) (by rfl) (fun _ _ _ h => h) ?_ hHeld ?_
    rotate_left
    · intro w hSw; go_simp <;> with_reducible rfl
    simp only [Act.put, List.setIfInBounds_toArray, List.set_cons_zero, List.set_cons_succ]
    refine held_take (v := ?_) 1 36 [true, true, false, false, false, false, false, false, false, false, false, false, false, false, false, false, false, false, false, false, false, false, false, false, false, false, false, false, false, false, false, false, false] rfl (by rfl) (by rfl) (by kernel_rfl) (by kernel_rfl) (by kernel_rfl) (by rfl) (fun _ _ _ h => h) ?_ hHeld ?_
    rotate_left
    · intro w hSw; go_simp <;> with_reducible rfl
    simp only [Act.put, List.setIfInBounds_toArray, List.set_cons_zero, List.set_cons_succ]
    refine held_take (v := .int .u8 x0) 2 37 [true, true, true, false, false, false, false, false, false, false, false, false, false, false, false, false, false, false, false, false, false, false, false, false, false, false, false, false, false, false, false, false, false] rfl (by rfl) (by rfl) (by kernel_rfl) (by kernel_rfl) (by kernel_rfl) (by rfl) (fun _ _ _ h => h) (fun w' h => by have k := HL0.out w' h; go_simp) hHeld ?_
    simp only [Act.put, List.setIfInBounds_toArray, List.set_cons_zero, List.set_cons_succ]
    refine held_take (v := ?_) 3 38 [true, true, true, true, false, false, false, false, false, false, false, false, false, false, false, false, false, false, false, false, false, false, false, false, false, false, false, false, false, false, false, false, false] rfl (by rfl) (by rfl) (by kernel_rfl) (by kernel_rfl) (by kernel_rfl) (by rfl) (fun _ _ _ h => h) ?_ hHeld ?_
    rotate_left
    · intro w hSw; go_simp <;> with_reducible rfl
    simp only [Act.put, List.setIfInBounds_toArray, List.set_cons_zero, List.set_cons_succ]
    refine held_take (v := .agg #[.int .i64 ek, .int .i64 ea, .int .i64 en, .int .i64 ep, .int .i64 eq]) 4 39 [true, true, true, true, true, false, false, false, false, false, false, false, false, false, false, false, false, false, false, false, false, false, false, false, false, false, false, false, false, false, false, false, false] rfl (by rfl) (by rfl) (by kernel_rfl) (by kernel_rfl) (by kernel_rfl) (by rfl) (fun _ _ _ h => h) (fun w' h => run_op_load rfl rfl ((AE.out.keep h AE.out.lt).range 0 (ints [ek, ea, en, ep, eq]) (by simp)) Try.underlying47 rfl (by rw [ef_size]; rfl)) hHeld ?_
    simp only [Act.put, List.setIfInBounds_toArray, List.set_cons_zero, List.set_cons_succ]
    refine held_take (v := ?_) 5 40 [true, true, true, true, true, true, false, false, false, false, false, false, false, false, false, false, false, false, false, false, false, false, false, false, false, false, false, false, false, false, false, false, false] rfl (by rfl) (by rfl) (by kernel_rfl) (by kernel_rfl) (by kernel_rfl) (by rfl) (fun _ _ _ h => h) ?_ hHeld ?_
    rotate_left
    · intro w hSw; go_simp <;> with_reducible rfl
    simp only [Act.put, List.setIfInBounds_toArray, List.set_cons_zero, List.set_cons_succ]
    refine held_take (v := ?_) 6 41 [true, true, true, true, true, true, true, false, false, false, false, false, false, false, false, false, false, false, false, false, false, false, false, false, false, false, false, false, false, false, false, false, false] rfl (by rfl) (by rfl) (by kernel_rfl) (by kernel_rfl) (by kernel_rfl) (by rfl) (fun _ _ _ h => h) ?_ hHeld ?_
    rotate_left
    · intro w hSw; go_simp <;> with_reducible rfl
    simp only [Act.put, List.setIfInBounds_toArray, List.set_cons_zero, List.set_cons_succ]
    refine held_take (v := .int .u8 x14) 7 42 [true, true, true, true, true, true, true, true, false, false, false, false, false, false, false, false, false, false, false, false, false, false, false, false, false, false, false, false, false, false, false, false, false] rfl (by rfl) (by rfl) (by kernel_rfl) (by kernel_rfl) (by kernel_rfl) (by rfl) (fun _ _ _ h => h) (fun w' h => by have k := HL14.out w' h; go_simp) hHeld ?_
    simp only [Act.put, List.setIfInBounds_toArray, List.set_cons_zero, List.set_cons_succ]
    refine held_take (v := ?_) 8 43 [true, true, true, true, true, true, true, true, true, false, false, false, false, false, false, false, false, false, false, false, false, false, false, false, false, false, false, false, false, false, false, false, false] rfl (by rfl) (by rfl) (by kernel_rfl) (by kernel_rfl) (by kernel_rfl) (by rfl) (fun _ _ _ h => h) ?_ hHeld ?_
    rotate_left
    · intro w hSw; go_simp <;> with_reducible rfl
    simp only [Act.put, List.setIfInBounds_toArray, List.set_cons_zero, List.set_cons_succ]
    refine held_take (v := ?_) 9 44 [true, true, true, true, true, true, true, true, true, true, false, false, false, false, false, false, false, false, false, false, false, false, false, false, false, false, false, false, false, false, false, false, false] rfl (by rfl) (by rfl) (by kernel_rfl) (by kernel_rfl) (by kernel_rfl) (by rfl) (fun _ _ _ h => h) ?_ hHeld ?_
    rotate_left
    · intro w hSw; go_simp <;> with_reducible rfl
    simp only [Act.put, List.setIfInBounds_toArray, List.set_cons_zero, List.set_cons_succ]
    refine held_take (v := ?_) 10 45 [true, true, true, true, true, true, true, true, true, true, true, false, false, false, false, false, false, false, false, false, false, false, false, false, false, false, false, false, false, false, false, false, false] rfl (by rfl) (by rfl) (by kernel_rfl) (by kernel_rfl) (by kernel_rfl) (by rfl) (fun _ _ _ h => h) ?_ hHeld ?_
    rotate_left
    · intro w hSw; go_simp <;> with_reducible rfl
    simp only [Act.put, List.setIfInBounds_toArray, List.set_cons_zero, List.set_cons_succ]
    refine held_take (v := ?_) 13 48 [true, true, true, true, true, true, true, true, true, true, true, false, false, true, false, false, false, false, false, false, false, false, false, false, false, false, false, false, false, false, false, false, false] rfl (by rfl) (by rfl) (by kernel_rfl) (by kernel_rfl) (by kernel_rfl) (by rfl) (fun _ _ _ h => h) ?_ hHeld ?_
    rotate_left
    · intro w hSw; go_simp <;> with_reducible rfl
    simp only [Act.put, List.setIfInBounds_toArray, List.set_cons_zero, List.set_cons_succ]
    refine held_take (v := ?_) 14 49 [true, true, true, true, true, true, true, true, true, true, true, false, false, true, true, false, false, false, false, false, false, false, false, false, false, false, false, false, false, false, false, false, false] rfl (by rfl) (by rfl) (by kernel_rfl) (by kernel_rfl) (by kernel_rfl) (by rfl) (fun _ _ _ h => h) ?_ hHeld ?_
    rotate_left
    · intro w hSw; go_simp <;> with_reducible rfl
    simp only [Act.put, List.setIfInBounds_toArray, List.set_cons_zero, List.set_cons_succ]
    refine held_take (v := .int .u8 x19) 15 50 [true, true, true, true, true, true, true, true, true, true, true, false, false, true, true, true, false, false, false, false, false, false, false, false, false, false, false, false, false, false, false, false, false] rfl (by rfl) (by rfl) (by kernel_rfl) (by kernel_rfl) (by kernel_rfl) (by rfl) (fun _ _ _ h => h) (fun w' h => by have k := HL19.out w' h; go_simp) hHeld ?_
    simp only [Act.put, List.setIfInBounds_toArray, List.set_cons_zero, List.set_cons_succ]
    refine held_take (v := ?_) 16 51 [true, true, true, true, true, true, true, true, true, true, true, false, false, true, true, true, true, false, false, false, false, false, false, false, false, false, false, false, false, false, false, false, false] rfl (by rfl) (by rfl) (by kernel_rfl) (by kernel_rfl) (by kernel_rfl) (by rfl) (fun _ _ _ h => h) ?_ hHeld ?_
    rotate_left
    · intro w hSw; go_simp <;> with_reducible rfl
    simp only [Act.put, List.setIfInBounds_toArray, List.set_cons_zero, List.set_cons_succ]
    refine held_take (v := ?_) 17 52 [true, true, true, true, true, true, true, true, true, true, true, false, false, true, true, true, true, true, false, false, false, false, false, false, false, false, false, false, false, false, false, false, false] rfl (by rfl) (by rfl) (by kernel_rfl) (by kernel_rfl) (by kernel_rfl) (by rfl) (fun _ _ _ h => h) ?_ hHeld ?_
    rotate_left
    · intro w hSw; go_simp <;> with_reducible rfl
    simp only [Act.put, List.setIfInBounds_toArray, List.set_cons_zero, List.set_cons_succ]
    refine held_take (v := ?_) 18 53 [true, true, true, true, true, true, true, true, true, true, true, false, false, true, true, true, true, true, true, false, false, false, false, false, false, false, false, false, false, false, false, false, false] rfl (by rfl) (by rfl) (by kernel_rfl) (by kernel_rfl) (by kernel_rfl) (by rfl) (fun _ _ _ h => h) ?_ hHeld ?_
    rotate_left
    · intro w hSw; go_simp <;> with_reducible rfl
    simp only [Act.put, List.setIfInBounds_toArray, List.set_cons_zero, List.set_cons_succ]
    refine held_take (v := ?_) 21 56 [true, true, true, true, true, true, true, true, true, true, true, false, false, true, true, true, true, true, true, false, false, true, false, false, false, false, false, false, false, false, false, false, false] rfl (by rfl) (by rfl) (by kernel_rfl) (by kernel_rfl) (by kernel_rfl) (by rfl) (fun _ _ _ h => h) ?_ hHeld ?_
    rotate_left
    · intro w hSw; go_simp <;> with_reducible rfl
    simp only [Act.put, List.setIfInBounds_toArray, List.set_cons_zero, List.set_cons_succ]
    refine held_take (v := ?_) 22 57 [true, true, true, true, true, true, true, true, true, true, true, false, false, true, true, true, true, true, true, false, false, true, true, false, false, false, false, false, false, false, false, false, false] rfl (by rfl) (by rfl) (by kernel_rfl) (by kernel_rfl) (by kernel_rfl) (by rfl) (fun _ _ _ h => h) ?_ hHeld ?_
    rotate_left
    · intro w hSw; go_simp <;> with_reducible rfl
    simp only [Act.put, List.setIfInBounds_toArray, List.set_cons_zero, List.set_cons_succ]
    refine held_take (v := .int .u8 x24) 23 58 [true, true, true, true, true, true, true, true, true, true, true, false, false, true, true, true, true, true, true, false, false, true, true, true, false, false, false, false, false, false, false, false, false] rfl (by rfl) (by rfl) (by kernel_rfl) (by kernel_rfl) (by kernel_rfl) (by rfl) (fun _ _ _ h => h) (fun w' h => by have k := HL24.out w' h; go_simp) hHeld ?_
    simp only [Act.put, List.setIfInBounds_toArray, List.set_cons_zero, List.set_cons_succ]
    refine held_take (v := ?_) 24 59 [true, true, true, true, true, true, true, true, true, true, true, false, false, true, true, true, true, true, true, false, false, true, true, true, true, false, false, false, false, false, false, false, false] rfl (by rfl) (by rfl) (by kernel_rfl) (by kernel_rfl) (by kernel_rfl) (by rfl) (fun _ _ _ h => h) ?_ hHeld ?_
    rotate_left
    · intro w hSw; go_simp <;> with_reducible rfl
    simp only [Act.put, List.setIfInBounds_toArray, List.set_cons_zero, List.set_cons_succ]
    refine held_take (v := ?_) 25 60 [true, true, true, true, true, true, true, true, true, true, true, false, false, true, true, true, true, true, true, false, false, true, true, true, true, true, false, false, false, false, false, false, false] rfl (by rfl) (by rfl) (by kernel_rfl) (by kernel_rfl) (by kernel_rfl) (by rfl) (fun _ _ _ h => h) ?_ hHeld ?_
    rotate_left
    · intro w hSw; go_simp <;> with_reducible rfl
    simp only [Act.put, List.setIfInBounds_toArray, List.set_cons_zero, List.set_cons_succ]
    refine held_take (v := ?_) 26 61 [true, true, true, true, true, true, true, true, true, true, true, false, false, true, true, true, true, true, true, false, false, true, true, true, true, true, true, false, false, false, false, false, false] rfl (by rfl) (by rfl) (by kernel_rfl) (by kernel_rfl) (by kernel_rfl) (by rfl) (fun _ _ _ h => h) ?_ hHeld ?_
    rotate_left
    · intro w hSw; go_simp <;> with_reducible rfl
    simp only [Act.put, List.setIfInBounds_toArray, List.set_cons_zero, List.set_cons_succ]
    refine held_take (v := ?_) 27 62 [true, true, true, true, true, true, true, true, true, true, true, false, false, true, true, true, true, true, true, false, false, true, true, true, true, true, true, true, false, false, false, false, false] rfl (by rfl) (by rfl) (by kernel_rfl) (by kernel_rfl) (by kernel_rfl) (by rfl) (fun _ _ _ h => h) ?_ hHeld ?_
    rotate_left
    · intro w hSw; go_simp <;> with_reducible rfl
    simp only [Act.put, List.setIfInBounds_toArray, List.set_cons_zero, List.set_cons_succ]
    refine held_take (v := .int .u8 x24) 28 63 [true, true, true, true, true, true, true, true, true, true, true, false, false, true, true, true, true, true, true, false, false, true, true, true, true, true, true, true, true, false, false, false, false] rfl (by rfl) (by rfl) (by kernel_rfl) (by kernel_rfl) (by kernel_rfl) (by rfl) (fun _ _ _ h => h) (fun w' h => by have k := HL24.out w' h; go_simp) hHeld ?_
    simp only [Act.put, List.setIfInBounds_toArray, List.set_cons_zero, List.set_cons_succ]
    refine held_take (v := ?_) 29 64 [true, true, true, true, true, true, true, true, true, true, true, false, false, true, true, true, true, true, true, false, false, true, true, true, true, true, true, true, true, true, false, false, false] rfl (by rfl) (by rfl) (by kernel_rfl) (by kernel_rfl) (by kernel_rfl) (by rfl) (fun _ _ _ h => h) ?_ hHeld ?_
    rotate_left
    · intro w hSw; go_simp <;> with_reducible rfl
    simp only [Act.put, List.setIfInBounds_toArray, List.set_cons_zero, List.set_cons_succ]
    refine held_two 11 31 (by kernel_rfl) ?_ ?_
    · refine op_call 46 [true, true, true, true, true, true, true, true, true, true, true, true, false, true, true, true, true, true, true, false, false, true, true, true, true, true, true, true, true, true, false, false, false] rfl (by rfl) (by rfl) (by rfl) (by go_simp) ((HG15.out _ hHeld).mono ?_)
      rintro e w' ⟨rfl, rfl⟩
      refine ⟨_, rfl, hHeld, fun hHeld => ?_⟩
      simp only [Act.put, List.setIfInBounds_toArray, List.set_cons_zero, List.set_cons_succ]
      refine held_take (v := (.int .i64 (IntKind.i64.wrap m15))) 12 47 [true, true, true, true, true, true, true, true, true, true, true, true, true, true, true, true, true, true, true, false, false, true, true, true, true, true, true, true, true, true, false, false, false] rfl (by rfl) (by rfl) (by kernel_rfl) (by kernel_rfl) (by kernel_rfl) (by rfl) (fun _ _ _ h => h) (fun w' h => by go_simp <;> rfl) hHeld ?_
      simp only [Act.put, List.setIfInBounds_toArray, List.set_cons_zero, List.set_cons_succ]
      refine held_two 19 31 (by kernel_rfl) ?_ ?_
      · refine op_call 54 [true, true, true, true, true, true, true, true, true, true, true, true, true, true, true, true, true, true, true, true, false, true, true, true, true, true, true, true, true, true, false, false, false] rfl (by rfl) (by rfl) (by rfl) (by go_simp) ((HG20.out _ hHeld).mono ?_)
        rintro e w' ⟨rfl, rfl⟩
        refine ⟨_, rfl, hHeld, fun hHeld => ?_⟩
        simp only [Act.put, List.setIfInBounds_toArray, List.set_cons_zero, List.set_cons_succ]
        refine held_take (v := (.int .i64 (IntKind.i64.wrap m20))) 20 55 [true, true, true, true, true, true, true, true, true, true, true, true, true, true, true, true, true, true, true, true, true, true, true, true, true, true, true, true, true, true, false, false, false] rfl (by rfl) (by rfl) (by kernel_rfl) (by kernel_rfl) (by kernel_rfl) (by rfl) (fun _ _ _ h => h) (fun w' h => by go_simp <;> rfl) hHeld ?_
        simp only [Act.put, List.setIfInBounds_toArray, List.set_cons_zero, List.set_cons_succ]
        refine held_take (v := ?_) 30 65 [true, true, true, true, true, true, true, true, true, true, true, true, true, true, true, true, true, true, true, true, true, true, true, true, true, true, true, true, true, true, true, false, false] rfl (by rfl) (by rfl) (by kernel_rfl) (by kernel_rfl) (by kernel_rfl) (by rfl) (fun _ _ _ h => h) ?_ hHeld ?_
        rotate_left
        · intro w hSw; go_simp <;> with_reducible rfl
        simp only [Act.put, List.setIfInBounds_toArray, List.set_cons_zero, List.set_cons_succ]
        refine held_one 31 (by kernel_rfl) ?_
        refine op_value (v := .pointer (some ⟨W.heap.size, 0, none⟩)) 6 [true, true, true, true, true, true, true, true, true, true, true, true, true, true, true, true, true, true, true, true, true, true, true, true, true, true, true, true, true, true, true, true, false] rfl (by rfl) (by rfl) (by rfl) (by go_simp <;> rfl) (hHeld.alloc hHeld.size (.cells #[.int .i64 0, .int .i64 0, .int .i64 0, .int .i64 0, .int .i64 0, .int .i64 0, .int .i64 0, .int .i64 0, .bool false, .bool false, .int .i64 0, .int .i64 0] 52)) fun hHeld => ?_
        simp only [Act.put, List.setIfInBounds_toArray, List.set_cons_zero, List.set_cons_succ]
        refine held_one 32 (by kernel_rfl) ?_
        refine op_skip [true, true, true, true, true, true, true, true, true, true, true, true, true, true, true, true, true, true, true, true, true, true, true, true, true, true, true, true, true, true, true, true, true] rfl (by rfl) (by rfl) (by rfl) (run_op_store_new rfl rfl rfl (by kernel_rfl) rfl (by simp [Value.oneCell'])) ((HB1.out.alloc HB1.out.size _)) fun hHeld => ?_
        refine held_done (by kernel_rfl) ?_
        go_wp2_with fail
        go_meet
        exact ⟨rfl, rfl⟩
      · refine op_value (v := .pointer (some ⟨W.heap.size, 0, none⟩)) 6 [true, true, true, true, true, true, true, true, true, true, true, true, true, true, true, true, true, true, true, false, false, true, true, true, true, true, true, true, true, true, false, true, false] rfl (by rfl) (by rfl) (by rfl) (by go_simp <;> rfl) (hHeld.alloc hHeld.size (.cells #[.int .i64 0, .int .i64 0, .int .i64 0, .int .i64 0, .int .i64 0, .int .i64 0, .int .i64 0, .int .i64 0, .bool false, .bool false, .int .i64 0, .int .i64 0] 52)) fun hHeld => ?_
        simp only [Act.put, List.setIfInBounds_toArray, List.set_cons_zero, List.set_cons_succ]
        refine held_one 19 (by kernel_rfl) ?_
        refine op_call 54 [true, true, true, true, true, true, true, true, true, true, true, true, true, true, true, true, true, true, true, true, false, true, true, true, true, true, true, true, true, true, false, true, false] rfl (by rfl) (by rfl) (by rfl) (by go_simp) ((HG20.out _ hHeld).mono ?_)
        rintro e w' ⟨rfl, rfl⟩
        refine ⟨_, rfl, hHeld, fun hHeld => ?_⟩
        simp only [Act.put, List.setIfInBounds_toArray, List.set_cons_zero, List.set_cons_succ]
        refine held_take (v := (.int .i64 (IntKind.i64.wrap m20))) 20 55 [true, true, true, true, true, true, true, true, true, true, true, true, true, true, true, true, true, true, true, true, true, true, true, true, true, true, true, true, true, true, false, true, false] rfl (by rfl) (by rfl) (by kernel_rfl) (by kernel_rfl) (by kernel_rfl) (by rfl) (fun _ _ _ h => h) (fun w' h => by go_simp <;> rfl) hHeld ?_
        simp only [Act.put, List.setIfInBounds_toArray, List.set_cons_zero, List.set_cons_succ]
        refine held_take (v := ?_) 30 65 [true, true, true, true, true, true, true, true, true, true, true, true, true, true, true, true, true, true, true, true, true, true, true, true, true, true, true, true, true, true, true, true, false] rfl (by rfl) (by rfl) (by kernel_rfl) (by kernel_rfl) (by kernel_rfl) (by rfl) (fun _ _ _ h => h) ?_ hHeld ?_
        rotate_left
        · intro w hSw; go_simp <;> with_reducible rfl
        simp only [Act.put, List.setIfInBounds_toArray, List.set_cons_zero, List.set_cons_succ]
        refine held_one 32 (by kernel_rfl) ?_
        refine op_skip [true, true, true, true, true, true, true, true, true, true, true, true, true, true, true, true, true, true, true, true, true, true, true, true, true, true, true, true, true, true, true, true, true] rfl (by rfl) (by rfl) (by rfl) (run_op_store_new rfl rfl rfl (by kernel_rfl) rfl (by simp [Value.oneCell'])) ((HB1.out.alloc HB1.out.size _)) fun hHeld => ?_
        refine held_done (by kernel_rfl) ?_
        go_wp2_with fail
        go_meet
        exact ⟨rfl, rfl⟩
    · refine op_value (v := .pointer (some ⟨W.heap.size, 0, none⟩)) 6 [true, true, true, true, true, true, true, true, true, true, true, false, false, true, true, true, true, true, true, false, false, true, true, true, true, true, true, true, true, true, false, true, false] rfl (by rfl) (by rfl) (by rfl) (by go_simp <;> rfl) (hHeld.alloc hHeld.size (.cells #[.int .i64 0, .int .i64 0, .int .i64 0, .int .i64 0, .int .i64 0, .int .i64 0, .int .i64 0, .int .i64 0, .bool false, .bool false, .int .i64 0, .int .i64 0] 52)) fun hHeld => ?_
      simp only [Act.put, List.setIfInBounds_toArray, List.set_cons_zero, List.set_cons_succ]
      refine held_one 11 (by kernel_rfl) ?_
      refine op_call 46 [true, true, true, true, true, true, true, true, true, true, true, true, false, true, true, true, true, true, true, false, false, true, true, true, true, true, true, true, true, true, false, true, false] rfl (by rfl) (by rfl) (by rfl) (by go_simp) ((HG15.out _ hHeld).mono ?_)
      rintro e w' ⟨rfl, rfl⟩
      refine ⟨_, rfl, hHeld, fun hHeld => ?_⟩
      simp only [Act.put, List.setIfInBounds_toArray, List.set_cons_zero, List.set_cons_succ]
      refine held_take (v := (.int .i64 (IntKind.i64.wrap m15))) 12 47 [true, true, true, true, true, true, true, true, true, true, true, true, true, true, true, true, true, true, true, false, false, true, true, true, true, true, true, true, true, true, false, true, false] rfl (by rfl) (by rfl) (by kernel_rfl) (by kernel_rfl) (by kernel_rfl) (by rfl) (fun _ _ _ h => h) (fun w' h => by go_simp <;> rfl) hHeld ?_
      simp only [Act.put, List.setIfInBounds_toArray, List.set_cons_zero, List.set_cons_succ]
      refine held_one 19 (by kernel_rfl) ?_
      refine op_call 54 [true, true, true, true, true, true, true, true, true, true, true, true, true, true, true, true, true, true, true, true, false, true, true, true, true, true, true, true, true, true, false, true, false] rfl (by rfl) (by rfl) (by rfl) (by go_simp) ((HG20.out _ hHeld).mono ?_)
      rintro e w' ⟨rfl, rfl⟩
      refine ⟨_, rfl, hHeld, fun hHeld => ?_⟩
      simp only [Act.put, List.setIfInBounds_toArray, List.set_cons_zero, List.set_cons_succ]
      refine held_take (v := (.int .i64 (IntKind.i64.wrap m20))) 20 55 [true, true, true, true, true, true, true, true, true, true, true, true, true, true, true, true, true, true, true, true, true, true, true, true, true, true, true, true, true, true, false, true, false] rfl (by rfl) (by rfl) (by kernel_rfl) (by kernel_rfl) (by kernel_rfl) (by rfl) (fun _ _ _ h => h) (fun w' h => by go_simp <;> rfl) hHeld ?_
      simp only [Act.put, List.setIfInBounds_toArray, List.set_cons_zero, List.set_cons_succ]
      refine held_take (v := ?_) 30 65 [true, true, true, true, true, true, true, true, true, true, true, true, true, true, true, true, true, true, true, true, true, true, true, true, true, true, true, true, true, true, true, true, false] rfl (by rfl) (by rfl) (by kernel_rfl) (by kernel_rfl) (by kernel_rfl) (by rfl) (fun _ _ _ h => h) ?_ hHeld ?_
      rotate_left
      · intro w hSw; go_simp <;> with_reducible rfl
      simp only [Act.put, List.setIfInBounds_toArray, List.set_cons_zero, List.set_cons_succ]
      refine held_one 32 (by kernel_rfl) ?_
      refine op_skip [true, true, true, true, true, true, true, true, true, true, true, true, true, true, true, true, true, true, true, true, true, true, true, true, true, true, true, true, true, true, true, true, true] rfl (by rfl) (by rfl) (by rfl) (run_op_store_new rfl rfl rfl (by kernel_rfl) rfl (by simp [Value.oneCell'])) ((HB1.out.alloc HB1.out.size _)) fun hHeld => ?_
      refine held_done (by kernel_rfl) ?_
      go_wp2_with fail
      go_meet
      exact ⟨rfl, rfl⟩
  case rest =>
    obtain ⟨rfl, rfl⟩ := hcut
    have HBX : Hid (Below w.heap.size w ((World.drew W).alloc (.cells #[.int .i64 (IntKind.i64.wrap x0), .int .i64 ek, .int .i64 ea, .int .i64 en, .int .i64 ep, .int .i64 eq, .int .i64 (IntKind.i64.wrap x14), .int .i64 (IntKind.i64.wrap m15), .bool ((x24 : Int).tmod 2 == 1), .bool (decide (1 < (x24 : Int))), .int .i64 (IntKind.i64.wrap x19), .int .i64 (IntKind.i64.wrap m20)] 52))) := Lib.hid (HB2.out.trans (((HB1.out.alloc HB1.out.size (.cells #[.int .i64 (IntKind.i64.wrap x0), .int .i64 ek, .int .i64 ea, .int .i64 en, .int .i64 ep, .int .i64 eq, .int .i64 (IntKind.i64.wrap x14), .int .i64 (IntKind.i64.wrap m15), .bool ((x24 : Int).tmod 2 == 1), .bool (decide (1 < (x24 : Int))), .int .i64 (IntKind.i64.wrap x19), .int .i64 (IntKind.i64.wrap m20)] 52))).mono HB2.out.size))
    have AX : Hid (Blk ((World.drew W).alloc (.cells #[.int .i64 (IntKind.i64.wrap x0), .int .i64 ek, .int .i64 ea, .int .i64 en, .int .i64 ep, .int .i64 eq, .int .i64 (IntKind.i64.wrap x14), .int .i64 (IntKind.i64.wrap m15), .bool ((x24 : Int).tmod 2 == 1), .bool (decide (1 < (x24 : Int))), .int .i64 (IntKind.i64.wrap x19), .int .i64 (IntKind.i64.wrap m20)] 52)) W.heap.size (enc12 (IntKind.i64.wrap x0) ek ea en ep eq (IntKind.i64.wrap x14) (IntKind.i64.wrap m15) ((x24 : Int).tmod 2 == 1) (decide (1 < (x24 : Int))) (IntKind.i64.wrap x19) (IntKind.i64.wrap m20)) 52) := Lib.hid (Blk.new (World.drew W) #[.int .i64 (IntKind.i64.wrap x0), .int .i64 ek, .int .i64 ea, .int .i64 en, .int .i64 ep, .int .i64 eq, .int .i64 (IntKind.i64.wrap x14), .int .i64 (IntKind.i64.wrap m15), .bool ((x24 : Int).tmod 2 == 1), .bool (decide (1 < (x24 : Int))), .int .i64 (IntKind.i64.wrap x19), .int .i64 (IntKind.i64.wrap m20)] 52)
    have AZ : Hid (Blk ((World.drew W).alloc (.cells #[.int .i64 (IntKind.i64.wrap x0), .int .i64 ek, .int .i64 ea, .int .i64 en, .int .i64 ep, .int .i64 eq, .int .i64 (IntKind.i64.wrap x14), .int .i64 (IntKind.i64.wrap m15), .bool ((x24 : Int).tmod 2 == 1), .bool (decide (1 < (x24 : Int))), .int .i64 (IntKind.i64.wrap x19), .int .i64 (IntKind.i64.wrap m20)] 52)) w.heap.size [.int .i64 0, .int .i64 0, .int .i64 0, .int .i64 0, .int .i64 0, .int .i64 0, .int .i64 0, .int .i64 0, .bool false, .bool false, .int .i64 0, .int .i64 0] 52) := Lib.hid (BW2.out.drew.alloc _)
    have M := Lib.hid (fun w => show Calls Try.prog 23 #[.agg (enc12 (IntKind.i64.wrap x0) ek ea en ep eq (IntKind.i64.wrap x14) (IntKind.i64.wrap m15) ((x24 : Int).tmod 2 == 1) (decide (1 < (x24 : Int))) (IntKind.i64.wrap x19) (IntKind.i64.wrap m20)).toArray] w fun e w' => e = .returned (.bool (mayEnt (IntKind.i64.wrap x0) ek ea ep eq (IntKind.i64.wrap x14) (IntKind.i64.wrap m15) ((x24 : Int).tmod 2 == 1) (decide (1 < (x24 : Int))) (IntKind.i64.wrap x19) (IntKind.i64.wrap m20))) ∧ Below w.heap.size w w' from rment_any (IntKind.i64.wrap x0) ek ea en ep eq (IntKind.i64.wrap x14) (IntKind.i64.wrap m15) ((x24 : Int).tmod 2 == 1) (decide (1 < (x24 : Int))) (IntKind.i64.wrap x19) (IntKind.i64.wrap m20) w)
    have HV := enc12_ok (IntKind.i64.wrap x0) ek ea en ep eq (IntKind.i64.wrap x14) (IntKind.i64.wrap m15) ((x24 : Int).tmod 2 == 1) (decide (1 < (x24 : Int))) (IntKind.i64.wrap x19) (IntKind.i64.wrap m20)
    have q0 : IntKind.i64.wrap (x0 : Int) = fld bs 0 1 := HW0.out.symm
    have q14 : IntKind.i64.wrap (x14 : Int) = fld bs 14 1 := HW14.out.symm
    have q19 : IntKind.i64.wrap (x19 : Int) = fld bs 19 1 := HW19.out.symm
    have q15 : IntKind.i64.wrap (m15 : Int) = fld bs 15 4 := by rw [← HM.out.1, i64_wrap64]; rfl
    have q20 : IntKind.i64.wrap (m20 : Int) = fld bs 20 4 := by rw [← HM.out.2, i64_wrap64]; rfl
    have qa : ((x24 : Int).tmod 2 == 1) = actB (fld bs 24 1) := by rw [HW24.out]; exact (flag3 x24 H24.out).1
    have qg : decide (1 < (x24 : Int)) = gonB (fld bs 24 1) := by rw [HW24.out]; exact (flag3 x24 H24.out).2
    generalize hwy : (World.drew W).alloc (.cells #[.int .i64 (IntKind.i64.wrap x0), .int .i64 ek, .int .i64 ea, .int .i64 en, .int .i64 ep, .int .i64 eq, .int .i64 (IntKind.i64.wrap x14), .int .i64 (IntKind.i64.wrap m15), .bool ((x24 : Int).tmod 2 == 1), .bool (decide (1 < (x24 : Int))), .int .i64 (IntKind.i64.wrap x19), .int .i64 (IntKind.i64.wrap m20)] 52) = wy at *
    rw [q0, q14, q15, q19, q20, qa, qg] at M AX HV
    clear hwy q0 q14 q15 q19 q20 qa qg
    generalize hmv : mayEnt (fld bs 0 1) ek ea ep eq (fld bs 14 1) (fld bs 15 4) (actB (fld bs 24 1)) (gonB (fld bs 24 1)) (fld bs 19 1) (fld bs 20 4) = mv at *
    clear hmv
    have HGN : Hid (getN true (fld bs 0 1) ek ea en ep eq (fld bs 14 1) (fld bs 15 4) (actB (fld bs 24 1)) (gonB (fld bs 24 1)) (fld bs 19 1) (fld bs 20 4) = enc12 (fld bs 0 1) ek ea en ep eq (fld bs 14 1) (fld bs 15 4) (actB (fld bs 24 1)) (gonB (fld bs 24 1)) (fld bs 19 1) (fld bs 20 4)) := Lib.hid rfl
    have HGZ : Hid (getN false (fld bs 0 1) ek ea en ep eq (fld bs 14 1) (fld bs 15 4) (actB (fld bs 24 1)) (gonB (fld bs 24 1)) (fld bs 19 1) (fld bs 20 4) = [.int .i64 0, .int .i64 0, .int .i64 0, .int .i64 0, .int .i64 0, .int .i64 0, .int .i64 0, .int .i64 0, .bool false, .bool false, .int .i64 0, .int .i64 0]) := Lib.hid rfl
    generalize enc12 (fld bs 0 1) ek ea en ep eq (fld bs 14 1) (fld bs 15 4) (actB (fld bs 24 1)) (gonB (fld bs 24 1)) (fld bs 19 1) (fld bs 20 4) = X at *
    generalize hg9 : W.heap.size = g9 at *
    clear hg9
    cases d
    · have HOF : Hid (ok = false) := Lib.hid (by rw [HOK.out]; rfl)
      have C5 := Lib.hid (AZ.out.setAll (enc12 0 0 0 0 0 0 0 0 false false 0 0) rfl)
      have HBZ := Lib.hid (below_sets (Nat.le_refl _) (enc12 0 0 0 0 0 0 0 0 false false 0 0) 0 _ HBX.out)
      go_wp2_with (first
        | ((with_reducible apply er_store0); (· rfl); (· rfl); (· exact AZ.out); (· rfl); (simp only [Act.put, List.setIfInBounds_toArray, List.set_cons_zero, List.set_cons_succ]); (generalize wy.setCells w.heap.size 0 (enc12 0 0 0 0 0 0 0 0 false false 0 0) = WW at *)))
      refine ret_cell_tmp (p := 2) (q := 3) rfl rfl rfl C5.out Try.underlying52 rfl (by rw [er_size]; rfl) rfl ⟨by rw [HOF.out, HGZ.out]; rfl, HBZ.out⟩
    · have rx : wy.rangeAt g9 0 X := AX.out.range 0 _ (by simp)
      go_wp2_with (first
        | ((with_reducible apply er_load); (· rfl); (· (first | assumption)); (· assumption); (simp only [Act.put, List.setIfInBounds_toArray, List.set_cons_zero, List.set_cons_succ])) | ((with_reducible apply er_load_g); (· rfl); (· rfl); (· (first | assumption)); (· assumption); (simp only [Act.put, List.setIfInBounds_toArray, List.set_cons_zero, List.set_cons_succ])))
      refine (M.out _).mono ?_
      rintro e w4 ⟨rfl, hb4⟩
      have HB4 := Lib.hid (HBX.out.trans (hb4.mono HBX.out.size))
      have AX4 := Lib.hid (AX.out.keep hb4 AX.out.lt)
      have AZ4 := Lib.hid (AZ.out.keep hb4 AZ.out.lt)
      clear hb4 rx AX AZ HBX M
      cases mv
      · have HOF : Hid (ok = false) := Lib.hid (by rw [HOK.out]; rfl)
        have C5 := Lib.hid (AZ4.out.setAll (enc12 0 0 0 0 0 0 0 0 false false 0 0) rfl)
        have HBZ := Lib.hid (below_sets (Nat.le_refl _) (enc12 0 0 0 0 0 0 0 0 false false 0 0) 0 _ HB4.out)
        go_wp2_with (first
          | ((with_reducible apply er_store0); (· rfl); (· rfl); (· exact AZ4.out); (· rfl); (simp only [Act.put, List.setIfInBounds_toArray, List.set_cons_zero, List.set_cons_succ]); (generalize w4.setCells w.heap.size 0 (enc12 0 0 0 0 0 0 0 0 false false 0 0) = WW at *)))
        refine ret_cell_tmp (p := 2) (q := 3) rfl rfl rfl C5.out Try.underlying52 rfl (by rw [er_size]; rfl) rfl ⟨by rw [HOF.out, HGZ.out]; rfl, HBZ.out⟩
      · have HOF : Hid (ok = true) := Lib.hid (by rw [HOK.out]; rfl)
        have rx : w4.rangeAt g9 0 X := AX4.out.range 0 _ (by simp)
        have AZ5 := AZ4.out
        go_wp2_with (first
          | ((with_reducible apply er_load); (· rfl); (· (first | assumption)); (· assumption); (simp only [Act.put, List.setIfInBounds_toArray, List.set_cons_zero, List.set_cons_succ]))
          | ((with_reducible apply er_store); (· rfl); (· rfl); (· assumption); (· first | rfl | assumption); (· assumption); (simp only [Act.put, List.setIfInBounds_toArray, List.set_cons_zero, List.set_cons_succ])))
        have C5 := AZ5.setAll X (by rw [HV.out.1]; rfl)
        refine ret_cell_tmp (p := 2) (q := 3) rfl rfl rfl C5 Try.underlying52 rfl (by rw [er_size, HV.out.1]) rfl ⟨by rw [HOF.out, HGN.out]; rfl, below_sets (Nat.le_refl _) _ _ _ HB4.out⟩
theorem lit1e (o : Int) : bcells (beOf (u64 o) 1) = [.int .u8 (o % 256)] := by
  have h : (UInt8.ofNat (u64 o % 256)).toNat = u64 o % 256 := by rw [UInt8.toNat_ofNat']; omega
  rw [be1]
  simp only [bcells, List.map_cons, List.map_nil, h]
  unfold u64
  congr 2
  omega
set_option maxRecDepth 100000 in
set_option maxHeartbeats 8000000 in
theorem rpute_any (k a n p q : Int) (w : World) : Calls Try.prog 77 #[.agg #[.int .i64 k, .int .i64 a, .int .i64 n, .int .i64 p, .int .i64 q]] w fun e w' => ∃ a' c', e = .returned (.slice a' 13 c') ∧ Sl w' a' 13 1 (bcells (encE k a n p q)) ∧ Below w.heap.size w w' := by
  obtain ⟨i0, hi, hz0, hz1, hz2⟩ := info_parts u8_info
  have A := Blk.new w #[.int .i64 k, .int .i64 a, .int .i64 n, .int .i64 p, .int .i64 q] 47
  have HB := Lib.hid ((Below.refl w.heap.size w).alloc (Nat.le_refl _) (.cells #[.int .i64 k, .int .i64 a, .int .i64 n, .int .i64 p, .int .i64 q] 47))
  go_enter Try.func77, Try.ntmps77
  go_upto_region 1 with fail
  have hzw : w.heap.size < (w.alloc (.cells #[.int .i64 k, .int .i64 a, .int .i64 n, .int .i64 p, .int .i64 q] 47)).heap.size := by simp
  generalize w.alloc (.cells #[.int .i64 k, .int .i64 a, .int .i64 n, .int .i64 p, .int .i64 q] 47) = W at *
  have c0 : W.cell? ⟨w.heap.size, 0, none⟩ = some (.int .i64 k) := A.cell 0
  have c1 : W.cell? ⟨w.heap.size, 1, none⟩ = some (.int .i64 a) := A.cell 1
  have c2 : W.cell? ⟨w.heap.size, 2, none⟩ = some (.int .i64 n) := A.cell 2
  have c3 : W.cell? ⟨w.heap.size, 3, none⟩ = some (.int .i64 p) := A.cell 3
  have c4 : W.cell? ⟨w.heap.size, 4, none⟩ = some (.int .i64 q) := A.cell 4
  have HA := Lib.hid A
  clear A
  have hl2 : bcells (beOf (u64 k) 1 ++ beOf (u64 a) 1) = [.int .u8 (k % 256), .int .u8 (a % 256)] := by rw [bcells_add, lit1e, lit1e]; rfl
  have HL := Lib.hid (lit_sl W [.int .u8 (k % 256), .int .u8 (a % 256)] (by simp))
  have HS0 : Hid (Sl (W.alloc (.cells #[.int .u8 (k % 256), .int .u8 (a % 256)] 5)) (some ⟨W.heap.size, 0, none⟩) 2 1 (bcells (beOf (u64 k) 1 ++ beOf (u64 a) 1))) := Lib.hid (by rw [hl2]; exact HL.out)
  have HA0 := Lib.hid (HA.out.alloc (.cells #[.int .u8 (k % 256), .int .u8 (a % 256)] 5))
  have HB0 := Lib.hid (HB.out.alloc HB.out.size (.cells #[.int .u8 (k % 256), .int .u8 (a % 256)] 5))
  have HW := Lib.hid (u64_wrap n)
  have P := Lib.hid (rput_ok (some ⟨W.heap.size, 0, none⟩) 2 2 (beOf (u64 k) 1 ++ beOf (u64 a) 1) (u64 n) 8 _ HS0.out (by decide) (by decide) (by decide) (u64_lt n))
  clear hl2 HL HA HB
  go_wp2_with fail
  rw [HW.out]
  refine P.out.mono ?_
  rintro e x1 ⟨v1, rfl, ho, hb⟩
  obtain ⟨a1, c1', rfl, _, _, hs⟩ := Sl.own ho
  have HO1 := Lib.hid ho
  have HB1 := Lib.hid (HB0.out.trans (hb.mono HB0.out.size))
  have A1 := Lib.hid (HA0.out.keep hb HA0.out.lt)
  have hq1 : w.heap.size < (W.alloc (.cells #[.int .u8 (k % 256), .int .u8 (a % 256)] 5)).heap.size := HA0.out.lt
  have hq2 := hb.size
  generalize hB : (W.alloc (.cells #[.int .u8 (k % 256), .int .u8 (a % 256)] 5)).heap.size = B at *
  generalize hX : beOf (u64 k) 1 ++ beOf (u64 a) 1 ++ beOf (u64 n) 8 = X1 at *
  have HX1 := Lib.hid hX
  clear hX hB ho hb hs P HW HS0 HA0 HB0 c0 c1 c2 c3 c4
  have d3 : x1.cell? ⟨w.heap.size, 3, none⟩ = some (.int .i64 p) := A1.out.cell 3
  have HLp : Hid (Sl (x1.alloc (.cells #[.int .u8 (p % 256)] 5)) (some ⟨x1.heap.size, 0, none⟩) 1 1 (bcells (beOf (u64 p) 1))) := Lib.hid (by rw [lit1e]; exact lit_sl x1 [.int .u8 (p % 256)] (by simp))
  have HO2 := Lib.hid (own_stay HO1.out ((Below.refl _ _).alloc (Nat.le_refl _) (.cells #[.int .u8 (p % 256)] 5)))
  have A2 := Lib.hid (A1.out.alloc (.cells #[.int .u8 (p % 256)] 5))
  have HB2 := Lib.hid (HB1.out.alloc HB1.out.size (.cells #[.int .u8 (p % 256)] 5))
  have hq3 : B ≤ (x1.alloc (.cells #[.int .u8 (p % 256)] 5)).heap.size := by simp; omega
  clear HO1 A1 HB1
  go_upto_region 3 with (first
    | (at_builtin; refine app_any _ _ 27 5 i0 (.int .u8 0) 1 1 Try.underlying27 hi hz0 hz1 hz2 rfl (by decide) rfl rfl rfl HO2.out rfl HLp.out (fun h => by cases h) (fun u hu => bcells_one hu) ?c1 ?c2 hq3 ?_))
  case c1 => decide
  case c2 => decide
  intro v3 x3 ho3 hb3
  rw [← bcells_add] at ho3
  obtain ⟨a3, c3', rfl, _, _, hs3⟩ := Sl.own ho3
  have HS3 := Lib.hid hs3
  have HB3 := Lib.hid (HB2.out.trans (hb3.mono (Nat.le_of_lt hq1)))
  have A3 := Lib.hid (A2.out.keep hb3 hq1)
  clear ho3 hb3 hs3 HO2 A2 HB2 d3 HLp
  generalize hX : X1 ++ beOf (u64 p) 1 = X3 at *
  have HX3 := Lib.hid hX
  clear hX
  have d4 : x3.cell? ⟨w.heap.size, 4, none⟩ = some (.int .i64 q) := A3.out.cell 4
  have HW := Lib.hid (u64_wrap q)
  have P := Lib.hid (rput_ok a3 11 c3' X3 (u64 q) 2 x3 HS3.out (by decide) (by decide) (by decide) (u64_lt q))
  go_wp2_with fail
  rw [HW.out]
  refine P.out.mono ?_
  rintro e x4 ⟨v4, rfl, ho, hb⟩
  obtain ⟨a4, c4', rfl, _, _, hs⟩ := Sl.own ho
  have HS4 := Lib.hid hs
  have HB4 := Lib.hid (HB3.out.trans (hb.mono HB3.out.size))
  clear ho hb hs P
  have HE := Lib.hid (show encE k a n p q = X3 ++ beOf (u64 q) 2 by unfold encE; rw [← HX3.out, ← HX1.out])
  go_wp2_with fail
  go_ret
  exact ⟨a4, c4', rfl, by rw [HE.out]; exact HS4.out, HB4.out⟩
set_option maxRecDepth 100000 in
set_option maxHeartbeats 8000000 in
theorem rnput_any (o k a n p q s l : Int) (ak gn : Bool) (b bl : Int) (w : World) : Calls Try.prog 58 #[.agg #[.int .i64 o, .int .i64 k, .int .i64 a, .int .i64 n, .int .i64 p, .int .i64 q, .int .i64 s, .int .i64 l, .bool ak, .bool gn, .int .i64 b, .int .i64 bl]] w fun e w' => ∃ a' c', e = .returned (.slice a' 27 c') ∧ Sl w' a' 27 1 (bcells (encN o k a n p q s l ak gn b bl)) ∧ Below w.heap.size w w' := by
  obtain ⟨i0, hi, hz0, hz1, hz2⟩ := info_parts u8_info
  have A := Lib.hid (Blk.new w #[.int .i64 o, .int .i64 k, .int .i64 a, .int .i64 n, .int .i64 p, .int .i64 q, .int .i64 s, .int .i64 l, .bool ak, .bool gn, .int .i64 b, .int .i64 bl] 52)
  have HB := Lib.hid ((Below.refl w.heap.size w).alloc (Nat.le_refl _) (.cells #[.int .i64 o, .int .i64 k, .int .i64 a, .int .i64 n, .int .i64 p, .int .i64 q, .int .i64 s, .int .i64 l, .bool ak, .bool gn, .int .i64 b, .int .i64 bl] 52))
  have CP := Lib.hid (fun w => rpute_any k a n p q w)
  go_enter Try.func58, Try.ntmps58
  go_upto_region 1 with fail
  generalize w.alloc (.cells #[.int .i64 o, .int .i64 k, .int .i64 a, .int .i64 n, .int .i64 p, .int .i64 q, .int .i64 s, .int .i64 l, .bool ak, .bool gn, .int .i64 b, .int .i64 bl] 52) = W at *
  have c0 : W.cell? ⟨w.heap.size, 0, none⟩ = some (.int .i64 o) := A.out.cell 0
  have c1 : W.cell? ⟨w.heap.size, 1, none⟩ = some (.int .i64 k) := A.out.cell 1
  have c2 : W.cell? ⟨w.heap.size, 2, none⟩ = some (.int .i64 a) := A.out.cell 2
  have c3 : W.cell? ⟨w.heap.size, 3, none⟩ = some (.int .i64 n) := A.out.cell 3
  have c4 : W.cell? ⟨w.heap.size, 4, none⟩ = some (.int .i64 p) := A.out.cell 4
  have c5 : W.cell? ⟨w.heap.size, 5, none⟩ = some (.int .i64 q) := A.out.cell 5
  have c6 : W.cell? ⟨w.heap.size, 6, none⟩ = some (.int .i64 s) := A.out.cell 6
  have c7 : W.cell? ⟨w.heap.size, 7, none⟩ = some (.int .i64 l) := A.out.cell 7
  have c8 : W.cell? ⟨w.heap.size, 8, none⟩ = some (.bool ak) := A.out.cell 8
  have c9 : W.cell? ⟨w.heap.size, 9, none⟩ = some (.bool gn) := A.out.cell 9
  have c10 : W.cell? ⟨w.heap.size, 10, none⟩ = some (.int .i64 b) := A.out.cell 10
  have c11 : W.cell? ⟨w.heap.size, 11, none⟩ = some (.int .i64 bl) := A.out.cell 11
  have HO0 : Hid ((W.alloc (.cells #[.int .u8 (o % 256)] 5)).ownsRow W.heap.size 5 1 (.slice (some ⟨W.heap.size, 0, none⟩) 1 1) 1 (bcells (beOf (u64 o) 1))) := Lib.hid (by rw [lit1]; exact own_lit W [.int .u8 (o % 256)] (by simp))
  have A0 := Lib.hid (A.out.alloc (.cells #[.int .u8 (o % 256)] 5))
  have HB0 := Lib.hid (HB.out.alloc HB.out.size (.cells #[.int .u8 (o % 256)] 5))
  have hw0 : w.heap.size < W.heap.size := A.out.lt
  have hq0 : W.heap.size ≤ (W.alloc (.cells #[.int .u8 (o % 256)] 5)).heap.size := by simp
  go_upto_region 2 with fail
  generalize hB : W.heap.size = B0 at *
  generalize W.alloc (.cells #[.int .u8 (o % 256)] 5) = x0 at *
  clear A HB hB c0 c1 c2 c3 c4 c5 c6 c7 c8 c9 c10 c11
  have c0 : x0.cell? ⟨w.heap.size, 0, none⟩ = some (.int .i64 o) := A0.out.cell 0
  have c1 : x0.cell? ⟨w.heap.size, 1, none⟩ = some (.int .i64 k) := A0.out.cell 1
  have c2 : x0.cell? ⟨w.heap.size, 2, none⟩ = some (.int .i64 a) := A0.out.cell 2
  have c3 : x0.cell? ⟨w.heap.size, 3, none⟩ = some (.int .i64 n) := A0.out.cell 3
  have c4 : x0.cell? ⟨w.heap.size, 4, none⟩ = some (.int .i64 p) := A0.out.cell 4
  have c5 : x0.cell? ⟨w.heap.size, 5, none⟩ = some (.int .i64 q) := A0.out.cell 5
  have c6 : x0.cell? ⟨w.heap.size, 6, none⟩ = some (.int .i64 s) := A0.out.cell 6
  have c7 : x0.cell? ⟨w.heap.size, 7, none⟩ = some (.int .i64 l) := A0.out.cell 7
  have c8 : x0.cell? ⟨w.heap.size, 8, none⟩ = some (.bool ak) := A0.out.cell 8
  have c9 : x0.cell? ⟨w.heap.size, 9, none⟩ = some (.bool gn) := A0.out.cell 9
  have c10 : x0.cell? ⟨w.heap.size, 10, none⟩ = some (.int .i64 b) := A0.out.cell 10
  have c11 : x0.cell? ⟨w.heap.size, 11, none⟩ = some (.int .i64 bl) := A0.out.cell 11
  go_wp2_with fail
  refine (CP.out _).mono ?_
  rintro e x1 ⟨a1, c1', rfl, hs1, hb1⟩
  have HO1 := Lib.hid (own_stay HO0.out hb1)
  have A1 := Lib.hid (A0.out.keep hb1 A0.out.lt)
  have HB1 := Lib.hid (HB0.out.trans (hb1.mono HB0.out.size))
  have HS1 := Lib.hid hs1
  have hq1 : B0 ≤ x1.heap.size := Nat.le_trans hq0 hb1.size
  have hnl : a1 = none → c1' = 0 := fun h0 => by
    rcases HS1.out.2 with h1 | ⟨b1, o1, h1, _⟩
    · omega
    · rw [h0] at h1; cases h1
  clear c0 c1 c2 c3 c4 c5 c6 c7 c8 c9 c10 c11
  clear hb1 hs1 HO0 A0 HB0
  go_upto_region 3 with (first
    | (at_builtin; refine app_any _ _ 27 5 i0 (.int .u8 0) 1 1 Try.underlying27 hi hz0 hz1 hz2 rfl (by decide) rfl rfl rfl HO1.out rfl HS1.out hnl (fun u hu => bcells_one hu) ?c1 ?c2 hq1 ?_))
  case c1 => decide
  case c2 => decide
  intro v2 x2 ho2 hb2
  rw [← bcells_add] at ho2
  have HO2 := Lib.hid ho2
  have HB2 := Lib.hid (HB1.out.trans (hb2.mono (Nat.le_of_lt hw0)))
  have A2 := Lib.hid (A1.out.keep hb2 hw0)
  have hq2 : B0 ≤ x2.heap.size := Nat.le_trans hq1 hb2.size
  clear ho2 hb2 HO1 HS1 A1 HB1
  generalize hX : beOf (u64 o) 1 ++ encE k a n p q = X2 at *
  have HX2 := Lib.hid hX
  clear hX
  have cc : x2.cell? ⟨w.heap.size, 6, none⟩ = some (.int .i64 s) := A2.out.cell 6
  have HL : Hid (Sl (x2.alloc (.cells #[.int .u8 (s % 256)] 5)) (some ⟨x2.heap.size, 0, none⟩) 1 1 (bcells (beOf (u64 s) 1))) := Lib.hid (by rw [lit1]; exact lit_sl x2 [.int .u8 (s % 256)] (by simp))
  have HOl := Lib.hid (own_stay HO2.out ((Below.refl _ _).alloc (Nat.le_refl _) (.cells #[.int .u8 (s % 256)] 5)))
  have Al := Lib.hid (A2.out.alloc (.cells #[.int .u8 (s % 256)] 5))
  have HBl := Lib.hid (HB2.out.alloc HB2.out.size (.cells #[.int .u8 (s % 256)] 5))
  have hql : B0 ≤ (x2.alloc (.cells #[.int .u8 (s % 256)] 5)).heap.size := by simp; omega
  clear HO2 A2 HB2
  go_upto_region 4 with (first
    | (at_builtin; refine app_any _ _ 27 5 i0 (.int .u8 0) 1 1 Try.underlying27 hi hz0 hz1 hz2 rfl (by decide) rfl rfl rfl HOl.out rfl HL.out (fun h => by cases h) (fun u hu => bcells_one hu) ?c1 ?c2 hql ?_))
  case c1 => decide
  case c2 => decide
  intro v3 x3 ho hb
  rw [← bcells_add] at ho
  have HO3 := Lib.hid ho
  have HB3 := Lib.hid (HBl.out.trans (hb.mono (by omega)))
  have A3 := Lib.hid (Al.out.keep hb (by omega))
  obtain ⟨a3, c3', rfl, _, _, hs⟩ := Sl.own HO3.out
  have HS3 := Lib.hid hs
  clear ho hb hs HOl HL Al HBl cc hql
  generalize hX : X2 ++ beOf (u64 s) 1 = X3 at *
  have HX3 := Lib.hid hX
  clear hX
  have cc : x3.cell? ⟨w.heap.size, 7, none⟩ = some (.int .i64 l) := A3.out.cell 7
  have HW := Lib.hid (u64_wrap l)
  have P0 := rput_ok a3 15 c3' X3 (u64 l) 4 x3 HS3.out (by decide) (by decide) (by decide) (u64_lt l)
  simp only [Nat.reduceAdd] at P0
  have P := Lib.hid P0
  clear P0
  go_wp2_with fail
  rw [HW.out]
  refine P.out.mono ?_
  rintro e x4 ⟨v4, rfl, ho, hb⟩
  have HO4 := Lib.hid ho
  have HB4 := Lib.hid (HB3.out.trans (hb.mono HB3.out.size))
  have hB4 : w.heap.size < x3.heap.size := A3.out.lt
  have A4 := Lib.hid (A3.out.keep hb A3.out.lt)
  have hq4 : x3.heap.size ≤ x4.heap.size := hb.size
  clear ho hb P cc HW HB3 A3 HS3 HO3
  generalize hX : X3 ++ beOf (u64 l) 4 = X4 at *
  have HX4 := Lib.hid hX
  clear hX
  have cc : x4.cell? ⟨w.heap.size, 10, none⟩ = some (.int .i64 b) := A4.out.cell 10
  have HL : Hid (Sl (x4.alloc (.cells #[.int .u8 (b % 256)] 5)) (some ⟨x4.heap.size, 0, none⟩) 1 1 (bcells (beOf (u64 b) 1))) := Lib.hid (by rw [lit1]; exact lit_sl x4 [.int .u8 (b % 256)] (by simp))
  have HOl := Lib.hid (own_stay HO4.out ((Below.refl _ _).alloc (Nat.le_refl _) (.cells #[.int .u8 (b % 256)] 5)))
  have Al := Lib.hid (A4.out.alloc (.cells #[.int .u8 (b % 256)] 5))
  have HBl := Lib.hid (HB4.out.alloc HB4.out.size (.cells #[.int .u8 (b % 256)] 5))
  have hql : x3.heap.size ≤ (x4.alloc (.cells #[.int .u8 (b % 256)] 5)).heap.size := by simp; omega
  clear HO4 A4 HB4
  go_upto_region 6 with (first
    | (at_builtin; refine app_any _ _ 27 5 i0 (.int .u8 0) 1 1 Try.underlying27 hi hz0 hz1 hz2 rfl (by decide) rfl rfl rfl HOl.out rfl HL.out (fun h => by cases h) (fun u hu => bcells_one hu) ?c1 ?c2 hql ?_))
  case c1 => decide
  case c2 => decide
  intro v5 x5 ho hb
  rw [← bcells_add] at ho
  have HO5 := Lib.hid ho
  have HB5 := Lib.hid (HBl.out.trans (hb.mono (by omega)))
  have A5 := Lib.hid (Al.out.keep hb (by omega))
  obtain ⟨a5, c5', rfl, _, _, hs⟩ := Sl.own HO5.out
  have HS5 := Lib.hid hs
  clear ho hb hs HOl HL Al HBl cc hql
  generalize hX : X4 ++ beOf (u64 b) 1 = X5 at *
  have HX5 := Lib.hid hX
  clear hX
  have cc : x5.cell? ⟨w.heap.size, 11, none⟩ = some (.int .i64 bl) := A5.out.cell 11
  have HW := Lib.hid (u64_wrap bl)
  have P0 := rput_ok a5 20 c5' X5 (u64 bl) 4 x5 HS5.out (by decide) (by decide) (by decide) (u64_lt bl)
  simp only [Nat.reduceAdd] at P0
  have P := Lib.hid P0
  clear P0
  go_wp2_with fail
  rw [HW.out]
  refine P.out.mono ?_
  rintro e x6 ⟨v6, rfl, ho, hb⟩
  have HO6 := Lib.hid ho
  have HB6 := Lib.hid (HB5.out.trans (hb.mono HB5.out.size))
  have hB6 : w.heap.size < x5.heap.size := A5.out.lt
  have A6 := Lib.hid (A5.out.keep hb A5.out.lt)
  have hq6 : x5.heap.size ≤ x6.heap.size := hb.size
  clear ho hb P cc HW HB5 A5 HS5 HO5
  generalize hX : X5 ++ beOf (u64 bl) 4 = X6 at *
  have HX6 := Lib.hid hX
  clear hX
  have cg8 : x6.cell? ⟨w.heap.size, 8, none⟩ = some (.bool ak) := A6.out.cell 8
  have cg9 : x6.cell? ⟨w.heap.size, 9, none⟩ = some (.bool gn) := A6.out.cell 9
  have HE := Lib.hid (show encN o k a n p q s l ak gn b bl = X6 ++ [UInt8.ofNat (flagsOf ak gn), 69, 69] by unfold encN encNf; rw [← HX6.out, ← HX5.out, ← HX4.out, ← HX3.out, ← HX2.out])
  have hlf : ([.int .u8 (flagsOf ak gn : Nat), .int .u8 69, .int .u8 69] : List Value) = bcells [UInt8.ofNat (flagsOf ak gn), 69, 69] := by cases ak <;> cases gn <;> rfl
  have HLF := Lib.hid hlf
  have HL := Lib.hid (lit_sl x6 [.int .u8 (flagsOf ak gn : Nat), .int .u8 69, .int .u8 69] (by simp))
  have HOz := Lib.hid (own_stay HO6.out ((Below.refl _ _).alloc (Nat.le_refl _) (.cells #[.int .u8 (flagsOf ak gn : Nat), .int .u8 69, .int .u8 69] 5)))
  have HBz := Lib.hid (HB6.out.alloc HB6.out.size (.cells #[.int .u8 (flagsOf ak gn : Nat), .int .u8 69, .int .u8 69] 5))
  have hqz : x5.heap.size ≤ (x6.alloc (.cells #[.int .u8 (flagsOf ak gn : Nat), .int .u8 69, .int .u8 69] 5)).heap.size := by simp; omega
  clear hlf HO6 HB6 A6
  cases ak <;> cases gn
  all_goals
    go_wp2_with (first
      | (at_builtin; refine app_any _ _ 27 5 i0 (.int .u8 0) 1 1 Try.underlying27 hi hz0 hz1 hz2 rfl (by decide) rfl rfl rfl HOz.out rfl HL.out (fun h => by cases h) (by simp [Value.oneCell']) ?c1 ?c2 hqz ?_))
    case c1 => decide
    case c2 => decide
    intro v8 x8 ho8 hb8
    rw [HLF.out, ← bcells_add, ← HE.out] at ho8
    obtain ⟨a8, c8', rfl, _, _, hs8⟩ := Sl.own ho8
    have HS8 := Lib.hid hs8
    have HB8 := Lib.hid (HBz.out.trans (hb8.mono (by omega)))
    clear ho8 hb8 hs8
    go_wp2_with fail
    go_ret
    exact ⟨a8, c8', rfl, HS8.out, HB8.out⟩
set_option maxRecDepth 100000 in
set_option maxHeartbeats 4000000 in
theorem rread_len (a : Option Addr) (n c : Nat) (w : World) (hn : n ≠ 27) :
    Calls Try.prog 39 #[.slice a n c] w fun e w' => e = .returned (.tuple #[.agg ([.int .i64 0, .int .i64 0, .int .i64 0, .int .i64 0, .int .i64 0, .int .i64 0, .int .i64 0, .int .i64 0, .bool false, .bool false, .int .i64 0, .int .i64 0] : List Value).toArray, .bool false]) ∧ Below w.heap.size w w' := by
  have HB := Lib.hid ((Below.refl w.heap.size w).alloc (Nat.le_refl _) (.cells #[.int .i64 0, .int .i64 0, .int .i64 0, .int .i64 0, .int .i64 0, .int .i64 0, .int .i64 0, .int .i64 0, .bool false, .bool false, .int .i64 0, .int .i64 0] 52))
  have AZ := Lib.hid (Blk.new w #[.int .i64 0, .int .i64 0, .int .i64 0, .int .i64 0, .int .i64 0, .int .i64 0, .int .i64 0, .int .i64 0, .bool false, .bool false, .int .i64 0, .int .i64 0] 52)
  have hn' : ¬ (n : Int) = 27 := by omega
  clear hn
  go_enter Try.func39, Try.ntmps39
  go_upto_region 1 with fail
  generalize w.alloc (.cells #[.int .i64 0, .int .i64 0, .int .i64 0, .int .i64 0, .int .i64 0, .int .i64 0, .int .i64 0, .int .i64 0, .bool false, .bool false, .int .i64 0, .int .i64 0] 52) = W at *
  go_upto_region 2 with fail
  have C5 := Lib.hid (AZ.out.setAll (enc12 0 0 0 0 0 0 0 0 false false 0 0) rfl)
  have HBZ := Lib.hid (below_sets (Nat.le_refl _) (enc12 0 0 0 0 0 0 0 0 false false 0 0) 0 _ HB.out)
  go_wp2_with (first
    | ((with_reducible apply er_store0); (· rfl); (· rfl); (· exact AZ.out); (· rfl); (simp only [Act.put, List.setIfInBounds_toArray, List.set_cons_zero, List.set_cons_succ]); (generalize W.setCells w.heap.size 0 (enc12 0 0 0 0 0 0 0 0 false false 0 0) = WW at *)))
  refine ret_cell_tmp (p := 2) (q := 3) rfl rfl rfl C5.out Try.underlying52 rfl (by rw [er_size]; rfl) rfl ⟨rfl, HBZ.out⟩
set_option maxRecDepth 100000 in
set_option maxHeartbeats 4000000 in
theorem rread_bad (a : Option Addr) (c : Nat) (bs : List UInt8) (w : World) (h : Sl w a 27 1 (bcells bs)) (hbad : ¬ ((bs.getD 24 0).toNat ≤ 3 ∧ (bs.getD 25 0).toNat = 69 ∧ (bs.getD 26 0).toNat = 69)) :
    Calls Try.prog 39 #[.slice a 27 c] w fun e w' => e = .returned (.tuple #[.agg ([.int .i64 0, .int .i64 0, .int .i64 0, .int .i64 0, .int .i64 0, .int .i64 0, .int .i64 0, .int .i64 0, .bool false, .bool false, .int .i64 0, .int .i64 0] : List Value).toArray, .bool false]) ∧ Below w.heap.size w w' := by
  have HB := Lib.hid ((Below.refl w.heap.size w).alloc (Nat.le_refl _) (.cells #[.int .i64 0, .int .i64 0, .int .i64 0, .int .i64 0, .int .i64 0, .int .i64 0, .int .i64 0, .int .i64 0, .bool false, .bool false, .int .i64 0, .int .i64 0] 52))
  have AZ := Lib.hid (Blk.new w #[.int .i64 0, .int .i64 0, .int .i64 0, .int .i64 0, .int .i64 0, .int .i64 0, .int .i64 0, .int .i64 0, .bool false, .bool false, .int .i64 0, .int .i64 0] 52)
  have hbl : bs.length = 27 := sl_one h
  obtain ⟨_, bb, off, rfl, hb, hcell⟩ := h.byte (by omega)
  have b24 : w.cell? ⟨bb, off + 24, none⟩ = some (.int .u8 ((bs.getD 24 0).toNat : Int)) := hcell 24 (by omega)
  have b25 : w.cell? ⟨bb, off + 25, none⟩ = some (.int .u8 ((bs.getD 25 0).toNat : Int)) := hcell 25 (by omega)
  have b26 : w.cell? ⟨bb, off + 26, none⟩ = some (.int .u8 ((bs.getD 26 0).toNat : Int)) := hcell 26 (by omega)
  have HBAD := Lib.hid hbad
  clear h hbl hcell hbad
  generalize (bs.getD 24 0).toNat = x24 at *
  generalize (bs.getD 25 0).toNat = x25 at *
  generalize (bs.getD 26 0).toNat = x26 at *
  have d24 : (24 : Int) < 27 := by decide
  go_enter Try.func39, Try.ntmps39
  go_upto_region 1 with fail
  have a24 := (World.cell?_alloc_some w ⟨bb, off + 24, none⟩ (.cells #[.int .i64 0, .int .i64 0, .int .i64 0, .int .i64 0, .int .i64 0, .int .i64 0, .int .i64 0, .int .i64 0, .bool false, .bool false, .int .i64 0, .int .i64 0] 52) (by rw [b24]; rfl)).trans b24
  have a25 := (World.cell?_alloc_some w ⟨bb, off + 25, none⟩ (.cells #[.int .i64 0, .int .i64 0, .int .i64 0, .int .i64 0, .int .i64 0, .int .i64 0, .int .i64 0, .int .i64 0, .bool false, .bool false, .int .i64 0, .int .i64 0] 52) (by rw [b25]; rfl)).trans b25
  have a26 := (World.cell?_alloc_some w ⟨bb, off + 26, none⟩ (.cells #[.int .i64 0, .int .i64 0, .int .i64 0, .int .i64 0, .int .i64 0, .int .i64 0, .int .i64 0, .int .i64 0, .bool false, .bool false, .int .i64 0, .int .i64 0] 52) (by rw [b26]; rfl)).trans b26
  clear b24 b25 b26
  generalize w.alloc (.cells #[.int .i64 0, .int .i64 0, .int .i64 0, .int .i64 0, .int .i64 0, .int .i64 0, .int .i64 0, .int .i64 0, .bool false, .bool false, .int .i64 0, .int .i64 0] 52) = W at *
  by_cases h1 : (3 : Int) < (x24 : Int)
  · go_upto_region 2 with fail
    have C5 := Lib.hid (AZ.out.setAll (enc12 0 0 0 0 0 0 0 0 false false 0 0) rfl)
    have HBZ := Lib.hid (below_sets (Nat.le_refl _) (enc12 0 0 0 0 0 0 0 0 false false 0 0) 0 _ HB.out)
    go_wp2_with (first
      | ((with_reducible apply er_store0); (· rfl); (· rfl); (· exact AZ.out); (· rfl); (simp only [Act.put, List.setIfInBounds_toArray, List.set_cons_zero, List.set_cons_succ]); (generalize W.setCells w.heap.size 0 (enc12 0 0 0 0 0 0 0 0 false false 0 0) = WW at *)))
    refine ret_cell_tmp (p := 2) (q := 3) rfl rfl rfl C5.out Try.underlying52 rfl (by rw [er_size]; rfl) rfl ⟨rfl, HBZ.out⟩
  · by_cases h2 : (x25 : Int) = 69
    · have h3 : ¬ (x26 : Int) = 69 := by have := HBAD.out; omega
      rw [h2] at a25
      go_upto_region 2 with fail
      have C5 := Lib.hid (AZ.out.setAll (enc12 0 0 0 0 0 0 0 0 false false 0 0) rfl)
      have HBZ := Lib.hid (below_sets (Nat.le_refl _) (enc12 0 0 0 0 0 0 0 0 false false 0 0) 0 _ HB.out)
      go_wp2_with (first
        | ((with_reducible apply er_store0); (· rfl); (· rfl); (· exact AZ.out); (· rfl); (simp only [Act.put, List.setIfInBounds_toArray, List.set_cons_zero, List.set_cons_succ]); (generalize W.setCells w.heap.size 0 (enc12 0 0 0 0 0 0 0 0 false false 0 0) = WW at *)))
      refine ret_cell_tmp (p := 2) (q := 3) rfl rfl rfl C5.out Try.underlying52 rfl (by rw [er_size]; rfl) rfl ⟨rfl, HBZ.out⟩
    · go_upto_region 2 with fail
      have C5 := Lib.hid (AZ.out.setAll (enc12 0 0 0 0 0 0 0 0 false false 0 0) rfl)
      have HBZ := Lib.hid (below_sets (Nat.le_refl _) (enc12 0 0 0 0 0 0 0 0 false false 0 0) 0 _ HB.out)
      go_wp2_with (first
        | ((with_reducible apply er_store0); (· rfl); (· rfl); (· exact AZ.out); (· rfl); (simp only [Act.put, List.setIfInBounds_toArray, List.set_cons_zero, List.set_cons_succ]); (generalize W.setCells w.heap.size 0 (enc12 0 0 0 0 0 0 0 0 false false 0 0) = WW at *)))
      refine ret_cell_tmp (p := 2) (q := 3) rfl rfl rfl C5.out Try.underlying52 rfl (by rw [er_size]; rfl) rfl ⟨rfl, HBZ.out⟩
set_option maxRecDepth 100000 in
set_option maxHeartbeats 4000000 in
theorem rput20_any (o k a n p q s l : Int) (ak gn : Bool) (b bl : Int) (w : World) : Calls Try.prog 37 #[.agg #[.int .i64 o, .int .i64 k, .int .i64 a, .int .i64 n, .int .i64 p, .int .i64 q, .int .i64 s, .int .i64 l, .bool ak, .bool gn, .int .i64 b, .int .i64 bl]] w fun e w' => ∃ a' n' c', e = .returned (.slice a' n' c') ∧ Sl w' a' n' 1 (bcells (putN o k a n p q s l ak gn b bl)) ∧ Below w.heap.size w w' := by
  have HA : Hid (Blk (w.alloc (.cells #[.int .i64 o, .int .i64 k, .int .i64 a, .int .i64 n, .int .i64 p, .int .i64 q, .int .i64 s, .int .i64 l, .bool ak, .bool gn, .int .i64 b, .int .i64 bl] 52)) w.heap.size (enc12 o k a n p q s l ak gn b bl) 52) := Lib.hid (Blk.new w #[.int .i64 o, .int .i64 k, .int .i64 a, .int .i64 n, .int .i64 p, .int .i64 q, .int .i64 s, .int .i64 l, .bool ak, .bool gn, .int .i64 b, .int .i64 bl] 52)
  have HB := Lib.hid ((Below.refl w.heap.size w).alloc (Nat.le_refl _) (.cells #[.int .i64 o, .int .i64 k, .int .i64 a, .int .i64 n, .int .i64 p, .int .i64 q, .int .i64 s, .int .i64 l, .bool ak, .bool gn, .int .i64 b, .int .i64 bl] 52))
  have HV := enc12_ok o k a n p q s l ak gn b bl
  have CM := Lib.hid (fun w => show Calls Try.prog 23 #[.agg (enc12 o k a n p q s l ak gn b bl).toArray] w fun e w' => e = .returned (.bool (mayEnt o k a p q s l ak gn b bl)) ∧ Below w.heap.size w w' from rment_any o k a n p q s l ak gn b bl w)
  have CO := Lib.hid (fun w => show Calls Try.prog 58 #[.agg (enc12 o k a n p q s l ak gn b bl).toArray] w _ from rnput_any o k a n p q s l ak gn b bl w)
  have HP : Hid (putN o k a n p q s l ak gn b bl = if mayEnt o k a p q s l ak gn b bl = true then encN o k a n p q s l ak gn b bl else []) := Lib.hid rfl
  generalize encN o k a n p q s l ak gn b bl = EE at *
  generalize mayEnt o k a p q s l ak gn b bl = mv at *
  generalize putN o k a n p q s l ak gn b bl = PP at *
  go_enter Try.func37, Try.ntmps37
  go_upto_region 1 with fail
  generalize w.alloc (.cells #[.int .i64 o, .int .i64 k, .int .i64 a, .int .i64 n, .int .i64 p, .int .i64 q, .int .i64 s, .int .i64 l, .bool ak, .bool gn, .int .i64 b, .int .i64 bl] 52) = W at *
  generalize enc12 o k a n p q s l ak gn b bl = X at *
  have rx : W.rangeAt w.heap.size 0 X := HA.out.range 0 _ (by simp)
  go_wp2_with (first
    | ((with_reducible apply er_load); (· rfl); (· (first | assumption)); (· assumption); (simp only [Act.put, List.setIfInBounds_toArray, List.set_cons_zero, List.set_cons_succ])))
  refine (CM.out _).mono ?_
  rintro e w1 ⟨rfl, hb⟩
  have HB1 := Lib.hid (HB.out.trans (hb.mono HB.out.size))
  have HA1 := Lib.hid (HA.out.keep hb HA.out.lt)
  clear hb rx HA HB CM
  have rx : w1.rangeAt w.heap.size 0 X := HA1.out.range 0 _ (by simp)
  cases mv
  · go_wp2_with fail
    go_ret
    exact ⟨none, 0, 0, rfl, by rw [HP.out]; exact ⟨rfl, Or.inl rfl⟩, HB1.out⟩
  · go_wp2_with (first
      | ((with_reducible apply er_load); (· rfl); (· (first | assumption)); (· assumption); (simp only [Act.put, List.setIfInBounds_toArray, List.set_cons_zero, List.set_cons_succ])))
    refine (CO.out _).mono ?_
    rintro e w2 ⟨a', c', rfl, hs, hb⟩
    have HB2 := Lib.hid (HB1.out.trans (hb.mono HB1.out.size))
    have HS2 := Lib.hid hs
    clear hb hs
    go_wp2_with fail
    go_ret
    exact ⟨a', 27, c', rfl, by rw [HP.out]; exact HS2.out, HB2.out⟩
theorem s64_fits (m : Nat) : fits (s64 m) = true := by rw [fits_iff]; unfold s64 wrap64; omega
theorem fld_fits (bs : List UInt8) (o k : Nat) : fits (fld bs o k) = true := by unfold fld; exact s64_fits _
theorem fits_mem {l : List Int} (h : ∀ z ∈ l, fits z = true) (j : Nat) : fits (l.getD j 0) = true := by
  by_cases hj : j < l.length
  · rw [List.getD_eq_getElem?_getD, List.getElem?_eq_getElem hj]
    exact h _ (List.getElem_mem hj)
  · rw [List.getD_eq_getElem?_getD, List.getElem?_eq_none (by omega)]; rfl
theorem zeros_ok : OkAll (List.replicate 9 (some .i64)) (ints [0, 0, 0, 0, 0, 0, 0, 0, 0]) := ok9 [0, 0, 0, 0, 0, 0, 0, 0, 0] (by intro k; rcases k with _ | _ | _ | _ | _ | _ | _ | _ | _ | k <;> rfl)
set_option maxRecDepth 100000 in
set_option maxHeartbeats 8000000 in
theorem gets_bad (a : Option Addr) (n c : Nat) (w : World)
    (G : Hid (∀ w', Below w.heap.size w w' → Calls Try.prog 13 #[.slice a n c] w' fun e w'' => e = .returned (.tuple #[.agg (ints [0, 0, 0, 0, 0, 0, 0, 0, 0]).toArray, .int .i64 16]) ∧ Below w'.heap.size w' w''))
    (R : Hid (∀ w', Below w.heap.size w w' → Calls Try.prog 15 #[.slice a n c] w' fun e w'' => e = .returned (.tuple #[.agg (ints [0, 0, 0, 0, 0, 0, 0, 0, 0]).toArray, .bool false]) ∧ Below w'.heap.size w' w'')) :
    Calls Try.prog 4 #[.slice a n c] w fun e w' => e = .returned (.bool true) ∧ Below w.heap.size w w' := by
  have h9 : Hid (([0, 0, 0, 0, 0, 0, 0, 0, 0] : List Int).length = 9) := Lib.hid rfl
  have ok1 := zeros_ok
  go_enter Try.func4, Try.ntmps4
  go_wp2_with fail
  refine (alive09 _).mono ?_
  rintro e w2 ⟨rfl, hb2⟩
  have HB2 := Lib.hid hb2
  clear hb2
  go_wp2_with fail
  refine (G.out _ HB2.out).mono ?_
  rintro e w3 ⟨rfl, hb3⟩
  have HB3 := Lib.hid (HB2.out.trans (hb3.mono HB2.out.size))
  have A3 := Lib.hid (Blk.new w3 (ints [0, 0, 0, 0, 0, 0, 0, 0, 0]).toArray 25)
  have HB3' := Lib.hid (HB3.out.alloc HB3.out.size (.cells (ints [0, 0, 0, 0, 0, 0, 0, 0, 0]).toArray 25))
  rw [List.toList_toArray] at A3
  clear hb3 HB2 HB3
  go_upto_region 4 with (first
    | ((with_reducible apply cg_store_new); (· rfl); (· first | rfl | simp); (· rfl); (· rfl); (· assumption); (simp only [Act.put, List.setIfInBounds_toArray, List.set_cons_zero, List.set_cons_succ])))
  generalize hg3 : w3.heap.size = g3 at *
  generalize w3.alloc (.cells (ints [0, 0, 0, 0, 0, 0, 0, 0, 0]).toArray 25) = w4 at *
  clear hg3
  go_wp2_with fail
  refine (R.out _ HB3'.out).mono ?_
  rintro e w5 ⟨rfl, hb5⟩
  have HB5 := Lib.hid (HB3'.out.trans (hb5.mono HB3'.out.size))
  have A5 := Lib.hid ((A3.out.keep hb5 A3.out.lt).alloc (.cells (ints [0, 0, 0, 0, 0, 0, 0, 0, 0]).toArray 25))
  have HB5' := Lib.hid (HB5.out.alloc HB5.out.size (.cells (ints [0, 0, 0, 0, 0, 0, 0, 0, 0]).toArray 25))
  have r5 : (w5.alloc (.cells (ints [0, 0, 0, 0, 0, 0, 0, 0, 0]).toArray 25)).rangeAt g3 0 (ints [0, 0, 0, 0, 0, 0, 0, 0, 0]) := Blk.cg A5.out h9
  clear hb5 A3 HB3' HB5
  go_upto_region 5 with (first
    | ((with_reducible apply cg_store_new); (· rfl); (· first | rfl | simp); (· rfl); (· rfl); (· assumption); (simp only [Act.put, List.setIfInBounds_toArray, List.set_cons_zero, List.set_cons_succ])))
  generalize w5.alloc (.cells (ints [0, 0, 0, 0, 0, 0, 0, 0, 0]).toArray 25) = w6 at *
  go_wp2_with (first
    | ((with_reducible apply cg_load); (· rfl); (· (first | assumption)); (· assumption); (simp only [Act.put, List.setIfInBounds_toArray, List.set_cons_zero, List.set_cons_succ]))
    | ((with_reducible apply cg_load_g); (· rfl); (· rfl); (· (first | assumption)); (· assumption); (simp only [Act.put, List.setIfInBounds_toArray, List.set_cons_zero, List.set_cons_succ]))
    | ((with_reducible apply cg_eql); (· rfl); (· rfl); (· assumption); (simp only [Act.put, List.setIfInBounds_toArray, List.set_cons_zero, List.set_cons_succ]))
    | ((with_reducible apply cg_eql_g); (· rfl); (· rfl); (· rfl); (· assumption); (simp only [Act.put, List.setIfInBounds_toArray, List.set_cons_zero, List.set_cons_succ])))
  go_ret
  exact ⟨rfl, HB5'.out⟩
set_option maxRecDepth 100000 in
set_option maxHeartbeats 8000000 in
theorem gets_good (a : Option Addr) (c : Nat) (bs : List UInt8) (X : List Int) (w : World) (h9 : Hid (X.length = 9)) (fx : ∀ j, fits (X.getD j 0) = true) (HS : Hid (Sl w a 22 1 (bcells bs)))
    (G : Hid (∀ w', Below w.heap.size w w' → Calls Try.prog 13 #[.slice a 22 c] w' fun e w'' => e = .returned (.tuple #[.agg (ints X).toArray, .int .i64 0]) ∧ Below w'.heap.size w' w''))
    (R : Hid (∀ w', Below w.heap.size w w' → Calls Try.prog 15 #[.slice a 22 c] w' fun e w'' => e = .returned (.tuple #[.agg (ints X).toArray, .bool true]) ∧ Below w'.heap.size w' w''))
    (P : Hid (∀ w, Calls Try.prog 10 #[.agg (ints X).toArray] w fun e w' => ∃ a' c', e = .returned (.tuple #[.slice a' 22 c', .int .i64 0]) ∧ Sl w' a' 22 1 (bcells bs) ∧ Below w.heap.size w w')) :
    Calls Try.prog 4 #[.slice a 22 c] w fun e w' => e = .returned (.bool true) ∧ Below w.heap.size w w' := by
  have ok1 : OkAll (List.replicate 9 (some .i64)) (ints X) := by have := ok9 X fx; rwa [h9.out] at this
  clear fx
  go_enter Try.func4, Try.ntmps4
  go_wp2_with fail
  refine (alive09 _).mono ?_
  rintro e w2 ⟨rfl, hb2⟩
  have HB2 := Lib.hid hb2
  clear hb2
  go_wp2_with fail
  refine (G.out _ HB2.out).mono ?_
  rintro e w3 ⟨rfl, hb3⟩
  have HB3 := Lib.hid (HB2.out.trans (hb3.mono HB2.out.size))
  have A3 := Lib.hid (Blk.new w3 (ints X).toArray 25)
  have HB3' := Lib.hid (HB3.out.alloc HB3.out.size (.cells (ints X).toArray 25))
  rw [List.toList_toArray] at A3
  clear hb3 HB2 HB3
  go_upto_region 4 with (first
    | ((with_reducible apply cg_store_new); (· rfl); (· first | rfl | simp); (· rfl); (· rfl); (· assumption); (simp only [Act.put, List.setIfInBounds_toArray, List.set_cons_zero, List.set_cons_succ])))
  generalize hg3 : w3.heap.size = g3 at *
  generalize w3.alloc (.cells (ints X).toArray 25) = w4 at *
  clear hg3
  go_wp2_with fail
  refine (R.out _ HB3'.out).mono ?_
  rintro e w5 ⟨rfl, hb5⟩
  have HB5 := Lib.hid (HB3'.out.trans (hb5.mono HB3'.out.size))
  have A5 := Lib.hid ((A3.out.keep hb5 A3.out.lt).alloc (.cells (ints X).toArray 25))
  have D5 := Lib.hid (Blk.new w5 (ints X).toArray 25)
  have HB5' := Lib.hid (HB5.out.alloc HB5.out.size (.cells (ints X).toArray 25))
  rw [List.toList_toArray] at D5
  have r5 : (w5.alloc (.cells (ints X).toArray 25)).rangeAt g3 0 (ints X) := Blk.cg A5.out h9
  clear hb5 A3 HB3' HB5
  go_upto_region 5 with (first
    | ((with_reducible apply cg_store_new); (· rfl); (· first | rfl | simp); (· rfl); (· rfl); (· assumption); (simp only [Act.put, List.setIfInBounds_toArray, List.set_cons_zero, List.set_cons_succ])))
  generalize hg5 : w5.heap.size = g5 at *
  generalize w5.alloc (.cells (ints X).toArray 25) = w6 at *
  clear hg5
  go_wp2_with (first
    | ((with_reducible apply cg_load); (· rfl); (· (first | assumption)); (· assumption); (simp only [Act.put, List.setIfInBounds_toArray, List.set_cons_zero, List.set_cons_succ]))
    | ((with_reducible apply cg_load_g); (· rfl); (· rfl); (· (first | assumption)); (· assumption); (simp only [Act.put, List.setIfInBounds_toArray, List.set_cons_zero, List.set_cons_succ]))
    | ((with_reducible apply cg_eql); (· rfl); (· rfl); (· assumption); (simp only [Act.put, List.setIfInBounds_toArray, List.set_cons_zero, List.set_cons_succ]))
    | ((with_reducible apply cg_eql_g); (· rfl); (· rfl); (· rfl); (· assumption); (simp only [Act.put, List.setIfInBounds_toArray, List.set_cons_zero, List.set_cons_succ])))
  refine (P.out _).mono ?_
  rintro e w7 ⟨a7, c7, rfl, hs7, hb7⟩
  have HB7 := Lib.hid (HB5'.out.trans (hb7.mono HB5'.out.size))
  have A7 := Lib.hid (A5.out.keep hb7 A5.out.lt)
  have D7 := Lib.hid (D5.out.keep hb7 D5.out.lt)
  have r7 : w7.rangeAt g3 0 (ints X) := Blk.cg A7.out h9
  have s7 : w7.rangeAt g5 0 (ints X) := Blk.cg D7.out h9
  have cv1 := conv_bytes hs7 c7
  have cv2 := conv_bytes (HS.out.keep HB7.out) c
  clear hb7 A5 D5 HB5' hs7 r5
  go_wp2_with (first
    | ((with_reducible apply cg_load); (· rfl); (· (first | assumption)); (· assumption); (simp only [Act.put, List.setIfInBounds_toArray, List.set_cons_zero, List.set_cons_succ]))
    | ((with_reducible apply cg_load_g); (· rfl); (· rfl); (· (first | assumption)); (· assumption); (simp only [Act.put, List.setIfInBounds_toArray, List.set_cons_zero, List.set_cons_succ]))
    | ((with_reducible apply cg_eql); (· rfl); (· rfl); (· assumption); (simp only [Act.put, List.setIfInBounds_toArray, List.set_cons_zero, List.set_cons_succ]))
    | ((with_reducible apply cg_eql_g); (· rfl); (· rfl); (· rfl); (· assumption); (simp only [Act.put, List.setIfInBounds_toArray, List.set_cons_zero, List.set_cons_succ])))
  go_ret
  exact ⟨rfl, HB7.out⟩
theorem gets_law (v0 : Value) (w : World) (h0 : Arg Try.prog w 27 v0) : Calls Try.prog 4 #[v0] w fun e w' => e = .returned (.bool true) ∧ Below w.heap.size w w' := by
  obtain ⟨a, n, c, bs, rfl, hnc, hc, hn, hl, hs⟩ := h0.bytes
  by_cases hn22 : n = 22
  · subst hn22
    by_cases h67 : (bs.getD 21 0).toNat = 67
    · rcases hm : mayChg (fld bs 0 1) (fld bs 1 2) (fld bs 3 4) (fld bs 7 1) (fld bs 8 1) (fld bs 9 1) (fld bs 18 1) (fld bs 19 2) with _ | _
      · refine gets_bad a 22 c w (Lib.hid fun w' hb => get_no a c bs w' (hs.keep hb) h67 hm) (Lib.hid fun w' hb => ?_)
        exact (rgetc_main a c bs false w' (hs.keep hb) hnc hc h67 hm).mono fun e w'' h => ⟨h.2.1 rfl, h.2.2⟩
      · refine gets_good a c bs [fld bs 0 1, fld bs 1 2, fld bs 3 4, fld bs 7 1, fld bs 8 1, fld bs 9 1, fld bs 10 8, fld bs 18 1, fld bs 19 2] w (Lib.hid rfl) ?_ (Lib.hid hs) (Lib.hid fun w' hb => get_ok a c bs w' (hs.keep hb) h67 hm) (Lib.hid fun w' hb => ?_) (Lib.hid fun w => ?_)
        · refine fits_mem fun z hz => ?_
          simp only [List.mem_cons, List.not_mem_nil, or_false] at hz
          rcases hz with h | h | h | h | h | h | h | h | h
          all_goals (rw [h]; exact fld_fits _ _ _)
        · exact (rgetc_main a c bs true w' (hs.keep hb) hnc hc h67 hm).mono fun e w'' h => ⟨h.1 rfl, h.2.2⟩
        · have := cput_yes (fld bs 0 1) (fld bs 1 2) (fld bs 3 4) (fld bs 7 1) (fld bs 8 1) (fld bs 9 1) (fld bs 10 8) (fld bs 18 1) (fld bs 19 2) w hm
          rwa [enc_dec hl h67] at this
    · refine gets_bad a 22 c w (Lib.hid fun w' hb => get_end a c bs w' (hs.keep hb) h67) (Lib.hid fun w' hb => rgetc_end a c bs w' (hs.keep hb) h67)
  · exact gets_bad a n c w (Lib.hid fun w' hb => get_len a n c w' hn22) (Lib.hid fun w' hb => rgetc_len a n c w' hn22)
theorem ence_dec {e : List UInt8} (h : e.length = 13) : encE (fld e 0 1) (fld e 1 1) (fld e 2 8) (fld e 10 1) (fld e 11 2) = e := by
  unfold encE
  rw [seg e 0 1 (by omega) (by decide), seg e 1 1 (by omega) (by decide), seg e 2 8 (by omega) (by decide), seg e 10 1 (by omega) (by decide), seg e 11 2 (by omega) (by decide)]
  match e, h with
  | [a0, a1, a2, a3, a4, a5, a6, a7, a8, a9, a10, a11, a12], _ => rfl
theorem flag_byte (x : UInt8) (h : x.toNat ≤ 3) (f : Int) (hf : f = (x.toNat : Int)) : UInt8.ofNat (flagsOf (actB f) (gonB f)) = x := by
  apply UInt8.toNat_inj.1
  subst hf
  generalize x.toNat = m at *
  rcases (show m = 0 ∨ m = 1 ∨ m = 2 ∨ m = 3 by omega) with rfl | rfl | rfl | rfl <;> decide
theorem encn_dec {bs : List UInt8} (h : bs.length = 27) (h24 : (bs.getD 24 0).toNat ≤ 3) (h25 : (bs.getD 25 0).toNat = 69) (h26 : (bs.getD 26 0).toNat = 69) {ek ea en ep eq : Int}
    (hE : encE ek ea en ep eq = (bs.drop 1).take 13) : encN (fld bs 0 1) ek ea en ep eq (fld bs 14 1) (fld bs 15 4) (actB (fld bs 24 1)) (gonB (fld bs 24 1)) (fld bs 19 1) (fld bs 20 4) = bs := by
  unfold encN encNf
  rw [hE, flag_byte (bs.getD 24 0) h24 (fld bs 24 1) (fld_one bs 24 (by omega)).symm]
  rw [seg bs 0 1 (by omega) (by decide), seg bs 14 1 (by omega) (by decide), seg bs 15 4 (by omega) (by decide), seg bs 19 1 (by omega) (by decide), seg bs 20 4 (by omega) (by decide)]
  match bs, h with
  | [a0, a1, a2, a3, a4, a5, a6, a7, a8, a9, a10, a11, a12, a13, a14, a15, a16, a17, a18, a19, a20, a21, a22, a23, a24, a25, a26], _ =>
    have e25 : a25 = 69 := UInt8.toNat_inj.1 h25
    have e26 : a26 = 69 := UInt8.toNat_inj.1 h26
    subst e25; subst e26
    rfl
/-- the octets may be an entry's. -/
def goodN (bs : List UInt8) : Prop := (bs.getD 24 0).toNat ≤ 3 ∧ (bs.getD 25 0).toNat = 69 ∧ (bs.getD 26 0).toNat = 69
theorem goodN_enc (o k a n p q s l : Int) (ak gn : Bool) (b bl : Int) : goodN (encN o k a n p q s l ak gn b bl) := by
  have ht := encn_tail o k a n p q s l ak gn b bl
  have hd : ∀ j, (encN o k a n p q s l ak gn b bl).getD (24 + j) 0 = (([UInt8.ofNat (flagsOf ak gn), 69, 69] : List UInt8)).getD j 0 := fun j => by
    rw [← ht, List.getD_eq_getElem?_getD, List.getD_eq_getElem?_getD, List.getElem?_drop]
  refine ⟨?_, ?_, ?_⟩
  · have := hd 0
    rw [show (24 + 0 : Nat) = 24 from rfl] at this
    rw [this]
    cases ak <;> cases gn <;> decide
  · have := hd 1
    rw [show (24 + 1 : Nat) = 25 from rfl] at this
    rw [this]; rfl
  · have := hd 2
    rw [show (24 + 2 : Nat) = 26 from rfl] at this
    rw [this]; rfl
theorem read_get {bs : List UInt8} (hl : bs.length = 27) {ek ea en ep eq : Int} (hE : effOf ((bs.drop 1).take 13) = [ek, ea, en, ep, eq]) {code : Int}
    (hc : effCode (fld ((bs.drop 1).take 13) 0 1) (fld ((bs.drop 1).take 13) 1 1) (fld ((bs.drop 1).take 13) 10 1) (fld ((bs.drop 1).take 13) 11 2) = code) :
    putN (fld bs 0 1) ek ea en ep eq (fld bs 14 1) (fld bs 15 4) (actB (fld bs 24 1)) (gonB (fld bs 24 1)) (fld bs 19 1) (fld bs 20 4) = bs ↔
      goodN bs ∧ code = 0 ∧ mayEnt (fld bs 0 1) ek ea ep eq (fld bs 14 1) (fld bs 15 4) (actB (fld bs 24 1)) (gonB (fld bs 24 1)) (fld bs 19 1) (fld bs 20 4) = true := by
  have hl13 : ((bs.drop 1).take 13).length = 13 := by rw [List.length_take, List.length_drop]; omega
  constructor
  · intro h
    have hm : mayEnt (fld bs 0 1) ek ea ep eq (fld bs 14 1) (fld bs 15 4) (actB (fld bs 24 1)) (gonB (fld bs 24 1)) (fld bs 19 1) (fld bs 20 4) = true := by
      rcases hv : mayEnt (fld bs 0 1) ek ea ep eq (fld bs 14 1) (fld bs 15 4) (actB (fld bs 24 1)) (gonB (fld bs 24 1)) (fld bs 19 1) (fld bs 20 4) with _ | _
      · unfold putN at h
        rw [hv, if_neg (by decide)] at h
        rw [← h] at hl
        cases hl
      · rfl
    refine ⟨?_, ?_, hm⟩
    · unfold putN at h
      rw [if_pos hm] at h
      have := goodN_enc (fld bs 0 1) ek ea en ep eq (fld bs 14 1) (fld bs 15 4) (actB (fld bs 24 1)) (gonB (fld bs 24 1)) (fld bs 19 1) (fld bs 20 4)
      rwa [h] at this
    · have h0 := ((ment_iff _ _ _ _ _ _ _ _ _ _ _).1 hm).1
      by_cases hz : code = 0
      · exact hz
      · unfold effOf at hE
        rw [hc, if_neg hz] at hE
        simp only [List.cons.injEq, and_true] at hE
        obtain ⟨e0, e1, e2, e3, e4⟩ := hE
        subst e0; subst e1; subst e3; subst e4
        exact absurd h0 (by decide)
  · rintro ⟨⟨h1, h2, h3⟩, hz, hm⟩
    unfold putN
    rw [if_pos hm]
    refine encn_dec hl h1 h2 h3 ?_
    unfold effOf at hE
    rw [hc, if_pos hz] at hE
    simp only [List.cons.injEq, and_true] at hE
    obtain ⟨e0, e1, e2, e3, e4⟩ := hE
    rw [← e0, ← e1, ← e2, ← e3, ← e4]
    exact ence_dec hl13
theorem effOf_letters (bs : List UInt8) : ∃ ek ea en ep eq, effOf bs = [ek, ea, en, ep, eq] ∧ fits ek = true ∧ fits ea = true ∧ fits en = true ∧ fits ep = true ∧ fits eq = true := by
  unfold effOf
  split
  · exact ⟨_, _, _, _, _, rfl, fld_fits _ _ _, fld_fits _ _ _, fld_fits _ _ _, fld_fits _ _ _, fld_fits _ _ _⟩
  · exact ⟨_, _, _, _, _, rfl, rfl, rfl, rfl, rfl, rfl⟩
/-- entry.Get and the reference's Read answer alike, whatever the octets. -/
theorem get_read (a : Option Addr) (n c : Nat) (bs : List UInt8) (w0 : World) (h : Sl w0 a n 1 (bcells bs)) (hn : n ≤ c) (hc : c ≤ 9223372036854775807) : ∃ (ok : Bool) (cs : List Value), OkAll (List.replicate 8 (some IntKind.i64) ++ ([none, none, some IntKind.i64, some IntKind.i64] : List (Option IntKind))) cs ∧
    (∃ o k a n p q s l ak gn b bl, cs = enc12 o k a n p q s l ak gn b bl) ∧
    (∀ w, Below w0.heap.size w0 w → Calls Try.prog 38 #[.slice a n c] w fun e w' => e = .returned (.tuple #[.agg cs.toArray, .bool ok]) ∧ Below w.heap.size w w') ∧
    (∀ w, Below w0.heap.size w0 w → Calls Try.prog 39 #[.slice a n c] w fun e w' => e = .returned (.tuple #[.agg cs.toArray, .bool ok]) ∧ Below w.heap.size w w') := by
  have hz : OkAll (List.replicate 8 (some IntKind.i64) ++ ([none, none, some IntKind.i64, some IntKind.i64] : List (Option IntKind))) (enc12 0 0 0 0 0 0 0 0 false false 0 0) := ok12 (by decide)
  by_cases hn27 : n = 27
  · subst hn27
    have hl : bs.length = 27 := sl_one h
    obtain ⟨ek, ea, en, ep, eq, hE, f1, f2, f3, f4, f5⟩ := effOf_letters ((bs.drop 1).take 13)
    have hi := read_get hl hE rfl
    have hok : OkAll (List.replicate 8 (some IntKind.i64) ++ ([none, none, some IntKind.i64, some IntKind.i64] : List (Option IntKind))) (enc12 (fld bs 0 1) ek ea en ep eq (fld bs 14 1) (fld bs 15 4) (actB (fld bs 24 1)) (gonB (fld bs 24 1)) (fld bs 19 1) (fld bs 20 4)) := ok12 (by
      intro z hz
      simp only [List.mem_cons, List.not_mem_nil, or_false] at hz
      rcases hz with h | h | h | h | h | h | h | h | h | h <;> rw [h] <;> first | exact fld_fits _ _ _ | assumption)
    by_cases hp : putN (fld bs 0 1) ek ea en ep eq (fld bs 14 1) (fld bs 15 4) (actB (fld bs 24 1)) (gonB (fld bs 24 1)) (fld bs 19 1) (fld bs 20 4) = bs
    · obtain ⟨⟨g1, g2, g3⟩, hcz, hm⟩ := hi.1 hp
      refine ⟨true, _, hok, ⟨_, _, _, _, _, _, _, _, _, _, _, _, rfl⟩, fun w hb => ?_, fun w hb => ?_⟩
      · exact nget_any a c bs w (h.keep hb) hn hc ek ea en ep eq hE true (decide_eq_true hp).symm
      · exact rread_main a c bs w (h.keep hb) hn hc g1 g2 g3 ek ea en ep eq hE _ rfl true (by rw [hcz, hm]; rfl)
    · refine ⟨false, _, hz, ⟨_, _, _, _, _, _, _, _, _, _, _, _, rfl⟩, fun w hb => ?_, fun w hb => ?_⟩
      · exact nget_any a c bs w (h.keep hb) hn hc ek ea en ep eq hE false (decide_eq_false hp).symm
      · by_cases hg : goodN bs
        · obtain ⟨g1, g2, g3⟩ := hg
          refine rread_main a c bs w (h.keep hb) hn hc g1 g2 g3 ek ea en ep eq hE _ rfl false ?_
          symm
          rw [Bool.eq_false_iff]
          intro ht
          rw [Bool.and_eq_true] at ht
          exact hp (hi.2 ⟨⟨g1, g2, g3⟩, of_decide_eq_true ht.1, ht.2⟩)
        · exact rread_bad a c bs w (h.keep hb) hg
  · refine ⟨false, _, hz, ⟨_, _, _, _, _, _, _, _, _, _, _, _, rfl⟩, fun w hb => ?_, fun w hb => ?_⟩
    · exact nget_len a n c w hn27
    · exact rread_len a n c w hn27
theorem en_neq_g {d t t' i : Nat} {b : Bool} {ty rt : TypeId} {ps : String} {af : Array Edge} {a : Act} {w : World} {ops : Array Oper} {rest : List Oper} {Q : Exit → Act → World → Prop} {x : List Value} (hx : a.eval (.tmp t) = .agg x.toArray) (hy : a.eval (.tmp t') = .agg x.toArray) (hw : Region.wanted ⟨some d, .binOp .neq 49 (.tmp t) (.tmp t') rt, ty, ps, af, some (i, b)⟩ (yielded ops a.tmps) = true) (h1 : OkAll (List.replicate 8 (some IntKind.i64) ++ ([none, none, some IntKind.i64, some IntKind.i64] : List (Option IntKind))) x)
    (h : wpList Try.prog ops Q rest (a.put (some d) (.bool false)) w) : wpList Try.prog ops Q (⟨some d, .binOp .neq 49 (.tmp t) (.tmp t') rt, ty, ps, af, some (i, b)⟩ :: rest) a w :=
  ls_run_g hw (run_op_cmp rfl hx hy (by kernel_rfl) (by rw [en_ne h1 h1, sameB_refl]; rfl)) h
/-- what comes back of an entry's octets. -/
theorem puts_get (o k a n p q s l : Int) (ak gn : Bool) (b bl : Int) (hn : fits n = true) (a2 : Option Addr) (n2 c2 : Nat) (w0 : World) (h : Sl w0 a2 n2 1 (bcells (putN o k a n p q s l ak gn b bl))) (h1 : n2 ≤ c2) (h2 : c2 ≤ 9223372036854775807) :
    ∃ Y : List Value, (mayEnt o k a p q s l ak gn b bl = true → Y = enc12 o k a n p q s l ak gn b bl) ∧ Y.length = 12 ∧ (∀ u ∈ Y, u.oneCell' = true) ∧ ∀ w, Below w0.heap.size w0 w → Calls Try.prog 38 #[.slice a2 n2 c2] w fun e w' => e = .returned (.tuple #[.agg Y.toArray, .bool (mayEnt o k a p q s l ak gn b bl)]) ∧ Below w.heap.size w w' := by
  have hl := sl_one h
  rcases hm : mayEnt o k a p q s l ak gn b bl with _ | _
  · have hp : putN o k a n p q s l ak gn b bl = [] := by unfold putN; rw [hm, if_neg (by decide)]
    rw [hp] at hl
    have h0 : n2 = 0 := hl.symm
    subst h0
    exact ⟨enc12 0 0 0 0 0 0 0 0 false false 0 0, (fun h => by cases h), rfl, (enc12_ok 0 0 0 0 0 0 0 0 false false 0 0).out.2, fun w _ => nget_len a2 0 c2 w (by decide)⟩
  · have hp : putN o k a n p q s l ak gn b bl = encN o k a n p q s l ak gn b bl := by unfold putN; rw [if_pos hm]
    rw [hp, encN_len] at hl
    subst hl
    rw [hp] at h
    exact ⟨enc12 o k a n p q s l ak gn b bl, fun _ => rfl, rfl, (enc12_ok o k a n p q s l ak gn b bl).out.2, fun w hb => nget_enc hm hn a2 c2 w (h.keep hb) h1 h2⟩
set_option maxRecDepth 100000 in
set_option maxHeartbeats 8000000 in
theorem puts20 (o k a n p q s l : Int) (ak gn : Bool) (b bl : Int) (a1 : Option Addr) (n1 c1 : Nat) (bs : List UInt8) (w : World) (hf : ∀ z ∈ [o, k, a, n, p, q, s, l, b, bl], fits z = true) (hsl : Sl w a1 n1 1 (bcells bs)) (hn1 : n1 ≤ c1) (hc1 : c1 ≤ 9223372036854775807) : Calls Try.prog 7 #[.agg #[.int .i64 o, .int .i64 k, .int .i64 a, .int .i64 n, .int .i64 p, .int .i64 q, .int .i64 s, .int .i64 l, .bool ak, .bool gn, .int .i64 b, .int .i64 bl], .slice a1 n1 c1] w fun e w' => e = .returned (.bool true) ∧ Below w.heap.size w w' := by
  have HA : Hid (Blk (w.alloc (.cells #[.int .i64 o, .int .i64 k, .int .i64 a, .int .i64 n, .int .i64 p, .int .i64 q, .int .i64 s, .int .i64 l, .bool ak, .bool gn, .int .i64 b, .int .i64 bl] 49)) w.heap.size (enc12 o k a n p q s l ak gn b bl) 49) := Lib.hid (Blk.new w #[.int .i64 o, .int .i64 k, .int .i64 a, .int .i64 n, .int .i64 p, .int .i64 q, .int .i64 s, .int .i64 l, .bool ak, .bool gn, .int .i64 b, .int .i64 bl] 49)
  have HB := Lib.hid ((Below.refl w.heap.size w).alloc (Nat.le_refl _) (.cells #[.int .i64 o, .int .i64 k, .int .i64 a, .int .i64 n, .int .i64 p, .int .i64 q, .int .i64 s, .int .i64 l, .bool ak, .bool gn, .int .i64 b, .int .i64 bl] 49))
  have HV := enc12_ok o k a n p q s l ak gn b bl
  have OKX := Lib.hid (ok12 (ak := ak) (gn := gn) hf)
  have HFN := Lib.hid (hf n (by simp))
  obtain ⟨okb, Y2, hoky, hshape, hget, hread⟩ := get_read a1 n1 c1 bs w hsl hn1 hc1
  have HGB := Lib.hid hget
  have HRB := Lib.hid hread
  have HV2 : Hid (Y2.length = 12 ∧ ∀ u ∈ Y2, u.oneCell' = true) := Lib.hid (by obtain ⟨o, k, a, n, p, q, s, l, ak, gn, b, bl, hh⟩ := hshape; rw [hh]; exact (enc12_ok _ _ _ _ _ _ _ _ _ _ _ _).out)
  have MY2 : Hid (∀ w, Calls Try.prog 21 #[.agg Y2.toArray] w fun e w' => e = .returned (.agg Y2.toArray) ∧ Below w.heap.size w w') := Lib.hid (by obtain ⟨o, k, a, n, p, q, s, l, ak, gn, b, bl, hh⟩ := hshape; rw [hh]; exact fun w => model_any _ _ _ _ _ _ _ _ _ _ _ _ w)
  have EQ2 := Lib.hid (fun w => show (binOp .eql 52 (.agg Y2.toArray) (.agg Y2.toArray)).run Try.prog w = .ok (.bool true) w from by rw [er_eq hoky hoky, sameB_refl])
  clear hf hsl hn1 hc1 hoky hshape hget hread
  have CP := Lib.hid (fun w => show Calls Try.prog 36 #[.agg (enc12 o k a n p q s l ak gn b bl).toArray] w _ from nput_any o k a n p q s l ak gn b bl w)
  have RP := Lib.hid (fun w => show Calls Try.prog 37 #[.agg (enc12 o k a n p q s l ak gn b bl).toArray] w _ from rput20_any o k a n p q s l ak gn b bl w)
  have MA := Lib.hid (fun w => show Calls Try.prog 21 #[.agg (enc12 o k a n p q s l ak gn b bl).toArray] w fun e w' => e = .returned (.agg (enc12 o k a n p q s l ak gn b bl).toArray) ∧ Below w.heap.size w w' from model_any o k a n p q s l ak gn b bl w)
  have CM := Lib.hid (fun w => show Calls Try.prog 23 #[.agg (enc12 o k a n p q s l ak gn b bl).toArray] w fun e w' => e = .returned (.bool (mayEnt o k a p q s l ak gn b bl)) ∧ Below w.heap.size w w' from rment_any o k a n p q s l ak gn b bl w)
  have PG := Lib.hid (fun a2 n2 c2 w0 h h1 h2 => puts_get o k a n p q s l ak gn b bl HFN.out a2 n2 c2 w0 h h1 h2)
  have HI12 : Hid ((Try.prog.info? 49).map (·.size) = some (enc12 o k a n p q s l ak gn b bl).length) := Lib.hid en_size
  have HY2 : Hid ((Try.prog.info? 49).map (·.size) = some Y2.length) := Lib.hid (by rw [HV2.out.1]; exact en_size)
  have HR2 : Hid ((Try.prog.info? 52).map (·.size) = some Y2.length) := Lib.hid (by rw [HV2.out.1]; exact er_size)
  generalize mayEnt o k a p q s l ak gn b bl = mv at *
  generalize putN o k a n p q s l ak gn b bl = PN at *
  go_enter Try.func7, Try.ntmps7
  go_upto_region 1 with fail
  generalize w.alloc (.cells #[.int .i64 o, .int .i64 k, .int .i64 a, .int .i64 n, .int .i64 p, .int .i64 q, .int .i64 s, .int .i64 l, .bool ak, .bool gn, .int .i64 b, .int .i64 bl] 49) = W at *
  generalize enc12 o k a n p q s l ak gn b bl = X at *
  go_wp2_with fail
  refine (alive20 _).mono ?_
  rintro e w2 ⟨rfl, hb⟩
  have HB2 := Lib.hid (HB.out.trans (hb.mono HB.out.size))
  have HA2 := Lib.hid (HA.out.keep hb HA.out.lt)
  clear hb HB HA
  have rx : w2.rangeAt w.heap.size 0 X := HA2.out.range 0 _ (by simp)
  go_wp2_with (first
    | ((with_reducible apply en_load); (· rfl); (· (first | assumption)); (· assumption); (simp only [Act.put, List.setIfInBounds_toArray, List.set_cons_zero, List.set_cons_succ])))
  refine (CP.out _).mono ?_
  rintro e w3 ⟨a2, n2, c2, rfl, hs, hn2, hc2, _, hb⟩
  have HB3 := Lib.hid (HB2.out.trans (hb.mono HB2.out.size))
  have HA3 := Lib.hid (HA2.out.keep hb HA2.out.lt)
  have HS3 := Lib.hid hs
  obtain ⟨Y, hyx, hyl, hyo, hyg⟩ := PG.out a2 n2 c2 w3 hs hn2 hc2
  have HYX := Lib.hid hyx
  have HVY := Lib.hid (And.intro hyl hyo)
  have HYG := Lib.hid hyg
  clear hb HB2 HA2 rx CP hs hn2 hc2 hyx hyl hyo hyg PG
  go_upto_region 4 with fail
  refine held_begin (fun w' => Below w3.heap.size w3 w') 7 [false, false, false, false, false, false, false] (by kernel_rfl) rfl (by rfl) ?_
  have hHeld : Below w3.heap.size w3 w3.drew := ⟨rfl, rfl, rfl, Nat.le_refl _, fun _ _ => rfl⟩
  refine held_take (v := ?_) 0 16 [true, false, false, false, false, false, false] rfl (by rfl) (by rfl) (by kernel_rfl) (by kernel_rfl) (by kernel_rfl) (by rfl) (fun _ _ _ h => h) ?_ hHeld ?_
  rotate_left
  · intro w hSw; go_simp <;> with_reducible rfl
  simp only [Act.put, List.setIfInBounds_toArray, List.set_cons_zero, List.set_cons_succ]
  refine held_take (v := .string ⟨PN.toArray⟩) 1 17 [true, true, false, false, false, false, false] rfl (by rfl) (by rfl) (by kernel_rfl) (by kernel_rfl) (by kernel_rfl) (by rfl) (fun _ _ _ h => h) (fun w' h => run_op_conv rfl rfl (conv_bytes (HS3.out.keep h) c2)) hHeld ?_
  simp only [Act.put, List.setIfInBounds_toArray, List.set_cons_zero, List.set_cons_succ]
  refine held_take (v := .agg X.toArray) 2 18 [true, true, true, false, false, false, false] rfl (by rfl) (by rfl) (by kernel_rfl) (by kernel_rfl) (by kernel_rfl) (by rfl) (fun _ _ _ h => h) (fun w' h => run_op_load rfl rfl ((HA3.out.keep h HA3.out.lt).range 0 X (by simp)) Try.underlying49 rfl HI12.out) hHeld ?_
  simp only [Act.put, List.setIfInBounds_toArray, List.set_cons_zero, List.set_cons_succ]
  refine held_call 3 19 [true, true, true, true, false, false, false] (by kernel_rfl) rfl (by rfl) (by rfl) (by rfl) (by go_simp) ((MA.out _).mono ?_)
  rintro e w4 ⟨rfl, hb⟩
  refine ⟨_, rfl, hHeld.trans (hb.mono hHeld.size), fun hHeld => ?_⟩
  simp only [Act.put, List.setIfInBounds_toArray, List.set_cons_zero, List.set_cons_succ]
  refine held_call 4 20 [true, true, true, true, true, false, false] (by kernel_rfl) rfl (by rfl) (by rfl) (by rfl) (by go_simp) ((RP.out _).mono ?_)
  rintro e w5 ⟨a5, n5, c5, rfl, hs5, hb5⟩
  refine ⟨_, rfl, hHeld.trans (hb5.mono hHeld.size), fun hHeld => ?_⟩
  simp only [Act.put, List.setIfInBounds_toArray, List.set_cons_zero, List.set_cons_succ]
  refine held_one 5 (by kernel_rfl) ?_
  refine op_value (v := .string ⟨PN.toArray⟩) 21 [true, true, true, true, true, true, false] rfl (by rfl) (by rfl) (by rfl) (run_op_conv rfl rfl (conv_bytes hs5 c5)) (hHeld) fun hHeld => ?_
  simp only [Act.put, List.setIfInBounds_toArray, List.set_cons_zero, List.set_cons_succ]
  refine held_take (v := .bool false) 6 22 [true, true, true, true, true, true, true] rfl (by rfl) (by rfl) (by kernel_rfl) (by kernel_rfl) (by kernel_rfl) (by rfl) (fun _ _ _ h => h) (fun w' h => by go_simp) hHeld ?_
  simp only [Act.put, List.setIfInBounds_toArray, List.set_cons_zero, List.set_cons_succ]
  refine held_done (by kernel_rfl) ?_
  have HBz := hHeld
  have HA5 := Lib.hid (HA3.out.keep hHeld HA3.out.lt)
  have HB5 := Lib.hid (HB3.out.trans (hHeld.mono HB3.out.size))
  have HH5 := Lib.hid hHeld
  have G := Lib.hid (HYG.out w5 hHeld)
  clear hs5 hb5 hHeld HBz HA3 HB3 HYG RP HS3 hb
  go_wp2_with fail
  refine G.out.mono ?_
  rintro e w6 ⟨rfl, hb⟩
  have HB6 := HB5.out.trans (hb.mono HB5.out.size)
  have HA6 := HA5.out.keep hb HA5.out.lt
  clear hb HB5 HA5 G HH5
  have HM7 := Lib.hid (Blk.new w6 Y.toArray 49)
  have HA7 := Lib.hid (HA6.alloc (.cells Y.toArray 49))
  have HB7 := Lib.hid (HB6.alloc HB6.size (.cells Y.toArray 49))
  rw [List.toList_toArray] at HM7
  clear HA6 HB6
  go_upto_region 7 with (first
    | ((with_reducible apply en_store_new (x := Y)); (· rfl); (· first | rfl | simp); (· rfl); (· rfl); (· exact HVY); (simp only [Act.put, List.setIfInBounds_toArray, List.set_cons_zero, List.set_cons_succ])))
  generalize hg6 : w6.heap.size = g6 at *
  generalize w6.alloc (.cells Y.toArray 49) = w7 at *
  clear hg6
  cases mv
  · have rx : w7.rangeAt w.heap.size 0 X := HA7.out.range 0 _ (by simp)
    go_wp2_with (first
      | ((with_reducible apply en_load); (· rfl); (· (first | assumption)); (· assumption); (simp only [Act.put, List.setIfInBounds_toArray, List.set_cons_zero, List.set_cons_succ])))
    refine (MA.out _).mono ?_
    rintro e w8 ⟨rfl, hb⟩
    clear rx
    have HB8 := Lib.hid (HB7.out.trans (hb.mono HB7.out.size))
    have HA8 := Lib.hid (HA7.out.keep hb HA7.out.lt)
    have HM8 := Lib.hid (HM7.out.keep hb HM7.out.lt)
    clear hb HB7 HA7 HM7
    go_wp2_with fail
    refine (CM.out _).mono ?_
    rintro e w9 ⟨rfl, hb⟩
    have HB9 := Lib.hid (HB8.out.trans (hb.mono HB8.out.size))
    have HA9 := Lib.hid (HA8.out.keep hb HA8.out.lt)
    have HM9 := Lib.hid (HM8.out.keep hb HM8.out.lt)
    clear hb HB8 HA8 HM8
    have GB := Lib.hid (HGB.out w9 HB9.out)
    go_wp2_with (first
      | ((with_reducible apply en_load); (· rfl); (· (first | assumption)); (· assumption); (simp only [Act.put, List.setIfInBounds_toArray, List.set_cons_zero, List.set_cons_succ])) | ((with_reducible apply en_load_g); (· rfl); (· rfl); (· (first | assumption)); (· assumption); (simp only [Act.put, List.setIfInBounds_toArray, List.set_cons_zero, List.set_cons_succ]))
      | ((with_reducible apply en_neq_g); (· rfl); (· rfl); (· rfl); (· exact OKX.out); (simp only [Act.put, List.setIfInBounds_toArray, List.set_cons_zero, List.set_cons_succ])))
    refine GB.out.mono ?_
    rintro e w10 ⟨rfl, hb⟩
    have HB10 := Lib.hid (HB9.out.trans (hb.mono HB9.out.size))
    have HA10 := Lib.hid (HA9.out.keep hb HA9.out.lt)
    have HM10 := Lib.hid (HM9.out.keep hb HM9.out.lt)
    clear hb HB9 HA9 HM9
    clear HA10 HM10
    have HD11 := Lib.hid (Blk.new w10 Y2.toArray 49)
    have HB11 := Lib.hid (HB10.out.alloc HB10.out.size (.cells Y2.toArray 49))
    rw [List.toList_toArray] at HD11
    clear HB10 GB
    go_upto_region 10 with (first
      | ((with_reducible apply en_store_new (x := Y2)); (· rfl); (· first | rfl | simp); (· rfl); (· rfl); (· exact HV2); (simp only [Act.put, List.setIfInBounds_toArray, List.set_cons_zero, List.set_cons_succ])))
    generalize hg10 : w10.heap.size = g10 at *
    generalize w10.alloc (.cells Y2.toArray 49) = w11 at *
    clear hg10
    have RB := Lib.hid (HRB.out w11 HB11.out)
    go_wp2_with fail
    refine RB.out.mono ?_
    rintro e w12 ⟨rfl, hb⟩
    have HB12 := Lib.hid (HB11.out.trans (hb.mono HB11.out.size))
    have HD12 := Lib.hid (HD11.out.keep hb HD11.out.lt)
    clear hb HB11 HD11
    have HE13 := Lib.hid (Blk.new w12 Y2.toArray 52)
    have HD13 := Lib.hid (HD12.out.alloc (.cells Y2.toArray 52))
    have HB13 := Lib.hid (HB12.out.alloc HB12.out.size (.cells Y2.toArray 52))
    rw [List.toList_toArray] at HE13
    clear HB12 HD12 RB
    go_upto_region 11 with (first
      | ((with_reducible apply er_store_new (x := Y2)); (· rfl); (· first | rfl | simp); (· rfl); (· rfl); (· exact HV2); (simp only [Act.put, List.setIfInBounds_toArray, List.set_cons_zero, List.set_cons_succ])))
    generalize hg12 : w12.heap.size = g12 at *
    generalize w12.alloc (.cells Y2.toArray 52) = w13 at *
    have hl1 := Lib.hid HD13.out.lt
    have hl2 := Lib.hid HE13.out.lt
    clear hg12
    refine q_begin (by kernel_rfl) (by kernel_rfl) ?_
    repeat (first
      | go_big_quiet_skip
      | ((with_reducible apply q_row); (· rfl); (· rfl); (· exact Try.underlying49); (· rfl); (· exact HD13.out); (· exact hl1.out); (· exact HY2.out); (simp only [Act.put, List.setIfInBounds_toArray, List.set_cons_zero, List.set_cons_succ]))
      | ((with_reducible apply q_row); (· rfl); (· rfl); (· exact Try.underlying52); (· rfl); (· exact HE13.out); (· exact hl2.out); (· exact HR2.out); (simp only [Act.put, List.setIfInBounds_toArray, List.set_cons_zero, List.set_cons_succ]))
      | ((with_reducible apply q_call 21 (.agg Y2.toArray)); (· rfl); (· exact Nat.le_refl _); (· intro w _; exact MY2.out w); (· intro w; go_simp); (simp only [Act.put, List.setIfInBounds_toArray, List.set_cons_zero, List.set_cons_succ]))
      | ((with_reducible apply q_cmp); (· rfl); (· rfl); (· rfl); (· kernel_rfl); (· intro w; exact EQ2.out w); (simp only [Act.put, List.setIfInBounds_toArray, List.set_cons_zero, List.set_cons_succ]))
      | (go_big_quiet_want; go_big_quiet_op; (first | go_big_quiet_on | (apply Exists.intro; refine ⟨fun _ _ => rfl, ?_⟩; go_big_quiet_on))))
    refine q_end ?_
    intro w14 hb
    have HB14 := HB13.out.trans (hb.mono HB13.out.size)
    go_wp2_with fail
    go_ret
    exact ⟨rfl, HB14⟩
  · have hyx := HYX.out rfl
    subst hyx
    have rx : w7.rangeAt w.heap.size 0 Y := HA7.out.range 0 _ (by simp)
    go_wp2_with (first
      | ((with_reducible apply en_load); (· rfl); (· (first | assumption)); (· assumption); (simp only [Act.put, List.setIfInBounds_toArray, List.set_cons_zero, List.set_cons_succ])))
    refine (MA.out _).mono ?_
    rintro e w8 ⟨rfl, hb⟩
    clear rx
    have HB8 := Lib.hid (HB7.out.trans (hb.mono HB7.out.size))
    have HA8 := Lib.hid (HA7.out.keep hb HA7.out.lt)
    have HM8 := Lib.hid (HM7.out.keep hb HM7.out.lt)
    clear hb HB7 HA7 HM7
    go_wp2_with fail
    refine (CM.out _).mono ?_
    rintro e w9 ⟨rfl, hb⟩
    have HB9 := Lib.hid (HB8.out.trans (hb.mono HB8.out.size))
    have HA9 := Lib.hid (HA8.out.keep hb HA8.out.lt)
    have HM9 := Lib.hid (HM8.out.keep hb HM8.out.lt)
    clear hb HB8 HA8 HM8
    have rx : w9.rangeAt w.heap.size 0 Y := HA9.out.range 0 _ (by simp)
    have ry : w9.rangeAt g6 0 Y := HM9.out.range 0 _ (by simp)
    have GB := Lib.hid (HGB.out w9 HB9.out)
    go_wp2_with (first
      | ((with_reducible apply en_load); (· rfl); (· (first | assumption)); (· assumption); (simp only [Act.put, List.setIfInBounds_toArray, List.set_cons_zero, List.set_cons_succ])) | ((with_reducible apply en_load_g); (· rfl); (· rfl); (· (first | assumption)); (· assumption); (simp only [Act.put, List.setIfInBounds_toArray, List.set_cons_zero, List.set_cons_succ]))
      | ((with_reducible apply en_neq_g); (· rfl); (· rfl); (· rfl); (· exact OKX.out); (simp only [Act.put, List.setIfInBounds_toArray, List.set_cons_zero, List.set_cons_succ])))
    refine GB.out.mono ?_
    rintro e w10 ⟨rfl, hb⟩
    clear rx ry
    have HB10 := Lib.hid (HB9.out.trans (hb.mono HB9.out.size))
    have HA10 := Lib.hid (HA9.out.keep hb HA9.out.lt)
    have HM10 := Lib.hid (HM9.out.keep hb HM9.out.lt)
    clear hb HB9 HA9 HM9
    clear HA10 HM10
    have HD11 := Lib.hid (Blk.new w10 Y2.toArray 49)
    have HB11 := Lib.hid (HB10.out.alloc HB10.out.size (.cells Y2.toArray 49))
    rw [List.toList_toArray] at HD11
    clear HB10 GB
    go_upto_region 10 with (first
      | ((with_reducible apply en_store_new (x := Y2)); (· rfl); (· first | rfl | simp); (· rfl); (· rfl); (· exact HV2); (simp only [Act.put, List.setIfInBounds_toArray, List.set_cons_zero, List.set_cons_succ])))
    generalize hg10 : w10.heap.size = g10 at *
    generalize w10.alloc (.cells Y2.toArray 49) = w11 at *
    clear hg10
    have RB := Lib.hid (HRB.out w11 HB11.out)
    go_wp2_with fail
    refine RB.out.mono ?_
    rintro e w12 ⟨rfl, hb⟩
    have HB12 := Lib.hid (HB11.out.trans (hb.mono HB11.out.size))
    have HD12 := Lib.hid (HD11.out.keep hb HD11.out.lt)
    clear hb HB11 HD11
    have HE13 := Lib.hid (Blk.new w12 Y2.toArray 52)
    have HD13 := Lib.hid (HD12.out.alloc (.cells Y2.toArray 52))
    have HB13 := Lib.hid (HB12.out.alloc HB12.out.size (.cells Y2.toArray 52))
    rw [List.toList_toArray] at HE13
    clear HB12 HD12 RB
    go_upto_region 11 with (first
      | ((with_reducible apply er_store_new (x := Y2)); (· rfl); (· first | rfl | simp); (· rfl); (· rfl); (· exact HV2); (simp only [Act.put, List.setIfInBounds_toArray, List.set_cons_zero, List.set_cons_succ])))
    generalize hg12 : w12.heap.size = g12 at *
    generalize w12.alloc (.cells Y2.toArray 52) = w13 at *
    have hl1 := Lib.hid HD13.out.lt
    have hl2 := Lib.hid HE13.out.lt
    clear hg12
    refine q_begin (by kernel_rfl) (by kernel_rfl) ?_
    repeat (first
      | go_big_quiet_skip
      | ((with_reducible apply q_row); (· rfl); (· rfl); (· exact Try.underlying49); (· rfl); (· exact HD13.out); (· exact hl1.out); (· exact HY2.out); (simp only [Act.put, List.setIfInBounds_toArray, List.set_cons_zero, List.set_cons_succ]))
      | ((with_reducible apply q_row); (· rfl); (· rfl); (· exact Try.underlying52); (· rfl); (· exact HE13.out); (· exact hl2.out); (· exact HR2.out); (simp only [Act.put, List.setIfInBounds_toArray, List.set_cons_zero, List.set_cons_succ]))
      | ((with_reducible apply q_call 21 (.agg Y2.toArray)); (· rfl); (· exact Nat.le_refl _); (· intro w _; exact MY2.out w); (· intro w; go_simp); (simp only [Act.put, List.setIfInBounds_toArray, List.set_cons_zero, List.set_cons_succ]))
      | ((with_reducible apply q_cmp); (· rfl); (· rfl); (· rfl); (· kernel_rfl); (· intro w; exact EQ2.out w); (simp only [Act.put, List.setIfInBounds_toArray, List.set_cons_zero, List.set_cons_succ]))
      | (go_big_quiet_want; go_big_quiet_op; (first | go_big_quiet_on | (apply Exists.intro; refine ⟨fun _ _ => rfl, ?_⟩; go_big_quiet_on))))
    refine q_end ?_
    intro w14 hb
    have HB14 := HB13.out.trans (hb.mono HB13.out.size)
    go_wp2_with fail
    go_ret
    exact ⟨rfl, HB14⟩
theorem puts20_law (v0 v1 : Value) (w : World) (h0 : Arg Try.prog w 49 v0) (h1 : Arg Try.prog w 27 v1) : Calls Try.prog 7 #[v0, v1] w fun e w' => e = .returned (.bool true) ∧ Below w.heap.size w w' := by
  obtain ⟨cs, rfl, k0⟩ := h0.flat_struct Try.underlying49 flat12
  obtain ⟨o, k, a, n, p, q, s, l, ak, gn, b, bl, hcs, hf⟩ := ent_of_ok k0
  obtain ⟨a1, n1, c1, bs, rfl, hn, hc, _, _, hs⟩ := h1.bytes
  rw [show cs = cs.toList.toArray by simp, hcs]
  exact puts20 o k a n p q s l ak gn b bl a1 n1 c1 bs w hf hs hn hc
end Go.Proofs.Ytalbkpahphndiaa
