/- The statements of requests that were tried: tried once more. -/
import Derived.Test.YtalbkpahphndiaaLaw20t
import Derived.Test.YtalbkpahphndiaaRow
import Derived.Test.YtalbkpahphndiaaOps
import Derived.RegionTactic
import Derived.BigRegion
import Derived.ChangeAlike
namespace Go.Proofs.Ytalbkpahphndiaa
set_option linter.unusedVariables false
set_option linter.unusedSimpArgs false
open Go.ChangeShapes Go.WideShapes Go.ChangeAt Go.RowKit
theorem waitI_pos {b m n : Int} (h : 1 ≤ n) : 1 ≤ waitI b m n := by
  have hb := clampI_bd b 1 64 (by decide)
  have hm := clampI_bd m 1 64 (by decide)
  have hn : 1 ≤ clampI n 0 64 := by unfold clampI; split <;> (try split) <;> omega
  unfold waitI
  rw [if_neg (by omega)]
  exact (itw_bd (clampI m 1 64) (min (clampI b 1 64) (clampI m 1 64)) (by omega) (by omega) _).1
theorem due_later {b m n now : Int} (h : 1 ≤ n) (h0 : 0 ≤ now) (h1 : now ≤ 1073741824) : ¬ dueI b m n now ≤ now := by
  have := waitI_pos (b := b) (m := m) h
  have hc : clampI now 0 1073741824 = now := by unfold clampI; split <;> (try split) <;> omega
  unfold dueI
  omega
set_option maxRecDepth 100000 in
set_option maxHeartbeats 8000000 in
theorem once20_true (o k a n p q s l : Int) (ak gn : Bool) (b bl : Int) (r0 r1 mo ba ca now : Int) (w : World) (hf : ∀ z ∈ [o, k, a, n, p, q, s, l, b, bl, now], fits z = true) (hu : (ak && gn) = true) (hr : readyE s l ak gn b bl mo ba ca now = true) (hmo : mo ≤ 8) (hn0 : 0 ≤ now) (hn1 : now ≤ 1073741824) : Calls Try.prog 8 #[.agg #[.int .i64 o, .int .i64 k, .int .i64 a, .int .i64 n, .int .i64 p, .int .i64 q, .int .i64 s, .int .i64 l, .bool ak, .bool gn, .int .i64 b, .int .i64 bl], .agg #[.int .i64 r0, .int .i64 r1, .int .i64 mo, .int .i64 ba, .int .i64 ca], .int .i64 now] w fun e w' => e = .returned (.bool true) ∧ Below w.heap.size w w' := by
  have A1 := Blk.new w #[.int .i64 o, .int .i64 k, .int .i64 a, .int .i64 n, .int .i64 p, .int .i64 q, .int .i64 s, .int .i64 l, .bool ak, .bool gn, .int .i64 b, .int .i64 bl] 49
  have hz1 : (w.alloc (.cells #[.int .i64 o, .int .i64 k, .int .i64 a, .int .i64 n, .int .i64 p, .int .i64 q, .int .i64 s, .int .i64 l, .bool ak, .bool gn, .int .i64 b, .int .i64 bl] 49)).heap.size = w.heap.size + 1 := by simp
  have AC : Blk ((w.alloc (.cells #[.int .i64 o, .int .i64 k, .int .i64 a, .int .i64 n, .int .i64 p, .int .i64 q, .int .i64 s, .int .i64 l, .bool ak, .bool gn, .int .i64 b, .int .i64 bl] 49)).alloc (.cells #[.int .i64 r0, .int .i64 r1, .int .i64 mo, .int .i64 ba, .int .i64 ca] 51)) (w.heap.size + 1) [.int .i64 r0, .int .i64 r1, .int .i64 mo, .int .i64 ba, .int .i64 ca] 51 := hz1 ▸ Blk.new (w.alloc (.cells #[.int .i64 o, .int .i64 k, .int .i64 a, .int .i64 n, .int .i64 p, .int .i64 q, .int .i64 s, .int .i64 l, .bool ak, .bool gn, .int .i64 b, .int .i64 bl] 49)) #[.int .i64 r0, .int .i64 r1, .int .i64 mo, .int .i64 ba, .int .i64 ca] 51
  have HA : Hid (Blk ((w.alloc (.cells #[.int .i64 o, .int .i64 k, .int .i64 a, .int .i64 n, .int .i64 p, .int .i64 q, .int .i64 s, .int .i64 l, .bool ak, .bool gn, .int .i64 b, .int .i64 bl] 49)).alloc (.cells #[.int .i64 r0, .int .i64 r1, .int .i64 mo, .int .i64 ba, .int .i64 ca] 51)) w.heap.size (enc12 o k a n p q s l ak gn b bl) 49) := Lib.hid (A1.alloc _)
  have HC := Lib.hid AC
  have HB := Lib.hid ((((Below.refl w.heap.size w).alloc (Nat.le_refl _) (.cells #[.int .i64 o, .int .i64 k, .int .i64 a, .int .i64 n, .int .i64 p, .int .i64 q, .int .i64 s, .int .i64 l, .bool ak, .bool gn, .int .i64 b, .int .i64 bl] 49)).alloc (by rw [hz1]; omega) (.cells #[.int .i64 r0, .int .i64 r1, .int .i64 mo, .int .i64 ba, .int .i64 ca] 51)))
  have HV := enc12_ok o k a n p q s l ak gn b bl
  clear A1 AC hz1
  have hop : (!ak || gn) = true := by unfold readyE at hr; rw [Bool.and_eq_true] at hr; exact hr.1
  have hlt : b < mo := by unfold readyE at hr; rw [hu, Bool.and_eq_true, Bool.and_eq_true] at hr; exact of_decide_eq_true hr.2.1
  have hd : deadE s l ak gn b bl mo ba ca now = false := by
    unfold deadE; rw [hu, hop, show decide (mo ≤ (if true = true then b else s)) = false from decide_eq_false (show ¬ mo ≤ b by omega)]; rfl
  have f1 := (fits_iff b).1 (hf b (by simp))
  have fb := (fits_iff b).1 (hf b (by simp))
  have fs := (fits_iff s).1 (hf s (by simp))
  have hw : wrap64 (b + 1) = b + 1 := by unfold wrap64; omega
  have ht : tryE now o k a n p q s l ak gn b bl = enc12 o k a n p q s l ak gn (b + 1) now := by
    unfold tryE; rw [hop, hu, show decide ((if true = true then b else s) < 8) = true from decide_eq_true (show b < 8 by omega), hw]; rfl
  have C1 := Lib.hid (fun w => show Calls Try.prog 28 #[.agg (enc12 o k a n p q s l ak gn b bl).toArray, .agg (ints [r0, r1, mo, ba, ca]).toArray, .int .i64 now] w fun e w' => e = .returned (.bool true) ∧ Below w.heap.size w w' from by have := nready_any o k a n p q s l ak gn b bl r0 r1 mo ba ca now w; rwa [hr] at this)
  have C2 := Lib.hid (fun w => show Calls Try.prog 32 #[.agg (enc12 o k a n p q s l ak gn b bl).toArray, .int .i64 now] w fun e w' => e = .returned (.agg (enc12 o k a n p q s l ak gn (b + 1) now).toArray) ∧ Below w.heap.size w w' from by have := ntry_any o k a n p q s l ak gn b bl now w; rwa [ht] at this)
  have C3 := Lib.hid (fun w => show Calls Try.prog 24 #[.agg (enc12 o k a n p q s l ak gn b bl).toArray] w fun e w' => e = .returned (.bool true) ∧ Below w.heap.size w w' from by have := open_any o k a n p q s l ak gn b bl w; rwa [hop] at this)
  have C4 := Lib.hid (fun w => show Calls Try.prog 30 #[.agg (enc12 o k a n p q s l ak gn b bl).toArray, .agg (ints [r0, r1, mo, ba, ca]).toArray, .int .i64 now] w fun e w' => e = .returned (.bool false) ∧ Below w.heap.size w w' from by have := ndead_any o k a n p q s l ak gn b bl r0 r1 mo ba ca now w; rwa [hd] at this)
  have C5 := Lib.hid (fun w => show Calls Try.prog 26 #[.agg (enc12 o k a n p q s l ak gn b bl).toArray] w fun e w' => e = .returned (.bool true) ∧ Below w.heap.size w w' from by have := undoes_any o k a n p q s l ak gn b bl w; rwa [hu] at this)
  have C6 := Lib.hid (fun w => show Calls Try.prog 26 #[.agg (enc12 o k a n p q s l ak gn (b + 1) now).toArray] w fun e w' => e = .returned (.bool true) ∧ Below w.heap.size w w' from by have := undoes_any o k a n p q s l ak gn (b + 1) now w; rwa [hu] at this)
  have C7 := Lib.hid (fun w => show Calls Try.prog 21 #[.agg (enc12 o k a n p q s l ak gn (b + 1) now).toArray] w fun e w' => e = .returned (.agg (enc12 o k a n p q s l ak gn (b + 1) now).toArray) ∧ Below w.heap.size w w' from model_any o k a n p q s l ak gn (b + 1) now w)
  have C8 := Lib.hid (fun w => show Calls Try.prog 40 #[.agg (enc12 o k a n p q s l ak gn (b + 1) now).toArray] w fun e w' => e = .returned (.int .i64 (b + 1)) ∧ Below w.heap.size w w' from by have := rtries_any o k a n p q s l ak gn (b + 1) now w; rwa [hu] at this)
  have C9 := Lib.hid (fun (h1 : 1 ≤ b + 1) => fun w => show Calls Try.prog 28 #[.agg (enc12 o k a n p q s l ak gn (b + 1) now).toArray, .agg (ints [r0, r1, mo, ba, ca]).toArray, .int .i64 now] w fun e w' => e = .returned (.bool false) ∧ Below w.heap.size w w' from by have := nready_any o k a n p q s l ak gn (b + 1) now r0 r1 mo ba ca now w; rwa [show readyE s l ak gn (b + 1) now mo ba ca now = false from (by unfold readyE; rw [hu, hop]; show (true && (decide (b + 1 < mo) && readyB ba ca (b + 1) now now)) = false; unfold readyB; rw [show decide (dueI ba ca (b + 1) now ≤ now) = false from decide_eq_false (due_later h1 hn0 hn1), show decide (clampI (b + 1) 0 64 = 0) = false from decide_eq_false (by unfold clampI; split <;> (try split) <;> omega)]; simp)] at this)
  have C10 := Lib.hid (fun (h1 : 1 ≤ b + 1) => fun w => show Calls Try.prog 30 #[.agg (enc12 o k a n p q s l ak gn (b + 1) now).toArray, .agg (ints [r0, r1, mo, ba, ca]).toArray, .int .i64 now] w fun e w' => e = .returned (.bool false) ∧ Below w.heap.size w w' from by have := ndead_any o k a n p q s l ak gn (b + 1) now r0 r1 mo ba ca now w; rwa [show deadE s l ak gn (b + 1) now mo ba ca now = false from (by unfold deadE; rw [hu, hop]; show (true && (decide (mo ≤ b + 1) && decide (dueI ba ca (b + 1) now ≤ now))) = false; rw [show decide (dueI ba ca (b + 1) now ≤ now) = false from decide_eq_false (due_later h1 hn0 hn1)]; simp)] at this)
  have HI5 : Hid ((Try.prog.info? 51).map (·.size) = some (ints [r0, r1, mo, ba, ca]).length) := Lib.hid cf_size
  have HI12 : Hid ((Try.prog.info? 49).map (·.size) = some (enc12 o k a n p q s l ak gn b bl).length) := Lib.hid en_size
  have HX12 : Hid ((Try.prog.info? 49).map (·.size) = some (enc12 o k a n p q s l ak gn (b + 1) now).length) := Lib.hid en_size
  have HV2 := enc12_ok o k a n p q s l ak gn (b + 1) now
  have HCI : Hid (Blk ((w.alloc (.cells #[.int .i64 o, .int .i64 k, .int .i64 a, .int .i64 n, .int .i64 p, .int .i64 q, .int .i64 s, .int .i64 l, .bool ak, .bool gn, .int .i64 b, .int .i64 bl] 49)).alloc (.cells #[.int .i64 r0, .int .i64 r1, .int .i64 mo, .int .i64 ba, .int .i64 ca] 51)) (w.heap.size + 1) (ints [r0, r1, mo, ba, ca]) 51) := HC
  have HS1 : Hid ((enc12 o k a n p q s l ak gn (b + 1) now)[6]? = some (.int .i64 (s))) := Lib.hid rfl
  have HS2 : Hid ((enc12 o k a n p q s l ak gn (b + 1) now)[10]? = some (.int .i64 (b + 1))) := Lib.hid rfl
  have HS3 : Hid ((enc12 o k a n p q s l ak gn b bl)[6]? = some (.int .i64 s)) := Lib.hid rfl
  have HS4 : Hid ((enc12 o k a n p q s l ak gn b bl)[10]? = some (.int .i64 b)) := Lib.hid rfl
  have HS5 : Hid ((ints [r0, r1, mo, ba, ca])[2]? = some (.int .i64 mo)) := Lib.hid rfl
  clear hr hd ht hop HC hu
  go_enter Try.func8, Try.ntmps8
  go_upto_region 1 with fail
  generalize ((w.alloc (.cells #[.int .i64 o, .int .i64 k, .int .i64 a, .int .i64 n, .int .i64 p, .int .i64 q, .int .i64 s, .int .i64 l, .bool ak, .bool gn, .int .i64 b, .int .i64 bl] 49)).alloc (.cells #[.int .i64 r0, .int .i64 r1, .int .i64 mo, .int .i64 ba, .int .i64 ca] 51)) = W at *
  generalize enc12 o k a n p q s l ak gn b bl = X at *
  generalize enc12 o k a n p q s l ak gn (b + 1) now = Y at *
  have H5 : Hid (([r0, r1, mo, ba, ca] : List Int).length = 5) := Lib.hid rfl
  generalize [r0, r1, mo, ba, ca] = CI at *
  go_wp2_with fail
  refine (alive20 _).mono ?_
  rintro e w2 ⟨rfl, hb⟩
  have HB2 := Lib.hid (HB.out.trans (hb.mono HB.out.size))
  have HA2 := Lib.hid (HA.out.keep hb HA.out.lt)
  have HC2 := Lib.hid (HCI.out.keep hb HCI.out.lt)
  clear hb HB HA HCI
  have rx : w2.rangeAt w.heap.size 0 X := HA2.out.range 0 _ (by simp)
  have ry : w2.rangeAt (w.heap.size + 1) 0 (ints CI) := HC2.out.range 0 _ (by simp)
  go_wp2_with (first
    | ((with_reducible apply en_load); (· rfl); (· (first | assumption)); (· assumption); (simp only [Act.put, List.setIfInBounds_toArray, List.set_cons_zero, List.set_cons_succ]))
    | ((with_reducible apply cf_load); (· rfl); (· (first | assumption)); (· exact H5); (simp only [Act.put, List.setIfInBounds_toArray, List.set_cons_zero, List.set_cons_succ])))
  refine (C1.out _).mono ?_
  rintro e w3 ⟨rfl, hb⟩
  have HB3 := Lib.hid (HB2.out.trans (hb.mono HB2.out.size))
  have HA3 := Lib.hid (HA2.out.keep hb HA2.out.lt)
  have HC3 := Lib.hid (HC2.out.keep hb HC2.out.lt)
  clear hb HB2 HA2 HC2 rx ry C1
  have c2 : w3.cell? ⟨w.heap.size + 1, 2, none⟩ = some (.int .i64 mo) := by rw [HC3.out.cell 2]; exact HS5.out
  have rx : w3.rangeAt w.heap.size 0 X := HA3.out.range 0 _ (by simp)
  go_wp2_with (first
    | ((with_reducible apply en_load); (· rfl); (· (first | assumption)); (· assumption); (simp only [Act.put, List.setIfInBounds_toArray, List.set_cons_zero, List.set_cons_succ]))
    | ((with_reducible apply cf_load); (· rfl); (· (first | assumption)); (· exact H5); (simp only [Act.put, List.setIfInBounds_toArray, List.set_cons_zero, List.set_cons_succ])))
  refine (C2.out _).mono ?_
  rintro e w4 ⟨rfl, hb⟩
  have HB4 := HB3.out.trans (hb.mono HB3.out.size)
  have HA4 := HA3.out.keep hb HA3.out.lt
  have HC4 := HC3.out.keep hb HC3.out.lt
  clear hb HB3 HA3 HC3 rx c2 C2
  have HM5 := Lib.hid (Blk.new w4 Y.toArray 49)
  have HA5 := Lib.hid (HA4.alloc (.cells Y.toArray 49))
  have HC5 := Lib.hid (HC4.alloc (.cells Y.toArray 49))
  have HB5 := Lib.hid (HB4.alloc HB4.size (.cells Y.toArray 49))
  rw [List.toList_toArray] at HM5
  clear HA4 HB4 HC4
  go_upto_region 6 with (first
    | ((with_reducible apply en_store_new (x := Y)); (· rfl); (· first | rfl | simp); (· rfl); (· rfl); (· exact HV2); (simp only [Act.put, List.setIfInBounds_toArray, List.set_cons_zero, List.set_cons_succ])))
  generalize hg3 : w4.heap.size = g3 at *
  generalize w4.alloc (.cells Y.toArray 49) = w5 at *
  have hl1 := Lib.hid HC5.out.lt
  have hl2 := Lib.hid HA5.out.lt
  have hl3 := Lib.hid HM5.out.lt
  clear hg3
  refine q_begin (by kernel_rfl) (by kernel_rfl) ?_
  repeat (first
    | go_big_quiet_skip
    | ((with_reducible apply q_row); (· rfl); (· rfl); (· exact Try.underlying49); (· rfl); (· exact HA5.out); (· exact hl2.out); (· exact HI12.out); (simp only [Act.put, List.setIfInBounds_toArray, List.set_cons_zero, List.set_cons_succ]))
    | ((with_reducible apply q_row); (· rfl); (· rfl); (· exact Try.underlying49); (· rfl); (· exact HM5.out); (· exact hl3.out); (· exact HX12.out); (simp only [Act.put, List.setIfInBounds_toArray, List.set_cons_zero, List.set_cons_succ]))
    | ((with_reducible apply q_row); (· rfl); (· rfl); (· exact Try.underlying51); (· rfl); (· exact HC5.out); (· exact hl1.out); (· exact HI5.out); (simp only [Act.put, List.setIfInBounds_toArray, List.set_cons_zero, List.set_cons_succ]))
    | ((with_reducible apply q_call 24 (.bool true)); (· rfl); (· exact Nat.le_refl _); (· intro w _; exact C3.out w); (· intro w; go_simp); (simp only [Act.put, List.setIfInBounds_toArray, List.set_cons_zero, List.set_cons_succ]))
    | ((with_reducible apply q_call 30 (.bool false)); (· rfl); (· exact Nat.le_refl _); (· intro w _; exact C4.out w); (· intro w; go_simp); (simp only [Act.put, List.setIfInBounds_toArray, List.set_cons_zero, List.set_cons_succ]))
    | ((with_reducible apply q_call 26 (.bool true)); (· rfl); (· exact Nat.le_refl _); (· intro w _; exact C6.out w); (· intro w; go_simp); (simp only [Act.put, List.setIfInBounds_toArray, List.set_cons_zero, List.set_cons_succ]))
    | ((with_reducible apply q_call 26 (.bool true)); (· rfl); (· exact Nat.le_refl _); (· intro w _; exact C5.out w); (· intro w; go_simp); (simp only [Act.put, List.setIfInBounds_toArray, List.set_cons_zero, List.set_cons_succ]))
    | (go_big_quiet_want; go_big_quiet_op; (first | go_big_quiet_on | (apply Exists.intro; refine ⟨fun _ _ => rfl, ?_⟩; go_big_quiet_on))))
  refine q_end ?_
  intro w6 hb
  have HB6 := Lib.hid (HB5.out.trans (hb.mono HB5.out.size))
  have HA6 := Lib.hid (HA5.out.keep hb hl2.out)
  have HC6 := Lib.hid (HC5.out.keep hb hl1.out)
  have HM6 := Lib.hid (HM5.out.keep hb hl3.out)
  clear hb hl1 hl2 hl3 HB5 HA5 HC5 HM5
  have e6 : w6.cell? ⟨w.heap.size, 6, none⟩ = some (.int .i64 s) := by rw [HA6.out.cell 6]; exact HS3.out
  have e10 : w6.cell? ⟨w.heap.size, 10, none⟩ = some (.int .i64 b) := by rw [HA6.out.cell 10]; exact HS4.out
  have x6 : w6.cell? ⟨g3, 6, none⟩ = some (.int .i64 (s)) := by rw [HM6.out.cell 6]; exact HS1.out
  have x10 : w6.cell? ⟨g3, 10, none⟩ = some (.int .i64 (b + 1)) := by rw [HM6.out.cell 10]; exact HS2.out
  go_upto_region 9 with fail
  have hone : b + 1 - b = 1 := by omega
  rw [hone]
  clear e6 e10 x6 x10 hone HS1 HS2 HS3 HS4 HS5
  have rx : w6.rangeAt g3 0 Y := HM6.out.range 0 _ (by simp)
  go_wp2_with (first
    | ((with_reducible apply en_load); (· rfl); (· (first | assumption)); (· assumption); (simp only [Act.put, List.setIfInBounds_toArray, List.set_cons_zero, List.set_cons_succ])))
  refine (C7.out _).mono ?_
  rintro e w7 ⟨rfl, hb⟩
  have HB7 := Lib.hid (HB6.out.trans (hb.mono HB6.out.size))
  have HC7 := Lib.hid (HC6.out.keep hb HC6.out.lt)
  have HM7 := Lib.hid (HM6.out.keep hb HM6.out.lt)
  clear hb HB6 HA6 HC6 HM6 rx C7
  go_wp2_with fail
  refine (C8.out _).mono ?_
  rintro e w8 ⟨rfl, hb⟩
  have HB8 := Lib.hid (HB7.out.trans (hb.mono HB7.out.size))
  have HC8 := Lib.hid (HC7.out.keep hb HC7.out.lt)
  have HM8 := Lib.hid (HM7.out.keep hb HM7.out.lt)
  clear hb HB7 HC7 HM7 C8
  have rx : w8.rangeAt g3 0 Y := HM8.out.range 0 _ (by simp)
  have ry : w8.rangeAt (w.heap.size + 1) 0 (ints CI) := HC8.out.range 0 _ (by simp)
  by_cases hfi : b + 1 < 1
  · go_wp2_with fail
    go_ret
    exact ⟨by simp [hfi]; try omega, HB8.out⟩
  · go_upto_region 10 with fail
    rw [show decide (b + 1 < 1) = false from decide_eq_false (by omega)]
    have R := Lib.hid (C9.out (by omega))
    have D := Lib.hid (C10.out (by omega))
    go_wp2_with (first
      | ((with_reducible apply en_load); (· rfl); (· (first | assumption)); (· assumption); (simp only [Act.put, List.setIfInBounds_toArray, List.set_cons_zero, List.set_cons_succ])) | ((with_reducible apply en_load_g); (· rfl); (· rfl); (· (first | assumption)); (· assumption); (simp only [Act.put, List.setIfInBounds_toArray, List.set_cons_zero, List.set_cons_succ]))
      | ((with_reducible apply cf_load); (· rfl); (· (first | assumption)); (· exact H5); (simp only [Act.put, List.setIfInBounds_toArray, List.set_cons_zero, List.set_cons_succ])) | ((with_reducible apply cf_load_g); (· rfl); (· rfl); (· (first | assumption)); (· exact H5); (simp only [Act.put, List.setIfInBounds_toArray, List.set_cons_zero, List.set_cons_succ])))
    refine (R.out _).mono ?_
    rintro e w9 ⟨rfl, hb⟩
    have HB9 := Lib.hid (HB8.out.trans (hb.mono HB8.out.size))
    have HC9 := Lib.hid (HC8.out.keep hb HC8.out.lt)
    have HM9 := Lib.hid (HM8.out.keep hb HM8.out.lt)
    clear hb HB8 HC8 HM8 R rx ry
    have rx : w9.rangeAt g3 0 Y := HM9.out.range 0 _ (by simp)
    have ry : w9.rangeAt (w.heap.size + 1) 0 (ints CI) := HC9.out.range 0 _ (by simp)
    go_wp2_with (first
      | ((with_reducible apply en_load); (· rfl); (· (first | assumption)); (· assumption); (simp only [Act.put, List.setIfInBounds_toArray, List.set_cons_zero, List.set_cons_succ])) | ((with_reducible apply en_load_g); (· rfl); (· rfl); (· (first | assumption)); (· assumption); (simp only [Act.put, List.setIfInBounds_toArray, List.set_cons_zero, List.set_cons_succ]))
      | ((with_reducible apply cf_load); (· rfl); (· (first | assumption)); (· exact H5); (simp only [Act.put, List.setIfInBounds_toArray, List.set_cons_zero, List.set_cons_succ])) | ((with_reducible apply cf_load_g); (· rfl); (· rfl); (· (first | assumption)); (· exact H5); (simp only [Act.put, List.setIfInBounds_toArray, List.set_cons_zero, List.set_cons_succ])))
    refine (D.out _).mono ?_
    rintro e w10 ⟨rfl, hb⟩
    have HB10 := Lib.hid (HB9.out.trans (hb.mono HB9.out.size))
    clear hb HB9 HC9 HM9 D rx ry
    go_wp2_with fail
    go_ret
    exact ⟨rfl, HB10.out⟩
set_option maxRecDepth 100000 in
set_option maxHeartbeats 8000000 in
theorem once20_false (o k a n p q s l : Int) (ak gn : Bool) (b bl : Int) (r0 r1 mo ba ca now : Int) (w : World) (hf : ∀ z ∈ [o, k, a, n, p, q, s, l, b, bl, now], fits z = true) (hu : (ak && gn) = false) (hr : readyE s l ak gn b bl mo ba ca now = true) (hmo : mo ≤ 8) (hn0 : 0 ≤ now) (hn1 : now ≤ 1073741824) : Calls Try.prog 8 #[.agg #[.int .i64 o, .int .i64 k, .int .i64 a, .int .i64 n, .int .i64 p, .int .i64 q, .int .i64 s, .int .i64 l, .bool ak, .bool gn, .int .i64 b, .int .i64 bl], .agg #[.int .i64 r0, .int .i64 r1, .int .i64 mo, .int .i64 ba, .int .i64 ca], .int .i64 now] w fun e w' => e = .returned (.bool true) ∧ Below w.heap.size w w' := by
  have A1 := Blk.new w #[.int .i64 o, .int .i64 k, .int .i64 a, .int .i64 n, .int .i64 p, .int .i64 q, .int .i64 s, .int .i64 l, .bool ak, .bool gn, .int .i64 b, .int .i64 bl] 49
  have hz1 : (w.alloc (.cells #[.int .i64 o, .int .i64 k, .int .i64 a, .int .i64 n, .int .i64 p, .int .i64 q, .int .i64 s, .int .i64 l, .bool ak, .bool gn, .int .i64 b, .int .i64 bl] 49)).heap.size = w.heap.size + 1 := by simp
  have AC : Blk ((w.alloc (.cells #[.int .i64 o, .int .i64 k, .int .i64 a, .int .i64 n, .int .i64 p, .int .i64 q, .int .i64 s, .int .i64 l, .bool ak, .bool gn, .int .i64 b, .int .i64 bl] 49)).alloc (.cells #[.int .i64 r0, .int .i64 r1, .int .i64 mo, .int .i64 ba, .int .i64 ca] 51)) (w.heap.size + 1) [.int .i64 r0, .int .i64 r1, .int .i64 mo, .int .i64 ba, .int .i64 ca] 51 := hz1 ▸ Blk.new (w.alloc (.cells #[.int .i64 o, .int .i64 k, .int .i64 a, .int .i64 n, .int .i64 p, .int .i64 q, .int .i64 s, .int .i64 l, .bool ak, .bool gn, .int .i64 b, .int .i64 bl] 49)) #[.int .i64 r0, .int .i64 r1, .int .i64 mo, .int .i64 ba, .int .i64 ca] 51
  have HA : Hid (Blk ((w.alloc (.cells #[.int .i64 o, .int .i64 k, .int .i64 a, .int .i64 n, .int .i64 p, .int .i64 q, .int .i64 s, .int .i64 l, .bool ak, .bool gn, .int .i64 b, .int .i64 bl] 49)).alloc (.cells #[.int .i64 r0, .int .i64 r1, .int .i64 mo, .int .i64 ba, .int .i64 ca] 51)) w.heap.size (enc12 o k a n p q s l ak gn b bl) 49) := Lib.hid (A1.alloc _)
  have HC := Lib.hid AC
  have HB := Lib.hid ((((Below.refl w.heap.size w).alloc (Nat.le_refl _) (.cells #[.int .i64 o, .int .i64 k, .int .i64 a, .int .i64 n, .int .i64 p, .int .i64 q, .int .i64 s, .int .i64 l, .bool ak, .bool gn, .int .i64 b, .int .i64 bl] 49)).alloc (by rw [hz1]; omega) (.cells #[.int .i64 r0, .int .i64 r1, .int .i64 mo, .int .i64 ba, .int .i64 ca] 51)))
  have HV := enc12_ok o k a n p q s l ak gn b bl
  clear A1 AC hz1
  have hop : (!ak || gn) = true := by unfold readyE at hr; rw [Bool.and_eq_true] at hr; exact hr.1
  have hlt : s < mo := by unfold readyE at hr; rw [hu, Bool.and_eq_true, Bool.and_eq_true] at hr; exact of_decide_eq_true hr.2.1
  have hd : deadE s l ak gn b bl mo ba ca now = false := by
    unfold deadE; rw [hu, hop, show decide (mo ≤ (if false = true then b else s)) = false from decide_eq_false (show ¬ mo ≤ s by omega)]; rfl
  have f1 := (fits_iff s).1 (hf s (by simp))
  have fb := (fits_iff b).1 (hf b (by simp))
  have fs := (fits_iff s).1 (hf s (by simp))
  have hw : wrap64 (s + 1) = s + 1 := by unfold wrap64; omega
  have ht : tryE now o k a n p q s l ak gn b bl = enc12 o k a n p q (s + 1) now ak gn b bl := by
    unfold tryE; rw [hop, hu, show decide ((if false = true then b else s) < 8) = true from decide_eq_true (show s < 8 by omega), hw]; rfl
  have C1 := Lib.hid (fun w => show Calls Try.prog 28 #[.agg (enc12 o k a n p q s l ak gn b bl).toArray, .agg (ints [r0, r1, mo, ba, ca]).toArray, .int .i64 now] w fun e w' => e = .returned (.bool true) ∧ Below w.heap.size w w' from by have := nready_any o k a n p q s l ak gn b bl r0 r1 mo ba ca now w; rwa [hr] at this)
  have C2 := Lib.hid (fun w => show Calls Try.prog 32 #[.agg (enc12 o k a n p q s l ak gn b bl).toArray, .int .i64 now] w fun e w' => e = .returned (.agg (enc12 o k a n p q (s + 1) now ak gn b bl).toArray) ∧ Below w.heap.size w w' from by have := ntry_any o k a n p q s l ak gn b bl now w; rwa [ht] at this)
  have C3 := Lib.hid (fun w => show Calls Try.prog 24 #[.agg (enc12 o k a n p q s l ak gn b bl).toArray] w fun e w' => e = .returned (.bool true) ∧ Below w.heap.size w w' from by have := open_any o k a n p q s l ak gn b bl w; rwa [hop] at this)
  have C4 := Lib.hid (fun w => show Calls Try.prog 30 #[.agg (enc12 o k a n p q s l ak gn b bl).toArray, .agg (ints [r0, r1, mo, ba, ca]).toArray, .int .i64 now] w fun e w' => e = .returned (.bool false) ∧ Below w.heap.size w w' from by have := ndead_any o k a n p q s l ak gn b bl r0 r1 mo ba ca now w; rwa [hd] at this)
  have C5 := Lib.hid (fun w => show Calls Try.prog 26 #[.agg (enc12 o k a n p q s l ak gn b bl).toArray] w fun e w' => e = .returned (.bool false) ∧ Below w.heap.size w w' from by have := undoes_any o k a n p q s l ak gn b bl w; rwa [hu] at this)
  have C6 := Lib.hid (fun w => show Calls Try.prog 26 #[.agg (enc12 o k a n p q (s + 1) now ak gn b bl).toArray] w fun e w' => e = .returned (.bool false) ∧ Below w.heap.size w w' from by have := undoes_any o k a n p q (s + 1) now ak gn b bl w; rwa [hu] at this)
  have C7 := Lib.hid (fun w => show Calls Try.prog 21 #[.agg (enc12 o k a n p q (s + 1) now ak gn b bl).toArray] w fun e w' => e = .returned (.agg (enc12 o k a n p q (s + 1) now ak gn b bl).toArray) ∧ Below w.heap.size w w' from model_any o k a n p q (s + 1) now ak gn b bl w)
  have C8 := Lib.hid (fun w => show Calls Try.prog 40 #[.agg (enc12 o k a n p q (s + 1) now ak gn b bl).toArray] w fun e w' => e = .returned (.int .i64 (s + 1)) ∧ Below w.heap.size w w' from by have := rtries_any o k a n p q (s + 1) now ak gn b bl w; rwa [hu] at this)
  have C9 := Lib.hid (fun (h1 : 1 ≤ s + 1) => fun w => show Calls Try.prog 28 #[.agg (enc12 o k a n p q (s + 1) now ak gn b bl).toArray, .agg (ints [r0, r1, mo, ba, ca]).toArray, .int .i64 now] w fun e w' => e = .returned (.bool false) ∧ Below w.heap.size w w' from by have := nready_any o k a n p q (s + 1) now ak gn b bl r0 r1 mo ba ca now w; rwa [show readyE (s + 1) now ak gn b bl mo ba ca now = false from (by unfold readyE; rw [hu, hop]; show (true && (decide (s + 1 < mo) && readyB ba ca (s + 1) now now)) = false; unfold readyB; rw [show decide (dueI ba ca (s + 1) now ≤ now) = false from decide_eq_false (due_later h1 hn0 hn1), show decide (clampI (s + 1) 0 64 = 0) = false from decide_eq_false (by unfold clampI; split <;> (try split) <;> omega)]; simp)] at this)
  have C10 := Lib.hid (fun (h1 : 1 ≤ s + 1) => fun w => show Calls Try.prog 30 #[.agg (enc12 o k a n p q (s + 1) now ak gn b bl).toArray, .agg (ints [r0, r1, mo, ba, ca]).toArray, .int .i64 now] w fun e w' => e = .returned (.bool false) ∧ Below w.heap.size w w' from by have := ndead_any o k a n p q (s + 1) now ak gn b bl r0 r1 mo ba ca now w; rwa [show deadE (s + 1) now ak gn b bl mo ba ca now = false from (by unfold deadE; rw [hu, hop]; show (true && (decide (mo ≤ s + 1) && decide (dueI ba ca (s + 1) now ≤ now))) = false; rw [show decide (dueI ba ca (s + 1) now ≤ now) = false from decide_eq_false (due_later h1 hn0 hn1)]; simp)] at this)
  have HI5 : Hid ((Try.prog.info? 51).map (·.size) = some (ints [r0, r1, mo, ba, ca]).length) := Lib.hid cf_size
  have HI12 : Hid ((Try.prog.info? 49).map (·.size) = some (enc12 o k a n p q s l ak gn b bl).length) := Lib.hid en_size
  have HX12 : Hid ((Try.prog.info? 49).map (·.size) = some (enc12 o k a n p q (s + 1) now ak gn b bl).length) := Lib.hid en_size
  have HV2 := enc12_ok o k a n p q (s + 1) now ak gn b bl
  have HCI : Hid (Blk ((w.alloc (.cells #[.int .i64 o, .int .i64 k, .int .i64 a, .int .i64 n, .int .i64 p, .int .i64 q, .int .i64 s, .int .i64 l, .bool ak, .bool gn, .int .i64 b, .int .i64 bl] 49)).alloc (.cells #[.int .i64 r0, .int .i64 r1, .int .i64 mo, .int .i64 ba, .int .i64 ca] 51)) (w.heap.size + 1) (ints [r0, r1, mo, ba, ca]) 51) := HC
  have HS1 : Hid ((enc12 o k a n p q (s + 1) now ak gn b bl)[6]? = some (.int .i64 (s + 1))) := Lib.hid rfl
  have HS2 : Hid ((enc12 o k a n p q (s + 1) now ak gn b bl)[10]? = some (.int .i64 (b))) := Lib.hid rfl
  have HS3 : Hid ((enc12 o k a n p q s l ak gn b bl)[6]? = some (.int .i64 s)) := Lib.hid rfl
  have HS4 : Hid ((enc12 o k a n p q s l ak gn b bl)[10]? = some (.int .i64 b)) := Lib.hid rfl
  have HS5 : Hid ((ints [r0, r1, mo, ba, ca])[2]? = some (.int .i64 mo)) := Lib.hid rfl
  clear hr hd ht hop HC hu
  go_enter Try.func8, Try.ntmps8
  go_upto_region 1 with fail
  generalize ((w.alloc (.cells #[.int .i64 o, .int .i64 k, .int .i64 a, .int .i64 n, .int .i64 p, .int .i64 q, .int .i64 s, .int .i64 l, .bool ak, .bool gn, .int .i64 b, .int .i64 bl] 49)).alloc (.cells #[.int .i64 r0, .int .i64 r1, .int .i64 mo, .int .i64 ba, .int .i64 ca] 51)) = W at *
  generalize enc12 o k a n p q s l ak gn b bl = X at *
  generalize enc12 o k a n p q (s + 1) now ak gn b bl = Y at *
  have H5 : Hid (([r0, r1, mo, ba, ca] : List Int).length = 5) := Lib.hid rfl
  generalize [r0, r1, mo, ba, ca] = CI at *
  go_wp2_with fail
  refine (alive20 _).mono ?_
  rintro e w2 ⟨rfl, hb⟩
  have HB2 := Lib.hid (HB.out.trans (hb.mono HB.out.size))
  have HA2 := Lib.hid (HA.out.keep hb HA.out.lt)
  have HC2 := Lib.hid (HCI.out.keep hb HCI.out.lt)
  clear hb HB HA HCI
  have rx : w2.rangeAt w.heap.size 0 X := HA2.out.range 0 _ (by simp)
  have ry : w2.rangeAt (w.heap.size + 1) 0 (ints CI) := HC2.out.range 0 _ (by simp)
  go_wp2_with (first
    | ((with_reducible apply en_load); (· rfl); (· (first | assumption)); (· assumption); (simp only [Act.put, List.setIfInBounds_toArray, List.set_cons_zero, List.set_cons_succ]))
    | ((with_reducible apply cf_load); (· rfl); (· (first | assumption)); (· exact H5); (simp only [Act.put, List.setIfInBounds_toArray, List.set_cons_zero, List.set_cons_succ])))
  refine (C1.out _).mono ?_
  rintro e w3 ⟨rfl, hb⟩
  have HB3 := Lib.hid (HB2.out.trans (hb.mono HB2.out.size))
  have HA3 := Lib.hid (HA2.out.keep hb HA2.out.lt)
  have HC3 := Lib.hid (HC2.out.keep hb HC2.out.lt)
  clear hb HB2 HA2 HC2 rx ry C1
  have c2 : w3.cell? ⟨w.heap.size + 1, 2, none⟩ = some (.int .i64 mo) := by rw [HC3.out.cell 2]; exact HS5.out
  have rx : w3.rangeAt w.heap.size 0 X := HA3.out.range 0 _ (by simp)
  go_wp2_with (first
    | ((with_reducible apply en_load); (· rfl); (· (first | assumption)); (· assumption); (simp only [Act.put, List.setIfInBounds_toArray, List.set_cons_zero, List.set_cons_succ]))
    | ((with_reducible apply cf_load); (· rfl); (· (first | assumption)); (· exact H5); (simp only [Act.put, List.setIfInBounds_toArray, List.set_cons_zero, List.set_cons_succ])))
  refine (C2.out _).mono ?_
  rintro e w4 ⟨rfl, hb⟩
  have HB4 := HB3.out.trans (hb.mono HB3.out.size)
  have HA4 := HA3.out.keep hb HA3.out.lt
  have HC4 := HC3.out.keep hb HC3.out.lt
  clear hb HB3 HA3 HC3 rx c2 C2
  have HM5 := Lib.hid (Blk.new w4 Y.toArray 49)
  have HA5 := Lib.hid (HA4.alloc (.cells Y.toArray 49))
  have HC5 := Lib.hid (HC4.alloc (.cells Y.toArray 49))
  have HB5 := Lib.hid (HB4.alloc HB4.size (.cells Y.toArray 49))
  rw [List.toList_toArray] at HM5
  clear HA4 HB4 HC4
  go_upto_region 6 with (first
    | ((with_reducible apply en_store_new (x := Y)); (· rfl); (· first | rfl | simp); (· rfl); (· rfl); (· exact HV2); (simp only [Act.put, List.setIfInBounds_toArray, List.set_cons_zero, List.set_cons_succ])))
  generalize hg3 : w4.heap.size = g3 at *
  generalize w4.alloc (.cells Y.toArray 49) = w5 at *
  have hl1 := Lib.hid HC5.out.lt
  have hl2 := Lib.hid HA5.out.lt
  have hl3 := Lib.hid HM5.out.lt
  clear hg3
  refine q_begin (by kernel_rfl) (by kernel_rfl) ?_
  repeat (first
    | go_big_quiet_skip
    | ((with_reducible apply q_row); (· rfl); (· rfl); (· exact Try.underlying49); (· rfl); (· exact HA5.out); (· exact hl2.out); (· exact HI12.out); (simp only [Act.put, List.setIfInBounds_toArray, List.set_cons_zero, List.set_cons_succ]))
    | ((with_reducible apply q_row); (· rfl); (· rfl); (· exact Try.underlying49); (· rfl); (· exact HM5.out); (· exact hl3.out); (· exact HX12.out); (simp only [Act.put, List.setIfInBounds_toArray, List.set_cons_zero, List.set_cons_succ]))
    | ((with_reducible apply q_row); (· rfl); (· rfl); (· exact Try.underlying51); (· rfl); (· exact HC5.out); (· exact hl1.out); (· exact HI5.out); (simp only [Act.put, List.setIfInBounds_toArray, List.set_cons_zero, List.set_cons_succ]))
    | ((with_reducible apply q_call 24 (.bool true)); (· rfl); (· exact Nat.le_refl _); (· intro w _; exact C3.out w); (· intro w; go_simp); (simp only [Act.put, List.setIfInBounds_toArray, List.set_cons_zero, List.set_cons_succ]))
    | ((with_reducible apply q_call 30 (.bool false)); (· rfl); (· exact Nat.le_refl _); (· intro w _; exact C4.out w); (· intro w; go_simp); (simp only [Act.put, List.setIfInBounds_toArray, List.set_cons_zero, List.set_cons_succ]))
    | ((with_reducible apply q_call 26 (.bool false)); (· rfl); (· exact Nat.le_refl _); (· intro w _; exact C6.out w); (· intro w; go_simp); (simp only [Act.put, List.setIfInBounds_toArray, List.set_cons_zero, List.set_cons_succ]))
    | ((with_reducible apply q_call 26 (.bool false)); (· rfl); (· exact Nat.le_refl _); (· intro w _; exact C5.out w); (· intro w; go_simp); (simp only [Act.put, List.setIfInBounds_toArray, List.set_cons_zero, List.set_cons_succ]))
    | (go_big_quiet_want; go_big_quiet_op; (first | go_big_quiet_on | (apply Exists.intro; refine ⟨fun _ _ => rfl, ?_⟩; go_big_quiet_on))))
  refine q_end ?_
  intro w6 hb
  have HB6 := Lib.hid (HB5.out.trans (hb.mono HB5.out.size))
  have HA6 := Lib.hid (HA5.out.keep hb hl2.out)
  have HC6 := Lib.hid (HC5.out.keep hb hl1.out)
  have HM6 := Lib.hid (HM5.out.keep hb hl3.out)
  clear hb hl1 hl2 hl3 HB5 HA5 HC5 HM5
  have e6 : w6.cell? ⟨w.heap.size, 6, none⟩ = some (.int .i64 s) := by rw [HA6.out.cell 6]; exact HS3.out
  have e10 : w6.cell? ⟨w.heap.size, 10, none⟩ = some (.int .i64 b) := by rw [HA6.out.cell 10]; exact HS4.out
  have x6 : w6.cell? ⟨g3, 6, none⟩ = some (.int .i64 (s + 1)) := by rw [HM6.out.cell 6]; exact HS1.out
  have x10 : w6.cell? ⟨g3, 10, none⟩ = some (.int .i64 (b)) := by rw [HM6.out.cell 10]; exact HS2.out
  go_upto_region 9 with fail
  have hone : wrap64 (wrap64 (s + 1 - s + b) - b) = 1 := by unfold wrap64; omega
  rw [hone]
  clear e6 e10 x6 x10 hone HS1 HS2 HS3 HS4 HS5
  have rx : w6.rangeAt g3 0 Y := HM6.out.range 0 _ (by simp)
  go_wp2_with (first
    | ((with_reducible apply en_load); (· rfl); (· (first | assumption)); (· assumption); (simp only [Act.put, List.setIfInBounds_toArray, List.set_cons_zero, List.set_cons_succ])))
  refine (C7.out _).mono ?_
  rintro e w7 ⟨rfl, hb⟩
  have HB7 := Lib.hid (HB6.out.trans (hb.mono HB6.out.size))
  have HC7 := Lib.hid (HC6.out.keep hb HC6.out.lt)
  have HM7 := Lib.hid (HM6.out.keep hb HM6.out.lt)
  clear hb HB6 HA6 HC6 HM6 rx C7
  go_wp2_with fail
  refine (C8.out _).mono ?_
  rintro e w8 ⟨rfl, hb⟩
  have HB8 := Lib.hid (HB7.out.trans (hb.mono HB7.out.size))
  have HC8 := Lib.hid (HC7.out.keep hb HC7.out.lt)
  have HM8 := Lib.hid (HM7.out.keep hb HM7.out.lt)
  clear hb HB7 HC7 HM7 C8
  have rx : w8.rangeAt g3 0 Y := HM8.out.range 0 _ (by simp)
  have ry : w8.rangeAt (w.heap.size + 1) 0 (ints CI) := HC8.out.range 0 _ (by simp)
  by_cases hfi : s + 1 < 1
  · go_wp2_with fail
    go_ret
    exact ⟨by simp [hfi]; try omega, HB8.out⟩
  · go_upto_region 10 with fail
    rw [show decide (s + 1 < 1) = false from decide_eq_false (by omega)]
    have R := Lib.hid (C9.out (by omega))
    have D := Lib.hid (C10.out (by omega))
    go_wp2_with (first
      | ((with_reducible apply en_load); (· rfl); (· (first | assumption)); (· assumption); (simp only [Act.put, List.setIfInBounds_toArray, List.set_cons_zero, List.set_cons_succ])) | ((with_reducible apply en_load_g); (· rfl); (· rfl); (· (first | assumption)); (· assumption); (simp only [Act.put, List.setIfInBounds_toArray, List.set_cons_zero, List.set_cons_succ]))
      | ((with_reducible apply cf_load); (· rfl); (· (first | assumption)); (· exact H5); (simp only [Act.put, List.setIfInBounds_toArray, List.set_cons_zero, List.set_cons_succ])) | ((with_reducible apply cf_load_g); (· rfl); (· rfl); (· (first | assumption)); (· exact H5); (simp only [Act.put, List.setIfInBounds_toArray, List.set_cons_zero, List.set_cons_succ])))
    refine (R.out _).mono ?_
    rintro e w9 ⟨rfl, hb⟩
    have HB9 := Lib.hid (HB8.out.trans (hb.mono HB8.out.size))
    have HC9 := Lib.hid (HC8.out.keep hb HC8.out.lt)
    have HM9 := Lib.hid (HM8.out.keep hb HM8.out.lt)
    clear hb HB8 HC8 HM8 R rx ry
    have rx : w9.rangeAt g3 0 Y := HM9.out.range 0 _ (by simp)
    have ry : w9.rangeAt (w.heap.size + 1) 0 (ints CI) := HC9.out.range 0 _ (by simp)
    go_wp2_with (first
      | ((with_reducible apply en_load); (· rfl); (· (first | assumption)); (· assumption); (simp only [Act.put, List.setIfInBounds_toArray, List.set_cons_zero, List.set_cons_succ])) | ((with_reducible apply en_load_g); (· rfl); (· rfl); (· (first | assumption)); (· assumption); (simp only [Act.put, List.setIfInBounds_toArray, List.set_cons_zero, List.set_cons_succ]))
      | ((with_reducible apply cf_load); (· rfl); (· (first | assumption)); (· exact H5); (simp only [Act.put, List.setIfInBounds_toArray, List.set_cons_zero, List.set_cons_succ])) | ((with_reducible apply cf_load_g); (· rfl); (· rfl); (· (first | assumption)); (· exact H5); (simp only [Act.put, List.setIfInBounds_toArray, List.set_cons_zero, List.set_cons_succ])))
    refine (D.out _).mono ?_
    rintro e w10 ⟨rfl, hb⟩
    have HB10 := Lib.hid (HB9.out.trans (hb.mono HB9.out.size))
    clear hb HB9 HC9 HM9 D rx ry
    go_wp2_with fail
    go_ret
    exact ⟨rfl, HB10.out⟩
set_option maxRecDepth 100000 in
set_option maxHeartbeats 8000000 in
theorem once20_no (o k a n p q s l : Int) (ak gn : Bool) (b bl : Int) (r0 r1 mo ba ca now : Int) (w : World) (v : Bool) (hr : readyE s l ak gn b bl mo ba ca now = v) (hno : v = false ∨ 8 < mo ∨ now < 0 ∨ 1073741824 < now) : Calls Try.prog 8 #[.agg #[.int .i64 o, .int .i64 k, .int .i64 a, .int .i64 n, .int .i64 p, .int .i64 q, .int .i64 s, .int .i64 l, .bool ak, .bool gn, .int .i64 b, .int .i64 bl], .agg #[.int .i64 r0, .int .i64 r1, .int .i64 mo, .int .i64 ba, .int .i64 ca], .int .i64 now] w fun e w' => e = .returned (.bool true) ∧ Below w.heap.size w w' := by
  have A1 := Blk.new w #[.int .i64 o, .int .i64 k, .int .i64 a, .int .i64 n, .int .i64 p, .int .i64 q, .int .i64 s, .int .i64 l, .bool ak, .bool gn, .int .i64 b, .int .i64 bl] 49
  have hz1 : (w.alloc (.cells #[.int .i64 o, .int .i64 k, .int .i64 a, .int .i64 n, .int .i64 p, .int .i64 q, .int .i64 s, .int .i64 l, .bool ak, .bool gn, .int .i64 b, .int .i64 bl] 49)).heap.size = w.heap.size + 1 := by simp
  have AC : Blk ((w.alloc (.cells #[.int .i64 o, .int .i64 k, .int .i64 a, .int .i64 n, .int .i64 p, .int .i64 q, .int .i64 s, .int .i64 l, .bool ak, .bool gn, .int .i64 b, .int .i64 bl] 49)).alloc (.cells #[.int .i64 r0, .int .i64 r1, .int .i64 mo, .int .i64 ba, .int .i64 ca] 51)) (w.heap.size + 1) [.int .i64 r0, .int .i64 r1, .int .i64 mo, .int .i64 ba, .int .i64 ca] 51 := hz1 ▸ Blk.new (w.alloc (.cells #[.int .i64 o, .int .i64 k, .int .i64 a, .int .i64 n, .int .i64 p, .int .i64 q, .int .i64 s, .int .i64 l, .bool ak, .bool gn, .int .i64 b, .int .i64 bl] 49)) #[.int .i64 r0, .int .i64 r1, .int .i64 mo, .int .i64 ba, .int .i64 ca] 51
  have HA : Hid (Blk ((w.alloc (.cells #[.int .i64 o, .int .i64 k, .int .i64 a, .int .i64 n, .int .i64 p, .int .i64 q, .int .i64 s, .int .i64 l, .bool ak, .bool gn, .int .i64 b, .int .i64 bl] 49)).alloc (.cells #[.int .i64 r0, .int .i64 r1, .int .i64 mo, .int .i64 ba, .int .i64 ca] 51)) w.heap.size (enc12 o k a n p q s l ak gn b bl) 49) := Lib.hid (A1.alloc _)
  have HC := Lib.hid AC
  have HB := Lib.hid ((((Below.refl w.heap.size w).alloc (Nat.le_refl _) (.cells #[.int .i64 o, .int .i64 k, .int .i64 a, .int .i64 n, .int .i64 p, .int .i64 q, .int .i64 s, .int .i64 l, .bool ak, .bool gn, .int .i64 b, .int .i64 bl] 49)).alloc (by rw [hz1]; omega) (.cells #[.int .i64 r0, .int .i64 r1, .int .i64 mo, .int .i64 ba, .int .i64 ca] 51)))
  have HV := enc12_ok o k a n p q s l ak gn b bl
  clear A1 AC hz1
  have C1 := Lib.hid (fun w => show Calls Try.prog 28 #[.agg (enc12 o k a n p q s l ak gn b bl).toArray, .agg (ints [r0, r1, mo, ba, ca]).toArray, .int .i64 now] w fun e w' => e = .returned (.bool v) ∧ Below w.heap.size w w' from by have := nready_any o k a n p q s l ak gn b bl r0 r1 mo ba ca now w; rwa [hr] at this)
  have HCI : Hid (Blk ((w.alloc (.cells #[.int .i64 o, .int .i64 k, .int .i64 a, .int .i64 n, .int .i64 p, .int .i64 q, .int .i64 s, .int .i64 l, .bool ak, .bool gn, .int .i64 b, .int .i64 bl] 49)).alloc (.cells #[.int .i64 r0, .int .i64 r1, .int .i64 mo, .int .i64 ba, .int .i64 ca] 51)) (w.heap.size + 1) (ints [r0, r1, mo, ba, ca]) 51) := HC
  have HS5 : Hid ((ints [r0, r1, mo, ba, ca])[2]? = some (.int .i64 mo)) := Lib.hid rfl
  clear hr HC
  have HNO := Lib.hid hno
  clear hno
  go_enter Try.func8, Try.ntmps8
  go_upto_region 1 with fail
  generalize ((w.alloc (.cells #[.int .i64 o, .int .i64 k, .int .i64 a, .int .i64 n, .int .i64 p, .int .i64 q, .int .i64 s, .int .i64 l, .bool ak, .bool gn, .int .i64 b, .int .i64 bl] 49)).alloc (.cells #[.int .i64 r0, .int .i64 r1, .int .i64 mo, .int .i64 ba, .int .i64 ca] 51)) = W at *
  generalize enc12 o k a n p q s l ak gn b bl = X at *
  have H5 : Hid (([r0, r1, mo, ba, ca] : List Int).length = 5) := Lib.hid rfl
  generalize [r0, r1, mo, ba, ca] = CI at *
  go_wp2_with fail
  refine (alive20 _).mono ?_
  rintro e w2 ⟨rfl, hb⟩
  have HB2 := Lib.hid (HB.out.trans (hb.mono HB.out.size))
  have HA2 := Lib.hid (HA.out.keep hb HA.out.lt)
  have HC2 := Lib.hid (HCI.out.keep hb HCI.out.lt)
  clear hb HB HA HCI
  have rx : w2.rangeAt w.heap.size 0 X := HA2.out.range 0 _ (by simp)
  have ry : w2.rangeAt (w.heap.size + 1) 0 (ints CI) := HC2.out.range 0 _ (by simp)
  go_wp2_with (first
    | ((with_reducible apply en_load); (· rfl); (· (first | assumption)); (· assumption); (simp only [Act.put, List.setIfInBounds_toArray, List.set_cons_zero, List.set_cons_succ]))
    | ((with_reducible apply cf_load); (· rfl); (· (first | assumption)); (· exact H5); (simp only [Act.put, List.setIfInBounds_toArray, List.set_cons_zero, List.set_cons_succ])))
  refine (C1.out _).mono ?_
  rintro e w3 ⟨rfl, hb⟩
  have HB3 := Lib.hid (HB2.out.trans (hb.mono HB2.out.size))
  have HC3 := Lib.hid (HC2.out.keep hb HC2.out.lt)
  clear hb HB2 HA2 HC2 rx ry C1
  have c2 : w3.cell? ⟨w.heap.size + 1, 2, none⟩ = some (.int .i64 mo) := by rw [HC3.out.cell 2]; exact HS5.out
  cases v
  · go_wp2_with fail
    go_ret
    exact ⟨rfl, HB3.out⟩
  · have h := HNO.out
    by_cases h1 : 8 < mo
    · go_wp2_with fail
      go_ret
      exact ⟨rfl, HB3.out⟩
    · by_cases h2 : now < 0
      · go_wp2_with fail
        go_ret
        exact ⟨rfl, HB3.out⟩
      · have h3 : 1073741824 < now := by rcases h with h | h | h | h; cases h; omega; omega; exact h
        clear h HNO
        go_wp2_with fail
        go_ret
        exact ⟨rfl, HB3.out⟩
theorem ent_of_ok {cs : List Value} (h : OkAll (List.replicate 8 (some IntKind.i64) ++ ([none, none, some IntKind.i64, some IntKind.i64] : List (Option IntKind))) cs) : ∃ o k a n p q s l ak gn b bl, cs = [.int .i64 o, .int .i64 k, .int .i64 a, .int .i64 n, .int .i64 p, .int .i64 q, .int .i64 s, .int .i64 l, .bool ak, .bool gn, .int .i64 b, .int .i64 bl] ∧ ∀ z ∈ [o, k, a, n, p, q, s, l, b, bl], fits z = true := by
  have hl := h.len
  match cs, hl, h with
  | [v0, v1, v2, v3, v4, v5, v6, v7, v8, v9, v10, v11], _, h =>
    obtain ⟨⟨o, rfl, h0⟩, ⟨k, rfl, h1⟩, ⟨a, rfl, h2⟩, ⟨n, rfl, h3⟩, ⟨p, rfl, h4⟩, ⟨q, rfl, h5⟩, ⟨s, rfl, h6⟩, ⟨l, rfl, h7⟩, ⟨ak, rfl⟩, ⟨gn, rfl⟩, ⟨b, rfl, h8⟩, ⟨bl, rfl, h9⟩, _⟩ := h
    refine ⟨o, k, a, n, p, q, s, l, ak, gn, b, bl, rfl, ?_⟩
    intro z hz
    simp only [List.mem_cons, List.not_mem_nil, or_false] at hz
    rcases hz with h | h | h | h | h | h | h | h | h | h <;> rw [h]
    · exact fits_wf h0
    · exact fits_wf h1
    · exact fits_wf h2
    · exact fits_wf h3
    · exact fits_wf h4
    · exact fits_wf h5
    · exact fits_wf h6
    · exact fits_wf h7
    · exact fits_wf h8
    · exact fits_wf h9
theorem flat5c : flat Try.prog 3 51 = some (List.replicate 5 (some .i64)) := by kernel_rfl
theorem ent_args {v0 v1 v2 : Value} {w : World} (h0 : Arg Try.prog w 49 v0) (h1 : Arg Try.prog w 51 v1) (h2 : Arg Try.prog w 3 v2) : ∃ o k a n p q s l ak gn b bl r0 r1 mo ba ca now, v0 = .agg #[.int .i64 o, .int .i64 k, .int .i64 a, .int .i64 n, .int .i64 p, .int .i64 q, .int .i64 s, .int .i64 l, .bool ak, .bool gn, .int .i64 b, .int .i64 bl] ∧ v1 = .agg #[.int .i64 r0, .int .i64 r1, .int .i64 mo, .int .i64 ba, .int .i64 ca] ∧ v2 = .int .i64 now ∧ ∀ z ∈ [o, k, a, n, p, q, s, l, b, bl, now], fits z = true := by
  obtain ⟨cs, rfl, k0⟩ := h0.flat_struct Try.underlying49 flat12
  obtain ⟨o, k, a, n, p, q, s, l, ak, gn, b, bl, hcs, hf⟩ := ent_of_ok k0
  obtain ⟨cc, rfl, k1⟩ := h1.flat_struct Try.underlying51 flat5c
  obtain ⟨x, e3, e4, e5⟩ := ints_of_ok 5 _ k1
  obtain ⟨now, rfl, e6⟩ := h2.int Try.underlying3
  match x, e3, e4 with
  | [r0, r1, mo, ba, ca], _, e4 =>
    refine ⟨o, k, a, n, p, q, s, l, ak, gn, b, bl, r0, r1, mo, ba, ca, now, ?_, ?_, rfl, ?_⟩
    · rw [show cs = cs.toList.toArray by simp, hcs]
    · rw [show cc = cc.toList.toArray by simp, e4]; rfl
    · intro z hz
      simp only [List.mem_cons, List.not_mem_nil, or_false] at hz
      rcases hz with h | h | h | h | h | h | h | h | h | h | h
      · exact hf z (by simp [h])
      · exact hf z (by simp [h])
      · exact hf z (by simp [h])
      · exact hf z (by simp [h])
      · exact hf z (by simp [h])
      · exact hf z (by simp [h])
      · exact hf z (by simp [h])
      · exact hf z (by simp [h])
      · exact hf z (by simp [h])
      · exact hf z (by simp [h])
      · rw [h]; exact fits_wf e6
theorem tells20_law (v0 v1 v2 : Value) (w : World) (h0 : Arg Try.prog w 49 v0) (h1 : Arg Try.prog w 51 v1) (h2 : Arg Try.prog w 3 v2) : Calls Try.prog 6 #[v0, v1, v2] w fun e w' => e = .returned (.bool true) ∧ Below w.heap.size w w' := by
  obtain ⟨o, k, a, n, p, q, s, l, ak, gn, b, bl, r0, r1, mo, ba, ca, now, rfl, rfl, rfl, hf⟩ := ent_args h0 h1 h2
  exact tells20 o k a n p q s l ak gn b bl r0 r1 mo ba ca now w hf
theorem once20_law (v0 v1 v2 : Value) (w : World) (h0 : Arg Try.prog w 49 v0) (h1 : Arg Try.prog w 51 v1) (h2 : Arg Try.prog w 3 v2) : Calls Try.prog 8 #[v0, v1, v2] w fun e w' => e = .returned (.bool true) ∧ Below w.heap.size w w' := by
  obtain ⟨o, k, a, n, p, q, s, l, ak, gn, b, bl, r0, r1, mo, ba, ca, now, rfl, rfl, rfl, hf⟩ := ent_args h0 h1 h2
  rcases hr : readyE s l ak gn b bl mo ba ca now with _ | _
  · exact once20_no o k a n p q s l ak gn b bl r0 r1 mo ba ca now w _ hr (Or.inl rfl)
  · by_cases h : 8 < mo ∨ now < 0 ∨ 1073741824 < now
    · exact once20_no o k a n p q s l ak gn b bl r0 r1 mo ba ca now w _ hr (Or.inr h)
    · rcases hu : (ak && gn) with _ | _
      · exact once20_false o k a n p q s l ak gn b bl r0 r1 mo ba ca now w hf hu hr (by omega) (by omega) (by omega)
      · exact once20_true o k a n p q s l ak gn b bl r0 r1 mo ba ca now w hf hu hr (by omega) (by omega) (by omega)
end Go.Proofs.Ytalbkpahphndiaa
