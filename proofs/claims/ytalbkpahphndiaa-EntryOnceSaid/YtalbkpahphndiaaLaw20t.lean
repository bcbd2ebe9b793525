/- The statements of requests that were tried: what is told of any. -/
import Derived.Test.YtalbkpahphndiaaLaw20
import Derived.Test.YtalbkpahphndiaaRow
import Derived.Test.YtalbkpahphndiaaOps
import Derived.RegionTactic
import Derived.BigRegion
import Derived.ChangeAlike
namespace Go.Proofs.Ytalbkpahphndiaa
set_option linter.unusedVariables false
set_option linter.unusedSimpArgs false
open Go.ChangeShapes Go.WideShapes Go.ChangeAt Go.RowKit
theorem wrap_fits (x : Int) : fits (wrap64 x) = true := by rw [fits_iff]; unfold wrap64; omega
theorem try_ok (o k a n p q s l : Int) (ak gn : Bool) (b bl : Int) (now : Int) (hf : ∀ z ∈ [o, k, a, n, p, q, s, l, b, bl, now], fits z = true) : OkAll (List.replicate 8 (some IntKind.i64) ++ ([none, none, some IntKind.i64, some IntKind.i64] : List (Option IntKind))) (tryE now o k a n p q s l ak gn b bl) := by
  unfold tryE
  by_cases h1 : ((!ak || gn) && decide ((if (ak && gn) = true then b else s) < 8)) = true
  · rw [if_pos h1]
    by_cases h2 : (ak && gn) = true
    · rw [if_pos h2]
      exact ok12 (by intro z hz; simp only [List.mem_cons, List.not_mem_nil, or_false] at hz; rcases hz with h | h | h | h | h | h | h | h | h | h <;> (rw [h]; first | exact wrap_fits _ | (apply hf; simp)))
    · rw [if_neg h2]
      exact ok12 (by intro z hz; simp only [List.mem_cons, List.not_mem_nil, or_false] at hz; rcases hz with h | h | h | h | h | h | h | h | h | h <;> (rw [h]; first | exact wrap_fits _ | (apply hf; simp)))
  · rw [if_neg h1]
    exact ok12 (by intro z hz; simp only [List.mem_cons, List.not_mem_nil, or_false] at hz; rcases hz with h | h | h | h | h | h | h | h | h | h <;> (rw [h]; first | exact wrap_fits _ | (apply hf; simp)))
theorem model_try (o k a n p q s l : Int) (ak gn : Bool) (b bl : Int) (now : Int) (w : World) : Calls Try.prog 21 #[.agg (tryE now o k a n p q s l ak gn b bl).toArray] w fun e w' => e = .returned (.agg (tryE now o k a n p q s l ak gn b bl).toArray) ∧ Below w.heap.size w w' := by
  unfold tryE
  by_cases h1 : ((!ak || gn) && decide ((if (ak && gn) = true then b else s) < 8)) = true
  · rw [if_pos h1]
    by_cases h2 : (ak && gn) = true
    · rw [if_pos h2]
      exact model_any o k a n p q s l ak gn (wrap64 (b + 1)) now w
    · rw [if_neg h2]
      exact model_any o k a n p q (wrap64 (s + 1)) now ak gn b bl w
  · rw [if_neg h1]
    exact model_any o k a n p q s l ak gn b bl w
set_option maxRecDepth 100000 in
set_option maxHeartbeats 8000000 in
theorem tells20 (o k a n p q s l : Int) (ak gn : Bool) (b bl : Int) (r0 r1 mo ba ca now : Int) (w : World) (hf : ∀ z ∈ [o, k, a, n, p, q, s, l, b, bl, now], fits z = true) : Calls Try.prog 6 #[.agg #[.int .i64 o, .int .i64 k, .int .i64 a, .int .i64 n, .int .i64 p, .int .i64 q, .int .i64 s, .int .i64 l, .bool ak, .bool gn, .int .i64 b, .int .i64 bl], .agg #[.int .i64 r0, .int .i64 r1, .int .i64 mo, .int .i64 ba, .int .i64 ca], .int .i64 now] w fun e w' => e = .returned (.bool true) ∧ Below w.heap.size w w' := by
  have A1 := Blk.new w #[.int .i64 o, .int .i64 k, .int .i64 a, .int .i64 n, .int .i64 p, .int .i64 q, .int .i64 s, .int .i64 l, .bool ak, .bool gn, .int .i64 b, .int .i64 bl] 49
  have hz1 : (w.alloc (.cells #[.int .i64 o, .int .i64 k, .int .i64 a, .int .i64 n, .int .i64 p, .int .i64 q, .int .i64 s, .int .i64 l, .bool ak, .bool gn, .int .i64 b, .int .i64 bl] 49)).heap.size = w.heap.size + 1 := by simp
  have AC : Blk ((w.alloc (.cells #[.int .i64 o, .int .i64 k, .int .i64 a, .int .i64 n, .int .i64 p, .int .i64 q, .int .i64 s, .int .i64 l, .bool ak, .bool gn, .int .i64 b, .int .i64 bl] 49)).alloc (.cells #[.int .i64 r0, .int .i64 r1, .int .i64 mo, .int .i64 ba, .int .i64 ca] 51)) (w.heap.size + 1) [.int .i64 r0, .int .i64 r1, .int .i64 mo, .int .i64 ba, .int .i64 ca] 51 := hz1 ▸ Blk.new (w.alloc (.cells #[.int .i64 o, .int .i64 k, .int .i64 a, .int .i64 n, .int .i64 p, .int .i64 q, .int .i64 s, .int .i64 l, .bool ak, .bool gn, .int .i64 b, .int .i64 bl] 49)) #[.int .i64 r0, .int .i64 r1, .int .i64 mo, .int .i64 ba, .int .i64 ca] 51
  have HA : Hid (Blk ((w.alloc (.cells #[.int .i64 o, .int .i64 k, .int .i64 a, .int .i64 n, .int .i64 p, .int .i64 q, .int .i64 s, .int .i64 l, .bool ak, .bool gn, .int .i64 b, .int .i64 bl] 49)).alloc (.cells #[.int .i64 r0, .int .i64 r1, .int .i64 mo, .int .i64 ba, .int .i64 ca] 51)) w.heap.size (enc12 o k a n p q s l ak gn b bl) 49) := Lib.hid (A1.alloc _)
  have HC := Lib.hid AC
  have HB := Lib.hid ((((Below.refl w.heap.size w).alloc (Nat.le_refl _) (.cells #[.int .i64 o, .int .i64 k, .int .i64 a, .int .i64 n, .int .i64 p, .int .i64 q, .int .i64 s, .int .i64 l, .bool ak, .bool gn, .int .i64 b, .int .i64 bl] 49)).alloc (by rw [hz1]; omega) (.cells #[.int .i64 r0, .int .i64 r1, .int .i64 mo, .int .i64 ba, .int .i64 ca] 51)))
  have HV := enc12_ok o k a n p q s l ak gn b bl
  clear A1 AC hz1
  have EQ := Lib.hid (fun w => show (binOp .eql 52 (.agg (tryE now o k a n p q s l ak gn b bl).toArray) (.agg (tryE now o k a n p q s l ak gn b bl).toArray)).run Try.prog w = .ok (.bool true) w from by rw [er_eq (try_ok o k a n p q s l ak gn b bl now hf) (try_ok o k a n p q s l ak gn b bl now hf), sameB_refl])
  clear hf
  obtain ⟨wd, hwd⟩ : ∃ x, wordE (deadE s l ak gn b bl mo ba ca now) ak gn = .string x := ⟨_, rfl⟩
  have C1 := Lib.hid (fun w => show Calls Try.prog 22 #[.agg (enc12 o k a n p q s l ak gn b bl).toArray] w fun e w' => e = .returned (.bool (mayEnt o k a p q s l ak gn b bl)) ∧ Below w.heap.size w w' from ecent_any o k a n p q s l ak gn b bl w)
  have D1 := Lib.hid (fun w => show Calls Try.prog 23 #[.agg (enc12 o k a n p q s l ak gn b bl).toArray] w fun e w' => e = .returned (.bool (mayEnt o k a p q s l ak gn b bl)) ∧ Below w.heap.size w w' from rment_any o k a n p q s l ak gn b bl w)
  have C2 := Lib.hid (fun w => show Calls Try.prog 24 #[.agg (enc12 o k a n p q s l ak gn b bl).toArray] w fun e w' => e = .returned (.bool (!ak || gn)) ∧ Below w.heap.size w w' from open_any o k a n p q s l ak gn b bl w)
  have D2 := Lib.hid (fun w => show Calls Try.prog 25 #[.agg (enc12 o k a n p q s l ak gn b bl).toArray] w fun e w' => e = .returned (.bool (!ak || gn)) ∧ Below w.heap.size w w' from ropen_any o k a n p q s l ak gn b bl w)
  have C3 := Lib.hid (fun w => show Calls Try.prog 26 #[.agg (enc12 o k a n p q s l ak gn b bl).toArray] w fun e w' => e = .returned (.bool (ak && gn)) ∧ Below w.heap.size w w' from undoes_any o k a n p q s l ak gn b bl w)
  have D3 := Lib.hid (fun w => show Calls Try.prog 27 #[.agg (enc12 o k a n p q s l ak gn b bl).toArray] w fun e w' => e = .returned (.bool (ak && gn)) ∧ Below w.heap.size w w' from rundoes_any o k a n p q s l ak gn b bl w)
  have C4 := Lib.hid (fun w => show Calls Try.prog 28 #[.agg (enc12 o k a n p q s l ak gn b bl).toArray, .agg (ints [r0, r1, mo, ba, ca]).toArray, .int .i64 now] w fun e w' => e = .returned (.bool (readyE s l ak gn b bl mo ba ca now)) ∧ Below w.heap.size w w' from nready_any o k a n p q s l ak gn b bl r0 r1 mo ba ca now w)
  have D4 := Lib.hid (fun w => show Calls Try.prog 29 #[.agg (enc12 o k a n p q s l ak gn b bl).toArray, .agg (ints [r0, r1, mo, ba, ca]).toArray, .int .i64 now] w fun e w' => e = .returned (.bool (readyE s l ak gn b bl mo ba ca now)) ∧ Below w.heap.size w w' from rready_any o k a n p q s l ak gn b bl r0 r1 mo ba ca now w)
  have C5 := Lib.hid (fun w => show Calls Try.prog 30 #[.agg (enc12 o k a n p q s l ak gn b bl).toArray, .agg (ints [r0, r1, mo, ba, ca]).toArray, .int .i64 now] w fun e w' => e = .returned (.bool (deadE s l ak gn b bl mo ba ca now)) ∧ Below w.heap.size w w' from ndead_any o k a n p q s l ak gn b bl r0 r1 mo ba ca now w)
  have D5 := Lib.hid (fun w => show Calls Try.prog 31 #[.agg (enc12 o k a n p q s l ak gn b bl).toArray, .agg (ints [r0, r1, mo, ba, ca]).toArray, .int .i64 now] w fun e w' => e = .returned (.bool (deadE s l ak gn b bl mo ba ca now)) ∧ Below w.heap.size w w' from rdead_any o k a n p q s l ak gn b bl r0 r1 mo ba ca now w)
  have C6 := Lib.hid (fun w => show Calls Try.prog 32 #[.agg (enc12 o k a n p q s l ak gn b bl).toArray, .int .i64 now] w fun e w' => e = .returned (.agg (tryE now o k a n p q s l ak gn b bl).toArray) ∧ Below w.heap.size w w' from ntry_any o k a n p q s l ak gn b bl now w)
  have D6 := Lib.hid (fun w => show Calls Try.prog 33 #[.agg (enc12 o k a n p q s l ak gn b bl).toArray, .int .i64 now] w fun e w' => e = .returned (.agg (tryE now o k a n p q s l ak gn b bl).toArray) ∧ Below w.heap.size w w' from rtry_any o k a n p q s l ak gn b bl now w)
  have M6 := Lib.hid (fun w => show Calls Try.prog 21 #[.agg (tryE now o k a n p q s l ak gn b bl).toArray] w fun e w' => e = .returned (.agg (tryE now o k a n p q s l ak gn b bl).toArray) ∧ Below w.heap.size w w' from model_try o k a n p q s l ak gn b bl now w)
  have C7 := Lib.hid (fun w => show Calls Try.prog 34 #[.agg (enc12 o k a n p q s l ak gn b bl).toArray, .agg (ints [r0, r1, mo, ba, ca]).toArray, .int .i64 now] w fun e w' => e = .returned (.string wd) ∧ Below w.heap.size w w' from by have := nword_any o k a n p q s l ak gn b bl r0 r1 mo ba ca now w; rwa [hwd] at this)
  have D7 := Lib.hid (fun w => show Calls Try.prog 35 #[.agg (enc12 o k a n p q s l ak gn b bl).toArray, .agg (ints [r0, r1, mo, ba, ca]).toArray, .int .i64 now] w fun e w' => e = .returned (.string wd) ∧ Below w.heap.size w w' from by have := rword_any o k a n p q s l ak gn b bl r0 r1 mo ba ca now w; rwa [hwd] at this)
  have MA := Lib.hid (fun w => show Calls Try.prog 21 #[.agg (enc12 o k a n p q s l ak gn b bl).toArray] w fun e w' => e = .returned (.agg (enc12 o k a n p q s l ak gn b bl).toArray) ∧ Below w.heap.size w w' from model_any o k a n p q s l ak gn b bl w)
  have HI5 : Hid ((Try.prog.info? 51).map (·.size) = some (ints [r0, r1, mo, ba, ca]).length) := Lib.hid cf_size
  have HI12 : Hid ((Try.prog.info? 49).map (·.size) = some (enc12 o k a n p q s l ak gn b bl).length) := Lib.hid en_size
  have HR12 : Hid ((Try.prog.info? 52).map (·.size) = some (enc12 o k a n p q s l ak gn b bl).length) := Lib.hid er_size
  have HC' : Hid (Blk ((w.alloc (.cells #[.int .i64 o, .int .i64 k, .int .i64 a, .int .i64 n, .int .i64 p, .int .i64 q, .int .i64 s, .int .i64 l, .bool ak, .bool gn, .int .i64 b, .int .i64 bl] 49)).alloc (.cells #[.int .i64 r0, .int .i64 r1, .int .i64 mo, .int .i64 ba, .int .i64 ca] 51)) (w.heap.size + 1) (ints [r0, r1, mo, ba, ca]) 51) := HC
  clear hwd HC
  generalize tryE now o k a n p q s l ak gn b bl = TX at *
  generalize mayEnt o k a p q s l ak gn b bl = v1 at *
  generalize readyE s l ak gn b bl mo ba ca now = v4 at *
  generalize deadE s l ak gn b bl mo ba ca now = v5 at *
  generalize (!ak || gn) = v2 at *
  generalize (ak && gn) = v3 at *
  go_enter Try.func6, Try.ntmps6
  go_upto_region 1 with fail
  generalize ((w.alloc (.cells #[.int .i64 o, .int .i64 k, .int .i64 a, .int .i64 n, .int .i64 p, .int .i64 q, .int .i64 s, .int .i64 l, .bool ak, .bool gn, .int .i64 b, .int .i64 bl] 49)).alloc (.cells #[.int .i64 r0, .int .i64 r1, .int .i64 mo, .int .i64 ba, .int .i64 ca] 51)) = W at *
  generalize enc12 o k a n p q s l ak gn b bl = X at *
  generalize ints [r0, r1, mo, ba, ca] = CG at *
  go_wp2_with fail
  refine (alive20 _).mono ?_
  rintro e w2 ⟨rfl, hb⟩
  have HB2 := Lib.hid (HB.out.trans (hb.mono HB.out.size))
  have HA2 := Lib.hid (HA.out.keep hb HA.out.lt)
  have HC2 := Lib.hid (HC'.out.keep hb HC'.out.lt)
  clear hb HB HA HC'
  have rx : w2.rangeAt w.heap.size 0 X := HA2.out.range 0 _ (by simp)
  go_wp2_with (first
    | ((with_reducible apply en_load); (· rfl); (· (first | assumption)); (· assumption); (simp only [Act.put, List.setIfInBounds_toArray, List.set_cons_zero, List.set_cons_succ])))
  refine (MA.out _).mono ?_
  rintro e w3 ⟨rfl, hb⟩
  have HB3 := HB2.out.trans (hb.mono HB2.out.size)
  have HA3 := HA2.out.keep hb HA2.out.lt
  have HC3 := HC2.out.keep hb HC2.out.lt
  clear hb HB2 HA2 HC2 rx MA
  have HM4 := Lib.hid (Blk.new w3 X.toArray 52)
  have HA4 := Lib.hid (HA3.alloc (.cells X.toArray 52))
  have HC4 := Lib.hid (HC3.alloc (.cells X.toArray 52))
  have HB4 := Lib.hid (HB3.alloc HB3.size (.cells X.toArray 52))
  rw [List.toList_toArray] at HM4
  clear HA3 HB3 HC3
  go_upto_region 4 with (first
    | ((with_reducible apply er_store_new (x := X)); (· rfl); (· first | rfl | simp); (· rfl); (· rfl); (· exact HV); (simp only [Act.put, List.setIfInBounds_toArray, List.set_cons_zero, List.set_cons_succ])))
  generalize hg3 : w3.heap.size = g3 at *
  generalize w3.alloc (.cells X.toArray 52) = w4 at *
  have hl1 := Lib.hid HC4.out.lt
  have hl2 := Lib.hid HA4.out.lt
  have hl3 := Lib.hid HM4.out.lt
  clear hg3
  refine q_begin (by kernel_rfl) (by kernel_rfl) ?_
  repeat (first
    | go_big_quiet_skip
    | ((with_reducible apply q_row); (· rfl); (· rfl); (· exact Try.underlying49); (· rfl); (· exact HA4.out); (· exact hl2.out); (· exact HI12.out); (simp only [Act.put, List.setIfInBounds_toArray, List.set_cons_zero, List.set_cons_succ]))
    | ((with_reducible apply q_row); (· rfl); (· rfl); (· exact Try.underlying52); (· rfl); (· exact HM4.out); (· exact hl3.out); (· exact HR12.out); (simp only [Act.put, List.setIfInBounds_toArray, List.set_cons_zero, List.set_cons_succ]))
    | ((with_reducible apply q_row); (· rfl); (· rfl); (· exact Try.underlying51); (· rfl); (· exact HC4.out); (· exact hl1.out); (· exact HI5.out); (simp only [Act.put, List.setIfInBounds_toArray, List.set_cons_zero, List.set_cons_succ]))
    | ((with_reducible apply q_call 22 (.bool v1)); (· rfl); (· exact Nat.le_refl _); (· intro w _; exact C1.out w); (· intro w; go_simp); (simp only [Act.put, List.setIfInBounds_toArray, List.set_cons_zero, List.set_cons_succ]))
    | ((with_reducible apply q_call 23 (.bool v1)); (· rfl); (· exact Nat.le_refl _); (· intro w _; exact D1.out w); (· intro w; go_simp); (simp only [Act.put, List.setIfInBounds_toArray, List.set_cons_zero, List.set_cons_succ]))
    | ((with_reducible apply q_call 24 (.bool v2)); (· rfl); (· exact Nat.le_refl _); (· intro w _; exact C2.out w); (· intro w; go_simp); (simp only [Act.put, List.setIfInBounds_toArray, List.set_cons_zero, List.set_cons_succ]))
    | ((with_reducible apply q_call 25 (.bool v2)); (· rfl); (· exact Nat.le_refl _); (· intro w _; exact D2.out w); (· intro w; go_simp); (simp only [Act.put, List.setIfInBounds_toArray, List.set_cons_zero, List.set_cons_succ]))
    | ((with_reducible apply q_call 26 (.bool v3)); (· rfl); (· exact Nat.le_refl _); (· intro w _; exact C3.out w); (· intro w; go_simp); (simp only [Act.put, List.setIfInBounds_toArray, List.set_cons_zero, List.set_cons_succ]))
    | ((with_reducible apply q_call 27 (.bool v3)); (· rfl); (· exact Nat.le_refl _); (· intro w _; exact D3.out w); (· intro w; go_simp); (simp only [Act.put, List.setIfInBounds_toArray, List.set_cons_zero, List.set_cons_succ]))
    | ((with_reducible apply q_call 28 (.bool v4)); (· rfl); (· exact Nat.le_refl _); (· intro w _; exact C4.out w); (· intro w; go_simp); (simp only [Act.put, List.setIfInBounds_toArray, List.set_cons_zero, List.set_cons_succ]))
    | ((with_reducible apply q_call 29 (.bool v4)); (· rfl); (· exact Nat.le_refl _); (· intro w _; exact D4.out w); (· intro w; go_simp); (simp only [Act.put, List.setIfInBounds_toArray, List.set_cons_zero, List.set_cons_succ]))
    | ((with_reducible apply q_call 30 (.bool v5)); (· rfl); (· exact Nat.le_refl _); (· intro w _; exact C5.out w); (· intro w; go_simp); (simp only [Act.put, List.setIfInBounds_toArray, List.set_cons_zero, List.set_cons_succ]))
    | ((with_reducible apply q_call 31 (.bool v5)); (· rfl); (· exact Nat.le_refl _); (· intro w _; exact D5.out w); (· intro w; go_simp); (simp only [Act.put, List.setIfInBounds_toArray, List.set_cons_zero, List.set_cons_succ]))
    | ((with_reducible apply q_call 32 (.agg TX.toArray)); (· rfl); (· exact Nat.le_refl _); (· intro w _; exact C6.out w); (· intro w; go_simp); (simp only [Act.put, List.setIfInBounds_toArray, List.set_cons_zero, List.set_cons_succ]))
    | ((with_reducible apply q_call 33 (.agg TX.toArray)); (· rfl); (· exact Nat.le_refl _); (· intro w _; exact D6.out w); (· intro w; go_simp); (simp only [Act.put, List.setIfInBounds_toArray, List.set_cons_zero, List.set_cons_succ]))
    | ((with_reducible apply q_call 34 (.string wd)); (· rfl); (· exact Nat.le_refl _); (· intro w _; exact C7.out w); (· intro w; go_simp); (simp only [Act.put, List.setIfInBounds_toArray, List.set_cons_zero, List.set_cons_succ]))
    | ((with_reducible apply q_call 35 (.string wd)); (· rfl); (· exact Nat.le_refl _); (· intro w _; exact D7.out w); (· intro w; go_simp); (simp only [Act.put, List.setIfInBounds_toArray, List.set_cons_zero, List.set_cons_succ]))
    | ((with_reducible apply q_call 21 (.agg TX.toArray)); (· rfl); (· exact Nat.le_refl _); (· intro w _; exact M6.out w); (· intro w; go_simp); (simp only [Act.put, List.setIfInBounds_toArray, List.set_cons_zero, List.set_cons_succ]))
    | ((with_reducible apply q_cmp); (· rfl); (· rfl); (· rfl); (· kernel_rfl); (· intro w; exact EQ.out w); (simp only [Act.put, List.setIfInBounds_toArray, List.set_cons_zero, List.set_cons_succ]))
    | (go_big_quiet_want; go_big_quiet_op; (first | go_big_quiet_on | (apply Exists.intro; refine ⟨fun _ _ => rfl, ?_⟩; go_big_quiet_on))))
  refine q_end ?_
  intro w6 hb
  have HB6 := HB4.out.trans (hb.mono HB4.out.size)
  go_wp2_with fail
  go_ret
  exact ⟨rfl, HB6⟩
end Go.Proofs.Ytalbkpahphndiaa
