/- Two changes, sorted. -/
import Derived.Test.YtbdonjapcpfgiaaStm4
import Derived.Test.YtbdonjapcpfgiaaQt
import Derived.Test.YtbdonjapcpfgiaaHeld
import Derived.Test.YtbdonjapcpfgiaaOnly
import Derived.Test.YtbdonjapcpfgiaaBlk
import Derived.Deep.DeepCutAuto
import Derived.Maps.AppendAt
import Derived.Test.YtbdonjapcpfgiaaRow
import Derived.Test.YtbdonjapcpfgiaaOps
import Derived.RegionTactic
import Derived.BigRegion
import Derived.ChangeAlike
namespace Go.Proofs.Ytbdonjapcpfgiaa
set_option linter.unusedVariables false
set_option linter.unusedSimpArgs false
open Go.ChangeShapes Go.WideShapes Go.ChangeAt Go.RowKit
theorem q_callv {P : Program} {ops : Array Oper} {rest : List Oper} {a : Act} {Q : Act → Prop} {B : Nat} {w0 : World} (f : FuncId) (v : Value) {d t : Nat} {opnds : Array Operand} {ats : Array TypeId} {ty : TypeId} {ps : String} {af : Array Edge} {gd : Option (Nat × Bool)} {args : Array Value}
    (hw : Region.wanted ⟨some d, .call ⟨.value (.tmp t), opnds, ats⟩, ty, ps, af, gd⟩ (yielded ops a.tmps) = true)
    (hB : B ≤ w0.heap.size) (hc : ∀ w, Below B w0 w → Calls P f args w fun e w' => e = .returned v ∧ Below w.heap.size w w')
    (hx : ∀ w, (execOp a.eval ⟨some d, .call ⟨.value (.tmp t), opnds, ats⟩, ty, ps, af, gd⟩).run P w = .ok (.enter f args) w)
    (h : wpQuiet P ops (Below B w0) Q rest (a.put (some d) v)) : wpQuiet P ops (Below B w0) Q (⟨some d, .call ⟨.value (.tmp t), opnds, ats⟩, ty, ps, af, gd⟩ :: rest) a :=
  wpQuiet_step fun K hK => by
    rw [if_pos hw]
    refine ⟨v, fun w hw' => ?_, hK _ h⟩
    unfold Oper.quietAt
    rw [hx w]
    exact ⟨rfl, (hc w hw').mono fun e w' ⟨h1, h2⟩ => ⟨h1, hw'.trans (h2.mono (Nat.le_trans hB hw'.size))⟩⟩
theorem st_part_runT {o : Oper} {T : TypeId} {x y : Operand} {a : Act} {w : World} {g off U : Nat} {old cs : List Value} (ho : o.op = .store T x y) (hx : a.eval x = .pointer (some ⟨g, off, none⟩)) (hy : a.eval y = .agg cs.toArray) (hb : Blk w g old U) (hl : off + cs.length ≤ old.length) (hi : (Try.prog.info? T).map (·.size) = some cs.length) (h1 : ∀ u ∈ cs, u.oneCell' = true) :
    (execOp a.eval o).run Try.prog w = .ok .skip (w.setCells g off cs) := by
  have := run_storeAt_mid (P := Try.prog) w g off T cs.toArray (hb.there off _ (by rw [List.size_toArray]; exact hl)) (by rw [hi, List.size_toArray]) (all_oneCell_toArray h1)
  rw [List.toList_toArray] at this
  unfold execOp
  simp only [ho, hx, hy, Sem.run_bind, this, Result.andThen_ok, Sem.run_pure]
set_option maxHeartbeats 4000000 in
theorem isort2 (X Y S : List Value) (g c : Nat) (k : Int) (w : World) (A : Hid (Blk w g (X ++ (Y ++ S)) 25)) (lx : X.length = 9) (ly : Y.length = 9) (hX : Hid (∀ u ∈ X, u.oneCell' = true)) (hY : Hid (∀ u ∈ Y, u.oneCell' = true))
    (C : Hid (∀ w', Calls Try.prog 20 #[.agg Y.toArray, .agg X.toArray] w' fun e w2 => e = .returned (.int .i64 k) ∧ Below w'.heap.size w' w2)) (hk : k < 0) :
    Calls Try.prog 34 #[.slice (some ⟨g, 0, none⟩) 2 c, .int .i64 0, .int .i64 2, .func (.func 20) #[] #[]] w fun e w' => e = .returned (.tuple #[]) ∧ Blk w' g (Y ++ (X ++ S)) 25 ∧ Only (fun k => k = g) w w' := by
  have SZX : Hid ((Try.prog.info? 25).map (·.size) = some X.length) := Lib.hid (by rw [lx]; exact rowChg.2)
  have SZY : Hid ((Try.prog.info? 25).map (·.size) = some Y.length) := Lib.hid (by rw [ly]; exact rowChg.2)
  have EX : Hid (((X ++ (Y ++ S)).drop 0).take X.length = X) := Lib.hid (by simp)
  have EY : Hid (((X ++ (Y ++ S)).drop 9).take Y.length = Y) := Lib.hid (by rw [← lx]; simp)
  have EA : Hid ((X ++ (Y ++ S)).take 9 ++ X ++ (X ++ (Y ++ S)).drop (9 + X.length) = X ++ (X ++ S)) := Lib.hid (by
    rw [List.take_left' lx, ← List.append_assoc X Y S, List.drop_left' (by rw [List.length_append, lx, ly]), List.append_assoc])
  have EB : Hid ((X ++ (X ++ S)).take 0 ++ Y ++ (X ++ (X ++ S)).drop (0 + Y.length) = Y ++ (X ++ S)) := Lib.hid (by
    rw [List.take_zero, List.nil_append, List.drop_left' (by omega)])
  have EL : Hid ((X ++ (Y ++ S)).length = 18 + S.length) := Lib.hid (by simp only [List.length_append, lx, ly]; omega)
  have EM : Hid ((X ++ (X ++ S)).length = 18 + S.length) := Lib.hid (by simp only [List.length_append, lx]; omega)
  have LX := Lib.hid lx
  have LY := Lib.hid ly
  clear lx ly
  go_enter Try.func34, Try.ntmps34
  go_upto_region 1 with fail
  go_loopg [8] 1 (fun q s8 wr => ∃ j : Nat, q + j = 2 ∧ 1 ≤ j ∧ s8 = .int .i64 j ∧ Hid (Only (fun k => k = g) w wr) ∧ Hid (j = 1 → Blk wr g (X ++ (Y ++ S)) 25) ∧ Hid (j = 2 → Blk wr g (Y ++ (X ++ S)) 25))
  case atStart => exact ⟨1, rfl, by decide, rfl, Lib.hid (Only.refl _ _), Lib.hid (fun _ => A.out), Lib.hid (fun h => absurd h (by decide))⟩
  case round =>
    obtain ⟨j, hqj, hj1, rfl, HO, H1, H2⟩ := hrel
    by_cases hj : j = 1
    · subst hj
      obtain rfl : gk = 1 := by omega
      have A1 := Lib.hid (H1.out rfl)
      clear H1 H2 A
      go_upto_region 4 with fail
      go_loopg [9] 1 (fun q s9 wi => ∃ i : Nat, q = i ∧ i ≤ 1 ∧ s9 = .int .i64 i ∧ Hid (Only (fun k => k = g) w wi) ∧ Hid (i = 1 → Blk wi g (X ++ (Y ++ S)) 25) ∧ Hid (i = 0 → Blk wi g (Y ++ (X ++ S)) 25))
      case atStart => exact ⟨1, rfl, by decide, rfl, HO, Lib.hid (fun _ => A1.out), Lib.hid (fun h => absurd h (by decide))⟩
      case round =>
        obtain ⟨i, hqi, hi1, rfl, HO2, H1, H2⟩ := hrel
        by_cases hi : i = 1
        · subst hi
          have A2 := Lib.hid (H1.out rfl)
          clear H1 H2 A1 HO
          go_upto_region 4 with fail
          refine q_begin (by kernel_rfl) (by kernel_rfl) ?_
          repeat (first
            | go_big_quiet_skip
            | ((with_reducible apply q_part (xs := Y) (off := 9)); (· rfl); (· rfl); (· exact Try.underlying25); (· rfl); (· exact A2.out); (· exact A2.out.lt); (· exact EY.out); (· exact SZY.out); (simp only [Act.put, List.setIfInBounds_toArray, List.set_cons_zero, List.set_cons_succ]))
            | ((with_reducible apply q_part (xs := X) (off := 0)); (· rfl); (· rfl); (· exact Try.underlying25); (· rfl); (· exact A2.out); (· exact A2.out.lt); (· exact EX.out); (· exact SZX.out); (simp only [Act.put, List.setIfInBounds_toArray, List.set_cons_zero, List.set_cons_succ]))
            | ((with_reducible apply q_callv 20 (.int .i64 k)); (· rfl); (· exact Nat.le_refl _); (· intro w _; exact C.out w); (· intro w; go_simp); (simp only [Act.put, List.setIfInBounds_toArray, List.set_cons_zero, List.set_cons_succ]))
            | (go_big_quiet_want; go_big_quiet_op; (first | go_big_quiet_on | (apply Exists.intro; refine ⟨fun _ _ => rfl, ?_⟩; go_big_quiet_on))))
          refine q_end ?_
          intro w2 hb
          have A3 := Lib.hid (A2.out.keep hb A2.out.lt)
          have HO3 := Lib.hid (HO2.out.trans (Only.ofBelow' hb))
          clear hb A2 HO2
          have hk0 := hk
          go_upto_region 6 with fail
          refine held_begin (fun w' => Only (fun k => k = g) w2 w') 18 [false, false, false, false, false, false, false, false, false, false, false, false, false, false, false, false, false, false] (by kernel_rfl) rfl (by rfl) ?_
          have hHeld : Only (fun k => k = g) w2 w2.drew := (Only.refl _ _).drew
          have AD := Lib.hid A3.out.drew
          refine held_take (v := ?_) 0 37 [true, false, false, false, false, false, false, false, false, false, false, false, false, false, false, false, false, false] rfl (by rfl) (by rfl) (by kernel_rfl) (by kernel_rfl) (by kernel_rfl) (by rfl) (fun _ _ _ h => h) ?_ hHeld ?_
          rotate_left
          · intro w hSw; go_simp <;> with_reducible rfl
          simp only [Act.put, List.setIfInBounds_toArray, List.set_cons_zero, List.set_cons_succ]
          refine held_take (v := ?_) 1 38 [true, true, false, false, false, false, false, false, false, false, false, false, false, false, false, false, false, false] rfl (by rfl) (by rfl) (by kernel_rfl) (by kernel_rfl) (by kernel_rfl) (by rfl) (fun _ _ _ h => h) ?_ hHeld ?_
          rotate_left
          · intro w hSw; go_simp <;> with_reducible rfl
          simp only [Act.put, List.setIfInBounds_toArray, List.set_cons_zero, List.set_cons_succ]
          refine held_take (v := ?_) 2 39 [true, true, true, false, false, false, false, false, false, false, false, false, false, false, false, false, false, false] rfl (by rfl) (by rfl) (by kernel_rfl) (by kernel_rfl) (by kernel_rfl) (by rfl) (fun _ _ _ h => h) ?_ hHeld ?_
          rotate_left
          · intro w hSw; go_simp <;> with_reducible rfl
          simp only [Act.put, List.setIfInBounds_toArray, List.set_cons_zero, List.set_cons_succ]
          refine held_take (v := ?_) 3 40 [true, true, true, true, false, false, false, false, false, false, false, false, false, false, false, false, false, false] rfl (by rfl) (by rfl) (by kernel_rfl) (by kernel_rfl) (by kernel_rfl) (by rfl) (fun _ _ _ h => h) ?_ hHeld ?_
          rotate_left
          · intro w hSw; go_simp <;> with_reducible rfl
          simp only [Act.put, List.setIfInBounds_toArray, List.set_cons_zero, List.set_cons_succ]
          refine held_take (v := ?_) 4 41 [true, true, true, true, true, false, false, false, false, false, false, false, false, false, false, false, false, false] rfl (by rfl) (by rfl) (by kernel_rfl) (by kernel_rfl) (by kernel_rfl) (by rfl) (fun _ _ _ h => h) ?_ hHeld ?_
          rotate_left
          · intro w hSw; go_simp <;> with_reducible rfl
          simp only [Act.put, List.setIfInBounds_toArray, List.set_cons_zero, List.set_cons_succ]
          refine held_take (v := ?_) 5 42 [true, true, true, true, true, true, false, false, false, false, false, false, false, false, false, false, false, false] rfl (by rfl) (by rfl) (by kernel_rfl) (by kernel_rfl) (by kernel_rfl) (by rfl) (fun _ _ _ h => h) ?_ hHeld ?_
          rotate_left
          · intro w hSw; go_simp <;> with_reducible rfl
          simp only [Act.put, List.setIfInBounds_toArray, List.set_cons_zero, List.set_cons_succ]
          refine held_take (v := ?_) 6 43 [true, true, true, true, true, true, true, false, false, false, false, false, false, false, false, false, false, false] rfl (by rfl) (by rfl) (by kernel_rfl) (by kernel_rfl) (by kernel_rfl) (by rfl) (fun _ _ _ h => h) ?_ hHeld ?_
          rotate_left
          · intro w hSw; go_simp <;> with_reducible rfl
          simp only [Act.put, List.setIfInBounds_toArray, List.set_cons_zero, List.set_cons_succ]
          refine held_take (v := ?_) 7 44 [true, true, true, true, true, true, true, true, false, false, false, false, false, false, false, false, false, false] rfl (by rfl) (by rfl) (by kernel_rfl) (by kernel_rfl) (by kernel_rfl) (by rfl) (fun _ _ _ h => h) ?_ hHeld ?_
          rotate_left
          · intro w hSw; go_simp <;> with_reducible rfl
          simp only [Act.put, List.setIfInBounds_toArray, List.set_cons_zero, List.set_cons_succ]
          refine held_take (v := .pointer (some ⟨g, 0, none⟩)) 8 45 [true, true, true, true, true, true, true, true, true, false, false, false, false, false, false, false, false, false] rfl (by rfl) (by rfl) (by kernel_rfl) (by kernel_rfl) (by kernel_rfl) (by rfl) (fun _ _ _ h => h) (fun w' h => by go_simp; rfl) hHeld ?_
          simp only [Act.put, List.setIfInBounds_toArray, List.set_cons_zero, List.set_cons_succ]
          refine held_take (v := ?_) 10 47 [true, true, true, true, true, true, true, true, true, false, true, false, false, false, false, false, false, false] rfl (by rfl) (by rfl) (by kernel_rfl) (by kernel_rfl) (by kernel_rfl) (by rfl) (fun _ _ _ h => h) ?_ hHeld ?_
          rotate_left
          · intro w hSw; go_simp <;> with_reducible rfl
          simp only [Act.put, List.setIfInBounds_toArray, List.set_cons_zero, List.set_cons_succ]
          refine held_take (v := ?_) 11 48 [true, true, true, true, true, true, true, true, true, false, true, true, false, false, false, false, false, false] rfl (by rfl) (by rfl) (by kernel_rfl) (by kernel_rfl) (by kernel_rfl) (by rfl) (fun _ _ _ h => h) ?_ hHeld ?_
          rotate_left
          · intro w hSw; go_simp <;> with_reducible rfl
          simp only [Act.put, List.setIfInBounds_toArray, List.set_cons_zero, List.set_cons_succ]
          refine held_take (v := .pointer (some ⟨g, 9, none⟩)) 12 49 [true, true, true, true, true, true, true, true, true, false, true, true, true, false, false, false, false, false] rfl (by rfl) (by rfl) (by kernel_rfl) (by kernel_rfl) (by kernel_rfl) (by rfl) (fun _ _ _ h => h) (fun w' h => by first | (go_simp; done) | (go_simp; rfl)) hHeld ?_
          simp only [Act.put, List.setIfInBounds_toArray, List.set_cons_zero, List.set_cons_succ]
          generalize w2.drew = wD at *
          refine held_two 9 13 (by kernel_rfl) ?_ ?_
          · refine op_value (v := .agg X.toArray) 46 [true, true, true, true, true, true, true, true, true, true, true, true, true, false, false, false, false, false] rfl (by rfl) (by rfl) (by rfl) (run_op_load rfl rfl (AD.out.range 0 X EX.out) Try.underlying25 rfl SZX.out) (hHeld) fun hHeld => ?_
            simp only [Act.put, List.setIfInBounds_toArray, List.set_cons_zero, List.set_cons_succ]
            refine held_one 13 (by kernel_rfl) ?_
            refine op_value (v := .agg Y.toArray) 50 [true, true, true, true, true, true, true, true, true, true, true, true, true, true, false, false, false, false] rfl (by rfl) (by rfl) (by rfl) (run_op_load rfl rfl (AD.out.range 9 Y EY.out) Try.underlying25 rfl SZY.out) (hHeld) fun hHeld => ?_
            simp only [Act.put, List.setIfInBounds_toArray, List.set_cons_zero, List.set_cons_succ]
            refine held_take (v := .pointer (some ⟨g, 9, none⟩)) 14 51 [true, true, true, true, true, true, true, true, true, true, true, true, true, true, true, false, false, false] rfl (by rfl) (by rfl) (by kernel_rfl) (by kernel_rfl) (by kernel_rfl) (by rfl) (fun _ _ _ h => h) (fun w' h => by first | (go_simp; done) | (go_simp; rfl)) hHeld ?_
            simp only [Act.put, List.setIfInBounds_toArray, List.set_cons_zero, List.set_cons_succ]
            refine held_one 15 (by kernel_rfl) ?_
            refine op_skip [true, true, true, true, true, true, true, true, true, true, true, true, true, true, true, true, false, false] rfl (by rfl) (by rfl) (by rfl) (st_part_runT (cs := X) rfl rfl rfl AD.out (by rw [EL.out, LX.out]; omega) SZX.out hX.out) (hHeld.setCells rfl _ _) fun hHeld => ?_
            have AE : Hid (Blk (wD.setCells g 9 X) g (X ++ (X ++ S)) 25) := Lib.hid (EA.out ▸ Blk.setAt X 9 _ _ AD.out (by rw [EL.out, LX.out]; omega))
            generalize wD.setCells g 9 X = wE at *
            refine held_take (v := .pointer (some ⟨g, 0, none⟩)) 16 52 [true, true, true, true, true, true, true, true, true, true, true, true, true, true, true, true, true, false] rfl (by rfl) (by rfl) (by kernel_rfl) (by kernel_rfl) (by kernel_rfl) (by rfl) (fun _ _ _ h => h) (fun w' h => by go_simp; rfl) hHeld ?_
            simp only [Act.put, List.setIfInBounds_toArray, List.set_cons_zero, List.set_cons_succ]
            refine held_one 17 (by kernel_rfl) ?_
            refine op_skip [true, true, true, true, true, true, true, true, true, true, true, true, true, true, true, true, true, true] rfl (by rfl) (by rfl) (by rfl) (st_part_runT (cs := Y) rfl rfl rfl AE.out (by rw [EM.out, LY.out]; omega) SZY.out hY.out) (hHeld.setCells rfl _ _) fun hHeld => ?_
            have AF : Hid (Blk (wE.setCells g 0 Y) g (Y ++ (X ++ S)) 25) := Lib.hid (EB.out ▸ Blk.setAt Y 0 _ _ AE.out (by rw [EM.out, LY.out]; omega))
            generalize wE.setCells g 0 Y = wF at *
            refine held_done (by kernel_rfl) ?_
            have HO4 := Lib.hid (HO3.out.trans hHeld)
            clear hHeld AE AD HO3 A3
            go_wp2_with fail
            go_roundg (gk - 1)
            case measure => omega
            case rel => exact ⟨0, by omega, by decide, by go_num, HO4, Lib.hid (fun h => absurd h (by decide)), Lib.hid (fun _ => AF.out)⟩
          · refine op_value (v := .agg Y.toArray) 50 [true, true, true, true, true, true, true, true, true, false, true, true, true, true, false, false, false, false] rfl (by rfl) (by rfl) (by rfl) (run_op_load rfl rfl (AD.out.range 9 Y EY.out) Try.underlying25 rfl SZY.out) (hHeld) fun hHeld => ?_
            simp only [Act.put, List.setIfInBounds_toArray, List.set_cons_zero, List.set_cons_succ]
            refine held_one 9 (by kernel_rfl) ?_
            refine op_value (v := .agg X.toArray) 46 [true, true, true, true, true, true, true, true, true, true, true, true, true, true, false, false, false, false] rfl (by rfl) (by rfl) (by rfl) (run_op_load rfl rfl (AD.out.range 0 X EX.out) Try.underlying25 rfl SZX.out) (hHeld) fun hHeld => ?_
            simp only [Act.put, List.setIfInBounds_toArray, List.set_cons_zero, List.set_cons_succ]
            refine held_take (v := .pointer (some ⟨g, 9, none⟩)) 14 51 [true, true, true, true, true, true, true, true, true, true, true, true, true, true, true, false, false, false] rfl (by rfl) (by rfl) (by kernel_rfl) (by kernel_rfl) (by kernel_rfl) (by rfl) (fun _ _ _ h => h) (fun w' h => by first | (go_simp; done) | (go_simp; rfl)) hHeld ?_
            simp only [Act.put, List.setIfInBounds_toArray, List.set_cons_zero, List.set_cons_succ]
            refine held_one 15 (by kernel_rfl) ?_
            refine op_skip [true, true, true, true, true, true, true, true, true, true, true, true, true, true, true, true, false, false] rfl (by rfl) (by rfl) (by rfl) (st_part_runT (cs := X) rfl rfl rfl AD.out (by rw [EL.out, LX.out]; omega) SZX.out hX.out) (hHeld.setCells rfl _ _) fun hHeld => ?_
            have AE : Hid (Blk (wD.setCells g 9 X) g (X ++ (X ++ S)) 25) := Lib.hid (EA.out ▸ Blk.setAt X 9 _ _ AD.out (by rw [EL.out, LX.out]; omega))
            generalize wD.setCells g 9 X = wE at *
            refine held_take (v := .pointer (some ⟨g, 0, none⟩)) 16 52 [true, true, true, true, true, true, true, true, true, true, true, true, true, true, true, true, true, false] rfl (by rfl) (by rfl) (by kernel_rfl) (by kernel_rfl) (by kernel_rfl) (by rfl) (fun _ _ _ h => h) (fun w' h => by go_simp; rfl) hHeld ?_
            simp only [Act.put, List.setIfInBounds_toArray, List.set_cons_zero, List.set_cons_succ]
            refine held_one 17 (by kernel_rfl) ?_
            refine op_skip [true, true, true, true, true, true, true, true, true, true, true, true, true, true, true, true, true, true] rfl (by rfl) (by rfl) (by rfl) (st_part_runT (cs := Y) rfl rfl rfl AE.out (by rw [EM.out, LY.out]; omega) SZY.out hY.out) (hHeld.setCells rfl _ _) fun hHeld => ?_
            have AF : Hid (Blk (wE.setCells g 0 Y) g (Y ++ (X ++ S)) 25) := Lib.hid (EB.out ▸ Blk.setAt Y 0 _ _ AE.out (by rw [EM.out, LY.out]; omega))
            generalize wE.setCells g 0 Y = wF at *
            refine held_done (by kernel_rfl) ?_
            have HO4 := Lib.hid (HO3.out.trans hHeld)
            clear hHeld AE AD HO3 A3
            go_wp2_with fail
            go_roundg (gk - 1)
            case measure => omega
            case rel => exact ⟨0, by omega, by decide, by go_num, HO4, Lib.hid (fun h => absurd h (by decide)), Lib.hid (fun _ => AF.out)⟩
        · have hi0 : i = 0 := by omega
          subst hi0
          have A2 := Lib.hid (H2.out rfl)
          clear H1 H2 A1 HO
          go_upto_region 4 with fail
          refine q_begin (by kernel_rfl) (by kernel_rfl) ?_
          repeat (first
            | go_big_quiet_skip
            | (go_big_quiet_want; go_big_quiet_op; (first | go_big_quiet_on | (apply Exists.intro; refine ⟨fun _ _ => rfl, ?_⟩; go_big_quiet_on))))
          refine q_end ?_
          intro w2 hb
          have A3 := Lib.hid (A2.out.keep hb A2.out.lt)
          have HO3 := Lib.hid (HO2.out.trans (Only.ofBelow' hb))
          clear hb A2 HO2
          go_wp2_with fail
          go_roundg 0
          case measure => omega
          case rel => exact ⟨2, by omega, by decide, by go_num, HO3, Lib.hid (fun h => absurd h (by decide)), Lib.hid (fun _ => A3.out)⟩
    · have hj2 : j = 2 := by omega
      subst hj2
      have A2 := Lib.hid (H2.out rfl)
      clear H1 H2
      go_wp2_with fail
      go_end0
      exact ⟨rfl, A2.out, HO.out⟩
end Go.Proofs.Ytbdonjapcpfgiaa
