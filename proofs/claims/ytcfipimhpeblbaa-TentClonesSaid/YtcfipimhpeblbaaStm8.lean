/- The first of two changes, deleted. -/
import Derived.Test.YtcfipimhpeblbaaStm7
import Derived.Lib.SliceRun
import Derived.Laws.IdiomCopy
import Derived.Deep.DeepAppendRoom
import Derived.Deep.DeepCutAuto
import Derived.Maps.AppendAt
import Derived.Test.YtcfipimhpeblbaaRow
import Derived.Test.YtcfipimhpeblbaaOps
import Derived.RegionTactic
import Derived.BigRegion
import Derived.ChangeAlike
namespace Go.Proofs.Ytcfipimhpeblbaa
set_option linter.unusedVariables false
set_option linter.unusedSimpArgs false
open Go.ChangeShapes Go.WideShapes Go.ChangeAt Go.RowKit
theorem run_op_app2 {o : Oper} {s x : Operand} {t : TypeId} {a : Act} {w w' : World} {v1 v2 v : Value} (ho : o.op = .call { callee := .builtin .append, args := #[s, x], argTypes := #[t, t] }) (h1 : a.eval s = v1) (h2 : a.eval x = v2) (hr : (Builtin.append_ #[t, t] o.type #[v1, v2]).run Try.prog w = .ok v w') :
    (execOp a.eval o).run Try.prog w = .ok (.value v) w' := by
  unfold execOp
  simp only [ho, resolve, invoke, builtin, Sem.run_bind, Sem.run_pure, Result.andThen_ok, List.map_toArray, List.map_cons, List.map_nil, h1, h2, hr]
theorem ofGrown {w w' : World} {g : Nat} (h : w.grownBy w' (some g)) : Only (fun k => k = g) w w' := ⟨h.os, h.tape, h.output, h.size, fun k hk hn => h.block k hk (fun e => hn (Option.some.inj e))⟩
theorem run_clear9 {w : World} {g c : Nat} {cs : List Value} {ty : TypeId} (A : Blk w g cs 36) (o : Nat) (ho : o + 9 ≤ cs.length) : (Builtin.clear_ #[24] ty #[.slice (some ⟨g, o, none⟩) 1 c]).run Try.prog w = .ok (.tuple #[]) (w.setCells g o (ints (List.replicate 9 0))) := by
  have hz : (zeroValue 36).run Try.prog w = .ok (.agg #[.int .i64 0, .int .i64 0, .int .i64 0, .int .i64 0, .int .i64 0, .int .i64 0, .int .i64 0, .int .i64 0, .int .i64 0]) w := by go_simp
  have hzc : (Builtin.zeroCells ((.agg #[.int .i64 0, .int .i64 0, .int .i64 0, .int .i64 0, .int .i64 0, .int .i64 0, .int .i64 0, .int .i64 0, .int .i64 0]) : Value).cells 1).toList = ints (List.replicate 9 0) := by kernel_rfl
  have hst := run_storeCells_cells (P := Try.prog) g o (ints (List.replicate 9 0)) 0 w (fun j hj => by
    rw [A.cell, Nat.add_zero, List.getElem?_eq_getElem (by rw [ints_len, List.length_replicate] at hj; omega)]; rfl) (fun j hj => A.froz _) (fun u hu => ints_one hu)
  simp only [Nat.add_zero] at hst
  simp only [Builtin.clear_, run_underlying Try.underlying24, Sem.run_bind, Sem.run_pure, Result.andThen_ok, hz, hzc, hst, List.getElem?_toArray, List.getElem?_cons_zero]
theorem lt_run {ops : Array Oper} {rest : List Oper} {a : Act} {w w' : World} {Q : Exit → Act → World → Prop} {o : Oper} {v : Value} (hg : o.guard = none) (hr : (execOp a.eval o).run Try.prog w = .ok (.value v) w') (h : wpList Try.prog ops Q rest (a.put o.dst v) w') : wpList Try.prog ops Q (o :: rest) a w :=
  wpList_plain hg fun K hK => by
    unfold Oper.wp
    rw [hr]
    exact hK _ _ h
theorem run_op_clr {o : Oper} {s : Operand} {t : TypeId} {a : Act} {w w' : World} {v1 v : Value} (ho : o.op = .call { callee := .builtin .clear, args := #[s], argTypes := #[t] }) (h1 : a.eval s = v1) (hr : (Builtin.clear_ #[t] o.type #[v1]).run Try.prog w = .ok v w') :
    (execOp a.eval o).run Try.prog w = .ok (.value v) w' := by
  unfold execOp
  simp only [ho, resolve, invoke, builtin, Sem.run_bind, Sem.run_pure, Result.andThen_ok, List.map_toArray, List.map_cons, List.map_nil, h1, hr]
theorem del2 (Y X S : List Value) (g c : Nat) (w : World) (A : Hid (Blk w g (Y ++ (X ++ S)) 36)) (lx : X.length = 9) (ly : Y.length = 9) (hX : Hid (∀ u ∈ X, u.oneCell' = true)) (hc : 2 ≤ c) (hcm : c ≤ maxLen) (hS : Hid (18 + S.length = c * 9)) :
    Calls Try.prog 35 #[.slice (some ⟨g, 0, none⟩) 2 c, .int .i64 0, .int .i64 1] w fun e w' => e = .returned (.slice (some ⟨g, 0, none⟩) 1 c) ∧ Only (fun k => k = g) w w' := by
  have A1 := A
  obtain ⟨i0, hi, hz0, hz1, hz2⟩ := info_partsP chg_infoP
  have APP : Hid (∀ wD : World, Blk wD g (Y ++ (X ++ S)) 36 → ∃ w3, (Builtin.append_ #[24, 24] 24 #[.slice (some ⟨g, 0, none⟩) 0 c, .slice (some ⟨g, 9, none⟩) 1 (c - 1)]).run Try.prog wD = .ok (.slice (some ⟨g, 0, none⟩) (0 + 1) c) w3 ∧ w3.ownsRow 0 36 9 (.slice (some ⟨g, 0, none⟩) (0 + 1) c) (0 + 1) ([] ++ X) ∧ wD.grownBy w3 (some g)) := Lib.hid (fun wD hA => by
    have hl : (Y ++ (X ++ S)).length = c * 9 := by simp only [List.length_append, lx, ly]; have := hS.out; omega
    have hown : wD.ownsRow 0 36 9 (.slice (some ⟨g, 0, none⟩) 0 c) 0 [] := ⟨rfl, Or.inr ⟨g, c, (Y ++ (X ++ S)).toArray, rfl, Nat.zero_le _, hA, Nat.zero_le _, hcm, by rw [List.size_toArray, hl], by simp⟩⟩
    refine run_append_own_spare wD 0 24 24 36 i0 9 Try.underlying24 hi hz1 g 0 c [] hown ⟨g, 9, none⟩ 1 (c - 1) X (by rw [lx]) (fun j u hu => ?_) hX.out (by omega)
    rw [add_plain, hA.cell, List.getElem?_append_right (by omega), ly, Nat.add_sub_cancel_left, List.getElem?_append_left (List.getElem?_eq_some_iff.1 hu).1]
    exact hu)
  clear A
  go_enter Try.func35, Try.ntmps35
  go_upto_region 5 with fail
  refine held_begin (fun w' => Only (fun k => k = g) w w') 8 [false, false, false, false, false, false, false, false] (by kernel_rfl) rfl (by rfl) ?_
  have hHeld : Only (fun k => k = g) w w.drew := (Only.refl _ _).drew
  have AD := Lib.hid A1.out.drew
  refine held_take (v := ?_) 0 20 [true, false, false, false, false, false, false, false] rfl (by rfl) (by rfl) (by kernel_rfl) (by kernel_rfl) (by kernel_rfl) (by rfl) (fun _ _ _ h => h) ?_ hHeld ?_
  rotate_left
  · intro w hSw; go_simp <;> with_reducible rfl
  simp only [Act.put, List.setIfInBounds_toArray, List.set_cons_zero, List.set_cons_succ]
  refine held_take (v := ?_) 1 21 [true, true, false, false, false, false, false, false] rfl (by rfl) (by rfl) (by kernel_rfl) (by kernel_rfl) (by kernel_rfl) (by rfl) (fun _ _ _ h => h) ?_ hHeld ?_
  rotate_left
  · intro w hSw; go_simp <;> with_reducible rfl
  simp only [Act.put, List.setIfInBounds_toArray, List.set_cons_zero, List.set_cons_succ]
  refine held_take (v := .slice (some ⟨g, 0, none⟩) 0 c) 2 22 [true, true, true, false, false, false, false, false] rfl (by rfl) (by rfl) (by kernel_rfl) (by kernel_rfl) (by kernel_rfl) (by rfl) (fun _ _ _ h => h) (fun w' h => by go_simp <;> rfl) hHeld ?_
  simp only [Act.put, List.setIfInBounds_toArray, List.set_cons_zero, List.set_cons_succ]
  refine held_take (v := ?_) 3 23 [true, true, true, true, false, false, false, false] rfl (by rfl) (by rfl) (by kernel_rfl) (by kernel_rfl) (by kernel_rfl) (by rfl) (fun _ _ _ h => h) ?_ hHeld ?_
  rotate_left
  · intro w hSw; go_simp <;> with_reducible rfl
  simp only [Act.put, List.setIfInBounds_toArray, List.set_cons_zero, List.set_cons_succ]
  refine held_take (v := ?_) 4 24 [true, true, true, true, true, false, false, false] rfl (by rfl) (by rfl) (by kernel_rfl) (by kernel_rfl) (by kernel_rfl) (by rfl) (fun _ _ _ h => h) ?_ hHeld ?_
  rotate_left
  · intro w hSw; go_simp <;> with_reducible rfl
  simp only [Act.put, List.setIfInBounds_toArray, List.set_cons_zero, List.set_cons_succ]
  refine held_take (v := .slice (some ⟨g, 9, none⟩) 1 (c - 1)) 5 25 [true, true, true, true, true, true, false, false] rfl (by rfl) (by rfl) (by kernel_rfl) (by kernel_rfl) (by kernel_rfl) (by rfl) (fun _ _ _ h => h) (fun w' h => by go_simp; omega) hHeld ?_
  simp only [Act.put, List.setIfInBounds_toArray, List.set_cons_zero, List.set_cons_succ]
  generalize w.drew = wD at *
  obtain ⟨w3, hr, hown3, hgr⟩ := APP.out wD AD.out
  refine held_one 6 (by kernel_rfl) ?_
  refine op_value (v := .slice (some ⟨g, 0, none⟩) 1 c) 26 [true, true, true, true, true, true, true, false] rfl (by rfl) (by rfl) (by rfl) (run_op_app2 rfl rfl rfl hr) (hHeld.trans (ofGrown hgr)) fun hHeld => ?_
  simp only [Act.put, List.setIfInBounds_toArray, List.set_cons_zero, List.set_cons_succ]
  refine held_take (v := ?_) 7 0 [true, true, true, true, true, true, true, true] rfl (by rfl) (by rfl) (by kernel_rfl) (by kernel_rfl) (by kernel_rfl) (by rfl) (fun _ _ _ h => h) ?_ hHeld ?_
  rotate_left
  · intro w hSw; go_simp <;> with_reducible rfl
  simp only [Act.put, List.setIfInBounds_toArray, List.set_cons_zero, List.set_cons_succ]
  refine held_done (by kernel_rfl) ?_
  obtain ⟨a9, c9, he, h2, h3, h4, h5⟩ := own_blkS hown3
  cases he
  rcases h5 with ⟨h5, _⟩ | ⟨g9, T, he, _, hB9, hlT⟩
  · cases h5
  cases he
  have HB9 := Lib.hid hB9
  have HT : Hid (9 + 9 ≤ ([] ++ X ++ T).length) := Lib.hid (by rw [hlT]; omega)
  have HO := Lib.hid hHeld
  clear hHeld hB9 hlT h2 h3 h4 hown3 hgr hr APP AD
  have clr := run_clear9 (ty := 0) (c := c - 1) HB9.out 9 HT.out
  go_wp2_with fail
  go_ret
  exact ⟨rfl, HO.out.setCells rfl _ _⟩
end Go.Proofs.Ytcfipimhpeblbaa
