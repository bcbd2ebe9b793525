/- A region that draws its order, step by step: what only reads is taken first, in every world of the class; the calls come one by one. What has come up is a written list, and so is the frame. -/
import Derived.Test.YtcfipimhpeblbaaOps
import Derived.Deep.RegionHeld
import Derived.Deep.WholeRow
namespace Go.Proofs.Ytcfipimhpeblbaa
set_option linter.unusedVariables false
open Go.ChangeShapes Go.WideShapes Go.ChangeAt Go.RowKit
section
variable {P : Program} {ops : Array Oper} {Q : Exit → Act → World → Prop} {md : Region.Mode} {S : World → Prop}
theorem held_begin (S : World → Prop) (n : Nat) (l : List Bool) {id : Nat} {a : Act} {w : World} (hm : P.follows .mixedOrders = true) (hn : ops.size = n) (hl : List.replicate n false = l)
    (h : wpAnyH P .any ops Q S n l.toArray a w.drew) : (Code.region id ops true).wp P Q a w := by
  refine wp_region_held (S := S) hm ?_
  rw [hn, show Array.replicate n false = l.toArray by rw [← hl, List.toArray_replicate]]
  exact h
theorem held_take (i d : Nat) (l' : List Bool) {l : List Bool} {oi : Oper} {v : Value} {fuel : Nat} {a : Act} {w : World} (hi : ops[i]? = some oi) (hd : oi.dst = some d) (hl : l.set i true = l')
    (hs : Region.noSelect ops = true) (hf : Region.free md ops l.toArray i = true) (hr : (Region.ready md ops l.toArray).contains i = true)
    (hw : Region.wanted oi (yielded ops a.tmps) = true)
    (hQ : ∀ c a w, Q (.panic c) (a.put oi.dst v) w → Q (.panic c) a w) (hy : ∀ w, S w → (execOp a.eval oi).run P w = .ok (.value v) w) (hS : S w)
    (h : wpAnyH P md ops Q S fuel l'.toArray (a.put (some d) v) w) : wpAnyH P md ops Q S (fuel + 1) l.toArray a w :=
  wpAnyH_take hi hs hf hr hQ (Or.inl ⟨hw, hy⟩) hS (by rw [List.setIfInBounds_toArray, hl, hd]; exact h)
/-- one call alone may come up. -/
theorem held_call (i d : Nat) (l' : List Bool) {l : List Bool} {f : Nat} {o : Oper} {args : Array Value} {fuel : Nat} {a : Act} {w : World} (hr : Region.ready md ops l.toArray = [i]) (ho : ops[i]? = some o) (hd : o.dst = some d) (hl : l.set i true = l') (hw : Region.wanted o (yielded ops a.tmps) = true)
    (hx : (execOp a.eval o).run P w = .ok (.enter f args) w)
    (hc : Calls P f args w (fun e w' => ∃ v, e = .returned v ∧ S w' ∧ (S w' → wpAnyH P md ops Q S fuel l'.toArray (a.put (some d) v) w'))) : wpAnyH P md ops Q S (fuel + 1) l.toArray a w := by
  refine wpAnyH_all hr (by simp) fun j hj => ?_
  rw [List.mem_singleton] at hj
  subst hj
  unfold wpOp
  simp only [ho, hw, if_true]
  refine .inl ?_
  unfold Oper.wp
  rw [hx]
  refine hc.mono ?_
  rintro e w' ⟨v, rfl, h1, h2⟩
  refine ⟨h1, ?_⟩
  rw [hd, List.setIfInBounds_toArray, hl]
  exact h2 h1
theorem held_two (i j : Nat) {l : List Bool} {fuel : Nat} {a : Act} {w : World} (hr : Region.ready md ops l.toArray = [i, j])
    (hi : wpOp P ops Q i (fun a' w' => S w' ∧ wpAnyH P md ops Q S fuel (l.toArray.setIfInBounds i true) a' w') a w)
    (hj : wpOp P ops Q j (fun a' w' => S w' ∧ wpAnyH P md ops Q S fuel (l.toArray.setIfInBounds j true) a' w') a w) : wpAnyH P md ops Q S (fuel + 1) l.toArray a w := by
  refine wpAnyH_all hr (by simp) fun k hk => ?_
  rcases List.mem_cons.1 hk with rfl | hk
  · exact hi
  · rw [List.mem_singleton] at hk
    subst hk
    exact hj
theorem held_one (i : Nat) {l : List Bool} {fuel : Nat} {a : Act} {w : World} (hr : Region.ready md ops l.toArray = [i])
    (hi : wpOp P ops Q i (fun a' w' => S w' ∧ wpAnyH P md ops Q S fuel (l.toArray.setIfInBounds i true) a' w') a w) : wpAnyH P md ops Q S (fuel + 1) l.toArray a w := by
  refine wpAnyH_all hr (by simp) fun k hk => ?_
  rw [List.mem_singleton] at hk
  subst hk
  exact hi
/-- an operation that yields a value, and may turn memory. -/
theorem op_value (d : Nat) (l' : List Bool) {i : Nat} {l : List Bool} {o : Oper} {v : Value} {fuel : Nat} {a : Act} {w w' : World} (ho : ops[i]? = some o) (hd : o.dst = some d) (hl : l.set i true = l') (hw : Region.wanted o (yielded ops a.tmps) = true)
    (hx : (execOp a.eval o).run P w = .ok (.value v) w') (hS : S w') (h : S w' → wpAnyH P md ops Q S fuel l'.toArray (a.put (some d) v) w') : wpOp P ops Q i (fun a' w' => S w' ∧ wpAnyH P md ops Q S fuel (l.toArray.setIfInBounds i true) a' w') a w := by
  unfold wpOp
  simp only [ho, hw, if_true]
  refine .inl ?_
  unfold Oper.wp
  rw [hx]
  refine ⟨hS, ?_⟩
  rw [hd, List.setIfInBounds_toArray, hl]
  exact h hS
/-- a store. -/
theorem op_skip (l' : List Bool) {i : Nat} {l : List Bool} {o : Oper} {fuel : Nat} {a : Act} {w w' : World} (ho : ops[i]? = some o) (hd : o.dst = none) (hl : l.set i true = l') (hw : Region.wanted o (yielded ops a.tmps) = true)
    (hx : (execOp a.eval o).run P w = .ok .skip w') (hS : S w') (h : S w' → wpAnyH P md ops Q S fuel l'.toArray (a.put none undef) w') : wpOp P ops Q i (fun a' w' => S w' ∧ wpAnyH P md ops Q S fuel (l.toArray.setIfInBounds i true) a' w') a w := by
  unfold wpOp
  simp only [ho, hw, if_true]
  refine .inl ?_
  unfold Oper.wp
  rw [hx]
  refine ⟨hS, ?_⟩
  rw [hd, List.setIfInBounds_toArray, hl]
  exact h hS
theorem op_call (d : Nat) (l' : List Bool) {i f : Nat} {l : List Bool} {o : Oper} {args : Array Value} {fuel : Nat} {a : Act} {w : World} (ho : ops[i]? = some o) (hd : o.dst = some d) (hl : l.set i true = l') (hw : Region.wanted o (yielded ops a.tmps) = true)
    (hx : (execOp a.eval o).run P w = .ok (.enter f args) w)
    (hc : Calls P f args w (fun e w' => ∃ v, e = .returned v ∧ S w' ∧ (S w' → wpAnyH P md ops Q S fuel l'.toArray (a.put (some d) v) w'))) : wpOp P ops Q i (fun a' w' => S w' ∧ wpAnyH P md ops Q S fuel (l.toArray.setIfInBounds i true) a' w') a w := by
  unfold wpOp
  simp only [ho, hw, if_true]
  refine .inl ?_
  unfold Oper.wp
  rw [hx]
  refine hc.mono ?_
  rintro e w' ⟨v, rfl, h1, h2⟩
  refine ⟨h1, ?_⟩
  rw [hd, List.setIfInBounds_toArray, hl]
  exact h2 h1
theorem run_op_conv {o : Oper} {t1 t2 : TypeId} {x : Operand} {a : Act} {w : World} {v r : Value} (ho : o.op = .convert t1 t2 x) (hx : a.eval x = v) (h : (convert t1 t2 v).run P w = .ok r w) : (execOp a.eval o).run P w = .ok (.value r) w := by
  unfold execOp
  simp only [ho, hx, Sem.run_bind, h, Result.andThen_ok, Sem.run_pure]
theorem run_op_store_new {o : Oper} {ty : TypeId} {x y : Operand} {a : Act} {w : World} {c c' : Array Value} (ho : o.op = .store ty x y) (hx : a.eval x = .pointer (some ⟨w.heap.size, 0, none⟩)) (hy : a.eval y = .agg c') (hi : (P.info? ty).map (·.size) = some c'.size) (hs : c.size = c'.size) (h1 : c'.all (·.oneCell') = true) :
    (execOp a.eval o).run P (w.alloc (.cells c ty)) = .ok .skip (w.alloc (.cells c' ty)) := by
  unfold execOp
  simp only [ho, hx, hy, Sem.run_bind, run_storeAt_new w ty c c' hi hs h1, Result.andThen_ok, Sem.run_pure]
theorem held_done {l : List Bool} {fuel : Nat} {a : Act} {w : World} (hr : Region.ready md ops l.toArray = []) (h : Q .normal a w) : wpAnyH P md ops Q S fuel l.toArray a w := wpAnyH_done hr h fuel
end
end Go.Proofs.Ytcfipimhpeblbaa
