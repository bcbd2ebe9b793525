/- A region that draws its order, walked once in the order of the text, where its calls make memory of their own: quiet in the class of the worlds that keep what lay below. -/
import Derived.Test.YtcfipimhpeblbaaOps
import Derived.Test.YtcfipimhpeblbaaBlk
import Derived.BigQuiet
import Derived.Deep.QuietTactic
import Derived.Lib.Hide
namespace Go.Proofs.Ytcfipimhpeblbaa
set_option linter.unusedVariables false
set_option linter.unusedSimpArgs false
open Go.ChangeShapes Go.WideShapes Go.ChangeAt Go.RowKit
section
variable {P : Program} {ops : Array Oper} {rest : List Oper} {a : Act} {o : Oper} {Q : Act → Prop} {B : Nat} {w0 : World}
theorem q_begin {l : List Oper} {id : Nat} {R : Exit → Act → World → Prop} {w : World} (hm : P.follows .mixedOrders = true) (hB : Region.lexB .any l.toArray = true)
    (h : wpQuiet P l.toArray (Below w.heap.size w) (fun a' => ∀ w', Below w.heap.size w w' → R .normal a' w') l a) : (Code.region id l.toArray true).wp P R a w :=
  wp_region_quiet (C := Below w.heap.size w) hm hB ⟨rfl, rfl, rfl, Nat.le_refl _, fun _ _ => rfl⟩ (by simpa using h)
theorem q_run {v : Value} (hw : Region.wanted o (yielded ops a.tmps) = true) (hr : ∀ w, Below B w0 w → (execOp a.eval o).run P w = .ok (.value v) w)
    (h : wpQuiet P ops (Below B w0) Q rest (a.put o.dst v)) : wpQuiet P ops (Below B w0) Q (o :: rest) a :=
  wpQuiet_step fun K hK => by
    rw [if_pos hw]
    exact ⟨v, fun w hw' => by unfold Oper.quietAt; rw [hr w hw']; exact ⟨rfl, rfl⟩, hK _ h⟩
theorem q_skip (hw : Region.wanted o (yielded ops a.tmps) = false) (h : wpQuiet P ops (Below B w0) Q rest (a.put o.dst undef)) : wpQuiet P ops (Below B w0) Q (o :: rest) a :=
  wpQuiet_step fun K hK => by rw [if_neg (by rw [hw]; exact Bool.false_ne_true)]; exact hK _ h
theorem q_call (f : FuncId) (v : Value) {d : Nat} {opnds : Array Operand} {ats : Array TypeId} {ty : TypeId} {ps : String} {af : Array Edge} {gd : Option (Nat × Bool)} {args : Array Value}
    (hw : Region.wanted ⟨some d, .call ⟨.value (.func f), opnds, ats⟩, ty, ps, af, gd⟩ (yielded ops a.tmps) = true)
    (hB : B ≤ w0.heap.size) (hc : ∀ w, Below B w0 w → Calls P f args w fun e w' => e = .returned v ∧ Below w.heap.size w w')
    (hx : ∀ w, (execOp a.eval ⟨some d, .call ⟨.value (.func f), opnds, ats⟩, ty, ps, af, gd⟩).run P w = .ok (.enter f args) w)
    (h : wpQuiet P ops (Below B w0) Q rest (a.put (some d) v)) : wpQuiet P ops (Below B w0) Q (⟨some d, .call ⟨.value (.func f), opnds, ats⟩, ty, ps, af, gd⟩ :: rest) a :=
  wpQuiet_step fun K hK => by
    rw [if_pos hw]
    refine ⟨v, fun w hw' => ?_, hK _ h⟩
    unfold Oper.quietAt
    rw [hx w]
    exact ⟨rfl, (hc w hw').mono fun e w' ⟨h1, h2⟩ => ⟨h1, hw'.trans (h2.mono (Nat.le_trans hB hw'.size))⟩⟩
/-- the call's contract leaves the world. -/
theorem q_same {f : FuncId} {args : Array Value} {w : World} {v : Value} (h : Calls P f args w fun e w' => e = .returned v ∧ w = w') : Calls P f args w fun e w' => e = .returned v ∧ Below w.heap.size w w' :=
  h.mono fun e w' ⟨h1, h2⟩ => ⟨h1, h2 ▸ Below.refl _ _⟩
theorem run_load_one {ty : TypeId} {g j : Nat} {w : World} {v : Value} {td : TypeDesc} (hu : P.underlying ty = some td) (hd : td.isRow = false) (hc : w.cell? ⟨g, j, none⟩ = some v) :
    (loadVar ty ⟨g, j, none⟩).run P w = .ok v w := by
  have hagg : (isAgg ty).run P w = .ok false w := by
    unfold isAgg
    rw [Sem.run_bind, run_underlying hu w]
    cases td <;> simp_all
  simp [loadVar, Sem.run_bind, hagg, go_sem, hc]
theorem run_op_one {o : Oper} {ty : TypeId} {x : Operand} {g j : Nat} {w : World} {v : Value} {td : TypeDesc} (ho : o.op = .load ty x) (hx : a.eval x = .pointer (some ⟨g, j, none⟩)) (hu : P.underlying ty = some td) (hd : td.isRow = false) (hc : w.cell? ⟨g, j, none⟩ = some v) :
    (execOp a.eval o).run P w = .ok (.value v) w := by
  unfold execOp
  simp only [ho, hx, Instr.loadAt, Instr.sureAddr, Sem.run_bind, Sem.run_pure, Result.andThen_ok, run_load_one hu hd hc]
theorem q_int {d t g j T : Nat} {k : IntKind} {n : Int} {ty ty' : TypeId} {ps : String} {af : Array Edge} {gd : Option (Nat × Bool)} {cs : List Value} (hx : a.eval (.tmp t) = .pointer (some ⟨g, j, none⟩))
    (hw : Region.wanted ⟨some d, .load ty (.tmp t), ty', ps, af, gd⟩ (yielded ops a.tmps) = true) (hu : P.underlying ty = some (.int k)) (hb : Blk w0 g cs T) (hg : g < B) (hj : cs[j]? = some (.int k n))
    (h : wpQuiet P ops (Below B w0) Q rest (a.put (some d) (.int k n))) : wpQuiet P ops (Below B w0) Q (⟨some d, .load ty (.tmp t), ty', ps, af, gd⟩ :: rest) a := by
  refine q_run hw (fun w hw' => ?_) h
  have hc := (hb.keep hw' hg).cell j
  rw [hj] at hc
  exact run_op_one rfl hx hu rfl hc
theorem q_bool {d t g j T : Nat} {n : Bool} {ty ty' : TypeId} {ps : String} {af : Array Edge} {gd : Option (Nat × Bool)} {cs : List Value} (hx : a.eval (.tmp t) = .pointer (some ⟨g, j, none⟩))
    (hw : Region.wanted ⟨some d, .load ty (.tmp t), ty', ps, af, gd⟩ (yielded ops a.tmps) = true) (hu : P.underlying ty = some .bool) (hb : Blk w0 g cs T) (hg : g < B) (hj : cs[j]? = some (.bool n))
    (h : wpQuiet P ops (Below B w0) Q rest (a.put (some d) (.bool n))) : wpQuiet P ops (Below B w0) Q (⟨some d, .load ty (.tmp t), ty', ps, af, gd⟩ :: rest) a := by
  refine q_run hw (fun w hw' => ?_) h
  have hc := (hb.keep hw' hg).cell j
  rw [hj] at hc
  exact run_op_one rfl hx hu rfl hc
theorem q_row {d t g T : Nat} {ty ty' : TypeId} {td : TypeDesc} {ps : String} {af : Array Edge} {gd : Option (Nat × Bool)} {cs : List Value} (hx : a.eval (.tmp t) = .pointer (some ⟨g, 0, none⟩))
    (hw : Region.wanted ⟨some d, .load ty (.tmp t), ty', ps, af, gd⟩ (yielded ops a.tmps) = true) (hu : P.underlying ty = some td) (hd : td.isRow = true) (hb : Blk w0 g cs T) (hg : g < B) (hi : (P.info? ty).map (·.size) = some cs.length)
    (h : wpQuiet P ops (Below B w0) Q rest (a.put (some d) (.agg cs.toArray))) : wpQuiet P ops (Below B w0) Q (⟨some d, .load ty (.tmp t), ty', ps, af, gd⟩ :: rest) a :=
  q_run hw (fun w hw' => run_op_load rfl hx ((hb.keep hw' hg).range 0 cs (by simp)) hu hd hi) h
theorem q_part {d t g off T : Nat} {ty ty' : TypeId} {td : TypeDesc} {ps : String} {af : Array Edge} {gd : Option (Nat × Bool)} {cs xs : List Value} (hx : a.eval (.tmp t) = .pointer (some ⟨g, off, none⟩))
    (hw : Region.wanted ⟨some d, .load ty (.tmp t), ty', ps, af, gd⟩ (yielded ops a.tmps) = true) (hu : P.underlying ty = some td) (hd : td.isRow = true) (hb : Blk w0 g cs T) (hg : g < B) (hxs : (cs.drop off).take xs.length = xs) (hi : (P.info? ty).map (·.size) = some xs.length)
    (h : wpQuiet P ops (Below B w0) Q rest (a.put (some d) (.agg xs.toArray))) : wpQuiet P ops (Below B w0) Q (⟨some d, .load ty (.tmp t), ty', ps, af, gd⟩ :: rest) a :=
  q_run hw (fun w hw' => run_op_load rfl hx ((hb.keep hw' hg).range off xs hxs) hu hd hi) h
theorem q_field (v : Value) {d t i : Nat} {ty ty' : TypeId} {ps : String} {af : Array Edge} {gd : Option (Nat × Bool)}
    (hw : Region.wanted ⟨some d, .field ty (.tmp t) i, ty', ps, af, gd⟩ (yielded ops a.tmps) = true) (hr : ∀ w, (execOp a.eval ⟨some d, .field ty (.tmp t) i, ty', ps, af, gd⟩).run P w = .ok (.value v) w)
    (h : wpQuiet P ops (Below B w0) Q rest (a.put (some d) v)) : wpQuiet P ops (Below B w0) Q (⟨some d, .field ty (.tmp t) i, ty', ps, af, gd⟩ :: rest) a :=
  q_run hw (fun w _ => hr w) h
theorem q_cmp {d t t' : Nat} {op : BinOp} {ty rt ty' : TypeId} {ps : String} {af : Array Edge} {gd : Option (Nat × Bool)} {xs ys : Array Value} {v : Value} (hx : a.eval (.tmp t) = .agg xs) (hy : a.eval (.tmp t') = .agg ys)
    (hw : Region.wanted ⟨some d, .binOp op ty (.tmp t) (.tmp t') rt, ty', ps, af, gd⟩ (yielded ops a.tmps) = true) (hm : P.eqGuardType P.depth ty = false) (hr : ∀ w, (binOp op ty (.agg xs) (.agg ys)).run P w = .ok v w)
    (h : wpQuiet P ops (Below B w0) Q rest (a.put (some d) v)) : wpQuiet P ops (Below B w0) Q (⟨some d, .binOp op ty (.tmp t) (.tmp t') rt, ty', ps, af, gd⟩ :: rest) a :=
  q_run hw (fun w _ => run_op_cmp rfl hx hy hm (hr w)) h
theorem q_conv {d t : Nat} {t1 t2 ty' : TypeId} {ps : String} {af : Array Edge} {gd : Option (Nat × Bool)} {v r : Value} (hx : a.eval (.tmp t) = v)
    (hw : Region.wanted ⟨some d, .convert t1 t2 (.tmp t), ty', ps, af, gd⟩ (yielded ops a.tmps) = true) (hr : ∀ w, Below B w0 w → (convert t1 t2 v).run P w = .ok r w)
    (h : wpQuiet P ops (Below B w0) Q rest (a.put (some d) r)) : wpQuiet P ops (Below B w0) Q (⟨some d, .convert t1 t2 (.tmp t), ty', ps, af, gd⟩ :: rest) a :=
  q_run hw (fun w hw' => by
    unfold execOp
    simp only [hx, Sem.run_bind, hr w hw', Result.andThen_ok, Sem.run_pure]) h
theorem q_at {d t : Nat} {ad : Addr} {v : Value} {ty ty' : TypeId} {td : TypeDesc} {ps : String} {af : Array Edge} {gd : Option (Nat × Bool)} (hx : a.eval (.tmp t) = .pointer (some ⟨ad.block, ad.off, none⟩))
    (hw : Region.wanted ⟨some d, .load ty (.tmp t), ty', ps, af, gd⟩ (yielded ops a.tmps) = true) (hu : P.underlying ty = some td) (hd : td.isRow = false) (hc : ∀ w, Below B w0 w → w.cell? ⟨ad.block, ad.off, none⟩ = some v)
    (h : wpQuiet P ops (Below B w0) Q rest (a.put (some d) v)) : wpQuiet P ops (Below B w0) Q (⟨some d, .load ty (.tmp t), ty', ps, af, gd⟩ :: rest) a :=
  q_run hw (fun w hw' => run_op_one rfl hx hu hd (hc w hw')) h
theorem q_end {a : Act} {R : Act → World → Prop} (h : ∀ w', Below B w0 w' → R a w') : wpQuiet P ops (Below B w0) (fun a' => ∀ w', Below B w0 w' → R a' w') [] a := wpQuiet_nil h
end
end Go.Proofs.Ytcfipimhpeblbaa
