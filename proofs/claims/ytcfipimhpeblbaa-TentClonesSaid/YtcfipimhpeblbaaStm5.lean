/- Two changes, sorted. -/
import Derived.Test.YtcfipimhpeblbaaStm4
import Derived.Test.YtcfipimhpeblbaaQt
import Derived.Test.YtcfipimhpeblbaaHeld
import Derived.Test.YtcfipimhpeblbaaOnly
import Derived.Test.YtcfipimhpeblbaaBlk
import Derived.Deep.DeepCutAuto
import Derived.Maps.AppendAt
import Derived.Test.YtcfipimhpeblbaaRow
import Derived.Test.YtcfipimhpeblbaaOps
import Derived.RegionTactic
import Derived.BigRegion
import Derived.ChangeAlike
namespace Go.Proofs.Ytcfipimhpeblbaa
set_option linter.unusedVariables false
set_option linter.unusedSimpArgs false
open Go.ChangeShapes Go.WideShapes Go.ChangeAt Go.RowKit
theorem q_callv {P : Program} {ops : Array Oper} {rest : List Oper} {a : Act} {Q : Act → Prop} {B : Nat} {w0 : World} (f : FuncId) (v : Value) {d t : Nat} {opnds : Array Operand} {ats : Array TypeId} {ty : TypeId} {ps : String} {af : Array Edge} {gd : Option (Nat × Bool)} {args : Array Value}
    (hw : Region.wanted ⟨some d, .call ⟨.value (.tmp t), opnds, ats⟩, ty, ps, af, gd⟩ (yielded ops a.tmps) = true)
    (hB : B ≤ w0.heap.size) (hc : ∀ w, Below B w0 w → Calls P f args w fun e w' => e = .returned v ∧ Below w.heap.size w w')
    (hx : ∀ w, (execOp a.eval ⟨some d, .call ⟨.value (.tmp t), opnds, ats⟩, ty, ps, af, gd⟩).run P w = .ok (.enter f args) w)
    (h : wpQuiet P ops (Below B w0) Q rest (a.put (some d) v)) : wpQuiet P ops (Below B w0) Q (⟨some d, .call ⟨.value (.tmp t), opnds, ats⟩, ty, ps, af, gd⟩ :: rest) a :=
  wpQuiet_step fun K hK => by
    rw [if_pos hw]
    refine ⟨v, fun w hw' => ?_, hK _ h⟩
    unfold Oper.quietAt
    rw [hx w]
    exact ⟨rfl, (hc w hw').mono fun e w' ⟨h1, h2⟩ => ⟨h1, hw'.trans (h2.mono (Nat.le_trans hB hw'.size))⟩⟩
theorem st_part_runT {o : Oper} {T : TypeId} {x y : Operand} {a : Act} {w : World} {g off U : Nat} {old cs : List Value} (ho : o.op = .store T x y) (hx : a.eval x = .pointer (some ⟨g, off, none⟩)) (hy : a.eval y = .agg cs.toArray) (hb : Blk w g old U) (hl : off + cs.length ≤ old.length) (hi : (Try.prog.info? T).map (·.size) = some cs.length) (h1 : ∀ u ∈ cs, u.oneCell' = true) :
    (execOp a.eval o).run Try.prog w = .ok .skip (w.setCells g off cs) := by
  have := run_storeAt_mid (P := Try.prog) w g off T cs.toArray (hb.there off _ (by rw [List.size_toArray]; exact hl)) (by rw [hi, List.size_toArray]) (all_oneCell_toArray h1)
  rw [List.toList_toArray] at this
  unfold execOp
  simp only [ho, hx, hy, Sem.run_bind, this, Result.andThen_ok, Sem.run_pure]
end Go.Proofs.Ytcfipimhpeblbaa
