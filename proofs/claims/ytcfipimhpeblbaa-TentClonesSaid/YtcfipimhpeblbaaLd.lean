/- Loads, stores and comparisons of whole rows of any type, told by what is known (for 'refine': an 'apply' that fails may hang in a large frame). -/
import Derived.Test.YtcfipimhpeblbaaOps
import Derived.Test.YtcfipimhpeblbaaBlk
import Derived.RegionTactic
import Derived.BigRegion
import Derived.ChangeAlike
namespace Go.Proofs.Ytcfipimhpeblbaa
set_option linter.unusedVariables false
set_option linter.unusedSimpArgs false
open Go.ChangeShapes Go.WideShapes Go.ChangeAt Go.RowKit
/-- a type whose values are rows of n cells. -/
def RowT (T : TypeId) (n : Nat) : Prop := (∃ td, Try.prog.underlying T = some td ∧ td.isRow = true) ∧ (Try.prog.info? T).map (·.size) = some n
section
variable {ops : Array Oper} {Q : Exit → Act → World → Prop} {rest : List Oper} {a : Act} {w : World} {ty : TypeId} {ps : String} {af : Array Edge} {gd : Option (Nat × Bool)}
theorem ld_row {T g o d t : Nat} {cs : List Value} (hb : w.rangeAt g o cs) (hT : RowT T cs.length)
    (hx : a.eval (.tmp t) = .pointer (some ⟨g, o, none⟩)) (hw : Region.wanted ⟨some d, .load T (.tmp t), ty, ps, af, gd⟩ (yielded ops a.tmps) = true)
    (h : wpList Try.prog ops Q rest (a.put (some d) (.agg cs.toArray)) w) : wpList Try.prog ops Q (⟨some d, .load T (.tmp t), ty, ps, af, gd⟩ :: rest) a w := by
  obtain ⟨⟨td, h1, h2⟩, h3⟩ := hT
  exact ls_run_g hw (run_op_load rfl hx hb h1 h2 h3) h
theorem cmp_row {T rt d t t' : Nat} {op : BinOp} {xs ys : Array Value} {v : Value} (hm : Try.prog.eqGuardType Try.prog.depth T = false) (NE : ∀ w, (binOp op T (.agg xs) (.agg ys)).run Try.prog w = .ok v w)
    (hx : a.eval (.tmp t) = .agg xs) (hy : a.eval (.tmp t') = .agg ys) (hw : Region.wanted ⟨some d, .binOp op T (.tmp t) (.tmp t') rt, ty, ps, af, gd⟩ (yielded ops a.tmps) = true)
    (h : wpList Try.prog ops Q rest (a.put (some d) v) w) : wpList Try.prog ops Q (⟨some d, .binOp op T (.tmp t) (.tmp t') rt, ty, ps, af, gd⟩ :: rest) a w :=
  ls_run_g hw (run_op_cmp rfl hx hy hm (NE w)) h
theorem st_row {T g t t' U : Nat} {cs old : List Value} (hb : Blk w g old U) (hl : old.length = cs.length) (hT : RowT T cs.length) (h1 : ∀ u ∈ cs, u.oneCell' = true)
    (hx : a.eval (.tmp t) = .pointer (some ⟨g, 0, none⟩)) (hy : a.eval (.tmp t') = .agg cs.toArray) (h : wpList Try.prog ops Q rest (a.put none undef) (w.setCells g 0 cs)) :
    wpList Try.prog ops Q (⟨none, .store T (.tmp t) (.tmp t'), ty, ps, af, none⟩ :: rest) a w :=
  wpList_store_mid rfl T (.tmp t) (.tmp t') rfl g 0 _ hx hy (hb.there 0 _ (by rw [List.size_toArray, hl]; omega)) (by rw [hT.2, List.size_toArray]) (all_oneCell_toArray h1) (by rw [List.toList_toArray]; exact h)
theorem st_row_new {T t t' U : Nat} {cs : List Value} {old : Array Value} (hT : RowT T cs.length) (h1 : ∀ u ∈ cs, u.oneCell' = true)
    (hx : a.eval (.tmp t) = .pointer (some ⟨w.heap.size, 0, none⟩)) (hy : a.eval (.tmp t') = .agg cs.toArray) (hl : old.size = cs.length) (h : wpList Try.prog ops Q rest (a.put none undef) (w.alloc (.cells cs.toArray U))) :
    wpList Try.prog ops Q (⟨none, .store T (.tmp t) (.tmp t'), ty, ps, af, none⟩ :: rest) a (w.alloc (.cells old U)) := by
  refine st_row (Blk.new w old U) (by rw [Array.length_toList, hl]) hT h1 hx hy ?_
  rw [setAll_new w old _ U hl.symm]
  exact h
end
end Go.Proofs.Ytcfipimhpeblbaa
