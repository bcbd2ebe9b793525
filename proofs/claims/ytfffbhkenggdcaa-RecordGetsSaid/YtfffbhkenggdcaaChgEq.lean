/- Changes, alike or not. -/
import Derived.Test.YtfffbhkenggdcaaBlk
import Derived.Test.YtfffbhkenggdcaaEq
import Derived.Test.YtfffbhkenggdcaaRow
import Derived.Test.YtfffbhkenggdcaaOps
import Derived.RegionTactic
import Derived.BigRegion
import Derived.ChangeAlike
namespace Go.Proofs.Ytfffbhkenggdcaa
set_option linter.unusedVariables false
set_option linter.unusedSimpArgs false
open Go.ChangeShapes Go.WideShapes Go.ChangeAt Go.RowKit
theorem wf_fits9 {n : Int} (h : fits n = true) : (Lit.int .i64 n).wf = true := by
  obtain ⟨h1, h2⟩ := (fits_iff n).1 h
  simp only [Lit.wf, IntKind.min, IntKind.max, IntKind.signed, IntKind.bits, Bool.and_eq_true, decide_eq_true_eq, if_true]
  omega
theorem ok9 : ∀ (l : List Int), (∀ k, fits (l.getD k 0) = true) → OkAll (List.replicate l.length (some .i64)) (ints l)
  | [], _ => trivial
  | z :: l, h => ⟨⟨z, rfl, wf_fits9 (h 0)⟩, ok9 l (fun k => h (k + 1))⟩
theorem flat9 : flat Try.prog 3 27 = some (List.replicate 9 (some .i64)) := by kernel_rfl
theorem chg_equal (x y : List Int) (w : World) (hx : x.length = 9) (hy : y.length = 9) (fx : ∀ k, fits (x.getD k 0) = true) (fy : ∀ k, fits (y.getD k 0) = true) :
    (Op.equalIn 10000 27 (.agg (ints x).toArray) (.agg (ints y).toArray)).run Try.prog w = .ok (sameB (ints x) (ints y)) w := by
  have h1 := ok9 x fx
  have h2 := ok9 y fy
  rw [hx] at h1
  rw [hy] at h2
  exact equal_flat 3 4 27 _ _ _ w flat9 (by kernel_rfl) h1 h2 (formed_of (by kernel_rfl) (by kernel_rfl) h1) (formed_of (by kernel_rfl) (by kernel_rfl) h2) 9996
theorem chg_alike (x : List Int) (w : World) (hx : x.length = 9) (fx : ∀ k, fits (x.getD k 0) = true) : (Op.equalIn 10000 27 (.agg (ints x).toArray) (.agg (ints x).toArray)).run Try.prog w = .ok true w := by
  have := chg_equal x x w hx hx fx fx
  rwa [sameB_refl] at this
theorem cg_eql {d t t' i : Nat} {b : Bool} {ty rt : TypeId} {ps : String} {af : Array Edge} {a : Act} {w : World} {ops : Array Oper} {rest : List Oper} {Q : Exit → Act → World → Prop} {x : List Int} (hx : a.eval (.tmp t) = .agg (ints x).toArray) (hy : a.eval (.tmp t') = .agg (ints x).toArray) (h1 : OkAll (List.replicate 9 (some .i64)) (ints x))
    (h : wpList Try.prog ops Q rest (a.put (some d) (.bool true)) w) : wpList Try.prog ops Q (⟨some d, .binOp .eql 27 (.tmp t) (.tmp t') rt, ty, ps, af, none⟩ :: rest) a w :=
  ls_run rfl (run_op_cmp rfl hx hy (by kernel_rfl) (by rw [eql_flat 3 4 27 _ _ _ w flat9 (by kernel_rfl) (by kernel_rfl) (by kernel_rfl) (by decide) h1 h1, sameB_refl])) h
theorem cg_eql_g {d t t' i : Nat} {b : Bool} {ty rt : TypeId} {ps : String} {af : Array Edge} {a : Act} {w : World} {ops : Array Oper} {rest : List Oper} {Q : Exit → Act → World → Prop} {x : List Int} (hx : a.eval (.tmp t) = .agg (ints x).toArray) (hy : a.eval (.tmp t') = .agg (ints x).toArray) (hw : Region.wanted ⟨some d, .binOp .eql 27 (.tmp t) (.tmp t') rt, ty, ps, af, some (i, b)⟩ (yielded ops a.tmps) = true) (h1 : OkAll (List.replicate 9 (some .i64)) (ints x))
    (h : wpList Try.prog ops Q rest (a.put (some d) (.bool true)) w) : wpList Try.prog ops Q (⟨some d, .binOp .eql 27 (.tmp t) (.tmp t') rt, ty, ps, af, some (i, b)⟩ :: rest) a w :=
  ls_run_g hw (run_op_cmp rfl hx hy (by kernel_rfl) (by rw [eql_flat 3 4 27 _ _ _ w flat9 (by kernel_rfl) (by kernel_rfl) (by kernel_rfl) (by decide) h1 h1, sameB_refl])) h
end Go.Proofs.Ytfffbhkenggdcaa
