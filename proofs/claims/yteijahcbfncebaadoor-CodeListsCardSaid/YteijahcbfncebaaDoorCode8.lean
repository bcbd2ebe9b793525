/- Closed facts for the statement that is alive. -/
import Derived.Test.YteijahcbfncebaaDoorCode7
import Derived.Test.YteijahcbfncebaaDoorRows
import Derived.Lib.LaidTab
import Derived.RegionTactic
import Derived.BigRegion
import Derived.ChangeAlike
namespace Go.Proofs.YteijahcbfncebaaDoor
set_option linter.unusedVariables false
set_option linter.unusedSimpArgs false
open Go.ChangeShapes Go.WideShapes Go.ChangeAt Go.RowKit
theorem chk_2 : chkS 2 2 0 0 0 0 0 0 0 0 0 0 0 = 0 := by kernel_rfl
theorem dec_2 : decS (encS 2 2 0 0 0 0 0 0 0 0) = [2, 2, 0, 0, 0, 0, 0, 0, 0, 0, 0, 0, 0] := by kernel_rfl
theorem ans_3 : ansL (encA 3 258 0) = [3, 258, 0] := by kernel_rfl
theorem inb_3 : inB 3 0 255 = true ∧ inB 0 0 255 = true ∧ inB 258 0 2147483647 = true := by decide
/-- the listed variable, as it lies in the world that the rows speak of. -/
theorem tabF_of {w : World} (hL : laidMet Tryd.prog [("countermand/code.fields", Rows.laid_countermand_code_fields)] w) : TabF w := fun j hj =>
  (Lib.tabIs_of_head (rest := []) (k := .i64) (zs := tabF) (g := 0) (by kernel_rfl) (by kernel_rfl) Tryd.underlying68 Tryd.underlying3 (by kernel_rfl) (by kernel_rfl) hL).cell (by kernel_rfl) j hj
theorem glob_lt {w : World} (h : TabF w) : 0 < w.heap.size := block_lt_of_cell (h 0 (by decide))
end Go.Proofs.YteijahcbfncebaaDoor
