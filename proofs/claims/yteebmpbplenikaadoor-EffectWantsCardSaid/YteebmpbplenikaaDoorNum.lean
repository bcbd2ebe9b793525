/- Contracts of num's functions. -/
import Derived.Test.YteebmpbplenikaaDoorRows
import Derived.Test.YteebmpbplenikaaDoorMath
import Derived.WalkKit
import Derived.ProofKit
import Derived.OpenShut
import Derived.Deep.QuietTactic
import Derived.BigQuiet
import Derived.Lib.Hide
namespace Go.Proofs.YteebmpbplenikaaDoor
set_option linter.unusedVariables false
set_option linter.unusedSimpArgs false
open Go.ChangeShapes Go.WideShapes Go.ChangeAt Go.RowKit
def clampI (a b c : Int) : Int := if a < b then b else if c < a then c else a
def inB (a b c : Int) : Bool := decide (b ≤ a) && decide (a ≤ c)
def fit0 (n : Int) : Int := if fits n then n else 0
theorem ret_fit {n m : Int} {b c : Bool} (h1 : n = m) (h2 : b = c) : Ending.returned (.tuple #[.int .i64 n, .bool b]) = Ending.returned (.tuple #[.int .i64 m, .bool c]) := by rw [h1, h2]
/-- the sum of a list, number by number. -/
def sumGo : Int → List Int → Option Int
  | s, [] => some s
  | s, z :: zs => if fits (s + z) then sumGo (s + z) zs else none
theorem sumGo_append (s : Int) (l1 l2 : List Int) : sumGo s (l1 ++ l2) = (sumGo s l1).bind fun t => sumGo t l2 := by
  induction l1 generalizing s with
  | nil => rfl
  | cons z zs ih =>
    simp only [List.cons_append, sumGo]
    split
    · exact ih _
    · rfl
theorem take_next (zs : List Int) (k : Nat) (h : k < zs.length) : zs.take (k + 1) = zs.take k ++ [zs.getD k 0] := by
  rw [List.take_succ_eq_append_getElem h]
  simp [List.getD_eq_getElem?_getD, h]
theorem sumGo_next (zs : List Int) (k : Nat) (h : k < zs.length) (t : Int) (ht : sumGo 0 (zs.take k) = some t) (hf : fits (t + zs.getD k 0) = true) :
    sumGo 0 (zs.take (k + 1)) = some (t + zs.getD k 0) := by
  rw [take_next zs k h, sumGo_append, ht]
  simp only [Option.bind_some, sumGo, hf, if_true]
theorem sumGo_stop (zs : List Int) (k : Nat) (h : k < zs.length) (t : Int) (ht : sumGo 0 (zs.take k) = some t) (hf : fits (t + zs.getD k 0) = false) :
    sumGo 0 zs = none := by
  conv => lhs; rw [← List.take_append_drop (k + 1) zs]
  rw [take_next zs k h, sumGo_append, sumGo_append, ht]
  simp only [Option.bind_some, sumGo, hf]
  rfl
theorem fits_getD (zs : List Int) (hz : ∀ z ∈ zs, fits z = true) (k : Nat) : fits (zs.getD k 0) = true := by
  rw [List.getD_eq_getElem?_getD]
  by_cases h : k < zs.length
  · rw [List.getElem?_eq_getElem h]; exact hz _ (List.getElem_mem h)
  · rw [List.getElem?_eq_none (by omega)]; decide
end Go.Proofs.YteebmpbplenikaaDoor
