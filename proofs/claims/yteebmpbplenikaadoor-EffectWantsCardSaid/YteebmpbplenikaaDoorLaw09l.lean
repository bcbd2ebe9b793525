/- Lists of changes as octets. -/
import Derived.Test.YteebmpbplenikaaDoorChg8
import Derived.Test.YteebmpbplenikaaDoorChg6
import Derived.Test.YteebmpbplenikaaDoorVec2
import Derived.Test.YteebmpbplenikaaDoorLaw09
import Derived.Deep.LoopGhost
import Derived.Test.YteebmpbplenikaaDoorChg4
import Derived.Test.YteebmpbplenikaaDoorMath9
import Derived.Test.YteebmpbplenikaaDoorChgEq
import Derived.Test.YteebmpbplenikaaDoorLaw02
import Derived.Test.YteebmpbplenikaaDoorHeld
import Derived.Test.YteebmpbplenikaaDoorRd
import Derived.Test.YteebmpbplenikaaDoorOct
import Derived.Test.YteebmpbplenikaaDoorApp
import Derived.Test.YteebmpbplenikaaDoorRow
import Derived.Test.YteebmpbplenikaaDoorOps
import Derived.RegionTactic
import Derived.BigRegion
import Derived.ChangeAlike
namespace Go.Proofs.YteebmpbplenikaaDoor
set_option linter.unusedVariables false
set_option linter.unusedSimpArgs false
open Go.ChangeShapes Go.WideShapes Go.ChangeAt Go.RowKit
def encC (x : List Int) : List UInt8 := encOf (x.getD 0 0) (x.getD 1 0) (x.getD 2 0) (x.getD 3 0) (x.getD 4 0) (x.getD 5 0) (x.getD 6 0) (x.getD 7 0) (x.getD 8 0)
def mayC (x : List Int) : Bool := mayChg (x.getD 0 0) (x.getD 1 0) (x.getD 2 0) (x.getD 3 0) (x.getD 4 0) (x.getD 5 0) (x.getD 7 0) (x.getD 8 0)
theorem encC_len (x : List Int) : (encC x).length = 22 := encOf_len _ _ _ _ _ _ _ _ _
def encTo (L : List Int) : Nat → List UInt8
  | 0 => []
  | k + 1 => encTo L k ++ encC (chAt L k)
theorem encTo_len (L : List Int) : ∀ k, (encTo L k).length = 22 * k
  | 0 => rfl
  | k + 1 => by rw [encTo, List.length_append, encTo_len L k, encC_len]; omega
theorem own_lit (w : World) (vs : List Value) (hv : vs.length ≤ 1000) : (w.alloc (.cells vs.toArray 5)).ownsRow w.heap.size 5 1 (.slice (some ⟨w.heap.size, 0, none⟩) vs.length vs.length) vs.length vs :=
  ⟨by omega, Or.inr ⟨w.heap.size, vs.length, vs.toArray, rfl, Nat.le_refl _, heap_alloc_new _ _, Nat.le_refl _, by simp only [maxLen]; omega, by simp, by simp⟩⟩
theorem u8_lit (n : Nat) (h : n < 256) : bcells [UInt8.ofNat n] = [.int .u8 (n : Int)] := by
  have h1 : (UInt8.ofNat n).toNat = n := by rw [UInt8.toNat_ofNat']; omega
  simp [bcells, h1]
end Go.Proofs.YteebmpbplenikaaDoor
