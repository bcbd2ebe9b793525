/- The reference's octets of a change. -/
import Derived.Test.YteebmpbplenikaaDoorChg3
import Derived.Test.YteebmpbplenikaaDoorRef02
import Derived.Test.YteebmpbplenikaaDoorApp
import Derived.Test.YteebmpbplenikaaDoorOct
import Derived.Test.YteebmpbplenikaaDoorApp
import Derived.Test.YteebmpbplenikaaDoorRow
import Derived.Test.YteebmpbplenikaaDoorOps
import Derived.RegionTactic
import Derived.BigRegion
import Derived.ChangeAlike
namespace Go.Proofs.YteebmpbplenikaaDoor
set_option linter.unusedVariables false
set_option linter.unusedSimpArgs false
open Go.ChangeShapes Go.WideShapes Go.ChangeAt Go.RowKit
theorem u8_info : (Tryd.prog.info? 5).map (fun i => (i.zero, i.size, i.bytes)) = some (some (.int .u8 0), 1, 1) := by kernel_rfl
theorem be1 (m : Nat) : beOf m 1 = [UInt8.ofNat (m % 256)] := by simp [beOf]
theorem oct1 (k : Int) : Value.int .u8 (IntKind.u8.wrap k) = .int .u8 ((UInt8.ofNat (u64 k % 256)).toNat : Int) := by
  have h : (UInt8.ofNat (u64 k % 256)).toNat = u64 k % 256 := by rw [UInt8.toNat_ofNat']; omega
  have h2 : IntKind.u8.wrap k = k % 256 := rfl
  rw [h, h2]
  unfold u64
  congr 1
  omega
/-- a slice's literal. -/
theorem lit_sl (w : World) (vs : List Value) (hv : 0 < vs.length) : Sl (w.alloc (.cells vs.toArray 5)) (some ⟨w.heap.size, 0, none⟩) vs.length 1 vs := by
  refine ⟨by omega, Or.inr ⟨_, _, rfl, by simp, fun j hj => ?_⟩⟩
  rw [Nat.zero_add, cell_of_row _ _ j _ _ _ (heap_alloc_new _ _), List.getD_eq_getElem?_getD, List.getElem?_eq_getElem (by omega)]
  simp [List.getElem?_eq_getElem (show j < vs.length by omega)]
end Go.Proofs.YteebmpbplenikaaDoor
