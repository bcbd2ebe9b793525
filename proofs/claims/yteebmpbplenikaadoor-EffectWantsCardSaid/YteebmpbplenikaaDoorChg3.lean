/- Changes as octets. -/
import Derived.Test.YteebmpbplenikaaDoorChg2
import Derived.Test.YteebmpbplenikaaDoorOct
import Derived.Test.YteebmpbplenikaaDoorApp
import Derived.Test.YteebmpbplenikaaDoorRow
import Derived.Test.YteebmpbplenikaaDoorOps
import Derived.RegionTactic
import Derived.BigRegion
import Derived.ChangeAlike
namespace Go.Proofs.YteebmpbplenikaaDoor
set_option linter.unusedVariables false
set_option linter.unusedSimpArgs false
open Go.ChangeShapes Go.WideShapes Go.ChangeAt Go.RowKit
/-- a number's 64 bits. -/
def u64 (m : Int) : Nat := (m % 18446744073709551616).toNat
theorem u64_lt (m : Int) : u64 m < 18446744073709551616 := by unfold u64; omega
theorem u64_wrap (m : Int) : IntKind.u64.wrap m = (u64 m : Int) := by
  have : IntKind.u64.wrap m = m % 18446744073709551616 := rfl
  rw [this]; unfold u64; omega
theorem sl_one {w : World} {a : Option Addr} {n : Nat} {bs : List UInt8} (h : Sl w a n 1 (bcells bs)) : bs.length = n := by have := h.1; rw [bcells_len] at this; omega
theorem bcells_add (xs ys : List UInt8) : bcells (xs ++ ys) = bcells xs ++ bcells ys := List.map_append
/-- octets in a variable of block g. -/
def Out (w : World) (g : Nat) (bs : List UInt8) : Prop := ∃ a c, Blk w g [.slice a bs.length c] 26 ∧ Sl w a bs.length 1 (bcells bs)
def encOf (r s t k a b n p q : Int) : List UInt8 := beOf (u64 r) 1 ++ beOf (u64 s) 2 ++ beOf (u64 t) 4 ++ beOf (u64 k) 1 ++ beOf (u64 a) 1 ++ beOf (u64 b) 1 ++ beOf (u64 n) 8 ++ beOf (u64 p) 1 ++ beOf (u64 q) 2 ++ beOf (u64 67) 1
theorem encOf_len (r s t k a b n p q : Int) : (encOf r s t k a b n p q).length = 22 := by simp [encOf, beOf_len]
end Go.Proofs.YteebmpbplenikaaDoor
