/- An entry's octets. -/
import Derived.Test.YteebmpbplenikaaDoorEff4
import Derived.Test.YteebmpbplenikaaDoorEnt3
import Derived.Test.YteebmpbplenikaaDoorLaw09l
import Derived.Test.YteebmpbplenikaaDoorRow
import Derived.Test.YteebmpbplenikaaDoorOps
import Derived.RegionTactic
import Derived.BigRegion
import Derived.ChangeAlike
namespace Go.Proofs.YteebmpbplenikaaDoor
set_option linter.unusedVariables false
set_option linter.unusedSimpArgs false
open Go.ChangeShapes Go.WideShapes Go.ChangeAt Go.RowKit
def encNf (o k a n p q s l : Int) (fl : Nat) (b bl : Int) : List UInt8 := beOf (u64 o) 1 ++ encE k a n p q ++ beOf (u64 s) 1 ++ beOf (u64 l) 4 ++ beOf (u64 b) 1 ++ beOf (u64 bl) 4 ++ [UInt8.ofNat fl, 69, 69]
def encN (o k a n p q s l : Int) (ak gn : Bool) (b bl : Int) : List UInt8 := encNf o k a n p q s l (flagsOf ak gn) b bl
theorem lit1 (o : Int) : bcells (beOf (u64 o) 1) = [.int .u8 (o % 256)] := by
  have h : (UInt8.ofNat (u64 o % 256)).toNat = u64 o % 256 := by rw [UInt8.toNat_ofNat']; omega
  rw [be1]
  simp only [bcells, List.map_cons, List.map_nil, h]
  unfold u64
  congr 2
  omega
theorem encN_len (o k a n p q s l : Int) (ak gn : Bool) (b bl : Int) : (encN o k a n p q s l ak gn b bl).length = 27 := by simp [encN, encNf, beOf_len, encE_len]
end Go.Proofs.YteebmpbplenikaaDoor
