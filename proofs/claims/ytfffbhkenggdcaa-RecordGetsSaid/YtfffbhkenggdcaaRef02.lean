/- The reference's Put, four octets wide or two. -/
import Derived.Test.YtfffbhkenggdcaaLaw02c
import Derived.Deep.DeepCutAuto
import Derived.Deep.LoopGhost
import Derived.Laws.AppendOwnNone
namespace Go.Proofs.Ytfffbhkenggdcaa
set_option linter.unusedVariables false
set_option linter.unusedSimpArgs false
open Go.ChangeShapes Go.WideShapes Go.ChangeAt Go.RowKit
theorem beOf_byte2 (m i : Nat) : [Value.int .u8 (((m / 256 ^ i : Nat) : Int) % 256)] = bcells [UInt8.ofNat (m / 256 ^ i % 256)] := by
  have h : (UInt8.ofNat (m / 256 ^ i % 256)).toNat = m / 256 ^ i % 256 := by
    rw [UInt8.toNat_ofNat']; omega
  simp only [bcells, List.map_cons, List.map_nil, h]
  congr 2
end Go.Proofs.Ytfffbhkenggdcaa
