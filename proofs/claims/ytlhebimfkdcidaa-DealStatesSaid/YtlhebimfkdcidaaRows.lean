/-
  No cell of these rows narrows 'for every input' (looked for: loops, veiled, ifaces, maps, wideKeys, modest, calm, conditions, laid).
  DERIVED. THE GIVEN ROWS OF THIS SEAT. 3 by the template 'for every input the law returns true; each argument reads behind the call as it read before'; 0 by the template 'total and deterministic' (their statements: YtlhebimfkdcidaaTotals.lean).
  GIVEN WITH THE SEED: the statements are not yours to turn. If you find one false, say at which input.
  Laid BY PROGRAM, IN A SANDBOX (cutbox-rows.mjs): the forced cells as the released guide's own fill.sh prints them over the translation f4deb4ac03fda413… (all of the seat's roots in one cut). By AI agents, Wed Nov 11 2026. No macro, syntax, notation, axiom, sorry.
-/
import Derived.Test.YtlhebimfkdcidaaChecked
import GoSem.Claim
import GoSem.ClaimJoined
import GoSem.ClaimMapViews
import Derived.JoinedTies
import Derived.KernelRfl
namespace Go.Proofs.Ytlhebimfkdcidaa
/- THE CELL 'sum', in the pinned program and in every row, IS THE sha256 OF THE DUMP (.gsa) THAT YtlhebimfkdcidaaProg.lean LOADS. Nothing in Lean hashes anything: it is a label: what it is worth is what the hold of that sum in a sandbox is worth. -/
noncomputable def Try.pinned : Pinned := { name := "ytlhebimfkdcidaa", sum := "f4deb4ac03fda413ce65275011fd7ff1d87a8bce3d7427f49afeadca56ac182f", checked := Try.checked }
namespace Rows
def none {H : Type} : Left H := { results := [], args := [] }

/-- 'countermandlaw15.DealPuts': WHATEVER THE INPUT: true; the input reads as it did. -/
def dealPutsSpec : ChangeSpec := { name := "dealPuts", fn := fun _ => fun
  | [d1, d2, d3] => { results := [.lit (.bool true)], args := [d1, d2, d3] }
  | _ => none }
def dealPutsRow : OpenClaim := { program := "ytlhebimfkdcidaa", sum := "f4deb4ac03fda413ce65275011fd7ff1d87a8bce3d7427f49afeadca56ac182f", func := "countermand/countermandlaw15.DealPuts", spec := "dealPuts", inPlace := ["slices.overlaps[countermand/api.Order]"], unfollowed := true, recurses := true, apart := false }
def DealPutsSaid : Prop := dealPutsRow.holds Try.pinned (OpenSpec.ofChange dealPutsSpec)

/-- ITS FALSE NEIGHBOUR: 'it returns false'. Refute it at one input. -/
def dealPutsWrong : ChangeSpec := { name := "dealPuts", fn := fun _ => fun
  | [d1, d2, d3] => { results := [.lit (.bool false)], args := [d1, d2, d3] }
  | _ => none }
def DealPutsWrongFalsely : Prop := dealPutsRow.holds Try.pinned (OpenSpec.ofChange dealPutsWrong)

/-- 'countermandlaw15.DealStates': WHATEVER THE INPUT: true; the input reads as it did. -/
def dealStatesSpec : ChangeSpec := { name := "dealStates", fn := fun _ => fun
  | [d1, d2, d3, d4] => { results := [.lit (.bool true)], args := [d1, d2, d3, d4] }
  | _ => none }
def dealStatesRow : OpenClaim := { program := "ytlhebimfkdcidaa", sum := "f4deb4ac03fda413ce65275011fd7ff1d87a8bce3d7427f49afeadca56ac182f", func := "countermand/countermandlaw15.DealStates", spec := "dealStates", inPlace := ["slices.overlaps[countermand/api.Order]"], unfollowed := true, recurses := true, apart := false }
def DealStatesSaid : Prop := dealStatesRow.holds Try.pinned (OpenSpec.ofChange dealStatesSpec)

/-- ITS FALSE NEIGHBOUR: 'it returns false'. Refute it at one input. -/
def dealStatesWrong : ChangeSpec := { name := "dealStates", fn := fun _ => fun
  | [d1, d2, d3, d4] => { results := [.lit (.bool false)], args := [d1, d2, d3, d4] }
  | _ => none }
def DealStatesWrongFalsely : Prop := dealStatesRow.holds Try.pinned (OpenSpec.ofChange dealStatesWrong)

/-- 'countermandlaw15.DealSame': WHATEVER THE INPUT: true; the input reads as it did. -/
def dealSameSpec : ChangeSpec := { name := "dealSame", fn := fun _ => fun
  | [d1, d2] => { results := [.lit (.bool true)], args := [d1, d2] }
  | _ => none }
def dealSameRow : OpenClaim := { program := "ytlhebimfkdcidaa", sum := "f4deb4ac03fda413ce65275011fd7ff1d87a8bce3d7427f49afeadca56ac182f", func := "countermand/countermandlaw15.DealSame", spec := "dealSame", inPlace := ["slices.overlaps[countermand/api.Order]"], unfollowed := true, recurses := true, apart := false }
def DealSameSaid : Prop := dealSameRow.holds Try.pinned (OpenSpec.ofChange dealSameSpec)

/-- ITS FALSE NEIGHBOUR: 'it returns false'. Refute it at one input. -/
def dealSameWrong : ChangeSpec := { name := "dealSame", fn := fun _ => fun
  | [d1, d2] => { results := [.lit (.bool false)], args := [d1, d2] }
  | _ => none }
def DealSameWrongFalsely : Prop := dealSameRow.holds Try.pinned (OpenSpec.ofChange dealSameWrong)

/- THE SECOND FORM. 'bulk': how many values and letters a reading holds, each counted each time it is reached (what is shared counts as often as it is met; a slice's spare places count too). A statement '..UptoSaid' is the law's where the arguments, and the package variables that the reading takes, are together of bulk at most 1048576: NARROWER than '..Said'. Prove '..Said' where nothing that the law and all that it calls make is longer than what came in: it says more and counts as full. Else prove '..UptoSaid'. A law counts once. -/
mutual
def uptoBulk {H : Type} : DataW H → Nat
  | .lit (.string bytes) => bytes.length + 1
  | .lit _ => 1
  | .nil => 1
  | .ptr d => uptoBulk d + 1
  | .slice elems spare => uptoBulkAll elems + uptoBulkAll spare + 1
  | .agg parts => uptoBulkAll parts + 1
  | .iface _ d => uptoBulk d + 1
  | .map entries => uptoBulkEntries entries + 1
  | .held _ => 1
def uptoBulkAll {H : Type} : List (DataW H) → Nat
  | [] => 0
  | d :: r => uptoBulk d + uptoBulkAll r
def uptoBulkEntries {H : Type} : List (Lit × DataW H) → Nat
  | [] => 0
  | x :: r => uptoBulkEntry x + uptoBulkEntries r
def uptoBulkEntry {H : Type} : Lit × DataW H → Nat
  | (.string bytes, d) => bytes.length + uptoBulk d + 1
  | (_, d) => uptoBulk d + 1
 end
def uptoSmall : (H : Type) → List (DataW H) → Bool := fun _ ds => decide (uptoBulkAll ds ≤ 1048576)
def OpenSpec.upto (s : _root_.Go.ChangeSpec) : _root_.Go.OpenSpec := { _root_.Go.OpenSpec.ofChange s with cond := some uptoSmall }

/-- 'countermandlaw15.DealPuts', WHERE WHAT IT READS IS OF BULK AT MOST 1048576: true; the input reads as it did. -/
def dealPutsUptoRow : OpenClaim := { program := "ytlhebimfkdcidaa", sum := "f4deb4ac03fda413ce65275011fd7ff1d87a8bce3d7427f49afeadca56ac182f", func := "countermand/countermandlaw15.DealPuts", spec := "dealPuts", inPlace := ["slices.overlaps[countermand/api.Order]"], unfollowed := true, recurses := true, apart := false, narrowed := true }
def DealPutsUptoSaid : Prop := dealPutsUptoRow.holds Try.pinned (OpenSpec.upto dealPutsSpec)

/-- 'countermandlaw15.DealStates', WHERE WHAT IT READS IS OF BULK AT MOST 1048576: true; the input reads as it did. -/
def dealStatesUptoRow : OpenClaim := { program := "ytlhebimfkdcidaa", sum := "f4deb4ac03fda413ce65275011fd7ff1d87a8bce3d7427f49afeadca56ac182f", func := "countermand/countermandlaw15.DealStates", spec := "dealStates", inPlace := ["slices.overlaps[countermand/api.Order]"], unfollowed := true, recurses := true, apart := false, narrowed := true }
def DealStatesUptoSaid : Prop := dealStatesUptoRow.holds Try.pinned (OpenSpec.upto dealStatesSpec)

/-- 'countermandlaw15.DealSame', WHERE WHAT IT READS IS OF BULK AT MOST 1048576: true; the input reads as it did. -/
def dealSameUptoRow : OpenClaim := { program := "ytlhebimfkdcidaa", sum := "f4deb4ac03fda413ce65275011fd7ff1d87a8bce3d7427f49afeadca56ac182f", func := "countermand/countermandlaw15.DealSame", spec := "dealSame", inPlace := ["slices.overlaps[countermand/api.Order]"], unfollowed := true, recurses := true, apart := false, narrowed := true }
def DealSameUptoSaid : Prop := dealSameUptoRow.holds Try.pinned (OpenSpec.upto dealSameSpec)

end Rows
end Go.Proofs.Ytlhebimfkdcidaa
