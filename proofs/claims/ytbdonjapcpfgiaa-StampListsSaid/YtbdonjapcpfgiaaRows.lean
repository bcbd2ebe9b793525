/-
  No cell of these rows narrows 'for every input' (looked for: loops, veiled, ifaces, maps, wideKeys, modest, calm, conditions, laid).
  DERIVED. THE GIVEN ROWS OF THIS SEAT. 3 by the template 'for every input the law returns true; each argument reads behind the call as it read before'; 0 by the template 'total and deterministic' (their statements: YtbdonjapcpfgiaaTotals.lean).
  GIVEN WITH THE SEED: the statements are not yours to turn. If you find one false, say at which input.
  Laid BY PROGRAM, IN A SANDBOX (cutbox-rows.mjs): the forced cells as the released guide's own fill.sh prints them over the translation ccf797867df47c9d… (all of the seat's roots in one cut). By AI agents, Wed Nov 11 2026. No macro, syntax, notation, axiom, sorry.
-/
import Derived.Test.YtbdonjapcpfgiaaChecked
import GoSem.Claim
import GoSem.ClaimJoined
import GoSem.ClaimMapViews
import Derived.JoinedTies
import Derived.KernelRfl
namespace Go.Proofs.Ytbdonjapcpfgiaa
/- THE CELL 'sum', in the pinned program and in every row, IS THE sha256 OF THE DUMP (.gsa) THAT YtbdonjapcpfgiaaProg.lean LOADS. Nothing in Lean hashes anything: it is a label: what it is worth is what the hold of that sum in a sandbox is worth. -/
noncomputable def Try.pinned : Pinned := { name := "ytbdonjapcpfgiaa", sum := "ccf797867df47c9d36257fe76f16f5abe40cafb00614fd59d556cc37a648d603", checked := Try.checked }
namespace Rows
def none {H : Type} : Left H := { results := [], args := [] }

/-- 'countermandlaw07.StampLies': WHATEVER THE INPUT: true; the input reads as it did. -/
def stampLiesSpec : ChangeSpec := { name := "stampLies", fn := fun _ => fun
  | [d1, d2] => { results := [.lit (.bool true)], args := [d1, d2] }
  | _ => none }
def stampLiesRow : OpenClaim := { program := "ytbdonjapcpfgiaa", sum := "ccf797867df47c9d36257fe76f16f5abe40cafb00614fd59d556cc37a648d603", func := "countermand/countermandlaw07.StampLies", spec := "stampLies", unfollowed := true, recurses := true, apart := false }
def StampLiesSaid : Prop := stampLiesRow.holds Try.pinned (OpenSpec.ofChange stampLiesSpec)

/-- ITS FALSE NEIGHBOUR: 'it returns false'. Refute it at one input. -/
def stampLiesWrong : ChangeSpec := { name := "stampLies", fn := fun _ => fun
  | [d1, d2] => { results := [.lit (.bool false)], args := [d1, d2] }
  | _ => none }
def StampLiesWrongFalsely : Prop := stampLiesRow.holds Try.pinned (OpenSpec.ofChange stampLiesWrong)

/-- 'countermandlaw07.StampLists': WHATEVER THE INPUT: true; the input reads as it did. -/
def stampListsSpec : ChangeSpec := { name := "stampLists", fn := fun _ => fun
  | [d1, d2, d3, d4] => { results := [.lit (.bool true)], args := [d1, d2, d3, d4] }
  | _ => none }
def stampListsRow : OpenClaim := { program := "ytbdonjapcpfgiaa", sum := "ccf797867df47c9d36257fe76f16f5abe40cafb00614fd59d556cc37a648d603", func := "countermand/countermandlaw07.StampLists", spec := "stampLists", unfollowed := true, recurses := true, apart := false }
def StampListsSaid : Prop := stampListsRow.holds Try.pinned (OpenSpec.ofChange stampListsSpec)

/-- ITS FALSE NEIGHBOUR: 'it returns false'. Refute it at one input. -/
def stampListsWrong : ChangeSpec := { name := "stampLists", fn := fun _ => fun
  | [d1, d2, d3, d4] => { results := [.lit (.bool false)], args := [d1, d2, d3, d4] }
  | _ => none }
def StampListsWrongFalsely : Prop := stampListsRow.holds Try.pinned (OpenSpec.ofChange stampListsWrong)

/-- 'countermandlaw07.StampSorts': WHATEVER THE INPUT: true; the input reads as it did. -/
def stampSortsSpec : ChangeSpec := { name := "stampSorts", fn := fun _ => fun
  | [d] => { results := [.lit (.bool true)], args := [d] }
  | _ => none }
def stampSortsRow : OpenClaim := { program := "ytbdonjapcpfgiaa", sum := "ccf797867df47c9d36257fe76f16f5abe40cafb00614fd59d556cc37a648d603", func := "countermand/countermandlaw07.StampSorts", spec := "stampSorts", unfollowed := true, recurses := true, apart := false }
def StampSortsSaid : Prop := stampSortsRow.holds Try.pinned (OpenSpec.ofChange stampSortsSpec)

/-- ITS FALSE NEIGHBOUR: 'it returns false'. Refute it at one input. -/
def stampSortsWrong : ChangeSpec := { name := "stampSorts", fn := fun _ => fun
  | [d] => { results := [.lit (.bool false)], args := [d] }
  | _ => none }
def StampSortsWrongFalsely : Prop := stampSortsRow.holds Try.pinned (OpenSpec.ofChange stampSortsWrong)

/- THE SECOND FORM. 'bulk': how many values and letters a reading holds, each counted each time it is reached (what is shared counts as often as it is met; a slice's spare places count too). A statement '..UptoSaid' is the law's where the arguments, and the package variables that the reading takes, are together of bulk at most 1048576: NARROWER than '..Said'. Prove '..Said' where nothing that the law and all that it calls make is longer than what came in: it says more and counts as full. Else prove '..UptoSaid'. A law counts once. -/
mutual
def uptoBulk {H : Type} : DataW H → Nat
  | .lit (.string bytes) => bytes.length + 1
  | .lit _ => 1
  | .nil => 1
  | .ptr d => uptoBulk d + 1
  | .slice elems spare => uptoBulkAll elems + uptoBulkAll spare + 1
  | .agg parts => uptoBulkAll parts + 1
  | .iface _ d => uptoBulk d + 1
  | .map entries => uptoBulkEntries entries + 1
  | .held _ => 1
def uptoBulkAll {H : Type} : List (DataW H) → Nat
  | [] => 0
  | d :: r => uptoBulk d + uptoBulkAll r
def uptoBulkEntries {H : Type} : List (Lit × DataW H) → Nat
  | [] => 0
  | x :: r => uptoBulkEntry x + uptoBulkEntries r
def uptoBulkEntry {H : Type} : Lit × DataW H → Nat
  | (.string bytes, d) => bytes.length + uptoBulk d + 1
  | (_, d) => uptoBulk d + 1
 end
def uptoSmall : (H : Type) → List (DataW H) → Bool := fun _ ds => decide (uptoBulkAll ds ≤ 1048576)
def OpenSpec.upto (s : _root_.Go.ChangeSpec) : _root_.Go.OpenSpec := { _root_.Go.OpenSpec.ofChange s with cond := some uptoSmall }

/-- 'countermandlaw07.StampLies', WHERE WHAT IT READS IS OF BULK AT MOST 1048576: true; the input reads as it did. -/
def stampLiesUptoRow : OpenClaim := { program := "ytbdonjapcpfgiaa", sum := "ccf797867df47c9d36257fe76f16f5abe40cafb00614fd59d556cc37a648d603", func := "countermand/countermandlaw07.StampLies", spec := "stampLies", unfollowed := true, recurses := true, apart := false, narrowed := true }
def StampLiesUptoSaid : Prop := stampLiesUptoRow.holds Try.pinned (OpenSpec.upto stampLiesSpec)

/-- 'countermandlaw07.StampLists', WHERE WHAT IT READS IS OF BULK AT MOST 1048576: true; the input reads as it did. -/
def stampListsUptoRow : OpenClaim := { program := "ytbdonjapcpfgiaa", sum := "ccf797867df47c9d36257fe76f16f5abe40cafb00614fd59d556cc37a648d603", func := "countermand/countermandlaw07.StampLists", spec := "stampLists", unfollowed := true, recurses := true, apart := false, narrowed := true }
def StampListsUptoSaid : Prop := stampListsUptoRow.holds Try.pinned (OpenSpec.upto stampListsSpec)

/-- 'countermandlaw07.StampSorts', WHERE WHAT IT READS IS OF BULK AT MOST 1048576: true; the input reads as it did. -/
def stampSortsUptoRow : OpenClaim := { program := "ytbdonjapcpfgiaa", sum := "ccf797867df47c9d36257fe76f16f5abe40cafb00614fd59d556cc37a648d603", func := "countermand/countermandlaw07.StampSorts", spec := "stampSorts", unfollowed := true, recurses := true, apart := false, narrowed := true }
def StampSortsUptoSaid : Prop := stampSortsUptoRow.holds Try.pinned (OpenSpec.upto stampSortsSpec)

end Rows
end Go.Proofs.Ytbdonjapcpfgiaa
