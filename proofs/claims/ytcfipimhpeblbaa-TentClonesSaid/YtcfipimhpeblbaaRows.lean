/-
  No cell of these rows narrows 'for every input' (looked for: loops, veiled, ifaces, maps, wideKeys, modest, calm, conditions, laid).
  DERIVED. THE GIVEN ROWS OF THIS SEAT. 3 by the template 'for every input the law returns true; each argument reads behind the call as it read before'; 0 by the template 'total and deterministic' (their statements: YtcfipimhpeblbaaTotals.lean).
  GIVEN WITH THE SEED: the statements are not yours to turn. If you find one false, say at which input.
  Laid BY PROGRAM, IN A SANDBOX (cutbox-rows.mjs): the forced cells as the released guide's own fill.sh prints them over the translation fd711120f7df0656… (all of the seat's roots in one cut). By AI agents, Wed Nov 11 2026. No macro, syntax, notation, axiom, sorry.
-/
import Derived.Test.YtcfipimhpeblbaaChecked
import GoSem.Claim
import GoSem.ClaimJoined
import GoSem.ClaimMapViews
import Derived.JoinedTies
import Derived.KernelRfl
namespace Go.Proofs.Ytcfipimhpeblbaa
/- THE CELL 'sum', in the pinned program and in every row, IS THE sha256 OF THE DUMP (.gsa) THAT YtcfipimhpeblbaaProg.lean LOADS. Nothing in Lean hashes anything: it is a label: what it is worth is what the hold of that sum in a sandbox is worth. -/
noncomputable def Try.pinned : Pinned := { name := "ytcfipimhpeblbaa", sum := "fd711120f7df0656cd8e894e07f1e5f1e72fe44f26381263c49e8a5426dc8068", checked := Try.checked }
namespace Rows
def none {H : Type} : Left H := { results := [], args := [] }

/-- 'countermandlaw18.TentRuns': WHATEVER THE INPUT: true; the input reads as it did. -/
def tentRunsSpec : ChangeSpec := { name := "tentRuns", fn := fun _ => fun
  | [d] => { results := [.lit (.bool true)], args := [d] }
  | _ => none }
def tentRunsRow : OpenClaim := { program := "ytcfipimhpeblbaa", sum := "fd711120f7df0656cd8e894e07f1e5f1e72fe44f26381263c49e8a5426dc8068", func := "countermand/countermandlaw18.TentRuns", spec := "tentRuns", unfollowed := true, recurses := true, apart := false }
def TentRunsSaid : Prop := tentRunsRow.holds Try.pinned (OpenSpec.ofChange tentRunsSpec)

/-- ITS FALSE NEIGHBOUR: 'it returns false'. Refute it at one input. -/
def tentRunsWrong : ChangeSpec := { name := "tentRuns", fn := fun _ => fun
  | [d] => { results := [.lit (.bool false)], args := [d] }
  | _ => none }
def TentRunsWrongFalsely : Prop := tentRunsRow.holds Try.pinned (OpenSpec.ofChange tentRunsWrong)

/-- 'countermandlaw18.TentFits': WHATEVER THE INPUT: true; the input reads as it did. -/
def tentFitsSpec : ChangeSpec := { name := "tentFits", fn := fun _ => fun
  | [d1, d2, d3] => { results := [.lit (.bool true)], args := [d1, d2, d3] }
  | _ => none }
def tentFitsRow : OpenClaim := { program := "ytcfipimhpeblbaa", sum := "fd711120f7df0656cd8e894e07f1e5f1e72fe44f26381263c49e8a5426dc8068", func := "countermand/countermandlaw18.TentFits", spec := "tentFits", unfollowed := true, recurses := true, apart := false }
def TentFitsSaid : Prop := tentFitsRow.holds Try.pinned (OpenSpec.ofChange tentFitsSpec)

/-- ITS FALSE NEIGHBOUR: 'it returns false'. Refute it at one input. -/
def tentFitsWrong : ChangeSpec := { name := "tentFits", fn := fun _ => fun
  | [d1, d2, d3] => { results := [.lit (.bool false)], args := [d1, d2, d3] }
  | _ => none }
def TentFitsWrongFalsely : Prop := tentFitsRow.holds Try.pinned (OpenSpec.ofChange tentFitsWrong)

/-- 'countermandlaw18.TentClones': WHATEVER THE INPUT: true; the input reads as it did. -/
def tentClonesSpec : ChangeSpec := { name := "tentClones", fn := fun _ => fun
  | [d1, d2, d3] => { results := [.lit (.bool true)], args := [d1, d2, d3] }
  | _ => none }
def tentClonesRow : OpenClaim := { program := "ytcfipimhpeblbaa", sum := "fd711120f7df0656cd8e894e07f1e5f1e72fe44f26381263c49e8a5426dc8068", func := "countermand/countermandlaw18.TentClones", spec := "tentClones", unfollowed := true, recurses := true, apart := false }
def TentClonesSaid : Prop := tentClonesRow.holds Try.pinned (OpenSpec.ofChange tentClonesSpec)

/-- ITS FALSE NEIGHBOUR: 'it returns false'. Refute it at one input. -/
def tentClonesWrong : ChangeSpec := { name := "tentClones", fn := fun _ => fun
  | [d1, d2, d3] => { results := [.lit (.bool false)], args := [d1, d2, d3] }
  | _ => none }
def TentClonesWrongFalsely : Prop := tentClonesRow.holds Try.pinned (OpenSpec.ofChange tentClonesWrong)

/- THE SECOND FORM. 'bulk': how many values and letters a reading holds, each counted each time it is reached (what is shared counts as often as it is met; a slice's spare places count too). A statement '..UptoSaid' is the law's where the arguments, and the package variables that the reading takes, are together of bulk at most 1048576: NARROWER than '..Said'. Prove '..Said' where nothing that the law and all that it calls make is longer than what came in: it says more and counts as full. Else prove '..UptoSaid'. A law counts once. -/
mutual
def uptoBulk {H : Type} : DataW H → Nat
  | .lit (.string bytes) => bytes.length + 1
  | .lit _ => 1
  | .nil => 1
  | .ptr d => uptoBulk d + 1
  | .slice elems spare => uptoBulkAll elems + uptoBulkAll spare + 1
  | .agg parts => uptoBulkAll parts + 1
  | .iface _ d => uptoBulk d + 1
  | .map entries => uptoBulkEntries entries + 1
  | .held _ => 1
def uptoBulkAll {H : Type} : List (DataW H) → Nat
  | [] => 0
  | d :: r => uptoBulk d + uptoBulkAll r
def uptoBulkEntries {H : Type} : List (Lit × DataW H) → Nat
  | [] => 0
  | x :: r => uptoBulkEntry x + uptoBulkEntries r
def uptoBulkEntry {H : Type} : Lit × DataW H → Nat
  | (.string bytes, d) => bytes.length + uptoBulk d + 1
  | (_, d) => uptoBulk d + 1
 end
def uptoSmall : (H : Type) → List (DataW H) → Bool := fun _ ds => decide (uptoBulkAll ds ≤ 1048576)
def OpenSpec.upto (s : _root_.Go.ChangeSpec) : _root_.Go.OpenSpec := { _root_.Go.OpenSpec.ofChange s with cond := some uptoSmall }

/-- 'countermandlaw18.TentRuns', WHERE WHAT IT READS IS OF BULK AT MOST 1048576: true; the input reads as it did. -/
def tentRunsUptoRow : OpenClaim := { program := "ytcfipimhpeblbaa", sum := "fd711120f7df0656cd8e894e07f1e5f1e72fe44f26381263c49e8a5426dc8068", func := "countermand/countermandlaw18.TentRuns", spec := "tentRuns", unfollowed := true, recurses := true, apart := false, narrowed := true }
def TentRunsUptoSaid : Prop := tentRunsUptoRow.holds Try.pinned (OpenSpec.upto tentRunsSpec)

/-- 'countermandlaw18.TentFits', WHERE WHAT IT READS IS OF BULK AT MOST 1048576: true; the input reads as it did. -/
def tentFitsUptoRow : OpenClaim := { program := "ytcfipimhpeblbaa", sum := "fd711120f7df0656cd8e894e07f1e5f1e72fe44f26381263c49e8a5426dc8068", func := "countermand/countermandlaw18.TentFits", spec := "tentFits", unfollowed := true, recurses := true, apart := false, narrowed := true }
def TentFitsUptoSaid : Prop := tentFitsUptoRow.holds Try.pinned (OpenSpec.upto tentFitsSpec)

/-- 'countermandlaw18.TentClones', WHERE WHAT IT READS IS OF BULK AT MOST 1048576: true; the input reads as it did. -/
def tentClonesUptoRow : OpenClaim := { program := "ytcfipimhpeblbaa", sum := "fd711120f7df0656cd8e894e07f1e5f1e72fe44f26381263c49e8a5426dc8068", func := "countermand/countermandlaw18.TentClones", spec := "tentClones", unfollowed := true, recurses := true, apart := false, narrowed := true }
def TentClonesUptoSaid : Prop := tentClonesUptoRow.holds Try.pinned (OpenSpec.upto tentClonesSpec)

end Rows
end Go.Proofs.Ytcfipimhpeblbaa
