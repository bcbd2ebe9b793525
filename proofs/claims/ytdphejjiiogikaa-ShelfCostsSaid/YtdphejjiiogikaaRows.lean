/-
  No cell of these rows narrows 'for every input' (looked for: loops, veiled, ifaces, maps, wideKeys, modest, calm, conditions, laid).
  DERIVED. THE GIVEN ROWS OF THIS SEAT. 6 by the template 'for every input the law returns true; each argument reads behind the call as it read before'; 0 by the template 'total and deterministic' (their statements: YtdphejjiiogikaaTotals.lean).
  GIVEN WITH THE SEED: the statements are not yours to turn. If you find one false, say at which input.
  Laid BY PROGRAM, IN A SANDBOX (cutbox-rows.mjs): the forced cells as the released guide's own fill.sh prints them over the translation e3edcf16b84355a1… (all of the seat's roots in one cut). By AI agents, Wed Nov 11 2026. No macro, syntax, notation, axiom, sorry.
-/
import Derived.Test.YtdphejjiiogikaaChecked
import GoSem.Claim
import GoSem.ClaimJoined
import GoSem.ClaimMapViews
import Derived.JoinedTies
import Derived.KernelRfl
namespace Go.Proofs.Ytdphejjiiogikaa
/- THE CELL 'sum', in the pinned program and in every row, IS THE sha256 OF THE DUMP (.gsa) THAT YtdphejjiiogikaaProg.lean LOADS. Nothing in Lean hashes anything: it is a label: what it is worth is what the hold of that sum in a sandbox is worth. -/
noncomputable def Try.pinned : Pinned := { name := "ytdphejjiiogikaa", sum := "e3edcf16b84355a10c148b031b9b2b70fd053c54ac0e46bf8ad0e870fa031eff", checked := Try.checked }
namespace Rows
def none {H : Type} : Left H := { results := [], args := [] }

/-- 'countermandlaw13.ShelfAdds': WHATEVER THE INPUT: true; the input reads as it did. -/
def shelfAddsSpec : ChangeSpec := { name := "shelfAdds", fn := fun _ => fun
  | [d1, d2, d3] => { results := [.lit (.bool true)], args := [d1, d2, d3] }
  | _ => none }
def shelfAddsRow : OpenClaim := { program := "ytdphejjiiogikaa", sum := "e3edcf16b84355a10c148b031b9b2b70fd053c54ac0e46bf8ad0e870fa031eff", func := "countermand/countermandlaw13.ShelfAdds", spec := "shelfAdds", apart := false }
def ShelfAddsSaid : Prop := shelfAddsRow.holds Try.pinned (OpenSpec.ofChange shelfAddsSpec)

/-- ITS FALSE NEIGHBOUR: 'it returns false'. Refute it at one input. -/
def shelfAddsWrong : ChangeSpec := { name := "shelfAdds", fn := fun _ => fun
  | [d1, d2, d3] => { results := [.lit (.bool false)], args := [d1, d2, d3] }
  | _ => none }
def ShelfAddsWrongFalsely : Prop := shelfAddsRow.holds Try.pinned (OpenSpec.ofChange shelfAddsWrong)

/-- 'countermandlaw13.ShelfCosts': WHATEVER THE INPUT: true; the input reads as it did. -/
def shelfCostsSpec : ChangeSpec := { name := "shelfCosts", fn := fun _ => fun
  | [d1, d2, d3] => { results := [.lit (.bool true)], args := [d1, d2, d3] }
  | _ => none }
def shelfCostsRow : OpenClaim := { program := "ytdphejjiiogikaa", sum := "e3edcf16b84355a10c148b031b9b2b70fd053c54ac0e46bf8ad0e870fa031eff", func := "countermand/countermandlaw13.ShelfCosts", spec := "shelfCosts", apart := false }
def ShelfCostsSaid : Prop := shelfCostsRow.holds Try.pinned (OpenSpec.ofChange shelfCostsSpec)

/-- ITS FALSE NEIGHBOUR: 'it returns false'. Refute it at one input. -/
def shelfCostsWrong : ChangeSpec := { name := "shelfCosts", fn := fun _ => fun
  | [d1, d2, d3] => { results := [.lit (.bool false)], args := [d1, d2, d3] }
  | _ => none }
def ShelfCostsWrongFalsely : Prop := shelfCostsRow.holds Try.pinned (OpenSpec.ofChange shelfCostsWrong)

/-- 'countermandlaw13.ShelfBack': WHATEVER THE INPUT: true; the input reads as it did. -/
def shelfBackSpec : ChangeSpec := { name := "shelfBack", fn := fun _ => fun
  | [d1, d2, d3] => { results := [.lit (.bool true)], args := [d1, d2, d3] }
  | _ => none }
def shelfBackRow : OpenClaim := { program := "ytdphejjiiogikaa", sum := "e3edcf16b84355a10c148b031b9b2b70fd053c54ac0e46bf8ad0e870fa031eff", func := "countermand/countermandlaw13.ShelfBack", spec := "shelfBack", apart := false }
def ShelfBackSaid : Prop := shelfBackRow.holds Try.pinned (OpenSpec.ofChange shelfBackSpec)

/-- ITS FALSE NEIGHBOUR: 'it returns false'. Refute it at one input. -/
def shelfBackWrong : ChangeSpec := { name := "shelfBack", fn := fun _ => fun
  | [d1, d2, d3] => { results := [.lit (.bool false)], args := [d1, d2, d3] }
  | _ => none }
def ShelfBackWrongFalsely : Prop := shelfBackRow.holds Try.pinned (OpenSpec.ofChange shelfBackWrong)

/-- 'countermandlaw14.PurseGives': WHATEVER THE INPUT: true; the input reads as it did. -/
def purseGivesSpec : ChangeSpec := { name := "purseGives", fn := fun _ => fun
  | [d1, d2, d3] => { results := [.lit (.bool true)], args := [d1, d2, d3] }
  | _ => none }
def purseGivesRow : OpenClaim := { program := "ytdphejjiiogikaa", sum := "e3edcf16b84355a10c148b031b9b2b70fd053c54ac0e46bf8ad0e870fa031eff", func := "countermand/countermandlaw14.PurseGives", spec := "purseGives", apart := false }
def PurseGivesSaid : Prop := purseGivesRow.holds Try.pinned (OpenSpec.ofChange purseGivesSpec)

/-- ITS FALSE NEIGHBOUR: 'it returns false'. Refute it at one input. -/
def purseGivesWrong : ChangeSpec := { name := "purseGives", fn := fun _ => fun
  | [d1, d2, d3] => { results := [.lit (.bool false)], args := [d1, d2, d3] }
  | _ => none }
def PurseGivesWrongFalsely : Prop := purseGivesRow.holds Try.pinned (OpenSpec.ofChange purseGivesWrong)

/-- 'countermandlaw14.PurseTotals': WHATEVER THE INPUT: true; the input reads as it did. -/
def purseTotalsSpec : ChangeSpec := { name := "purseTotals", fn := fun _ => fun
  | [d1, d2, d3] => { results := [.lit (.bool true)], args := [d1, d2, d3] }
  | _ => none }
def purseTotalsRow : OpenClaim := { program := "ytdphejjiiogikaa", sum := "e3edcf16b84355a10c148b031b9b2b70fd053c54ac0e46bf8ad0e870fa031eff", func := "countermand/countermandlaw14.PurseTotals", spec := "purseTotals", apart := false }
def PurseTotalsSaid : Prop := purseTotalsRow.holds Try.pinned (OpenSpec.ofChange purseTotalsSpec)

/-- ITS FALSE NEIGHBOUR: 'it returns false'. Refute it at one input. -/
def purseTotalsWrong : ChangeSpec := { name := "purseTotals", fn := fun _ => fun
  | [d1, d2, d3] => { results := [.lit (.bool false)], args := [d1, d2, d3] }
  | _ => none }
def PurseTotalsWrongFalsely : Prop := purseTotalsRow.holds Try.pinned (OpenSpec.ofChange purseTotalsWrong)

/-- 'countermandlaw14.PurseBack': WHATEVER THE INPUT: true; the input reads as it did. -/
def purseBackSpec : ChangeSpec := { name := "purseBack", fn := fun _ => fun
  | [d1, d2, d3] => { results := [.lit (.bool true)], args := [d1, d2, d3] }
  | _ => none }
def purseBackRow : OpenClaim := { program := "ytdphejjiiogikaa", sum := "e3edcf16b84355a10c148b031b9b2b70fd053c54ac0e46bf8ad0e870fa031eff", func := "countermand/countermandlaw14.PurseBack", spec := "purseBack", apart := false }
def PurseBackSaid : Prop := purseBackRow.holds Try.pinned (OpenSpec.ofChange purseBackSpec)

/-- ITS FALSE NEIGHBOUR: 'it returns false'. Refute it at one input. -/
def purseBackWrong : ChangeSpec := { name := "purseBack", fn := fun _ => fun
  | [d1, d2, d3] => { results := [.lit (.bool false)], args := [d1, d2, d3] }
  | _ => none }
def PurseBackWrongFalsely : Prop := purseBackRow.holds Try.pinned (OpenSpec.ofChange purseBackWrong)

/- THE SECOND FORM. 'bulk': how many values and letters a reading holds, each counted each time it is reached (what is shared counts as often as it is met; a slice's spare places count too). A statement '..UptoSaid' is the law's where the arguments, and the package variables that the reading takes, are together of bulk at most 1048576: NARROWER than '..Said'. Prove '..Said' where nothing that the law and all that it calls make is longer than what came in: it says more and counts as full. Else prove '..UptoSaid'. A law counts once. -/
mutual
def uptoBulk {H : Type} : DataW H → Nat
  | .lit (.string bytes) => bytes.length + 1
  | .lit _ => 1
  | .nil => 1
  | .ptr d => uptoBulk d + 1
  | .slice elems spare => uptoBulkAll elems + uptoBulkAll spare + 1
  | .agg parts => uptoBulkAll parts + 1
  | .iface _ d => uptoBulk d + 1
  | .map entries => uptoBulkEntries entries + 1
  | .held _ => 1
def uptoBulkAll {H : Type} : List (DataW H) → Nat
  | [] => 0
  | d :: r => uptoBulk d + uptoBulkAll r
def uptoBulkEntries {H : Type} : List (Lit × DataW H) → Nat
  | [] => 0
  | x :: r => uptoBulkEntry x + uptoBulkEntries r
def uptoBulkEntry {H : Type} : Lit × DataW H → Nat
  | (.string bytes, d) => bytes.length + uptoBulk d + 1
  | (_, d) => uptoBulk d + 1
 end
def uptoSmall : (H : Type) → List (DataW H) → Bool := fun _ ds => decide (uptoBulkAll ds ≤ 1048576)
def OpenSpec.upto (s : _root_.Go.ChangeSpec) : _root_.Go.OpenSpec := { _root_.Go.OpenSpec.ofChange s with cond := some uptoSmall }

/-- 'countermandlaw13.ShelfAdds', WHERE WHAT IT READS IS OF BULK AT MOST 1048576: true; the input reads as it did. -/
def shelfAddsUptoRow : OpenClaim := { program := "ytdphejjiiogikaa", sum := "e3edcf16b84355a10c148b031b9b2b70fd053c54ac0e46bf8ad0e870fa031eff", func := "countermand/countermandlaw13.ShelfAdds", spec := "shelfAdds", apart := false, narrowed := true }
def ShelfAddsUptoSaid : Prop := shelfAddsUptoRow.holds Try.pinned (OpenSpec.upto shelfAddsSpec)

/-- 'countermandlaw13.ShelfCosts', WHERE WHAT IT READS IS OF BULK AT MOST 1048576: true; the input reads as it did. -/
def shelfCostsUptoRow : OpenClaim := { program := "ytdphejjiiogikaa", sum := "e3edcf16b84355a10c148b031b9b2b70fd053c54ac0e46bf8ad0e870fa031eff", func := "countermand/countermandlaw13.ShelfCosts", spec := "shelfCosts", apart := false, narrowed := true }
def ShelfCostsUptoSaid : Prop := shelfCostsUptoRow.holds Try.pinned (OpenSpec.upto shelfCostsSpec)

/-- 'countermandlaw13.ShelfBack', WHERE WHAT IT READS IS OF BULK AT MOST 1048576: true; the input reads as it did. -/
def shelfBackUptoRow : OpenClaim := { program := "ytdphejjiiogikaa", sum := "e3edcf16b84355a10c148b031b9b2b70fd053c54ac0e46bf8ad0e870fa031eff", func := "countermand/countermandlaw13.ShelfBack", spec := "shelfBack", apart := false, narrowed := true }
def ShelfBackUptoSaid : Prop := shelfBackUptoRow.holds Try.pinned (OpenSpec.upto shelfBackSpec)

/-- 'countermandlaw14.PurseGives', WHERE WHAT IT READS IS OF BULK AT MOST 1048576: true; the input reads as it did. -/
def purseGivesUptoRow : OpenClaim := { program := "ytdphejjiiogikaa", sum := "e3edcf16b84355a10c148b031b9b2b70fd053c54ac0e46bf8ad0e870fa031eff", func := "countermand/countermandlaw14.PurseGives", spec := "purseGives", apart := false, narrowed := true }
def PurseGivesUptoSaid : Prop := purseGivesUptoRow.holds Try.pinned (OpenSpec.upto purseGivesSpec)

/-- 'countermandlaw14.PurseTotals', WHERE WHAT IT READS IS OF BULK AT MOST 1048576: true; the input reads as it did. -/
def purseTotalsUptoRow : OpenClaim := { program := "ytdphejjiiogikaa", sum := "e3edcf16b84355a10c148b031b9b2b70fd053c54ac0e46bf8ad0e870fa031eff", func := "countermand/countermandlaw14.PurseTotals", spec := "purseTotals", apart := false, narrowed := true }
def PurseTotalsUptoSaid : Prop := purseTotalsUptoRow.holds Try.pinned (OpenSpec.upto purseTotalsSpec)

/-- 'countermandlaw14.PurseBack', WHERE WHAT IT READS IS OF BULK AT MOST 1048576: true; the input reads as it did. -/
def purseBackUptoRow : OpenClaim := { program := "ytdphejjiiogikaa", sum := "e3edcf16b84355a10c148b031b9b2b70fd053c54ac0e46bf8ad0e870fa031eff", func := "countermand/countermandlaw14.PurseBack", spec := "purseBack", apart := false, narrowed := true }
def PurseBackUptoSaid : Prop := purseBackUptoRow.holds Try.pinned (OpenSpec.upto purseBackSpec)

end Rows
end Go.Proofs.Ytdphejjiiogikaa
