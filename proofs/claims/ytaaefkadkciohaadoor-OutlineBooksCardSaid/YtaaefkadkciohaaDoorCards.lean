/-
  DERIVED. GIVEN WITH THE SEED: THE CARDS: each row of YtaaefkadkciohaaDoorRows.lean that lists a variable, with what it lists TIED to the program's text (the seventh form; the later family's looks); each row that meets fmt, with fmt's text TOLD by the authors' own Lean function (tested against real Go, not proved from fmt's source: count such statements apart). THE CARD IS WHAT COUNTS. Prove the row's statement (the work); the ties are given (YtaaefkadkciohaaDoorTie.lean); close each card by the builder's one call (the guide's Derived/Test/ToyasCard.lean, 'card_holds'). Laid BY PROGRAM, IN A SANDBOX (cutbox-door.mjs). By AI agents, Wed Nov 11 2026. No macro, syntax, notation, axiom, sorry.
-/
import Derived.Test.YtaaefkadkciohaaDoorRows
import GoSem.ClaimSeven
namespace Go.Proofs.YtaaefkadkciohaaDoor
namespace Rows

/-- THE TIED CARD OF 'countermandlaw39.OutlineChanges'. -/
def outlineChangesCard : Claim7 := { stood := { row := outlineChangesRow, standIns := [], harness := (true, "a2b50eca03547f46eb0bd288abe8051755d2567beb43eded34ac8b08c3aacab9"), looks := false }, kinds := [], alts := [], laidByText := true, laidKinds := [.data, .data, .data, .data, .data], laidTests := true, laidLooks := .later }
def OutlineChangesCardSaid : Prop := Claim7.holds Tryd.pinned (.plain (OpenSpec.ofChange outlineChangesSpec)) outlineChangesCard

/-- THE TIED CARD OF 'countermandlaw39.OutlineBooks'. -/
def outlineBooksCard : Claim7 := { stood := { row := outlineBooksRow, standIns := [], harness := (true, "a2b50eca03547f46eb0bd288abe8051755d2567beb43eded34ac8b08c3aacab9"), looks := false }, kinds := [], alts := [], laidByText := true, laidKinds := [.data, .data, .data, .data, .data], laidTests := true, laidLooks := .later }
def OutlineBooksCardSaid : Prop := Claim7.holds Tryd.pinned (.plain (OpenSpec.ofChange outlineBooksSpec)) outlineBooksCard

/-- THE TIED CARD OF 'countermandlaw39.OutlineRequests'. -/
def outlineRequestsCard : Claim7 := { stood := { row := outlineRequestsRow, standIns := [], harness := (true, "a2b50eca03547f46eb0bd288abe8051755d2567beb43eded34ac8b08c3aacab9"), looks := false }, kinds := [], alts := [], laidByText := true, laidKinds := [.data, .data, .data, .data, .data, .data], laidTests := true, laidLooks := .later }
def OutlineRequestsCardSaid : Prop := Claim7.holds Tryd.pinned (.plain (OpenSpec.ofChange outlineRequestsSpec)) outlineRequestsCard

/-- THE SECOND FORM's CARD OF 'countermandlaw39.OutlineChanges'. -/
def outlineChangesUptoCard : Claim7 := { stood := { row := outlineChangesUptoRow, standIns := [], harness := (true, "a2b50eca03547f46eb0bd288abe8051755d2567beb43eded34ac8b08c3aacab9"), looks := false }, kinds := [], alts := [], laidByText := true, laidKinds := [.data, .data, .data, .data, .data], laidTests := true, laidLooks := .later }
def OutlineChangesUptoCardSaid : Prop := Claim7.holds Tryd.pinned (.plain (OpenSpec.upto outlineChangesSpec)) outlineChangesUptoCard

/-- THE SECOND FORM's CARD OF 'countermandlaw39.OutlineBooks'. -/
def outlineBooksUptoCard : Claim7 := { stood := { row := outlineBooksUptoRow, standIns := [], harness := (true, "a2b50eca03547f46eb0bd288abe8051755d2567beb43eded34ac8b08c3aacab9"), looks := false }, kinds := [], alts := [], laidByText := true, laidKinds := [.data, .data, .data, .data, .data], laidTests := true, laidLooks := .later }
def OutlineBooksUptoCardSaid : Prop := Claim7.holds Tryd.pinned (.plain (OpenSpec.upto outlineBooksSpec)) outlineBooksUptoCard

/-- THE SECOND FORM's CARD OF 'countermandlaw39.OutlineRequests'. -/
def outlineRequestsUptoCard : Claim7 := { stood := { row := outlineRequestsUptoRow, standIns := [], harness := (true, "a2b50eca03547f46eb0bd288abe8051755d2567beb43eded34ac8b08c3aacab9"), looks := false }, kinds := [], alts := [], laidByText := true, laidKinds := [.data, .data, .data, .data, .data, .data], laidTests := true, laidLooks := .later }
def OutlineRequestsUptoCardSaid : Prop := Claim7.holds Tryd.pinned (.plain (OpenSpec.upto outlineRequestsSpec)) outlineRequestsUptoCard
end Rows
end Go.Proofs.YtaaefkadkciohaaDoor
