/-
  DERIVED. GIVEN WITH THE SEED: THE CARDS: each row of YteebmpbplenikaaDoorRows.lean that lists a variable, with what it lists TIED to the program's text (the seventh form; the later family's looks); each row that meets fmt, with fmt's text TOLD by the authors' own Lean function (tested against real Go, not proved from fmt's source: count such statements apart). THE CARD IS WHAT COUNTS. Prove the row's statement (the work); the ties are given (YteebmpbplenikaaDoorTie.lean); close each card by the builder's one call (the guide's Derived/Test/ToyasCard.lean, 'card_holds'). Laid BY PROGRAM, IN A SANDBOX (cutbox-door.mjs). By AI agents, Wed Nov 11 2026. No macro, syntax, notation, axiom, sorry.
-/
import Derived.Test.YteebmpbplenikaaDoorRows
import GoSem.ClaimSeven
namespace Go.Proofs.YteebmpbplenikaaDoor
namespace Rows

/-- THE TIED CARD OF 'countermandlaw10.EffectPuts'. -/
def effectPutsCard : Claim7 := { stood := { row := effectPutsRow, standIns := [], harness := (true, "60d6a18a00e824e6aa59aaf77d453703a358d32786ec607c7e26ad50bf44c479"), looks := false }, kinds := [], alts := [], laidByText := true, laidKinds := [.data, .data, .data, .data], laidTests := true, laidLooks := .later }
def EffectPutsCardSaid : Prop := Claim7.holds Tryd.pinned (.plain (OpenSpec.ofChange effectPutsSpec)) effectPutsCard

/-- THE TIED CARD OF 'countermandlaw10.EffectWants'. -/
def effectWantsCard : Claim7 := { stood := { row := effectWantsRow, standIns := [], harness := (true, "60d6a18a00e824e6aa59aaf77d453703a358d32786ec607c7e26ad50bf44c479"), looks := false }, kinds := [], alts := [], laidByText := true, laidKinds := [.data, .data, .data, .data], laidTests := true, laidLooks := .later }
def EffectWantsCardSaid : Prop := Claim7.holds Tryd.pinned (.plain (OpenSpec.ofChange effectWantsSpec)) effectWantsCard

/-- THE TIED CARD OF 'countermandlaw10.EffectTexts'. -/
def effectTextsCard : Claim7 := { stood := { row := effectTextsRow, standIns := [], harness := (true, "60d6a18a00e824e6aa59aaf77d453703a358d32786ec607c7e26ad50bf44c479"), looks := false }, kinds := [], alts := [], laidByText := true, laidKinds := [.data, .data, .data, .data], laidTests := true, laidLooks := .later }
def EffectTextsCardSaid : Prop := Claim7.holds Tryd.pinned (.plain (OpenSpec.ofChange effectTextsSpec)) effectTextsCard

/-- THE SECOND FORM's CARD OF 'countermandlaw10.EffectPuts'. -/
def effectPutsUptoCard : Claim7 := { stood := { row := effectPutsUptoRow, standIns := [], harness := (true, "60d6a18a00e824e6aa59aaf77d453703a358d32786ec607c7e26ad50bf44c479"), looks := false }, kinds := [], alts := [], laidByText := true, laidKinds := [.data, .data, .data, .data], laidTests := true, laidLooks := .later }
def EffectPutsUptoCardSaid : Prop := Claim7.holds Tryd.pinned (.plain (OpenSpec.upto effectPutsSpec)) effectPutsUptoCard

/-- THE SECOND FORM's CARD OF 'countermandlaw10.EffectWants'. -/
def effectWantsUptoCard : Claim7 := { stood := { row := effectWantsUptoRow, standIns := [], harness := (true, "60d6a18a00e824e6aa59aaf77d453703a358d32786ec607c7e26ad50bf44c479"), looks := false }, kinds := [], alts := [], laidByText := true, laidKinds := [.data, .data, .data, .data], laidTests := true, laidLooks := .later }
def EffectWantsUptoCardSaid : Prop := Claim7.holds Tryd.pinned (.plain (OpenSpec.upto effectWantsSpec)) effectWantsUptoCard

/-- THE SECOND FORM's CARD OF 'countermandlaw10.EffectTexts'. -/
def effectTextsUptoCard : Claim7 := { stood := { row := effectTextsUptoRow, standIns := [], harness := (true, "60d6a18a00e824e6aa59aaf77d453703a358d32786ec607c7e26ad50bf44c479"), looks := false }, kinds := [], alts := [], laidByText := true, laidKinds := [.data, .data, .data, .data], laidTests := true, laidLooks := .later }
def EffectTextsUptoCardSaid : Prop := Claim7.holds Tryd.pinned (.plain (OpenSpec.upto effectTextsSpec)) effectTextsUptoCard
end Rows
end Go.Proofs.YteebmpbplenikaaDoor
