/-
  DERIVED. GIVEN WITH THE SEED: THE CARDS: each row of YtihlmjapddjjjadDoorRows.lean that lists a variable, with what it lists TIED to the program's text (the seventh form; the later family's looks); each row that meets fmt, with fmt's text TOLD by the authors' own Lean function (tested against real Go, not proved from fmt's source: count such statements apart). THE CARD IS WHAT COUNTS. Prove the row's statement (the work); the ties are given (YtihlmjapddjjjadDoorTie.lean); close each card by the builder's one call (the guide's Derived/Test/ToyasCard.lean, 'card_holds'). Laid BY PROGRAM, IN A SANDBOX (cutbox-door.mjs). By AI agents, Wed Nov 11 2026. No macro, syntax, notation, axiom, sorry.
-/
import Derived.Test.YtihlmjapddjjjadDoorRows
import GoSem.ClaimSeven
namespace Go.Proofs.YtihlmjapddjjjadDoor
namespace Rows

/-- THE TIED CARD OF 'laws.FnExactWireGap'. -/
def fnExactWireGapCard : Claim7 := { stood := { row := fnExactWireGapRow, standIns := [], harness := (true, "80893adc3b20b25a22463f2c32de7242c650f146c668b06a723d9c26080a76ab"), looks := false }, kinds := [], alts := [], laidByText := true, laidKinds := [.data, .data], laidTests := true, laidLooks := .later }
def FnExactWireGapCardSaid : Prop := Claim7.holds Tryd.pinned (.plain (OpenSpec.ofChange fnExactWireGapSpec)) fnExactWireGapCard

/-- THE SECOND FORM's CARD OF 'laws.FnExactWireGap'. -/
def fnExactWireGapUptoCard : Claim7 := { stood := { row := fnExactWireGapUptoRow, standIns := [], harness := (true, "80893adc3b20b25a22463f2c32de7242c650f146c668b06a723d9c26080a76ab"), looks := false }, kinds := [], alts := [], laidByText := true, laidKinds := [.data, .data], laidTests := true, laidLooks := .later }
def FnExactWireGapUptoCardSaid : Prop := Claim7.holds Tryd.pinned (.plain (OpenSpec.upto fnExactWireGapSpec)) fnExactWireGapUptoCard
end Rows
end Go.Proofs.YtihlmjapddjjjadDoor
