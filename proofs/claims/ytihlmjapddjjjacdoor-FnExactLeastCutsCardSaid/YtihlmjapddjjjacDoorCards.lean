/-
  DERIVED. GIVEN WITH THE SEED: THE CARDS: each row of YtihlmjapddjjjacDoorRows.lean that lists a variable, with what it lists TIED to the program's text (the seventh form; the later family's looks); each row that meets fmt, with fmt's text TOLD by the authors' own Lean function (tested against real Go, not proved from fmt's source: count such statements apart). THE CARD IS WHAT COUNTS. Prove the row's statement (the work); the ties are given (YtihlmjapddjjjacDoorTie.lean); close each card by the builder's one call (the guide's Derived/Test/ToyasCard.lean, 'card_holds'). Laid BY PROGRAM, IN A SANDBOX (cutbox-door.mjs). By AI agents, Wed Nov 11 2026. No macro, syntax, notation, axiom, sorry.
-/
import Derived.Test.YtihlmjapddjjjacDoorRows
import GoSem.ClaimSeven
namespace Go.Proofs.YtihlmjapddjjjacDoor
namespace Rows

/-- THE TIED CARD OF 'laws.FnExactWiresWon'. -/
def fnExactWiresWonCard : Claim7 := { stood := { row := fnExactWiresWonRow, standIns := [], harness := (true, "e5bfb99bdad8e2a37bb5da6916545d3d50bfe82027cd50f8f29dd34be4952531"), looks := false }, kinds := [], alts := [], laidByText := true, laidKinds := [.data, .data], laidTests := true, laidLooks := .later }
def FnExactWiresWonCardSaid : Prop := Claim7.holds Tryd.pinned (.plain (OpenSpec.ofChange fnExactWiresWonSpec)) fnExactWiresWonCard

/-- THE TIED CARD OF 'laws.FnExactWiresWinner'. -/
def fnExactWiresWinnerCard : Claim7 := { stood := { row := fnExactWiresWinnerRow, standIns := [], harness := (true, "e5bfb99bdad8e2a37bb5da6916545d3d50bfe82027cd50f8f29dd34be4952531"), looks := false }, kinds := [], alts := [], laidByText := true, laidKinds := [.data, .data], laidTests := true, laidLooks := .later }
def FnExactWiresWinnerCardSaid : Prop := Claim7.holds Tryd.pinned (.plain (OpenSpec.ofChange fnExactWiresWinnerSpec)) fnExactWiresWinnerCard

/-- THE TIED CARD OF 'laws.FnExactWinningWires'. -/
def fnExactWinningWiresCard : Claim7 := { stood := { row := fnExactWinningWiresRow, standIns := [], harness := (true, "e5bfb99bdad8e2a37bb5da6916545d3d50bfe82027cd50f8f29dd34be4952531"), looks := false }, kinds := [], alts := [], laidByText := true, laidKinds := [.data, .data], laidTests := true, laidLooks := .later }
def FnExactWinningWiresCardSaid : Prop := Claim7.holds Tryd.pinned (.plain (OpenSpec.ofChange fnExactWinningWiresSpec)) fnExactWinningWiresCard

/-- THE TIED CARD OF 'laws.FnExactLeastLinks'. -/
def fnExactLeastLinksCard : Claim7 := { stood := { row := fnExactLeastLinksRow, standIns := [], harness := (true, "e5bfb99bdad8e2a37bb5da6916545d3d50bfe82027cd50f8f29dd34be4952531"), looks := false }, kinds := [], alts := [], laidByText := true, laidKinds := [.data, .data], laidTests := true, laidLooks := .later }
def FnExactLeastLinksCardSaid : Prop := Claim7.holds Tryd.pinned (.plain (OpenSpec.ofChange fnExactLeastLinksSpec)) fnExactLeastLinksCard

/-- THE TIED CARD OF 'laws.FnExactLeastCuts'. -/
def fnExactLeastCutsCard : Claim7 := { stood := { row := fnExactLeastCutsRow, standIns := [], harness := (true, "e5bfb99bdad8e2a37bb5da6916545d3d50bfe82027cd50f8f29dd34be4952531"), looks := false }, kinds := [], alts := [], laidByText := true, laidKinds := [.data, .data], laidTests := true, laidLooks := .later }
def FnExactLeastCutsCardSaid : Prop := Claim7.holds Tryd.pinned (.plain (OpenSpec.ofChange fnExactLeastCutsSpec)) fnExactLeastCutsCard

/-- THE SECOND FORM's CARD OF 'laws.FnExactWiresWon'. -/
def fnExactWiresWonUptoCard : Claim7 := { stood := { row := fnExactWiresWonUptoRow, standIns := [], harness := (true, "e5bfb99bdad8e2a37bb5da6916545d3d50bfe82027cd50f8f29dd34be4952531"), looks := false }, kinds := [], alts := [], laidByText := true, laidKinds := [.data, .data], laidTests := true, laidLooks := .later }
def FnExactWiresWonUptoCardSaid : Prop := Claim7.holds Tryd.pinned (.plain (OpenSpec.upto fnExactWiresWonSpec)) fnExactWiresWonUptoCard

/-- THE SECOND FORM's CARD OF 'laws.FnExactWiresWinner'. -/
def fnExactWiresWinnerUptoCard : Claim7 := { stood := { row := fnExactWiresWinnerUptoRow, standIns := [], harness := (true, "e5bfb99bdad8e2a37bb5da6916545d3d50bfe82027cd50f8f29dd34be4952531"), looks := false }, kinds := [], alts := [], laidByText := true, laidKinds := [.data, .data], laidTests := true, laidLooks := .later }
def FnExactWiresWinnerUptoCardSaid : Prop := Claim7.holds Tryd.pinned (.plain (OpenSpec.upto fnExactWiresWinnerSpec)) fnExactWiresWinnerUptoCard

/-- THE SECOND FORM's CARD OF 'laws.FnExactWinningWires'. -/
def fnExactWinningWiresUptoCard : Claim7 := { stood := { row := fnExactWinningWiresUptoRow, standIns := [], harness := (true, "e5bfb99bdad8e2a37bb5da6916545d3d50bfe82027cd50f8f29dd34be4952531"), looks := false }, kinds := [], alts := [], laidByText := true, laidKinds := [.data, .data], laidTests := true, laidLooks := .later }
def FnExactWinningWiresUptoCardSaid : Prop := Claim7.holds Tryd.pinned (.plain (OpenSpec.upto fnExactWinningWiresSpec)) fnExactWinningWiresUptoCard

/-- THE SECOND FORM's CARD OF 'laws.FnExactLeastLinks'. -/
def fnExactLeastLinksUptoCard : Claim7 := { stood := { row := fnExactLeastLinksUptoRow, standIns := [], harness := (true, "e5bfb99bdad8e2a37bb5da6916545d3d50bfe82027cd50f8f29dd34be4952531"), looks := false }, kinds := [], alts := [], laidByText := true, laidKinds := [.data, .data], laidTests := true, laidLooks := .later }
def FnExactLeastLinksUptoCardSaid : Prop := Claim7.holds Tryd.pinned (.plain (OpenSpec.upto fnExactLeastLinksSpec)) fnExactLeastLinksUptoCard

/-- THE SECOND FORM's CARD OF 'laws.FnExactLeastCuts'. -/
def fnExactLeastCutsUptoCard : Claim7 := { stood := { row := fnExactLeastCutsUptoRow, standIns := [], harness := (true, "e5bfb99bdad8e2a37bb5da6916545d3d50bfe82027cd50f8f29dd34be4952531"), looks := false }, kinds := [], alts := [], laidByText := true, laidKinds := [.data, .data], laidTests := true, laidLooks := .later }
def FnExactLeastCutsUptoCardSaid : Prop := Claim7.holds Tryd.pinned (.plain (OpenSpec.upto fnExactLeastCutsSpec)) fnExactLeastCutsUptoCard
end Rows
end Go.Proofs.YtihlmjapddjjjacDoor
