/-
  DERIVED. GIVEN WITH THE SEED: THE CARDS: each row of YtihlmjapddjjjaaDoorRows.lean that lists a variable, with what it lists TIED to the program's text (the seventh form; the later family's looks); each row that meets fmt, with fmt's text TOLD by the authors' own Lean function (tested against real Go, not proved from fmt's source: count such statements apart). THE CARD IS WHAT COUNTS. Prove the row's statement (the work); the ties are given (YtihlmjapddjjjaaDoorTie.lean); close each card by the builder's one call (the guide's Derived/Test/ToyasCard.lean, 'card_holds'). Laid BY PROGRAM, IN A SANDBOX (cutbox-door.mjs). By AI agents, Wed Nov 11 2026. No macro, syntax, notation, axiom, sorry.
-/
import Derived.Test.YtihlmjapddjjjaaDoorRows
import GoSem.ClaimSeven
namespace Go.Proofs.YtihlmjapddjjjaaDoor
namespace Rows

/-- THE TIED CARD OF 'laws.FnLinksEnds'. -/
def fnLinksEndsCard : Claim7 := { stood := { row := fnLinksEndsRow, standIns := [], harness := (true, "13e4727f62dcf6b6eb36f93d2229d2c1f0af35ba8f9c1201e89c49dc26388f94"), looks := false }, kinds := [], alts := [], laidByText := true, laidKinds := [.data, .data], laidTests := true, laidLooks := .later }
def FnLinksEndsCardSaid : Prop := Claim7.holds Tryd.pinned (.plain (OpenSpec.ofChange fnLinksEndsSpec)) fnLinksEndsCard

/-- THE TIED CARD OF 'laws.FnWiresWon'. -/
def fnWiresWonCard : Claim7 := { stood := { row := fnWiresWonRow, standIns := [], harness := (true, "13e4727f62dcf6b6eb36f93d2229d2c1f0af35ba8f9c1201e89c49dc26388f94"), looks := false }, kinds := [], alts := [], laidByText := true, laidKinds := [.data, .data], laidTests := true, laidLooks := .later }
def FnWiresWonCardSaid : Prop := Claim7.holds Tryd.pinned (.plain (OpenSpec.ofChange fnWiresWonSpec)) fnWiresWonCard

/-- THE TIED CARD OF 'laws.FnWiresWinner'. -/
def fnWiresWinnerCard : Claim7 := { stood := { row := fnWiresWinnerRow, standIns := [], harness := (true, "13e4727f62dcf6b6eb36f93d2229d2c1f0af35ba8f9c1201e89c49dc26388f94"), looks := false }, kinds := [], alts := [], laidByText := true, laidKinds := [.data, .data], laidTests := true, laidLooks := .later }
def FnWiresWinnerCardSaid : Prop := Claim7.holds Tryd.pinned (.plain (OpenSpec.ofChange fnWiresWinnerSpec)) fnWiresWinnerCard

/-- THE TIED CARD OF 'laws.FnWinningWires'. -/
def fnWinningWiresCard : Claim7 := { stood := { row := fnWinningWiresRow, standIns := [], harness := (true, "13e4727f62dcf6b6eb36f93d2229d2c1f0af35ba8f9c1201e89c49dc26388f94"), looks := false }, kinds := [], alts := [], laidByText := true, laidKinds := [.data, .data], laidTests := true, laidLooks := .later }
def FnWinningWiresCardSaid : Prop := Claim7.holds Tryd.pinned (.plain (OpenSpec.ofChange fnWinningWiresSpec)) fnWinningWiresCard

/-- THE SECOND FORM's CARD OF 'laws.FnLinksEnds'. -/
def fnLinksEndsUptoCard : Claim7 := { stood := { row := fnLinksEndsUptoRow, standIns := [], harness := (true, "13e4727f62dcf6b6eb36f93d2229d2c1f0af35ba8f9c1201e89c49dc26388f94"), looks := false }, kinds := [], alts := [], laidByText := true, laidKinds := [.data, .data], laidTests := true, laidLooks := .later }
def FnLinksEndsUptoCardSaid : Prop := Claim7.holds Tryd.pinned (.plain (OpenSpec.upto fnLinksEndsSpec)) fnLinksEndsUptoCard

/-- THE SECOND FORM's CARD OF 'laws.FnWiresWon'. -/
def fnWiresWonUptoCard : Claim7 := { stood := { row := fnWiresWonUptoRow, standIns := [], harness := (true, "13e4727f62dcf6b6eb36f93d2229d2c1f0af35ba8f9c1201e89c49dc26388f94"), looks := false }, kinds := [], alts := [], laidByText := true, laidKinds := [.data, .data], laidTests := true, laidLooks := .later }
def FnWiresWonUptoCardSaid : Prop := Claim7.holds Tryd.pinned (.plain (OpenSpec.upto fnWiresWonSpec)) fnWiresWonUptoCard

/-- THE SECOND FORM's CARD OF 'laws.FnWiresWinner'. -/
def fnWiresWinnerUptoCard : Claim7 := { stood := { row := fnWiresWinnerUptoRow, standIns := [], harness := (true, "13e4727f62dcf6b6eb36f93d2229d2c1f0af35ba8f9c1201e89c49dc26388f94"), looks := false }, kinds := [], alts := [], laidByText := true, laidKinds := [.data, .data], laidTests := true, laidLooks := .later }
def FnWiresWinnerUptoCardSaid : Prop := Claim7.holds Tryd.pinned (.plain (OpenSpec.upto fnWiresWinnerSpec)) fnWiresWinnerUptoCard

/-- THE SECOND FORM's CARD OF 'laws.FnWinningWires'. -/
def fnWinningWiresUptoCard : Claim7 := { stood := { row := fnWinningWiresUptoRow, standIns := [], harness := (true, "13e4727f62dcf6b6eb36f93d2229d2c1f0af35ba8f9c1201e89c49dc26388f94"), looks := false }, kinds := [], alts := [], laidByText := true, laidKinds := [.data, .data], laidTests := true, laidLooks := .later }
def FnWinningWiresUptoCardSaid : Prop := Claim7.holds Tryd.pinned (.plain (OpenSpec.upto fnWinningWiresSpec)) fnWinningWiresUptoCard
end Rows
end Go.Proofs.YtihlmjapddjjjaaDoor
