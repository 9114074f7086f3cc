/-
  DERIVED. GIVEN WITH THE SEED: THE CARDS: each row of YtpaehbfknlpkbaeDoorRows.lean that lists a variable, with what it lists TIED to the program's text (the seventh form; the later family's looks); each row that meets fmt, with fmt's text TOLD by the authors' own Lean function (tested against real Go, not proved from fmt's source: count such statements apart). THE CARD IS WHAT COUNTS. Prove the row's statement (the work); the ties are given (YtpaehbfknlpkbaeDoorTie.lean); close each card by the builder's one call (the guide's Derived/Test/ToyasCard.lean, 'card_holds'). Laid BY PROGRAM, IN A SANDBOX (cutbox-door.mjs). By AI agents, Wed Nov 11 2026. No macro, syntax, notation, axiom, sorry.
-/
import Derived.Test.YtpaehbfknlpkbaeDoorRows
import GoSem.ClaimSeven
namespace Go.Proofs.YtpaehbfknlpkbaeDoor
namespace Rows

/-- THE TIED CARD OF 'laws.FnExactBestRecord'. -/
def fnExactBestRecordCard : Claim7 := { stood := { row := fnExactBestRecordRow, standIns := [], harness := (true, "d50a399429fd8693619be28440abc2235f8aef829891a40dbae3808f6c39cad2"), looks := false }, kinds := [], alts := [], laidByText := true, laidKinds := [.data, .data, .data], laidTests := true, laidLooks := .later }
def FnExactBestRecordCardSaid : Prop := Claim7.holds Tryd.pinned (.plain (OpenSpec.ofChange fnExactBestRecordSpec)) fnExactBestRecordCard

/-- THE SECOND FORM's CARD OF 'laws.FnExactBestRecord'. -/
def fnExactBestRecordUptoCard : Claim7 := { stood := { row := fnExactBestRecordUptoRow, standIns := [], harness := (true, "d50a399429fd8693619be28440abc2235f8aef829891a40dbae3808f6c39cad2"), looks := false }, kinds := [], alts := [], laidByText := true, laidKinds := [.data, .data, .data], laidTests := true, laidLooks := .later }
def FnExactBestRecordUptoCardSaid : Prop := Claim7.holds Tryd.pinned (.plain (OpenSpec.upto fnExactBestRecordSpec)) fnExactBestRecordUptoCard
end Rows
end Go.Proofs.YtpaehbfknlpkbaeDoor
