/-
  DERIVED. GIVEN WITH THE SEED: THE CARDS: each row of YtkbnngklbfnkiaaDoorRows.lean that lists a variable, with what it lists TIED to the program's text (the seventh form; the later family's looks); each row that meets fmt, with fmt's text TOLD by the authors' own Lean function (tested against real Go, not proved from fmt's source: count such statements apart). THE CARD IS WHAT COUNTS. Prove the row's statement (the work); the ties are given (YtkbnngklbfnkiaaDoorTie.lean); close each card by the builder's one call (the guide's Derived/Test/ToyasCard.lean, 'card_holds'). Laid BY PROGRAM, IN A SANDBOX (cutbox-door.mjs). By AI agents, Wed Nov 11 2026. No macro, syntax, notation, axiom, sorry.
-/
import Derived.Test.YtkbnngklbfnkiaaDoorRows
import GoSem.ClaimSeven
namespace Go.Proofs.YtkbnngklbfnkiaaDoor
namespace Rows

/-- THE TIED CARD OF 'laws.FnMoveOk'. -/
def fnMoveOkCard : Claim7 := { stood := { row := fnMoveOkRow, standIns := [], harness := (true, "4185908e001fc8f4939dcf01e92299cfe520ec55dd452135b01b3ca98944d808"), looks := false }, kinds := [], alts := [], laidByText := true, laidKinds := [.data], laidTests := true, laidLooks := .later }
def FnMoveOkCardSaid : Prop := Claim7.holds Tryd.pinned (.plain (OpenSpec.ofChange fnMoveOkSpec)) fnMoveOkCard

/-- THE TIED CARD OF 'laws.FnPlayed'. -/
def fnPlayedCard : Claim7 := { stood := { row := fnPlayedRow, standIns := [], harness := (true, "4185908e001fc8f4939dcf01e92299cfe520ec55dd452135b01b3ca98944d808"), looks := false }, kinds := [], alts := [], laidByText := true, laidKinds := [.data], laidTests := true, laidLooks := .later }
def FnPlayedCardSaid : Prop := Claim7.holds Tryd.pinned (.plain (OpenSpec.ofChange fnPlayedSpec)) fnPlayedCard

/-- THE TIED CARD OF 'laws.FnWinnerOf'. -/
def fnWinnerOfCard : Claim7 := { stood := { row := fnWinnerOfRow, standIns := [], harness := (true, "4185908e001fc8f4939dcf01e92299cfe520ec55dd452135b01b3ca98944d808"), looks := false }, kinds := [], alts := [], laidByText := true, laidKinds := [.data, .data, .data], laidTests := true, laidLooks := .later }
def FnWinnerOfCardSaid : Prop := Claim7.holds Tryd.pinned (.plain (OpenSpec.ofChange fnWinnerOfSpec)) fnWinnerOfCard

/-- THE TIED CARD OF 'laws.FnWinningCells'. -/
def fnWinningCellsCard : Claim7 := { stood := { row := fnWinningCellsRow, standIns := [], harness := (true, "4185908e001fc8f4939dcf01e92299cfe520ec55dd452135b01b3ca98944d808"), looks := false }, kinds := [], alts := [], laidByText := true, laidKinds := [.data, .data, .data], laidTests := true, laidLooks := .later }
def FnWinningCellsCardSaid : Prop := Claim7.holds Tryd.pinned (.plain (OpenSpec.ofChange fnWinningCellsSpec)) fnWinningCellsCard

/-- THE TIED CARD OF 'laws.FnLinePlayed'. -/
def fnLinePlayedCard : Claim7 := { stood := { row := fnLinePlayedRow, standIns := [], harness := (true, "4185908e001fc8f4939dcf01e92299cfe520ec55dd452135b01b3ca98944d808"), looks := false }, kinds := [], alts := [], laidByText := true, laidKinds := [.data, .data, .data], laidTests := true, laidLooks := .later }
def FnLinePlayedCardSaid : Prop := Claim7.holds Tryd.pinned (.plain (OpenSpec.ofChange fnLinePlayedSpec)) fnLinePlayedCard

/-- THE TIED CARD OF 'laws.FnAnswers'. -/
def fnAnswersCard : Claim7 := { stood := { row := fnAnswersRow, standIns := [], harness := (true, "4185908e001fc8f4939dcf01e92299cfe520ec55dd452135b01b3ca98944d808"), looks := false }, kinds := [], alts := [], laidByText := true, laidKinds := [.data, .data, .data], laidTests := true, laidLooks := .later }
def FnAnswersCardSaid : Prop := Claim7.holds Tryd.pinned (.plain (OpenSpec.ofChange fnAnswersSpec)) fnAnswersCard

/-- THE TIED CARD OF 'laws.FnWinsGrow'. -/
def fnWinsGrowCard : Claim7 := { stood := { row := fnWinsGrowRow, standIns := [], harness := (true, "4185908e001fc8f4939dcf01e92299cfe520ec55dd452135b01b3ca98944d808"), looks := false }, kinds := [], alts := [], laidByText := true, laidKinds := [.data, .data, .data], laidTests := true, laidLooks := .later }
def FnWinsGrowCardSaid : Prop := Claim7.holds Tryd.pinned (.plain (OpenSpec.ofChange fnWinsGrowSpec)) fnWinsGrowCard

/-- THE TIED CARD OF 'laws.FnExactMoveOk'. -/
def fnExactMoveOkCard : Claim7 := { stood := { row := fnExactMoveOkRow, standIns := [], harness := (true, "4185908e001fc8f4939dcf01e92299cfe520ec55dd452135b01b3ca98944d808"), looks := false }, kinds := [], alts := [], laidByText := true, laidKinds := [.data], laidTests := true, laidLooks := .later }
def FnExactMoveOkCardSaid : Prop := Claim7.holds Tryd.pinned (.plain (OpenSpec.ofChange fnExactMoveOkSpec)) fnExactMoveOkCard

/-- THE TIED CARD OF 'laws.FnExactPlayed'. -/
def fnExactPlayedCard : Claim7 := { stood := { row := fnExactPlayedRow, standIns := [], harness := (true, "4185908e001fc8f4939dcf01e92299cfe520ec55dd452135b01b3ca98944d808"), looks := false }, kinds := [], alts := [], laidByText := true, laidKinds := [.data], laidTests := true, laidLooks := .later }
def FnExactPlayedCardSaid : Prop := Claim7.holds Tryd.pinned (.plain (OpenSpec.ofChange fnExactPlayedSpec)) fnExactPlayedCard

/-- THE TIED CARD OF 'laws.FnExactWinnerOf'. -/
def fnExactWinnerOfCard : Claim7 := { stood := { row := fnExactWinnerOfRow, standIns := [], harness := (true, "4185908e001fc8f4939dcf01e92299cfe520ec55dd452135b01b3ca98944d808"), looks := false }, kinds := [], alts := [], laidByText := true, laidKinds := [.data, .data, .data], laidTests := true, laidLooks := .later }
def FnExactWinnerOfCardSaid : Prop := Claim7.holds Tryd.pinned (.plain (OpenSpec.ofChange fnExactWinnerOfSpec)) fnExactWinnerOfCard

/-- THE TIED CARD OF 'laws.FnExactWinningCells'. -/
def fnExactWinningCellsCard : Claim7 := { stood := { row := fnExactWinningCellsRow, standIns := [], harness := (true, "4185908e001fc8f4939dcf01e92299cfe520ec55dd452135b01b3ca98944d808"), looks := false }, kinds := [], alts := [], laidByText := true, laidKinds := [.data, .data, .data], laidTests := true, laidLooks := .later }
def FnExactWinningCellsCardSaid : Prop := Claim7.holds Tryd.pinned (.plain (OpenSpec.ofChange fnExactWinningCellsSpec)) fnExactWinningCellsCard

/-- THE TIED CARD OF 'laws.FnExactLinePlayed'. -/
def fnExactLinePlayedCard : Claim7 := { stood := { row := fnExactLinePlayedRow, standIns := [], harness := (true, "4185908e001fc8f4939dcf01e92299cfe520ec55dd452135b01b3ca98944d808"), looks := false }, kinds := [], alts := [], laidByText := true, laidKinds := [.data, .data, .data], laidTests := true, laidLooks := .later }
def FnExactLinePlayedCardSaid : Prop := Claim7.holds Tryd.pinned (.plain (OpenSpec.ofChange fnExactLinePlayedSpec)) fnExactLinePlayedCard

/-- THE SECOND FORM's CARD OF 'laws.FnMoveOk'. -/
def fnMoveOkUptoCard : Claim7 := { stood := { row := fnMoveOkUptoRow, standIns := [], harness := (true, "4185908e001fc8f4939dcf01e92299cfe520ec55dd452135b01b3ca98944d808"), looks := false }, kinds := [], alts := [], laidByText := true, laidKinds := [.data], laidTests := true, laidLooks := .later }
def FnMoveOkUptoCardSaid : Prop := Claim7.holds Tryd.pinned (.plain (OpenSpec.upto fnMoveOkSpec)) fnMoveOkUptoCard

/-- THE SECOND FORM's CARD OF 'laws.FnPlayed'. -/
def fnPlayedUptoCard : Claim7 := { stood := { row := fnPlayedUptoRow, standIns := [], harness := (true, "4185908e001fc8f4939dcf01e92299cfe520ec55dd452135b01b3ca98944d808"), looks := false }, kinds := [], alts := [], laidByText := true, laidKinds := [.data], laidTests := true, laidLooks := .later }
def FnPlayedUptoCardSaid : Prop := Claim7.holds Tryd.pinned (.plain (OpenSpec.upto fnPlayedSpec)) fnPlayedUptoCard

/-- THE SECOND FORM's CARD OF 'laws.FnWinnerOf'. -/
def fnWinnerOfUptoCard : Claim7 := { stood := { row := fnWinnerOfUptoRow, standIns := [], harness := (true, "4185908e001fc8f4939dcf01e92299cfe520ec55dd452135b01b3ca98944d808"), looks := false }, kinds := [], alts := [], laidByText := true, laidKinds := [.data, .data, .data], laidTests := true, laidLooks := .later }
def FnWinnerOfUptoCardSaid : Prop := Claim7.holds Tryd.pinned (.plain (OpenSpec.upto fnWinnerOfSpec)) fnWinnerOfUptoCard

/-- THE SECOND FORM's CARD OF 'laws.FnWinningCells'. -/
def fnWinningCellsUptoCard : Claim7 := { stood := { row := fnWinningCellsUptoRow, standIns := [], harness := (true, "4185908e001fc8f4939dcf01e92299cfe520ec55dd452135b01b3ca98944d808"), looks := false }, kinds := [], alts := [], laidByText := true, laidKinds := [.data, .data, .data], laidTests := true, laidLooks := .later }
def FnWinningCellsUptoCardSaid : Prop := Claim7.holds Tryd.pinned (.plain (OpenSpec.upto fnWinningCellsSpec)) fnWinningCellsUptoCard

/-- THE SECOND FORM's CARD OF 'laws.FnLinePlayed'. -/
def fnLinePlayedUptoCard : Claim7 := { stood := { row := fnLinePlayedUptoRow, standIns := [], harness := (true, "4185908e001fc8f4939dcf01e92299cfe520ec55dd452135b01b3ca98944d808"), looks := false }, kinds := [], alts := [], laidByText := true, laidKinds := [.data, .data, .data], laidTests := true, laidLooks := .later }
def FnLinePlayedUptoCardSaid : Prop := Claim7.holds Tryd.pinned (.plain (OpenSpec.upto fnLinePlayedSpec)) fnLinePlayedUptoCard

/-- THE SECOND FORM's CARD OF 'laws.FnAnswers'. -/
def fnAnswersUptoCard : Claim7 := { stood := { row := fnAnswersUptoRow, standIns := [], harness := (true, "4185908e001fc8f4939dcf01e92299cfe520ec55dd452135b01b3ca98944d808"), looks := false }, kinds := [], alts := [], laidByText := true, laidKinds := [.data, .data, .data], laidTests := true, laidLooks := .later }
def FnAnswersUptoCardSaid : Prop := Claim7.holds Tryd.pinned (.plain (OpenSpec.upto fnAnswersSpec)) fnAnswersUptoCard

/-- THE SECOND FORM's CARD OF 'laws.FnWinsGrow'. -/
def fnWinsGrowUptoCard : Claim7 := { stood := { row := fnWinsGrowUptoRow, standIns := [], harness := (true, "4185908e001fc8f4939dcf01e92299cfe520ec55dd452135b01b3ca98944d808"), looks := false }, kinds := [], alts := [], laidByText := true, laidKinds := [.data, .data, .data], laidTests := true, laidLooks := .later }
def FnWinsGrowUptoCardSaid : Prop := Claim7.holds Tryd.pinned (.plain (OpenSpec.upto fnWinsGrowSpec)) fnWinsGrowUptoCard

/-- THE SECOND FORM's CARD OF 'laws.FnExactMoveOk'. -/
def fnExactMoveOkUptoCard : Claim7 := { stood := { row := fnExactMoveOkUptoRow, standIns := [], harness := (true, "4185908e001fc8f4939dcf01e92299cfe520ec55dd452135b01b3ca98944d808"), looks := false }, kinds := [], alts := [], laidByText := true, laidKinds := [.data], laidTests := true, laidLooks := .later }
def FnExactMoveOkUptoCardSaid : Prop := Claim7.holds Tryd.pinned (.plain (OpenSpec.upto fnExactMoveOkSpec)) fnExactMoveOkUptoCard

/-- THE SECOND FORM's CARD OF 'laws.FnExactPlayed'. -/
def fnExactPlayedUptoCard : Claim7 := { stood := { row := fnExactPlayedUptoRow, standIns := [], harness := (true, "4185908e001fc8f4939dcf01e92299cfe520ec55dd452135b01b3ca98944d808"), looks := false }, kinds := [], alts := [], laidByText := true, laidKinds := [.data], laidTests := true, laidLooks := .later }
def FnExactPlayedUptoCardSaid : Prop := Claim7.holds Tryd.pinned (.plain (OpenSpec.upto fnExactPlayedSpec)) fnExactPlayedUptoCard

/-- THE SECOND FORM's CARD OF 'laws.FnExactWinnerOf'. -/
def fnExactWinnerOfUptoCard : Claim7 := { stood := { row := fnExactWinnerOfUptoRow, standIns := [], harness := (true, "4185908e001fc8f4939dcf01e92299cfe520ec55dd452135b01b3ca98944d808"), looks := false }, kinds := [], alts := [], laidByText := true, laidKinds := [.data, .data, .data], laidTests := true, laidLooks := .later }
def FnExactWinnerOfUptoCardSaid : Prop := Claim7.holds Tryd.pinned (.plain (OpenSpec.upto fnExactWinnerOfSpec)) fnExactWinnerOfUptoCard

/-- THE SECOND FORM's CARD OF 'laws.FnExactWinningCells'. -/
def fnExactWinningCellsUptoCard : Claim7 := { stood := { row := fnExactWinningCellsUptoRow, standIns := [], harness := (true, "4185908e001fc8f4939dcf01e92299cfe520ec55dd452135b01b3ca98944d808"), looks := false }, kinds := [], alts := [], laidByText := true, laidKinds := [.data, .data, .data], laidTests := true, laidLooks := .later }
def FnExactWinningCellsUptoCardSaid : Prop := Claim7.holds Tryd.pinned (.plain (OpenSpec.upto fnExactWinningCellsSpec)) fnExactWinningCellsUptoCard

/-- THE SECOND FORM's CARD OF 'laws.FnExactLinePlayed'. -/
def fnExactLinePlayedUptoCard : Claim7 := { stood := { row := fnExactLinePlayedUptoRow, standIns := [], harness := (true, "4185908e001fc8f4939dcf01e92299cfe520ec55dd452135b01b3ca98944d808"), looks := false }, kinds := [], alts := [], laidByText := true, laidKinds := [.data, .data, .data], laidTests := true, laidLooks := .later }
def FnExactLinePlayedUptoCardSaid : Prop := Claim7.holds Tryd.pinned (.plain (OpenSpec.upto fnExactLinePlayedSpec)) fnExactLinePlayedUptoCard
end Rows
end Go.Proofs.YtkbnngklbfnkiaaDoor
