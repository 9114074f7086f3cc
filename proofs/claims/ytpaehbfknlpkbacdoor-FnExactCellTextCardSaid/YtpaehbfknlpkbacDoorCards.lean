/-
  DERIVED. GIVEN WITH THE SEED: THE CARDS: each row of YtpaehbfknlpkbacDoorRows.lean that lists a variable, with what it lists TIED to the program's text (the seventh form; the later family's looks); each row that meets fmt, with fmt's text TOLD by the authors' own Lean function (tested against real Go, not proved from fmt's source: count such statements apart). THE CARD IS WHAT COUNTS. Prove the row's statement (the work); the ties are given (YtpaehbfknlpkbacDoorTie.lean); close each card by the builder's one call (the guide's Derived/Test/ToyasCard.lean, 'card_holds'). Laid BY PROGRAM, IN A SANDBOX (cutbox-door.mjs). By AI agents, Wed Nov 11 2026. No macro, syntax, notation, axiom, sorry.
-/
import Derived.Test.YtpaehbfknlpkbacDoorRows
import GoSem.ClaimSeven
namespace Go.Proofs.YtpaehbfknlpkbacDoor
namespace Rows

/-- THE TIED CARD OF 'laws.FnRecordTurned'. -/
def fnRecordTurnedCard : Claim7 := { stood := { row := fnRecordTurnedRow, standIns := [], harness := (true, "82a71ea6bc105ef61f014b22ce0fea944286de66f3e63f0b306c58b9769dc22f"), looks := false }, kinds := [], alts := [], laidByText := true, laidKinds := [.data, .data, .data], laidTests := true, laidLooks := .later }
def FnRecordTurnedCardSaid : Prop := Claim7.holds Tryd.pinned (.plain (OpenSpec.ofChange fnRecordTurnedSpec)) fnRecordTurnedCard

/-- THE TIED CARD OF 'laws.FnExactCellText'. -/
def fnExactCellTextCard : Claim7 := { stood := { row := fnExactCellTextRow, standIns := [], harness := (true, "82a71ea6bc105ef61f014b22ce0fea944286de66f3e63f0b306c58b9769dc22f"), looks := false }, kinds := [], alts := [], laidByText := true, laidKinds := [.data, .data, .data], laidTests := true, laidLooks := .later }
def FnExactCellTextCardSaid : Prop := Claim7.holds Tryd.pinned (.plain (OpenSpec.ofChange fnExactCellTextSpec)) fnExactCellTextCard

/-- THE TIED CARD OF 'laws.FnExactReadCell'. -/
def fnExactReadCellCard : Claim7 := { stood := { row := fnExactReadCellRow, standIns := [], harness := (true, "82a71ea6bc105ef61f014b22ce0fea944286de66f3e63f0b306c58b9769dc22f"), looks := false }, kinds := [], alts := [], laidByText := true, laidKinds := [.data, .data, .data], laidTests := true, laidLooks := .later }
def FnExactReadCellCardSaid : Prop := Claim7.holds Tryd.pinned (.plain (OpenSpec.ofChange fnExactReadCellSpec)) fnExactReadCellCard

/-- THE TIED CARD OF 'laws.FnExactRecordOk'. -/
def fnExactRecordOkCard : Claim7 := { stood := { row := fnExactRecordOkRow, standIns := [], harness := (true, "82a71ea6bc105ef61f014b22ce0fea944286de66f3e63f0b306c58b9769dc22f"), looks := false }, kinds := [], alts := [], laidByText := true, laidKinds := [.data], laidTests := true, laidLooks := .later }
def FnExactRecordOkCardSaid : Prop := Claim7.holds Tryd.pinned (.plain (OpenSpec.ofChange fnExactRecordOkSpec)) fnExactRecordOkCard

/-- THE SECOND FORM's CARD OF 'laws.FnRecordTurned'. -/
def fnRecordTurnedUptoCard : Claim7 := { stood := { row := fnRecordTurnedUptoRow, standIns := [], harness := (true, "82a71ea6bc105ef61f014b22ce0fea944286de66f3e63f0b306c58b9769dc22f"), looks := false }, kinds := [], alts := [], laidByText := true, laidKinds := [.data, .data, .data], laidTests := true, laidLooks := .later }
def FnRecordTurnedUptoCardSaid : Prop := Claim7.holds Tryd.pinned (.plain (OpenSpec.upto fnRecordTurnedSpec)) fnRecordTurnedUptoCard

/-- THE SECOND FORM's CARD OF 'laws.FnExactCellText'. -/
def fnExactCellTextUptoCard : Claim7 := { stood := { row := fnExactCellTextUptoRow, standIns := [], harness := (true, "82a71ea6bc105ef61f014b22ce0fea944286de66f3e63f0b306c58b9769dc22f"), looks := false }, kinds := [], alts := [], laidByText := true, laidKinds := [.data, .data, .data], laidTests := true, laidLooks := .later }
def FnExactCellTextUptoCardSaid : Prop := Claim7.holds Tryd.pinned (.plain (OpenSpec.upto fnExactCellTextSpec)) fnExactCellTextUptoCard

/-- THE SECOND FORM's CARD OF 'laws.FnExactReadCell'. -/
def fnExactReadCellUptoCard : Claim7 := { stood := { row := fnExactReadCellUptoRow, standIns := [], harness := (true, "82a71ea6bc105ef61f014b22ce0fea944286de66f3e63f0b306c58b9769dc22f"), looks := false }, kinds := [], alts := [], laidByText := true, laidKinds := [.data, .data, .data], laidTests := true, laidLooks := .later }
def FnExactReadCellUptoCardSaid : Prop := Claim7.holds Tryd.pinned (.plain (OpenSpec.upto fnExactReadCellSpec)) fnExactReadCellUptoCard

/-- THE SECOND FORM's CARD OF 'laws.FnExactRecordOk'. -/
def fnExactRecordOkUptoCard : Claim7 := { stood := { row := fnExactRecordOkUptoRow, standIns := [], harness := (true, "82a71ea6bc105ef61f014b22ce0fea944286de66f3e63f0b306c58b9769dc22f"), looks := false }, kinds := [], alts := [], laidByText := true, laidKinds := [.data], laidTests := true, laidLooks := .later }
def FnExactRecordOkUptoCardSaid : Prop := Claim7.holds Tryd.pinned (.plain (OpenSpec.upto fnExactRecordOkSpec)) fnExactRecordOkUptoCard
end Rows
end Go.Proofs.YtpaehbfknlpkbacDoor
