/-
  DERIVED. GIVEN WITH THE SEED: THE CARDS: each row of YtfgjbfaapbhppaaDoorRows.lean that lists a variable, with what it lists TIED to the program's text (the seventh form; the later family's looks); each row that meets fmt, with fmt's text TOLD by the authors' own Lean function (tested against real Go, not proved from fmt's source: count such statements apart). THE CARD IS WHAT COUNTS. Prove the row's statement (the work); the ties are given (YtfgjbfaapbhppaaDoorTie.lean); close each card by the builder's one call (the guide's Derived/Test/ToyasCard.lean, 'card_holds'). Laid BY PROGRAM, IN A SANDBOX (cutbox-door.mjs). By AI agents, Wed Nov 11 2026. No macro, syntax, notation, axiom, sorry.
-/
import Derived.Test.YtfgjbfaapbhppaaDoorRows
import GoSem.ClaimSeven
namespace Go.Proofs.YtfgjbfaapbhppaaDoor
namespace Rows

/-- THE TIED CARD OF 'laws.FnMattersAt'. -/
def fnMattersAtCard : Claim7 := { stood := { row := fnMattersAtRow, standIns := [], harness := (true, "b3258cd4dbc5c0e9544cea854171414c1e3c90e9b728c31de8fa377739b7d71f"), looks := false }, kinds := [], alts := [], laidByText := true, laidKinds := [.data, .data, .data], laidTests := true, laidLooks := .later }
def FnMattersAtCardSaid : Prop := Claim7.holds Tryd.pinned (.plain (OpenSpec.ofChange fnMattersAtSpec)) fnMattersAtCard

/-- THE TIED CARD OF 'laws.FnDeadCells'. -/
def fnDeadCellsCard : Claim7 := { stood := { row := fnDeadCellsRow, standIns := [], harness := (true, "b3258cd4dbc5c0e9544cea854171414c1e3c90e9b728c31de8fa377739b7d71f"), looks := false }, kinds := [], alts := [], laidByText := true, laidKinds := [.data, .data, .data], laidTests := true, laidLooks := .later }
def FnDeadCellsCardSaid : Prop := Claim7.holds Tryd.pinned (.plain (OpenSpec.ofChange fnDeadCellsSpec)) fnDeadCellsCard

/-- THE TIED CARD OF 'laws.FnFillCount'. -/
def fnFillCountCard : Claim7 := { stood := { row := fnFillCountRow, standIns := [], harness := (true, "b3258cd4dbc5c0e9544cea854171414c1e3c90e9b728c31de8fa377739b7d71f"), looks := false }, kinds := [], alts := [], laidByText := true, laidKinds := [.data, .data, .data], laidTests := true, laidLooks := .later }
def FnFillCountCardSaid : Prop := Claim7.holds Tryd.pinned (.plain (OpenSpec.ofChange fnFillCountSpec)) fnFillCountCard

/-- THE TIED CARD OF 'laws.FnPivotCount'. -/
def fnPivotCountCard : Claim7 := { stood := { row := fnPivotCountRow, standIns := [], harness := (true, "b3258cd4dbc5c0e9544cea854171414c1e3c90e9b728c31de8fa377739b7d71f"), looks := false }, kinds := [], alts := [], laidByText := true, laidKinds := [.data, .data, .data], laidTests := true, laidLooks := .later }
def FnPivotCountCardSaid : Prop := Claim7.holds Tryd.pinned (.plain (OpenSpec.ofChange fnPivotCountSpec)) fnPivotCountCard

/-- THE TIED CARD OF 'laws.FnPivotTurned'. -/
def fnPivotTurnedCard : Claim7 := { stood := { row := fnPivotTurnedRow, standIns := [], harness := (true, "b3258cd4dbc5c0e9544cea854171414c1e3c90e9b728c31de8fa377739b7d71f"), looks := false }, kinds := [], alts := [], laidByText := true, laidKinds := [.data, .data, .data], laidTests := true, laidLooks := .later }
def FnPivotTurnedCardSaid : Prop := Claim7.holds Tryd.pinned (.plain (OpenSpec.ofChange fnPivotTurnedSpec)) fnPivotTurnedCard

/-- THE TIED CARD OF 'laws.FnFillMirror'. -/
def fnFillMirrorCard : Claim7 := { stood := { row := fnFillMirrorRow, standIns := [], harness := (true, "b3258cd4dbc5c0e9544cea854171414c1e3c90e9b728c31de8fa377739b7d71f"), looks := false }, kinds := [], alts := [], laidByText := true, laidKinds := [.data, .data, .data], laidTests := true, laidLooks := .later }
def FnFillMirrorCardSaid : Prop := Claim7.holds Tryd.pinned (.plain (OpenSpec.ofChange fnFillMirrorSpec)) fnFillMirrorCard

/-- THE TIED CARD OF 'laws.FnExactMattersAt'. -/
def fnExactMattersAtCard : Claim7 := { stood := { row := fnExactMattersAtRow, standIns := [], harness := (true, "b3258cd4dbc5c0e9544cea854171414c1e3c90e9b728c31de8fa377739b7d71f"), looks := false }, kinds := [], alts := [], laidByText := true, laidKinds := [.data, .data, .data], laidTests := true, laidLooks := .later }
def FnExactMattersAtCardSaid : Prop := Claim7.holds Tryd.pinned (.plain (OpenSpec.ofChange fnExactMattersAtSpec)) fnExactMattersAtCard

/-- THE TIED CARD OF 'laws.FnExactDeadCells'. -/
def fnExactDeadCellsCard : Claim7 := { stood := { row := fnExactDeadCellsRow, standIns := [], harness := (true, "b3258cd4dbc5c0e9544cea854171414c1e3c90e9b728c31de8fa377739b7d71f"), looks := false }, kinds := [], alts := [], laidByText := true, laidKinds := [.data, .data, .data], laidTests := true, laidLooks := .later }
def FnExactDeadCellsCardSaid : Prop := Claim7.holds Tryd.pinned (.plain (OpenSpec.ofChange fnExactDeadCellsSpec)) fnExactDeadCellsCard

/-- THE TIED CARD OF 'laws.FnExactFillCount'. -/
def fnExactFillCountCard : Claim7 := { stood := { row := fnExactFillCountRow, standIns := [], harness := (true, "b3258cd4dbc5c0e9544cea854171414c1e3c90e9b728c31de8fa377739b7d71f"), looks := false }, kinds := [], alts := [], laidByText := true, laidKinds := [.data, .data, .data], laidTests := true, laidLooks := .later }
def FnExactFillCountCardSaid : Prop := Claim7.holds Tryd.pinned (.plain (OpenSpec.ofChange fnExactFillCountSpec)) fnExactFillCountCard

/-- THE TIED CARD OF 'laws.FnExactPivotCount'. -/
def fnExactPivotCountCard : Claim7 := { stood := { row := fnExactPivotCountRow, standIns := [], harness := (true, "b3258cd4dbc5c0e9544cea854171414c1e3c90e9b728c31de8fa377739b7d71f"), looks := false }, kinds := [], alts := [], laidByText := true, laidKinds := [.data, .data, .data], laidTests := true, laidLooks := .later }
def FnExactPivotCountCardSaid : Prop := Claim7.holds Tryd.pinned (.plain (OpenSpec.ofChange fnExactPivotCountSpec)) fnExactPivotCountCard

/-- THE SECOND FORM's CARD OF 'laws.FnMattersAt'. -/
def fnMattersAtUptoCard : Claim7 := { stood := { row := fnMattersAtUptoRow, standIns := [], harness := (true, "b3258cd4dbc5c0e9544cea854171414c1e3c90e9b728c31de8fa377739b7d71f"), looks := false }, kinds := [], alts := [], laidByText := true, laidKinds := [.data, .data, .data], laidTests := true, laidLooks := .later }
def FnMattersAtUptoCardSaid : Prop := Claim7.holds Tryd.pinned (.plain (OpenSpec.upto fnMattersAtSpec)) fnMattersAtUptoCard

/-- THE SECOND FORM's CARD OF 'laws.FnDeadCells'. -/
def fnDeadCellsUptoCard : Claim7 := { stood := { row := fnDeadCellsUptoRow, standIns := [], harness := (true, "b3258cd4dbc5c0e9544cea854171414c1e3c90e9b728c31de8fa377739b7d71f"), looks := false }, kinds := [], alts := [], laidByText := true, laidKinds := [.data, .data, .data], laidTests := true, laidLooks := .later }
def FnDeadCellsUptoCardSaid : Prop := Claim7.holds Tryd.pinned (.plain (OpenSpec.upto fnDeadCellsSpec)) fnDeadCellsUptoCard

/-- THE SECOND FORM's CARD OF 'laws.FnFillCount'. -/
def fnFillCountUptoCard : Claim7 := { stood := { row := fnFillCountUptoRow, standIns := [], harness := (true, "b3258cd4dbc5c0e9544cea854171414c1e3c90e9b728c31de8fa377739b7d71f"), looks := false }, kinds := [], alts := [], laidByText := true, laidKinds := [.data, .data, .data], laidTests := true, laidLooks := .later }
def FnFillCountUptoCardSaid : Prop := Claim7.holds Tryd.pinned (.plain (OpenSpec.upto fnFillCountSpec)) fnFillCountUptoCard

/-- THE SECOND FORM's CARD OF 'laws.FnPivotCount'. -/
def fnPivotCountUptoCard : Claim7 := { stood := { row := fnPivotCountUptoRow, standIns := [], harness := (true, "b3258cd4dbc5c0e9544cea854171414c1e3c90e9b728c31de8fa377739b7d71f"), looks := false }, kinds := [], alts := [], laidByText := true, laidKinds := [.data, .data, .data], laidTests := true, laidLooks := .later }
def FnPivotCountUptoCardSaid : Prop := Claim7.holds Tryd.pinned (.plain (OpenSpec.upto fnPivotCountSpec)) fnPivotCountUptoCard

/-- THE SECOND FORM's CARD OF 'laws.FnPivotTurned'. -/
def fnPivotTurnedUptoCard : Claim7 := { stood := { row := fnPivotTurnedUptoRow, standIns := [], harness := (true, "b3258cd4dbc5c0e9544cea854171414c1e3c90e9b728c31de8fa377739b7d71f"), looks := false }, kinds := [], alts := [], laidByText := true, laidKinds := [.data, .data, .data], laidTests := true, laidLooks := .later }
def FnPivotTurnedUptoCardSaid : Prop := Claim7.holds Tryd.pinned (.plain (OpenSpec.upto fnPivotTurnedSpec)) fnPivotTurnedUptoCard

/-- THE SECOND FORM's CARD OF 'laws.FnFillMirror'. -/
def fnFillMirrorUptoCard : Claim7 := { stood := { row := fnFillMirrorUptoRow, standIns := [], harness := (true, "b3258cd4dbc5c0e9544cea854171414c1e3c90e9b728c31de8fa377739b7d71f"), looks := false }, kinds := [], alts := [], laidByText := true, laidKinds := [.data, .data, .data], laidTests := true, laidLooks := .later }
def FnFillMirrorUptoCardSaid : Prop := Claim7.holds Tryd.pinned (.plain (OpenSpec.upto fnFillMirrorSpec)) fnFillMirrorUptoCard

/-- THE SECOND FORM's CARD OF 'laws.FnExactMattersAt'. -/
def fnExactMattersAtUptoCard : Claim7 := { stood := { row := fnExactMattersAtUptoRow, standIns := [], harness := (true, "b3258cd4dbc5c0e9544cea854171414c1e3c90e9b728c31de8fa377739b7d71f"), looks := false }, kinds := [], alts := [], laidByText := true, laidKinds := [.data, .data, .data], laidTests := true, laidLooks := .later }
def FnExactMattersAtUptoCardSaid : Prop := Claim7.holds Tryd.pinned (.plain (OpenSpec.upto fnExactMattersAtSpec)) fnExactMattersAtUptoCard

/-- THE SECOND FORM's CARD OF 'laws.FnExactDeadCells'. -/
def fnExactDeadCellsUptoCard : Claim7 := { stood := { row := fnExactDeadCellsUptoRow, standIns := [], harness := (true, "b3258cd4dbc5c0e9544cea854171414c1e3c90e9b728c31de8fa377739b7d71f"), looks := false }, kinds := [], alts := [], laidByText := true, laidKinds := [.data, .data, .data], laidTests := true, laidLooks := .later }
def FnExactDeadCellsUptoCardSaid : Prop := Claim7.holds Tryd.pinned (.plain (OpenSpec.upto fnExactDeadCellsSpec)) fnExactDeadCellsUptoCard

/-- THE SECOND FORM's CARD OF 'laws.FnExactFillCount'. -/
def fnExactFillCountUptoCard : Claim7 := { stood := { row := fnExactFillCountUptoRow, standIns := [], harness := (true, "b3258cd4dbc5c0e9544cea854171414c1e3c90e9b728c31de8fa377739b7d71f"), looks := false }, kinds := [], alts := [], laidByText := true, laidKinds := [.data, .data, .data], laidTests := true, laidLooks := .later }
def FnExactFillCountUptoCardSaid : Prop := Claim7.holds Tryd.pinned (.plain (OpenSpec.upto fnExactFillCountSpec)) fnExactFillCountUptoCard

/-- THE SECOND FORM's CARD OF 'laws.FnExactPivotCount'. -/
def fnExactPivotCountUptoCard : Claim7 := { stood := { row := fnExactPivotCountUptoRow, standIns := [], harness := (true, "b3258cd4dbc5c0e9544cea854171414c1e3c90e9b728c31de8fa377739b7d71f"), looks := false }, kinds := [], alts := [], laidByText := true, laidKinds := [.data, .data, .data], laidTests := true, laidLooks := .later }
def FnExactPivotCountUptoCardSaid : Prop := Claim7.holds Tryd.pinned (.plain (OpenSpec.upto fnExactPivotCountSpec)) fnExactPivotCountUptoCard
end Rows
end Go.Proofs.YtfgjbfaapbhppaaDoor
