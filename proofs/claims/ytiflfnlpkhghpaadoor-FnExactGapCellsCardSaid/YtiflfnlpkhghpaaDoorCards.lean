/-
  DERIVED. GIVEN WITH THE SEED: THE CARDS: each row of YtiflfnlpkhghpaaDoorRows.lean that lists a variable, with what it lists TIED to the program's text (the seventh form; the later family's looks); each row that meets fmt, with fmt's text TOLD by the authors' own Lean function (tested against real Go, not proved from fmt's source: count such statements apart). THE CARD IS WHAT COUNTS. Prove the row's statement (the work); the ties are given (YtiflfnlpkhghpaaDoorTie.lean); close each card by the builder's one call (the guide's Derived/Test/ToyasCard.lean, 'card_holds'). Laid BY PROGRAM, IN A SANDBOX (cutbox-door.mjs). By AI agents, Wed Nov 11 2026. No macro, syntax, notation, axiom, sorry.
-/
import Derived.Test.YtiflfnlpkhghpaaDoorRows
import GoSem.ClaimSeven
namespace Go.Proofs.YtiflfnlpkhghpaaDoor
namespace Rows

/-- THE TIED CARD OF 'laws.FnJoins'. -/
def fnJoinsCard : Claim7 := { stood := { row := fnJoinsRow, standIns := [], harness := (true, "6f6e7b28ffc44622186318744cc5a56ea328a7fa09c02c5e8f09ab41100c98cb"), looks := false }, kinds := [], alts := [], laidByText := true, laidKinds := [.data], laidTests := true, laidLooks := .later }
def FnJoinsCardSaid : Prop := Claim7.holds Tryd.pinned (.plain (OpenSpec.ofChange fnJoinsSpec)) fnJoinsCard

/-- THE TIED CARD OF 'laws.FnGroupOf'. -/
def fnGroupOfCard : Claim7 := { stood := { row := fnGroupOfRow, standIns := [], harness := (true, "6f6e7b28ffc44622186318744cc5a56ea328a7fa09c02c5e8f09ab41100c98cb"), looks := false }, kinds := [], alts := [], laidByText := true, laidKinds := [.data], laidTests := true, laidLooks := .later }
def FnGroupOfCardSaid : Prop := Claim7.holds Tryd.pinned (.plain (OpenSpec.ofChange fnGroupOfSpec)) fnGroupOfCard

/-- THE TIED CARD OF 'laws.FnGapOf'. -/
def fnGapOfCard : Claim7 := { stood := { row := fnGapOfRow, standIns := [], harness := (true, "6f6e7b28ffc44622186318744cc5a56ea328a7fa09c02c5e8f09ab41100c98cb"), looks := false }, kinds := [], alts := [], laidByText := true, laidKinds := [.data], laidTests := true, laidLooks := .later }
def FnGapOfCardSaid : Prop := Claim7.holds Tryd.pinned (.plain (OpenSpec.ofChange fnGapOfSpec)) fnGapOfCard

/-- THE TIED CARD OF 'laws.FnFilled'. -/
def fnFilledCard : Claim7 := { stood := { row := fnFilledRow, standIns := [], harness := (true, "6f6e7b28ffc44622186318744cc5a56ea328a7fa09c02c5e8f09ab41100c98cb"), looks := false }, kinds := [], alts := [], laidByText := true, laidKinds := [.data], laidTests := true, laidLooks := .later }
def FnFilledCardSaid : Prop := Claim7.holds Tryd.pinned (.plain (OpenSpec.ofChange fnFilledSpec)) fnFilledCard

/-- THE TIED CARD OF 'laws.FnGapCells'. -/
def fnGapCellsCard : Claim7 := { stood := { row := fnGapCellsRow, standIns := [], harness := (true, "6f6e7b28ffc44622186318744cc5a56ea328a7fa09c02c5e8f09ab41100c98cb"), looks := false }, kinds := [], alts := [], laidByText := true, laidKinds := [.data], laidTests := true, laidLooks := .later }
def FnGapCellsCardSaid : Prop := Claim7.holds Tryd.pinned (.plain (OpenSpec.ofChange fnGapCellsSpec)) fnGapCellsCard

/-- THE TIED CARD OF 'laws.FnGapFree'. -/
def fnGapFreeCard : Claim7 := { stood := { row := fnGapFreeRow, standIns := [], harness := (true, "6f6e7b28ffc44622186318744cc5a56ea328a7fa09c02c5e8f09ab41100c98cb"), looks := false }, kinds := [], alts := [], laidByText := true, laidKinds := [.data], laidTests := true, laidLooks := .later }
def FnGapFreeCardSaid : Prop := Claim7.holds Tryd.pinned (.plain (OpenSpec.ofChange fnGapFreeSpec)) fnGapFreeCard

/-- THE TIED CARD OF 'laws.FnGroupJoins'. -/
def fnGroupJoinsCard : Claim7 := { stood := { row := fnGroupJoinsRow, standIns := [], harness := (true, "6f6e7b28ffc44622186318744cc5a56ea328a7fa09c02c5e8f09ab41100c98cb"), looks := false }, kinds := [], alts := [], laidByText := true, laidKinds := [.data], laidTests := true, laidLooks := .later }
def FnGroupJoinsCardSaid : Prop := Claim7.holds Tryd.pinned (.plain (OpenSpec.ofChange fnGroupJoinsSpec)) fnGroupJoinsCard

/-- THE TIED CARD OF 'laws.FnExactJoins'. -/
def fnExactJoinsCard : Claim7 := { stood := { row := fnExactJoinsRow, standIns := [], harness := (true, "6f6e7b28ffc44622186318744cc5a56ea328a7fa09c02c5e8f09ab41100c98cb"), looks := false }, kinds := [], alts := [], laidByText := true, laidKinds := [.data], laidTests := true, laidLooks := .later }
def FnExactJoinsCardSaid : Prop := Claim7.holds Tryd.pinned (.plain (OpenSpec.ofChange fnExactJoinsSpec)) fnExactJoinsCard

/-- THE TIED CARD OF 'laws.FnExactGroupOf'. -/
def fnExactGroupOfCard : Claim7 := { stood := { row := fnExactGroupOfRow, standIns := [], harness := (true, "6f6e7b28ffc44622186318744cc5a56ea328a7fa09c02c5e8f09ab41100c98cb"), looks := false }, kinds := [], alts := [], laidByText := true, laidKinds := [.data], laidTests := true, laidLooks := .later }
def FnExactGroupOfCardSaid : Prop := Claim7.holds Tryd.pinned (.plain (OpenSpec.ofChange fnExactGroupOfSpec)) fnExactGroupOfCard

/-- THE TIED CARD OF 'laws.FnExactGapOf'. -/
def fnExactGapOfCard : Claim7 := { stood := { row := fnExactGapOfRow, standIns := [], harness := (true, "6f6e7b28ffc44622186318744cc5a56ea328a7fa09c02c5e8f09ab41100c98cb"), looks := false }, kinds := [], alts := [], laidByText := true, laidKinds := [.data], laidTests := true, laidLooks := .later }
def FnExactGapOfCardSaid : Prop := Claim7.holds Tryd.pinned (.plain (OpenSpec.ofChange fnExactGapOfSpec)) fnExactGapOfCard

/-- THE TIED CARD OF 'laws.FnExactGapCells'. -/
def fnExactGapCellsCard : Claim7 := { stood := { row := fnExactGapCellsRow, standIns := [], harness := (true, "6f6e7b28ffc44622186318744cc5a56ea328a7fa09c02c5e8f09ab41100c98cb"), looks := false }, kinds := [], alts := [], laidByText := true, laidKinds := [.data], laidTests := true, laidLooks := .later }
def FnExactGapCellsCardSaid : Prop := Claim7.holds Tryd.pinned (.plain (OpenSpec.ofChange fnExactGapCellsSpec)) fnExactGapCellsCard

/-- THE SECOND FORM's CARD OF 'laws.FnJoins'. -/
def fnJoinsUptoCard : Claim7 := { stood := { row := fnJoinsUptoRow, standIns := [], harness := (true, "6f6e7b28ffc44622186318744cc5a56ea328a7fa09c02c5e8f09ab41100c98cb"), looks := false }, kinds := [], alts := [], laidByText := true, laidKinds := [.data], laidTests := true, laidLooks := .later }
def FnJoinsUptoCardSaid : Prop := Claim7.holds Tryd.pinned (.plain (OpenSpec.upto fnJoinsSpec)) fnJoinsUptoCard

/-- THE SECOND FORM's CARD OF 'laws.FnGroupOf'. -/
def fnGroupOfUptoCard : Claim7 := { stood := { row := fnGroupOfUptoRow, standIns := [], harness := (true, "6f6e7b28ffc44622186318744cc5a56ea328a7fa09c02c5e8f09ab41100c98cb"), looks := false }, kinds := [], alts := [], laidByText := true, laidKinds := [.data], laidTests := true, laidLooks := .later }
def FnGroupOfUptoCardSaid : Prop := Claim7.holds Tryd.pinned (.plain (OpenSpec.upto fnGroupOfSpec)) fnGroupOfUptoCard

/-- THE SECOND FORM's CARD OF 'laws.FnGapOf'. -/
def fnGapOfUptoCard : Claim7 := { stood := { row := fnGapOfUptoRow, standIns := [], harness := (true, "6f6e7b28ffc44622186318744cc5a56ea328a7fa09c02c5e8f09ab41100c98cb"), looks := false }, kinds := [], alts := [], laidByText := true, laidKinds := [.data], laidTests := true, laidLooks := .later }
def FnGapOfUptoCardSaid : Prop := Claim7.holds Tryd.pinned (.plain (OpenSpec.upto fnGapOfSpec)) fnGapOfUptoCard

/-- THE SECOND FORM's CARD OF 'laws.FnFilled'. -/
def fnFilledUptoCard : Claim7 := { stood := { row := fnFilledUptoRow, standIns := [], harness := (true, "6f6e7b28ffc44622186318744cc5a56ea328a7fa09c02c5e8f09ab41100c98cb"), looks := false }, kinds := [], alts := [], laidByText := true, laidKinds := [.data], laidTests := true, laidLooks := .later }
def FnFilledUptoCardSaid : Prop := Claim7.holds Tryd.pinned (.plain (OpenSpec.upto fnFilledSpec)) fnFilledUptoCard

/-- THE SECOND FORM's CARD OF 'laws.FnGapCells'. -/
def fnGapCellsUptoCard : Claim7 := { stood := { row := fnGapCellsUptoRow, standIns := [], harness := (true, "6f6e7b28ffc44622186318744cc5a56ea328a7fa09c02c5e8f09ab41100c98cb"), looks := false }, kinds := [], alts := [], laidByText := true, laidKinds := [.data], laidTests := true, laidLooks := .later }
def FnGapCellsUptoCardSaid : Prop := Claim7.holds Tryd.pinned (.plain (OpenSpec.upto fnGapCellsSpec)) fnGapCellsUptoCard

/-- THE SECOND FORM's CARD OF 'laws.FnGapFree'. -/
def fnGapFreeUptoCard : Claim7 := { stood := { row := fnGapFreeUptoRow, standIns := [], harness := (true, "6f6e7b28ffc44622186318744cc5a56ea328a7fa09c02c5e8f09ab41100c98cb"), looks := false }, kinds := [], alts := [], laidByText := true, laidKinds := [.data], laidTests := true, laidLooks := .later }
def FnGapFreeUptoCardSaid : Prop := Claim7.holds Tryd.pinned (.plain (OpenSpec.upto fnGapFreeSpec)) fnGapFreeUptoCard

/-- THE SECOND FORM's CARD OF 'laws.FnGroupJoins'. -/
def fnGroupJoinsUptoCard : Claim7 := { stood := { row := fnGroupJoinsUptoRow, standIns := [], harness := (true, "6f6e7b28ffc44622186318744cc5a56ea328a7fa09c02c5e8f09ab41100c98cb"), looks := false }, kinds := [], alts := [], laidByText := true, laidKinds := [.data], laidTests := true, laidLooks := .later }
def FnGroupJoinsUptoCardSaid : Prop := Claim7.holds Tryd.pinned (.plain (OpenSpec.upto fnGroupJoinsSpec)) fnGroupJoinsUptoCard

/-- THE SECOND FORM's CARD OF 'laws.FnExactJoins'. -/
def fnExactJoinsUptoCard : Claim7 := { stood := { row := fnExactJoinsUptoRow, standIns := [], harness := (true, "6f6e7b28ffc44622186318744cc5a56ea328a7fa09c02c5e8f09ab41100c98cb"), looks := false }, kinds := [], alts := [], laidByText := true, laidKinds := [.data], laidTests := true, laidLooks := .later }
def FnExactJoinsUptoCardSaid : Prop := Claim7.holds Tryd.pinned (.plain (OpenSpec.upto fnExactJoinsSpec)) fnExactJoinsUptoCard

/-- THE SECOND FORM's CARD OF 'laws.FnExactGroupOf'. -/
def fnExactGroupOfUptoCard : Claim7 := { stood := { row := fnExactGroupOfUptoRow, standIns := [], harness := (true, "6f6e7b28ffc44622186318744cc5a56ea328a7fa09c02c5e8f09ab41100c98cb"), looks := false }, kinds := [], alts := [], laidByText := true, laidKinds := [.data], laidTests := true, laidLooks := .later }
def FnExactGroupOfUptoCardSaid : Prop := Claim7.holds Tryd.pinned (.plain (OpenSpec.upto fnExactGroupOfSpec)) fnExactGroupOfUptoCard

/-- THE SECOND FORM's CARD OF 'laws.FnExactGapOf'. -/
def fnExactGapOfUptoCard : Claim7 := { stood := { row := fnExactGapOfUptoRow, standIns := [], harness := (true, "6f6e7b28ffc44622186318744cc5a56ea328a7fa09c02c5e8f09ab41100c98cb"), looks := false }, kinds := [], alts := [], laidByText := true, laidKinds := [.data], laidTests := true, laidLooks := .later }
def FnExactGapOfUptoCardSaid : Prop := Claim7.holds Tryd.pinned (.plain (OpenSpec.upto fnExactGapOfSpec)) fnExactGapOfUptoCard

/-- THE SECOND FORM's CARD OF 'laws.FnExactGapCells'. -/
def fnExactGapCellsUptoCard : Claim7 := { stood := { row := fnExactGapCellsUptoRow, standIns := [], harness := (true, "6f6e7b28ffc44622186318744cc5a56ea328a7fa09c02c5e8f09ab41100c98cb"), looks := false }, kinds := [], alts := [], laidByText := true, laidKinds := [.data], laidTests := true, laidLooks := .later }
def FnExactGapCellsUptoCardSaid : Prop := Claim7.holds Tryd.pinned (.plain (OpenSpec.upto fnExactGapCellsSpec)) fnExactGapCellsUptoCard
end Rows
end Go.Proofs.YtiflfnlpkhghpaaDoor
