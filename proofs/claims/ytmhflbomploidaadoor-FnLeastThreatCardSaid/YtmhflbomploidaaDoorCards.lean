/-
  DERIVED. GIVEN WITH THE SEED: THE CARDS: each row of YtmhflbomploidaaDoorRows.lean that lists a variable, with what it lists TIED to the program's text (the seventh form; the later family's looks); each row that meets fmt, with fmt's text TOLD by the authors' own Lean function (tested against real Go, not proved from fmt's source: count such statements apart). THE CARD IS WHAT COUNTS. Prove the row's statement (the work); the ties are given (YtmhflbomploidaaDoorTie.lean); close each card by the builder's one call (the guide's Derived/Test/ToyasCard.lean, 'card_holds'). Laid BY PROGRAM, IN A SANDBOX (cutbox-door.mjs). By AI agents, Wed Nov 11 2026. No macro, syntax, notation, axiom, sorry.
-/
import Derived.Test.YtmhflbomploidaaDoorRows
import GoSem.ClaimSeven
namespace Go.Proofs.YtmhflbomploidaaDoor
namespace Rows

/-- THE TIED CARD OF 'laws.FnCarrierOk'. -/
def fnCarrierOkCard : Claim7 := { stood := { row := fnCarrierOkRow, standIns := [], harness := (true, "502317ba1594fdc2a94cb120506acd0adf271d62364217e75adef27f8a83c5a6"), looks := false }, kinds := [], alts := [], laidByText := true, laidKinds := [.data, .data, .data], laidTests := true, laidLooks := .later }
def FnCarrierOkCardSaid : Prop := Claim7.holds Tryd.pinned (.plain (OpenSpec.ofChange fnCarrierOkSpec)) fnCarrierOkCard

/-- THE TIED CARD OF 'laws.FnThreatOk'. -/
def fnThreatOkCard : Claim7 := { stood := { row := fnThreatOkRow, standIns := [], harness := (true, "502317ba1594fdc2a94cb120506acd0adf271d62364217e75adef27f8a83c5a6"), looks := false }, kinds := [], alts := [], laidByText := true, laidKinds := [.data, .data, .data], laidTests := true, laidLooks := .later }
def FnThreatOkCardSaid : Prop := Claim7.holds Tryd.pinned (.plain (OpenSpec.ofChange fnThreatOkSpec)) fnThreatOkCard

/-- THE TIED CARD OF 'laws.FnLeastCarrier'. -/
def fnLeastCarrierCard : Claim7 := { stood := { row := fnLeastCarrierRow, standIns := [], harness := (true, "502317ba1594fdc2a94cb120506acd0adf271d62364217e75adef27f8a83c5a6"), looks := false }, kinds := [], alts := [], laidByText := true, laidKinds := [.data, .data, .data], laidTests := true, laidLooks := .later }
def FnLeastCarrierCardSaid : Prop := Claim7.holds Tryd.pinned (.plain (OpenSpec.ofChange fnLeastCarrierSpec)) fnLeastCarrierCard

/-- THE TIED CARD OF 'laws.FnLeastThreat'. -/
def fnLeastThreatCard : Claim7 := { stood := { row := fnLeastThreatRow, standIns := [], harness := (true, "502317ba1594fdc2a94cb120506acd0adf271d62364217e75adef27f8a83c5a6"), looks := false }, kinds := [], alts := [], laidByText := true, laidKinds := [.data, .data, .data], laidTests := true, laidLooks := .later }
def FnLeastThreatCardSaid : Prop := Claim7.holds Tryd.pinned (.plain (OpenSpec.ofChange fnLeastThreatSpec)) fnLeastThreatCard

/-- THE TIED CARD OF 'laws.FnTwoThreats'. -/
def fnTwoThreatsCard : Claim7 := { stood := { row := fnTwoThreatsRow, standIns := [], harness := (true, "502317ba1594fdc2a94cb120506acd0adf271d62364217e75adef27f8a83c5a6"), looks := false }, kinds := [], alts := [], laidByText := true, laidKinds := [.data, .data, .data], laidTests := true, laidLooks := .later }
def FnTwoThreatsCardSaid : Prop := Claim7.holds Tryd.pinned (.plain (OpenSpec.ofChange fnTwoThreatsSpec)) fnTwoThreatsCard

/-- THE TIED CARD OF 'laws.FnBridgesOf'. -/
def fnBridgesOfCard : Claim7 := { stood := { row := fnBridgesOfRow, standIns := [], harness := (true, "502317ba1594fdc2a94cb120506acd0adf271d62364217e75adef27f8a83c5a6"), looks := false }, kinds := [], alts := [], laidByText := true, laidKinds := [.data], laidTests := true, laidLooks := .later }
def FnBridgesOfCardSaid : Prop := Claim7.holds Tryd.pinned (.plain (OpenSpec.ofChange fnBridgesOfSpec)) fnBridgesOfCard

/-- THE TIED CARD OF 'laws.FnMustCells'. -/
def fnMustCellsCard : Claim7 := { stood := { row := fnMustCellsRow, standIns := [], harness := (true, "502317ba1594fdc2a94cb120506acd0adf271d62364217e75adef27f8a83c5a6"), looks := false }, kinds := [], alts := [], laidByText := true, laidKinds := [.data, .data, .data], laidTests := true, laidLooks := .later }
def FnMustCellsCardSaid : Prop := Claim7.holds Tryd.pinned (.plain (OpenSpec.ofChange fnMustCellsSpec)) fnMustCellsCard

/-- THE TIED CARD OF 'laws.FnCarrierMore'. -/
def fnCarrierMoreCard : Claim7 := { stood := { row := fnCarrierMoreRow, standIns := [], harness := (true, "502317ba1594fdc2a94cb120506acd0adf271d62364217e75adef27f8a83c5a6"), looks := false }, kinds := [], alts := [], laidByText := true, laidKinds := [.data, .data, .data], laidTests := true, laidLooks := .later }
def FnCarrierMoreCardSaid : Prop := Claim7.holds Tryd.pinned (.plain (OpenSpec.ofChange fnCarrierMoreSpec)) fnCarrierMoreCard

/-- THE TIED CARD OF 'laws.FnExactCarrierOk'. -/
def fnExactCarrierOkCard : Claim7 := { stood := { row := fnExactCarrierOkRow, standIns := [], harness := (true, "502317ba1594fdc2a94cb120506acd0adf271d62364217e75adef27f8a83c5a6"), looks := false }, kinds := [], alts := [], laidByText := true, laidKinds := [.data, .data, .data], laidTests := true, laidLooks := .later }
def FnExactCarrierOkCardSaid : Prop := Claim7.holds Tryd.pinned (.plain (OpenSpec.ofChange fnExactCarrierOkSpec)) fnExactCarrierOkCard

/-- THE TIED CARD OF 'laws.FnExactThreatOk'. -/
def fnExactThreatOkCard : Claim7 := { stood := { row := fnExactThreatOkRow, standIns := [], harness := (true, "502317ba1594fdc2a94cb120506acd0adf271d62364217e75adef27f8a83c5a6"), looks := false }, kinds := [], alts := [], laidByText := true, laidKinds := [.data, .data, .data], laidTests := true, laidLooks := .later }
def FnExactThreatOkCardSaid : Prop := Claim7.holds Tryd.pinned (.plain (OpenSpec.ofChange fnExactThreatOkSpec)) fnExactThreatOkCard

/-- THE TIED CARD OF 'laws.FnExactLeastCarrier'. -/
def fnExactLeastCarrierCard : Claim7 := { stood := { row := fnExactLeastCarrierRow, standIns := [], harness := (true, "502317ba1594fdc2a94cb120506acd0adf271d62364217e75adef27f8a83c5a6"), looks := false }, kinds := [], alts := [], laidByText := true, laidKinds := [.data, .data, .data], laidTests := true, laidLooks := .later }
def FnExactLeastCarrierCardSaid : Prop := Claim7.holds Tryd.pinned (.plain (OpenSpec.ofChange fnExactLeastCarrierSpec)) fnExactLeastCarrierCard

/-- THE TIED CARD OF 'laws.FnExactLeastThreat'. -/
def fnExactLeastThreatCard : Claim7 := { stood := { row := fnExactLeastThreatRow, standIns := [], harness := (true, "502317ba1594fdc2a94cb120506acd0adf271d62364217e75adef27f8a83c5a6"), looks := false }, kinds := [], alts := [], laidByText := true, laidKinds := [.data, .data, .data], laidTests := true, laidLooks := .later }
def FnExactLeastThreatCardSaid : Prop := Claim7.holds Tryd.pinned (.plain (OpenSpec.ofChange fnExactLeastThreatSpec)) fnExactLeastThreatCard

/-- THE TIED CARD OF 'laws.FnExactBridgesOf'. -/
def fnExactBridgesOfCard : Claim7 := { stood := { row := fnExactBridgesOfRow, standIns := [], harness := (true, "502317ba1594fdc2a94cb120506acd0adf271d62364217e75adef27f8a83c5a6"), looks := false }, kinds := [], alts := [], laidByText := true, laidKinds := [.data], laidTests := true, laidLooks := .later }
def FnExactBridgesOfCardSaid : Prop := Claim7.holds Tryd.pinned (.plain (OpenSpec.ofChange fnExactBridgesOfSpec)) fnExactBridgesOfCard

/-- THE TIED CARD OF 'laws.FnExactMustCells'. -/
def fnExactMustCellsCard : Claim7 := { stood := { row := fnExactMustCellsRow, standIns := [], harness := (true, "502317ba1594fdc2a94cb120506acd0adf271d62364217e75adef27f8a83c5a6"), looks := false }, kinds := [], alts := [], laidByText := true, laidKinds := [.data, .data, .data], laidTests := true, laidLooks := .later }
def FnExactMustCellsCardSaid : Prop := Claim7.holds Tryd.pinned (.plain (OpenSpec.ofChange fnExactMustCellsSpec)) fnExactMustCellsCard

/-- THE SECOND FORM's CARD OF 'laws.FnCarrierOk'. -/
def fnCarrierOkUptoCard : Claim7 := { stood := { row := fnCarrierOkUptoRow, standIns := [], harness := (true, "502317ba1594fdc2a94cb120506acd0adf271d62364217e75adef27f8a83c5a6"), looks := false }, kinds := [], alts := [], laidByText := true, laidKinds := [.data, .data, .data], laidTests := true, laidLooks := .later }
def FnCarrierOkUptoCardSaid : Prop := Claim7.holds Tryd.pinned (.plain (OpenSpec.upto fnCarrierOkSpec)) fnCarrierOkUptoCard

/-- THE SECOND FORM's CARD OF 'laws.FnThreatOk'. -/
def fnThreatOkUptoCard : Claim7 := { stood := { row := fnThreatOkUptoRow, standIns := [], harness := (true, "502317ba1594fdc2a94cb120506acd0adf271d62364217e75adef27f8a83c5a6"), looks := false }, kinds := [], alts := [], laidByText := true, laidKinds := [.data, .data, .data], laidTests := true, laidLooks := .later }
def FnThreatOkUptoCardSaid : Prop := Claim7.holds Tryd.pinned (.plain (OpenSpec.upto fnThreatOkSpec)) fnThreatOkUptoCard

/-- THE SECOND FORM's CARD OF 'laws.FnLeastCarrier'. -/
def fnLeastCarrierUptoCard : Claim7 := { stood := { row := fnLeastCarrierUptoRow, standIns := [], harness := (true, "502317ba1594fdc2a94cb120506acd0adf271d62364217e75adef27f8a83c5a6"), looks := false }, kinds := [], alts := [], laidByText := true, laidKinds := [.data, .data, .data], laidTests := true, laidLooks := .later }
def FnLeastCarrierUptoCardSaid : Prop := Claim7.holds Tryd.pinned (.plain (OpenSpec.upto fnLeastCarrierSpec)) fnLeastCarrierUptoCard

/-- THE SECOND FORM's CARD OF 'laws.FnLeastThreat'. -/
def fnLeastThreatUptoCard : Claim7 := { stood := { row := fnLeastThreatUptoRow, standIns := [], harness := (true, "502317ba1594fdc2a94cb120506acd0adf271d62364217e75adef27f8a83c5a6"), looks := false }, kinds := [], alts := [], laidByText := true, laidKinds := [.data, .data, .data], laidTests := true, laidLooks := .later }
def FnLeastThreatUptoCardSaid : Prop := Claim7.holds Tryd.pinned (.plain (OpenSpec.upto fnLeastThreatSpec)) fnLeastThreatUptoCard

/-- THE SECOND FORM's CARD OF 'laws.FnTwoThreats'. -/
def fnTwoThreatsUptoCard : Claim7 := { stood := { row := fnTwoThreatsUptoRow, standIns := [], harness := (true, "502317ba1594fdc2a94cb120506acd0adf271d62364217e75adef27f8a83c5a6"), looks := false }, kinds := [], alts := [], laidByText := true, laidKinds := [.data, .data, .data], laidTests := true, laidLooks := .later }
def FnTwoThreatsUptoCardSaid : Prop := Claim7.holds Tryd.pinned (.plain (OpenSpec.upto fnTwoThreatsSpec)) fnTwoThreatsUptoCard

/-- THE SECOND FORM's CARD OF 'laws.FnBridgesOf'. -/
def fnBridgesOfUptoCard : Claim7 := { stood := { row := fnBridgesOfUptoRow, standIns := [], harness := (true, "502317ba1594fdc2a94cb120506acd0adf271d62364217e75adef27f8a83c5a6"), looks := false }, kinds := [], alts := [], laidByText := true, laidKinds := [.data], laidTests := true, laidLooks := .later }
def FnBridgesOfUptoCardSaid : Prop := Claim7.holds Tryd.pinned (.plain (OpenSpec.upto fnBridgesOfSpec)) fnBridgesOfUptoCard

/-- THE SECOND FORM's CARD OF 'laws.FnMustCells'. -/
def fnMustCellsUptoCard : Claim7 := { stood := { row := fnMustCellsUptoRow, standIns := [], harness := (true, "502317ba1594fdc2a94cb120506acd0adf271d62364217e75adef27f8a83c5a6"), looks := false }, kinds := [], alts := [], laidByText := true, laidKinds := [.data, .data, .data], laidTests := true, laidLooks := .later }
def FnMustCellsUptoCardSaid : Prop := Claim7.holds Tryd.pinned (.plain (OpenSpec.upto fnMustCellsSpec)) fnMustCellsUptoCard

/-- THE SECOND FORM's CARD OF 'laws.FnCarrierMore'. -/
def fnCarrierMoreUptoCard : Claim7 := { stood := { row := fnCarrierMoreUptoRow, standIns := [], harness := (true, "502317ba1594fdc2a94cb120506acd0adf271d62364217e75adef27f8a83c5a6"), looks := false }, kinds := [], alts := [], laidByText := true, laidKinds := [.data, .data, .data], laidTests := true, laidLooks := .later }
def FnCarrierMoreUptoCardSaid : Prop := Claim7.holds Tryd.pinned (.plain (OpenSpec.upto fnCarrierMoreSpec)) fnCarrierMoreUptoCard

/-- THE SECOND FORM's CARD OF 'laws.FnExactCarrierOk'. -/
def fnExactCarrierOkUptoCard : Claim7 := { stood := { row := fnExactCarrierOkUptoRow, standIns := [], harness := (true, "502317ba1594fdc2a94cb120506acd0adf271d62364217e75adef27f8a83c5a6"), looks := false }, kinds := [], alts := [], laidByText := true, laidKinds := [.data, .data, .data], laidTests := true, laidLooks := .later }
def FnExactCarrierOkUptoCardSaid : Prop := Claim7.holds Tryd.pinned (.plain (OpenSpec.upto fnExactCarrierOkSpec)) fnExactCarrierOkUptoCard

/-- THE SECOND FORM's CARD OF 'laws.FnExactThreatOk'. -/
def fnExactThreatOkUptoCard : Claim7 := { stood := { row := fnExactThreatOkUptoRow, standIns := [], harness := (true, "502317ba1594fdc2a94cb120506acd0adf271d62364217e75adef27f8a83c5a6"), looks := false }, kinds := [], alts := [], laidByText := true, laidKinds := [.data, .data, .data], laidTests := true, laidLooks := .later }
def FnExactThreatOkUptoCardSaid : Prop := Claim7.holds Tryd.pinned (.plain (OpenSpec.upto fnExactThreatOkSpec)) fnExactThreatOkUptoCard

/-- THE SECOND FORM's CARD OF 'laws.FnExactLeastCarrier'. -/
def fnExactLeastCarrierUptoCard : Claim7 := { stood := { row := fnExactLeastCarrierUptoRow, standIns := [], harness := (true, "502317ba1594fdc2a94cb120506acd0adf271d62364217e75adef27f8a83c5a6"), looks := false }, kinds := [], alts := [], laidByText := true, laidKinds := [.data, .data, .data], laidTests := true, laidLooks := .later }
def FnExactLeastCarrierUptoCardSaid : Prop := Claim7.holds Tryd.pinned (.plain (OpenSpec.upto fnExactLeastCarrierSpec)) fnExactLeastCarrierUptoCard

/-- THE SECOND FORM's CARD OF 'laws.FnExactLeastThreat'. -/
def fnExactLeastThreatUptoCard : Claim7 := { stood := { row := fnExactLeastThreatUptoRow, standIns := [], harness := (true, "502317ba1594fdc2a94cb120506acd0adf271d62364217e75adef27f8a83c5a6"), looks := false }, kinds := [], alts := [], laidByText := true, laidKinds := [.data, .data, .data], laidTests := true, laidLooks := .later }
def FnExactLeastThreatUptoCardSaid : Prop := Claim7.holds Tryd.pinned (.plain (OpenSpec.upto fnExactLeastThreatSpec)) fnExactLeastThreatUptoCard

/-- THE SECOND FORM's CARD OF 'laws.FnExactBridgesOf'. -/
def fnExactBridgesOfUptoCard : Claim7 := { stood := { row := fnExactBridgesOfUptoRow, standIns := [], harness := (true, "502317ba1594fdc2a94cb120506acd0adf271d62364217e75adef27f8a83c5a6"), looks := false }, kinds := [], alts := [], laidByText := true, laidKinds := [.data], laidTests := true, laidLooks := .later }
def FnExactBridgesOfUptoCardSaid : Prop := Claim7.holds Tryd.pinned (.plain (OpenSpec.upto fnExactBridgesOfSpec)) fnExactBridgesOfUptoCard

/-- THE SECOND FORM's CARD OF 'laws.FnExactMustCells'. -/
def fnExactMustCellsUptoCard : Claim7 := { stood := { row := fnExactMustCellsUptoRow, standIns := [], harness := (true, "502317ba1594fdc2a94cb120506acd0adf271d62364217e75adef27f8a83c5a6"), looks := false }, kinds := [], alts := [], laidByText := true, laidKinds := [.data, .data, .data], laidTests := true, laidLooks := .later }
def FnExactMustCellsUptoCardSaid : Prop := Claim7.holds Tryd.pinned (.plain (OpenSpec.upto fnExactMustCellsSpec)) fnExactMustCellsUptoCard
end Rows
end Go.Proofs.YtmhflbomploidaaDoor
