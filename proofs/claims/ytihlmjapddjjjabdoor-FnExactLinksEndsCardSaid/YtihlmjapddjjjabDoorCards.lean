/-
  DERIVED. GIVEN WITH THE SEED: THE CARDS: each row of YtihlmjapddjjjabDoorRows.lean that lists a variable, with what it lists TIED to the program's text (the seventh form; the later family's looks); each row that meets fmt, with fmt's text TOLD by the authors' own Lean function (tested against real Go, not proved from fmt's source: count such statements apart). THE CARD IS WHAT COUNTS. Prove the row's statement (the work); the ties are given (YtihlmjapddjjjabDoorTie.lean); close each card by the builder's one call (the guide's Derived/Test/ToyasCard.lean, 'card_holds'). Laid BY PROGRAM, IN A SANDBOX (cutbox-door.mjs). By AI agents, Wed Nov 11 2026. No macro, syntax, notation, axiom, sorry.
-/
import Derived.Test.YtihlmjapddjjjabDoorRows
import GoSem.ClaimSeven
namespace Go.Proofs.YtihlmjapddjjjabDoor
namespace Rows

/-- THE TIED CARD OF 'laws.FnLeastLinks'. -/
def fnLeastLinksCard : Claim7 := { stood := { row := fnLeastLinksRow, standIns := [], harness := (true, "6b546da926a9681f1d923d1b1abccf9b8641c782993ae6e06c8fdd3f5177ca2e"), looks := false }, kinds := [], alts := [], laidByText := true, laidKinds := [.data, .data], laidTests := true, laidLooks := .later }
def FnLeastLinksCardSaid : Prop := Claim7.holds Tryd.pinned (.plain (OpenSpec.ofChange fnLeastLinksSpec)) fnLeastLinksCard

/-- THE TIED CARD OF 'laws.FnLeastCuts'. -/
def fnLeastCutsCard : Claim7 := { stood := { row := fnLeastCutsRow, standIns := [], harness := (true, "6b546da926a9681f1d923d1b1abccf9b8641c782993ae6e06c8fdd3f5177ca2e"), looks := false }, kinds := [], alts := [], laidByText := true, laidKinds := [.data, .data], laidTests := true, laidLooks := .later }
def FnLeastCutsCardSaid : Prop := Claim7.holds Tryd.pinned (.plain (OpenSpec.ofChange fnLeastCutsSpec)) fnLeastCutsCard

/-- THE TIED CARD OF 'laws.FnWireGap'. -/
def fnWireGapCard : Claim7 := { stood := { row := fnWireGapRow, standIns := [], harness := (true, "6b546da926a9681f1d923d1b1abccf9b8641c782993ae6e06c8fdd3f5177ca2e"), looks := false }, kinds := [], alts := [], laidByText := true, laidKinds := [.data, .data], laidTests := true, laidLooks := .later }
def FnWireGapCardSaid : Prop := Claim7.holds Tryd.pinned (.plain (OpenSpec.ofChange fnWireGapSpec)) fnWireGapCard

/-- THE TIED CARD OF 'laws.FnWiresMore'. -/
def fnWiresMoreCard : Claim7 := { stood := { row := fnWiresMoreRow, standIns := [], harness := (true, "6b546da926a9681f1d923d1b1abccf9b8641c782993ae6e06c8fdd3f5177ca2e"), looks := false }, kinds := [], alts := [], laidByText := true, laidKinds := [.data, .data], laidTests := true, laidLooks := .later }
def FnWiresMoreCardSaid : Prop := Claim7.holds Tryd.pinned (.plain (OpenSpec.ofChange fnWiresMoreSpec)) fnWiresMoreCard

/-- THE TIED CARD OF 'laws.FnExactLinksEnds'. -/
def fnExactLinksEndsCard : Claim7 := { stood := { row := fnExactLinksEndsRow, standIns := [], harness := (true, "6b546da926a9681f1d923d1b1abccf9b8641c782993ae6e06c8fdd3f5177ca2e"), looks := false }, kinds := [], alts := [], laidByText := true, laidKinds := [.data, .data], laidTests := true, laidLooks := .later }
def FnExactLinksEndsCardSaid : Prop := Claim7.holds Tryd.pinned (.plain (OpenSpec.ofChange fnExactLinksEndsSpec)) fnExactLinksEndsCard

/-- THE SECOND FORM's CARD OF 'laws.FnLeastLinks'. -/
def fnLeastLinksUptoCard : Claim7 := { stood := { row := fnLeastLinksUptoRow, standIns := [], harness := (true, "6b546da926a9681f1d923d1b1abccf9b8641c782993ae6e06c8fdd3f5177ca2e"), looks := false }, kinds := [], alts := [], laidByText := true, laidKinds := [.data, .data], laidTests := true, laidLooks := .later }
def FnLeastLinksUptoCardSaid : Prop := Claim7.holds Tryd.pinned (.plain (OpenSpec.upto fnLeastLinksSpec)) fnLeastLinksUptoCard

/-- THE SECOND FORM's CARD OF 'laws.FnLeastCuts'. -/
def fnLeastCutsUptoCard : Claim7 := { stood := { row := fnLeastCutsUptoRow, standIns := [], harness := (true, "6b546da926a9681f1d923d1b1abccf9b8641c782993ae6e06c8fdd3f5177ca2e"), looks := false }, kinds := [], alts := [], laidByText := true, laidKinds := [.data, .data], laidTests := true, laidLooks := .later }
def FnLeastCutsUptoCardSaid : Prop := Claim7.holds Tryd.pinned (.plain (OpenSpec.upto fnLeastCutsSpec)) fnLeastCutsUptoCard

/-- THE SECOND FORM's CARD OF 'laws.FnWireGap'. -/
def fnWireGapUptoCard : Claim7 := { stood := { row := fnWireGapUptoRow, standIns := [], harness := (true, "6b546da926a9681f1d923d1b1abccf9b8641c782993ae6e06c8fdd3f5177ca2e"), looks := false }, kinds := [], alts := [], laidByText := true, laidKinds := [.data, .data], laidTests := true, laidLooks := .later }
def FnWireGapUptoCardSaid : Prop := Claim7.holds Tryd.pinned (.plain (OpenSpec.upto fnWireGapSpec)) fnWireGapUptoCard

/-- THE SECOND FORM's CARD OF 'laws.FnWiresMore'. -/
def fnWiresMoreUptoCard : Claim7 := { stood := { row := fnWiresMoreUptoRow, standIns := [], harness := (true, "6b546da926a9681f1d923d1b1abccf9b8641c782993ae6e06c8fdd3f5177ca2e"), looks := false }, kinds := [], alts := [], laidByText := true, laidKinds := [.data, .data], laidTests := true, laidLooks := .later }
def FnWiresMoreUptoCardSaid : Prop := Claim7.holds Tryd.pinned (.plain (OpenSpec.upto fnWiresMoreSpec)) fnWiresMoreUptoCard

/-- THE SECOND FORM's CARD OF 'laws.FnExactLinksEnds'. -/
def fnExactLinksEndsUptoCard : Claim7 := { stood := { row := fnExactLinksEndsUptoRow, standIns := [], harness := (true, "6b546da926a9681f1d923d1b1abccf9b8641c782993ae6e06c8fdd3f5177ca2e"), looks := false }, kinds := [], alts := [], laidByText := true, laidKinds := [.data, .data], laidTests := true, laidLooks := .later }
def FnExactLinksEndsUptoCardSaid : Prop := Claim7.holds Tryd.pinned (.plain (OpenSpec.upto fnExactLinksEndsSpec)) fnExactLinksEndsUptoCard
end Rows
end Go.Proofs.YtihlmjapddjjjabDoor
