/-
  DERIVED. GIVEN WITH THE SEED: THE CARDS: each row of YtlfjjjhjjmikfaaDoorRows.lean that lists a variable, with what it lists TIED to the program's text (the seventh form; the later family's looks); each row that meets fmt, with fmt's text TOLD by the authors' own Lean function (tested against real Go, not proved from fmt's source: count such statements apart). THE CARD IS WHAT COUNTS. Prove the row's statement (the work); the ties are given (YtlfjjjhjjmikfaaDoorTie.lean); close each card by the builder's one call (the guide's Derived/Test/ToyasCard.lean, 'card_holds'). Laid BY PROGRAM, IN A SANDBOX (cutbox-door.mjs). By AI agents, Wed Nov 11 2026. No macro, syntax, notation, axiom, sorry.
-/
import Derived.Test.YtlfjjjhjjmikfaaDoorRows
import GoSem.ClaimSeven
namespace Go.Proofs.YtlfjjjhjjmikfaaDoor
namespace Rows

/-- THE TIED CARD OF 'laws.FnOpenings'. -/
def fnOpeningsCard : Claim7 := { stood := { row := fnOpeningsRow, standIns := [], harness := (true, "e754e84fb4a2ed32e76963b85eadd6b8e4cd1569fd9e658cd0f70c66a1ca232a"), looks := false }, kinds := [], alts := [], laidByText := true, laidKinds := [.data, .data, .data], laidTests := true, laidLooks := .later }
def FnOpeningsCardSaid : Prop := Claim7.holds Tryd.pinned (.plain (OpenSpec.ofChange fnOpeningsSpec)) fnOpeningsCard

/-- THE TIED CARD OF 'laws.FnPairFilled'. -/
def fnPairFilledCard : Claim7 := { stood := { row := fnPairFilledRow, standIns := [], harness := (true, "e754e84fb4a2ed32e76963b85eadd6b8e4cd1569fd9e658cd0f70c66a1ca232a"), looks := false }, kinds := [], alts := [], laidByText := true, laidKinds := [.data, .data, .data], laidTests := true, laidLooks := .later }
def FnPairFilledCardSaid : Prop := Claim7.holds Tryd.pinned (.plain (OpenSpec.ofChange fnPairFilledSpec)) fnPairFilledCard

/-- THE TIED CARD OF 'laws.FnWideWins'. -/
def fnWideWinsCard : Claim7 := { stood := { row := fnWideWinsRow, standIns := [], harness := (true, "e754e84fb4a2ed32e76963b85eadd6b8e4cd1569fd9e658cd0f70c66a1ca232a"), looks := false }, kinds := [], alts := [], laidByText := true, laidKinds := [.data, .data, .data], laidTests := true, laidLooks := .later }
def FnWideWinsCardSaid : Prop := Claim7.holds Tryd.pinned (.plain (OpenSpec.ofChange fnWideWinsSpec)) fnWideWinsCard

/-- THE TIED CARD OF 'laws.FnExactOpenings'. -/
def fnExactOpeningsCard : Claim7 := { stood := { row := fnExactOpeningsRow, standIns := [], harness := (true, "e754e84fb4a2ed32e76963b85eadd6b8e4cd1569fd9e658cd0f70c66a1ca232a"), looks := false }, kinds := [], alts := [], laidByText := true, laidKinds := [.data, .data, .data], laidTests := true, laidLooks := .later }
def FnExactOpeningsCardSaid : Prop := Claim7.holds Tryd.pinned (.plain (OpenSpec.ofChange fnExactOpeningsSpec)) fnExactOpeningsCard

/-- THE SECOND FORM's CARD OF 'laws.FnOpenings'. -/
def fnOpeningsUptoCard : Claim7 := { stood := { row := fnOpeningsUptoRow, standIns := [], harness := (true, "e754e84fb4a2ed32e76963b85eadd6b8e4cd1569fd9e658cd0f70c66a1ca232a"), looks := false }, kinds := [], alts := [], laidByText := true, laidKinds := [.data, .data, .data], laidTests := true, laidLooks := .later }
def FnOpeningsUptoCardSaid : Prop := Claim7.holds Tryd.pinned (.plain (OpenSpec.upto fnOpeningsSpec)) fnOpeningsUptoCard

/-- THE SECOND FORM's CARD OF 'laws.FnPairFilled'. -/
def fnPairFilledUptoCard : Claim7 := { stood := { row := fnPairFilledUptoRow, standIns := [], harness := (true, "e754e84fb4a2ed32e76963b85eadd6b8e4cd1569fd9e658cd0f70c66a1ca232a"), looks := false }, kinds := [], alts := [], laidByText := true, laidKinds := [.data, .data, .data], laidTests := true, laidLooks := .later }
def FnPairFilledUptoCardSaid : Prop := Claim7.holds Tryd.pinned (.plain (OpenSpec.upto fnPairFilledSpec)) fnPairFilledUptoCard

/-- THE SECOND FORM's CARD OF 'laws.FnWideWins'. -/
def fnWideWinsUptoCard : Claim7 := { stood := { row := fnWideWinsUptoRow, standIns := [], harness := (true, "e754e84fb4a2ed32e76963b85eadd6b8e4cd1569fd9e658cd0f70c66a1ca232a"), looks := false }, kinds := [], alts := [], laidByText := true, laidKinds := [.data, .data, .data], laidTests := true, laidLooks := .later }
def FnWideWinsUptoCardSaid : Prop := Claim7.holds Tryd.pinned (.plain (OpenSpec.upto fnWideWinsSpec)) fnWideWinsUptoCard

/-- THE SECOND FORM's CARD OF 'laws.FnExactOpenings'. -/
def fnExactOpeningsUptoCard : Claim7 := { stood := { row := fnExactOpeningsUptoRow, standIns := [], harness := (true, "e754e84fb4a2ed32e76963b85eadd6b8e4cd1569fd9e658cd0f70c66a1ca232a"), looks := false }, kinds := [], alts := [], laidByText := true, laidKinds := [.data, .data, .data], laidTests := true, laidLooks := .later }
def FnExactOpeningsUptoCardSaid : Prop := Claim7.holds Tryd.pinned (.plain (OpenSpec.upto fnExactOpeningsSpec)) fnExactOpeningsUptoCard
end Rows
end Go.Proofs.YtlfjjjhjjmikfaaDoor
