/-
  DERIVED. GIVEN WITH THE SEED: THE CARDS: each row of YtbmmcldbllhhhabDoorRows.lean that lists a variable, with what it lists TIED to the program's text (the seventh form; the later family's looks); each row that meets fmt, with fmt's text TOLD by the authors' own Lean function (tested against real Go, not proved from fmt's source: count such statements apart). THE CARD IS WHAT COUNTS. Prove the row's statement (the work); the ties are given (YtbmmcldbllhhhabDoorTie.lean); close each card by the builder's one call (the guide's Derived/Test/ToyasCard.lean, 'card_holds'). Laid BY PROGRAM, IN A SANDBOX (cutbox-door.mjs). By AI agents, Wed Nov 11 2026. No macro, syntax, notation, axiom, sorry.
-/
import Derived.Test.YtbmmcldbllhhhabDoorRows
import GoSem.ClaimSeven
namespace Go.Proofs.YtbmmcldbllhhhabDoor
namespace Rows

/-- THE TIED CARD OF 'laws.FnTreeReply'. -/
def fnTreeReplyCard : Claim7 := { stood := { row := fnTreeReplyRow, standIns := [], harness := (true, "147298d2cd49d7e0083ed485e4b96880c7153221a4b65e64a41eed5f7929ad21"), looks := false }, kinds := [], alts := [], laidByText := true, laidKinds := [.data, .data], laidTests := true, laidLooks := .later }
def FnTreeReplyCardSaid : Prop := Claim7.holds Tryd.pinned (.plain (OpenSpec.ofChange fnTreeReplySpec)) fnTreeReplyCard

/-- THE TIED CARD OF 'laws.FnTreesThrough'. -/
def fnTreesThroughCard : Claim7 := { stood := { row := fnTreesThroughRow, standIns := [], harness := (true, "147298d2cd49d7e0083ed485e4b96880c7153221a4b65e64a41eed5f7929ad21"), looks := false }, kinds := [], alts := [], laidByText := true, laidKinds := [.data, .data], laidTests := true, laidLooks := .later }
def FnTreesThroughCardSaid : Prop := Claim7.holds Tryd.pinned (.plain (OpenSpec.ofChange fnTreesThroughSpec)) fnTreesThroughCard

/-- THE TIED CARD OF 'laws.FnTreesGrow'. -/
def fnTreesGrowCard : Claim7 := { stood := { row := fnTreesGrowRow, standIns := [], harness := (true, "147298d2cd49d7e0083ed485e4b96880c7153221a4b65e64a41eed5f7929ad21"), looks := false }, kinds := [], alts := [], laidByText := true, laidKinds := [.data, .data], laidTests := true, laidLooks := .later }
def FnTreesGrowCardSaid : Prop := Claim7.holds Tryd.pinned (.plain (OpenSpec.ofChange fnTreesGrowSpec)) fnTreesGrowCard

/-- THE TIED CARD OF 'laws.FnExactTreeOk'. -/
def fnExactTreeOkCard : Claim7 := { stood := { row := fnExactTreeOkRow, standIns := [], harness := (true, "147298d2cd49d7e0083ed485e4b96880c7153221a4b65e64a41eed5f7929ad21"), looks := false }, kinds := [], alts := [], laidByText := true, laidKinds := [.data, .data], laidTests := true, laidLooks := .later }
def FnExactTreeOkCardSaid : Prop := Claim7.holds Tryd.pinned (.plain (OpenSpec.ofChange fnExactTreeOkSpec)) fnExactTreeOkCard

/-- THE TIED CARD OF 'laws.FnExactTreesOf'. -/
def fnExactTreesOfCard : Claim7 := { stood := { row := fnExactTreesOfRow, standIns := [], harness := (true, "147298d2cd49d7e0083ed485e4b96880c7153221a4b65e64a41eed5f7929ad21"), looks := false }, kinds := [], alts := [], laidByText := true, laidKinds := [.data, .data], laidTests := true, laidLooks := .later }
def FnExactTreesOfCardSaid : Prop := Claim7.holds Tryd.pinned (.plain (OpenSpec.ofChange fnExactTreesOfSpec)) fnExactTreesOfCard

/-- THE SECOND FORM's CARD OF 'laws.FnTreeReply'. -/
def fnTreeReplyUptoCard : Claim7 := { stood := { row := fnTreeReplyUptoRow, standIns := [], harness := (true, "147298d2cd49d7e0083ed485e4b96880c7153221a4b65e64a41eed5f7929ad21"), looks := false }, kinds := [], alts := [], laidByText := true, laidKinds := [.data, .data], laidTests := true, laidLooks := .later }
def FnTreeReplyUptoCardSaid : Prop := Claim7.holds Tryd.pinned (.plain (OpenSpec.upto fnTreeReplySpec)) fnTreeReplyUptoCard

/-- THE SECOND FORM's CARD OF 'laws.FnTreesThrough'. -/
def fnTreesThroughUptoCard : Claim7 := { stood := { row := fnTreesThroughUptoRow, standIns := [], harness := (true, "147298d2cd49d7e0083ed485e4b96880c7153221a4b65e64a41eed5f7929ad21"), looks := false }, kinds := [], alts := [], laidByText := true, laidKinds := [.data, .data], laidTests := true, laidLooks := .later }
def FnTreesThroughUptoCardSaid : Prop := Claim7.holds Tryd.pinned (.plain (OpenSpec.upto fnTreesThroughSpec)) fnTreesThroughUptoCard

/-- THE SECOND FORM's CARD OF 'laws.FnTreesGrow'. -/
def fnTreesGrowUptoCard : Claim7 := { stood := { row := fnTreesGrowUptoRow, standIns := [], harness := (true, "147298d2cd49d7e0083ed485e4b96880c7153221a4b65e64a41eed5f7929ad21"), looks := false }, kinds := [], alts := [], laidByText := true, laidKinds := [.data, .data], laidTests := true, laidLooks := .later }
def FnTreesGrowUptoCardSaid : Prop := Claim7.holds Tryd.pinned (.plain (OpenSpec.upto fnTreesGrowSpec)) fnTreesGrowUptoCard

/-- THE SECOND FORM's CARD OF 'laws.FnExactTreeOk'. -/
def fnExactTreeOkUptoCard : Claim7 := { stood := { row := fnExactTreeOkUptoRow, standIns := [], harness := (true, "147298d2cd49d7e0083ed485e4b96880c7153221a4b65e64a41eed5f7929ad21"), looks := false }, kinds := [], alts := [], laidByText := true, laidKinds := [.data, .data], laidTests := true, laidLooks := .later }
def FnExactTreeOkUptoCardSaid : Prop := Claim7.holds Tryd.pinned (.plain (OpenSpec.upto fnExactTreeOkSpec)) fnExactTreeOkUptoCard

/-- THE SECOND FORM's CARD OF 'laws.FnExactTreesOf'. -/
def fnExactTreesOfUptoCard : Claim7 := { stood := { row := fnExactTreesOfUptoRow, standIns := [], harness := (true, "147298d2cd49d7e0083ed485e4b96880c7153221a4b65e64a41eed5f7929ad21"), looks := false }, kinds := [], alts := [], laidByText := true, laidKinds := [.data, .data], laidTests := true, laidLooks := .later }
def FnExactTreesOfUptoCardSaid : Prop := Claim7.holds Tryd.pinned (.plain (OpenSpec.upto fnExactTreesOfSpec)) fnExactTreesOfUptoCard
end Rows
end Go.Proofs.YtbmmcldbllhhhabDoor
