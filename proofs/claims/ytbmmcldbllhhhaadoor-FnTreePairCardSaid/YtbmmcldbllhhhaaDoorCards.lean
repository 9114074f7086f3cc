/-
  DERIVED. GIVEN WITH THE SEED: THE CARDS: each row of YtbmmcldbllhhhaaDoorRows.lean that lists a variable, with what it lists TIED to the program's text (the seventh form; the later family's looks); each row that meets fmt, with fmt's text TOLD by the authors' own Lean function (tested against real Go, not proved from fmt's source: count such statements apart). THE CARD IS WHAT COUNTS. Prove the row's statement (the work); the ties are given (YtbmmcldbllhhhaaDoorTie.lean); close each card by the builder's one call (the guide's Derived/Test/ToyasCard.lean, 'card_holds'). Laid BY PROGRAM, IN A SANDBOX (cutbox-door.mjs). By AI agents, Wed Nov 11 2026. No macro, syntax, notation, axiom, sorry.
-/
import Derived.Test.YtbmmcldbllhhhaaDoorRows
import GoSem.ClaimSeven
namespace Go.Proofs.YtbmmcldbllhhhaaDoor
namespace Rows

/-- THE TIED CARD OF 'laws.FnTreeOk'. -/
def fnTreeOkCard : Claim7 := { stood := { row := fnTreeOkRow, standIns := [], harness := (true, "65dd43146fa22ebd2459a61f97569ba256b96018f6b4fca9f3b99ca8994733d8"), looks := false }, kinds := [], alts := [], laidByText := true, laidKinds := [.data, .data], laidTests := true, laidLooks := .later }
def FnTreeOkCardSaid : Prop := Claim7.holds Tryd.pinned (.plain (OpenSpec.ofChange fnTreeOkSpec)) fnTreeOkCard

/-- THE TIED CARD OF 'laws.FnTreesOf'. -/
def fnTreesOfCard : Claim7 := { stood := { row := fnTreesOfRow, standIns := [], harness := (true, "65dd43146fa22ebd2459a61f97569ba256b96018f6b4fca9f3b99ca8994733d8"), looks := false }, kinds := [], alts := [], laidByText := true, laidKinds := [.data, .data], laidTests := true, laidLooks := .later }
def FnTreesOfCardSaid : Prop := Claim7.holds Tryd.pinned (.plain (OpenSpec.ofChange fnTreesOfSpec)) fnTreesOfCard

/-- THE TIED CARD OF 'laws.FnTreePair'. -/
def fnTreePairCard : Claim7 := { stood := { row := fnTreePairRow, standIns := [], harness := (true, "65dd43146fa22ebd2459a61f97569ba256b96018f6b4fca9f3b99ca8994733d8"), looks := false }, kinds := [], alts := [], laidByText := true, laidKinds := [.data, .data], laidTests := true, laidLooks := .later }
def FnTreePairCardSaid : Prop := Claim7.holds Tryd.pinned (.plain (OpenSpec.ofChange fnTreePairSpec)) fnTreePairCard

/-- THE TIED CARD OF 'laws.FnPairOn'. -/
def fnPairOnCard : Claim7 := { stood := { row := fnPairOnRow, standIns := [], harness := (true, "65dd43146fa22ebd2459a61f97569ba256b96018f6b4fca9f3b99ca8994733d8"), looks := false }, kinds := [], alts := [], laidByText := true, laidKinds := [.data, .data], laidTests := true, laidLooks := .later }
def FnPairOnCardSaid : Prop := Claim7.holds Tryd.pinned (.plain (OpenSpec.ofChange fnPairOnSpec)) fnPairOnCard

/-- THE TIED CARD OF 'laws.FnPairSomewhere'. -/
def fnPairSomewhereCard : Claim7 := { stood := { row := fnPairSomewhereRow, standIns := [], harness := (true, "65dd43146fa22ebd2459a61f97569ba256b96018f6b4fca9f3b99ca8994733d8"), looks := false }, kinds := [], alts := [], laidByText := true, laidKinds := [.data, .data], laidTests := true, laidLooks := .later }
def FnPairSomewhereCardSaid : Prop := Claim7.holds Tryd.pinned (.plain (OpenSpec.ofChange fnPairSomewhereSpec)) fnPairSomewhereCard

/-- THE SECOND FORM's CARD OF 'laws.FnTreeOk'. -/
def fnTreeOkUptoCard : Claim7 := { stood := { row := fnTreeOkUptoRow, standIns := [], harness := (true, "65dd43146fa22ebd2459a61f97569ba256b96018f6b4fca9f3b99ca8994733d8"), looks := false }, kinds := [], alts := [], laidByText := true, laidKinds := [.data, .data], laidTests := true, laidLooks := .later }
def FnTreeOkUptoCardSaid : Prop := Claim7.holds Tryd.pinned (.plain (OpenSpec.upto fnTreeOkSpec)) fnTreeOkUptoCard

/-- THE SECOND FORM's CARD OF 'laws.FnTreesOf'. -/
def fnTreesOfUptoCard : Claim7 := { stood := { row := fnTreesOfUptoRow, standIns := [], harness := (true, "65dd43146fa22ebd2459a61f97569ba256b96018f6b4fca9f3b99ca8994733d8"), looks := false }, kinds := [], alts := [], laidByText := true, laidKinds := [.data, .data], laidTests := true, laidLooks := .later }
def FnTreesOfUptoCardSaid : Prop := Claim7.holds Tryd.pinned (.plain (OpenSpec.upto fnTreesOfSpec)) fnTreesOfUptoCard

/-- THE SECOND FORM's CARD OF 'laws.FnTreePair'. -/
def fnTreePairUptoCard : Claim7 := { stood := { row := fnTreePairUptoRow, standIns := [], harness := (true, "65dd43146fa22ebd2459a61f97569ba256b96018f6b4fca9f3b99ca8994733d8"), looks := false }, kinds := [], alts := [], laidByText := true, laidKinds := [.data, .data], laidTests := true, laidLooks := .later }
def FnTreePairUptoCardSaid : Prop := Claim7.holds Tryd.pinned (.plain (OpenSpec.upto fnTreePairSpec)) fnTreePairUptoCard

/-- THE SECOND FORM's CARD OF 'laws.FnPairOn'. -/
def fnPairOnUptoCard : Claim7 := { stood := { row := fnPairOnUptoRow, standIns := [], harness := (true, "65dd43146fa22ebd2459a61f97569ba256b96018f6b4fca9f3b99ca8994733d8"), looks := false }, kinds := [], alts := [], laidByText := true, laidKinds := [.data, .data], laidTests := true, laidLooks := .later }
def FnPairOnUptoCardSaid : Prop := Claim7.holds Tryd.pinned (.plain (OpenSpec.upto fnPairOnSpec)) fnPairOnUptoCard

/-- THE SECOND FORM's CARD OF 'laws.FnPairSomewhere'. -/
def fnPairSomewhereUptoCard : Claim7 := { stood := { row := fnPairSomewhereUptoRow, standIns := [], harness := (true, "65dd43146fa22ebd2459a61f97569ba256b96018f6b4fca9f3b99ca8994733d8"), looks := false }, kinds := [], alts := [], laidByText := true, laidKinds := [.data, .data], laidTests := true, laidLooks := .later }
def FnPairSomewhereUptoCardSaid : Prop := Claim7.holds Tryd.pinned (.plain (OpenSpec.upto fnPairSomewhereSpec)) fnPairSomewhereUptoCard
end Rows
end Go.Proofs.YtbmmcldbllhhhaaDoor
