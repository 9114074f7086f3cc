/-
  DERIVED. GIVEN WITH THE SEED: THE CARDS: each row of YtbmmcldbllhhhacDoorRows.lean that lists a variable, with what it lists TIED to the program's text (the seventh form; the later family's looks); each row that meets fmt, with fmt's text TOLD by the authors' own Lean function (tested against real Go, not proved from fmt's source: count such statements apart). THE CARD IS WHAT COUNTS. Prove the row's statement (the work); the ties are given (YtbmmcldbllhhhacDoorTie.lean); close each card by the builder's one call (the guide's Derived/Test/ToyasCard.lean, 'card_holds'). Laid BY PROGRAM, IN A SANDBOX (cutbox-door.mjs). By AI agents, Wed Nov 11 2026. No macro, syntax, notation, axiom, sorry.
-/
import Derived.Test.YtbmmcldbllhhhacDoorRows
import GoSem.ClaimSeven
namespace Go.Proofs.YtbmmcldbllhhhacDoor
namespace Rows

/-- THE TIED CARD OF 'laws.FnExactTreePair'. -/
def fnExactTreePairCard : Claim7 := { stood := { row := fnExactTreePairRow, standIns := [], harness := (true, "aae31d0f913c7b372aaad7f6e4923703a3d43c650052d06de8e8a872b943143f"), looks := false }, kinds := [], alts := [], laidByText := true, laidKinds := [.data, .data], laidTests := true, laidLooks := .later }
def FnExactTreePairCardSaid : Prop := Claim7.holds Tryd.pinned (.plain (OpenSpec.ofChange fnExactTreePairSpec)) fnExactTreePairCard

/-- THE TIED CARD OF 'laws.FnExactPairOn'. -/
def fnExactPairOnCard : Claim7 := { stood := { row := fnExactPairOnRow, standIns := [], harness := (true, "aae31d0f913c7b372aaad7f6e4923703a3d43c650052d06de8e8a872b943143f"), looks := false }, kinds := [], alts := [], laidByText := true, laidKinds := [.data, .data], laidTests := true, laidLooks := .later }
def FnExactPairOnCardSaid : Prop := Claim7.holds Tryd.pinned (.plain (OpenSpec.ofChange fnExactPairOnSpec)) fnExactPairOnCard

/-- THE TIED CARD OF 'laws.FnExactPairSomewhere'. -/
def fnExactPairSomewhereCard : Claim7 := { stood := { row := fnExactPairSomewhereRow, standIns := [], harness := (true, "aae31d0f913c7b372aaad7f6e4923703a3d43c650052d06de8e8a872b943143f"), looks := false }, kinds := [], alts := [], laidByText := true, laidKinds := [.data, .data], laidTests := true, laidLooks := .later }
def FnExactPairSomewhereCardSaid : Prop := Claim7.holds Tryd.pinned (.plain (OpenSpec.ofChange fnExactPairSomewhereSpec)) fnExactPairSomewhereCard

/-- THE TIED CARD OF 'laws.FnExactTreeReply'. -/
def fnExactTreeReplyCard : Claim7 := { stood := { row := fnExactTreeReplyRow, standIns := [], harness := (true, "aae31d0f913c7b372aaad7f6e4923703a3d43c650052d06de8e8a872b943143f"), looks := false }, kinds := [], alts := [], laidByText := true, laidKinds := [.data, .data], laidTests := true, laidLooks := .later }
def FnExactTreeReplyCardSaid : Prop := Claim7.holds Tryd.pinned (.plain (OpenSpec.ofChange fnExactTreeReplySpec)) fnExactTreeReplyCard

/-- THE TIED CARD OF 'laws.FnExactTreesThrough'. -/
def fnExactTreesThroughCard : Claim7 := { stood := { row := fnExactTreesThroughRow, standIns := [], harness := (true, "aae31d0f913c7b372aaad7f6e4923703a3d43c650052d06de8e8a872b943143f"), looks := false }, kinds := [], alts := [], laidByText := true, laidKinds := [.data, .data], laidTests := true, laidLooks := .later }
def FnExactTreesThroughCardSaid : Prop := Claim7.holds Tryd.pinned (.plain (OpenSpec.ofChange fnExactTreesThroughSpec)) fnExactTreesThroughCard

/-- THE SECOND FORM's CARD OF 'laws.FnExactTreePair'. -/
def fnExactTreePairUptoCard : Claim7 := { stood := { row := fnExactTreePairUptoRow, standIns := [], harness := (true, "aae31d0f913c7b372aaad7f6e4923703a3d43c650052d06de8e8a872b943143f"), looks := false }, kinds := [], alts := [], laidByText := true, laidKinds := [.data, .data], laidTests := true, laidLooks := .later }
def FnExactTreePairUptoCardSaid : Prop := Claim7.holds Tryd.pinned (.plain (OpenSpec.upto fnExactTreePairSpec)) fnExactTreePairUptoCard

/-- THE SECOND FORM's CARD OF 'laws.FnExactPairOn'. -/
def fnExactPairOnUptoCard : Claim7 := { stood := { row := fnExactPairOnUptoRow, standIns := [], harness := (true, "aae31d0f913c7b372aaad7f6e4923703a3d43c650052d06de8e8a872b943143f"), looks := false }, kinds := [], alts := [], laidByText := true, laidKinds := [.data, .data], laidTests := true, laidLooks := .later }
def FnExactPairOnUptoCardSaid : Prop := Claim7.holds Tryd.pinned (.plain (OpenSpec.upto fnExactPairOnSpec)) fnExactPairOnUptoCard

/-- THE SECOND FORM's CARD OF 'laws.FnExactPairSomewhere'. -/
def fnExactPairSomewhereUptoCard : Claim7 := { stood := { row := fnExactPairSomewhereUptoRow, standIns := [], harness := (true, "aae31d0f913c7b372aaad7f6e4923703a3d43c650052d06de8e8a872b943143f"), looks := false }, kinds := [], alts := [], laidByText := true, laidKinds := [.data, .data], laidTests := true, laidLooks := .later }
def FnExactPairSomewhereUptoCardSaid : Prop := Claim7.holds Tryd.pinned (.plain (OpenSpec.upto fnExactPairSomewhereSpec)) fnExactPairSomewhereUptoCard

/-- THE SECOND FORM's CARD OF 'laws.FnExactTreeReply'. -/
def fnExactTreeReplyUptoCard : Claim7 := { stood := { row := fnExactTreeReplyUptoRow, standIns := [], harness := (true, "aae31d0f913c7b372aaad7f6e4923703a3d43c650052d06de8e8a872b943143f"), looks := false }, kinds := [], alts := [], laidByText := true, laidKinds := [.data, .data], laidTests := true, laidLooks := .later }
def FnExactTreeReplyUptoCardSaid : Prop := Claim7.holds Tryd.pinned (.plain (OpenSpec.upto fnExactTreeReplySpec)) fnExactTreeReplyUptoCard

/-- THE SECOND FORM's CARD OF 'laws.FnExactTreesThrough'. -/
def fnExactTreesThroughUptoCard : Claim7 := { stood := { row := fnExactTreesThroughUptoRow, standIns := [], harness := (true, "aae31d0f913c7b372aaad7f6e4923703a3d43c650052d06de8e8a872b943143f"), looks := false }, kinds := [], alts := [], laidByText := true, laidKinds := [.data, .data], laidTests := true, laidLooks := .later }
def FnExactTreesThroughUptoCardSaid : Prop := Claim7.holds Tryd.pinned (.plain (OpenSpec.upto fnExactTreesThroughSpec)) fnExactTreesThroughUptoCard
end Rows
end Go.Proofs.YtbmmcldbllhhhacDoor
