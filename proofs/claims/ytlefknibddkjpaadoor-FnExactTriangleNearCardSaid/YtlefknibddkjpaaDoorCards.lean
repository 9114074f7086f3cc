/-
  DERIVED. GIVEN WITH THE SEED: THE CARDS: each row of YtlefknibddkjpaaDoorRows.lean that lists a variable, with what it lists TIED to the program's text (the seventh form; the later family's looks); each row that meets fmt, with fmt's text TOLD by the authors' own Lean function (tested against real Go, not proved from fmt's source: count such statements apart). THE CARD IS WHAT COUNTS. Prove the row's statement (the work); the ties are given (YtlefknibddkjpaaDoorTie.lean); close each card by the builder's one call (the guide's Derived/Test/ToyasCard.lean, 'card_holds'). Laid BY PROGRAM, IN A SANDBOX (cutbox-door.mjs). By AI agents, Wed Nov 11 2026. No macro, syntax, notation, axiom, sorry.
-/
import Derived.Test.YtlefknibddkjpaaDoorRows
import GoSem.ClaimSeven
namespace Go.Proofs.YtlefknibddkjpaaDoor
namespace Rows

/-- THE TIED CARD OF 'laws.FnTriangleNear'. -/
def fnTriangleNearCard : Claim7 := { stood := { row := fnTriangleNearRow, standIns := [], harness := (true, "15422c4196f80fe1b1bdd3a65bd548c5a19586566e8ac9299e942adfd4a58b7e"), looks := false }, kinds := [], alts := [], laidByText := true, laidKinds := [.data], laidTests := true, laidLooks := .later }
def FnTriangleNearCardSaid : Prop := Claim7.holds Tryd.pinned (.plain (OpenSpec.ofChange fnTriangleNearSpec)) fnTriangleNearCard

/-- THE TIED CARD OF 'laws.FnJoinsAll'. -/
def fnJoinsAllCard : Claim7 := { stood := { row := fnJoinsAllRow, standIns := [], harness := (true, "15422c4196f80fe1b1bdd3a65bd548c5a19586566e8ac9299e942adfd4a58b7e"), looks := false }, kinds := [], alts := [], laidByText := true, laidKinds := [.data, .data, .data], laidTests := true, laidLooks := .later }
def FnJoinsAllCardSaid : Prop := Claim7.holds Tryd.pinned (.plain (OpenSpec.ofChange fnJoinsAllSpec)) fnJoinsAllCard

/-- THE TIED CARD OF 'laws.FnShrunk'. -/
def fnShrunkCard : Claim7 := { stood := { row := fnShrunkRow, standIns := [], harness := (true, "15422c4196f80fe1b1bdd3a65bd548c5a19586566e8ac9299e942adfd4a58b7e"), looks := false }, kinds := [], alts := [], laidByText := true, laidKinds := [.data, .data, .data], laidTests := true, laidLooks := .later }
def FnShrunkCardSaid : Prop := Claim7.holds Tryd.pinned (.plain (OpenSpec.ofChange fnShrunkSpec)) fnShrunkCard

/-- THE TIED CARD OF 'laws.FnLastCell'. -/
def fnLastCellCard : Claim7 := { stood := { row := fnLastCellRow, standIns := [], harness := (true, "15422c4196f80fe1b1bdd3a65bd548c5a19586566e8ac9299e942adfd4a58b7e"), looks := false }, kinds := [], alts := [], laidByText := true, laidKinds := [.data, .data, .data], laidTests := true, laidLooks := .later }
def FnLastCellCardSaid : Prop := Claim7.holds Tryd.pinned (.plain (OpenSpec.ofChange fnLastCellSpec)) fnLastCellCard

/-- THE TIED CARD OF 'laws.FnTriangleWins'. -/
def fnTriangleWinsCard : Claim7 := { stood := { row := fnTriangleWinsRow, standIns := [], harness := (true, "15422c4196f80fe1b1bdd3a65bd548c5a19586566e8ac9299e942adfd4a58b7e"), looks := false }, kinds := [], alts := [], laidByText := true, laidKinds := [.data, .data, .data], laidTests := true, laidLooks := .later }
def FnTriangleWinsCardSaid : Prop := Claim7.holds Tryd.pinned (.plain (OpenSpec.ofChange fnTriangleWinsSpec)) fnTriangleWinsCard

/-- THE TIED CARD OF 'laws.FnTriangleHalf'. -/
def fnTriangleHalfCard : Claim7 := { stood := { row := fnTriangleHalfRow, standIns := [], harness := (true, "15422c4196f80fe1b1bdd3a65bd548c5a19586566e8ac9299e942adfd4a58b7e"), looks := false }, kinds := [], alts := [], laidByText := true, laidKinds := [.data, .data, .data], laidTests := true, laidLooks := .later }
def FnTriangleHalfCardSaid : Prop := Claim7.holds Tryd.pinned (.plain (OpenSpec.ofChange fnTriangleHalfSpec)) fnTriangleHalfCard

/-- THE TIED CARD OF 'laws.FnJoinsMore'. -/
def fnJoinsMoreCard : Claim7 := { stood := { row := fnJoinsMoreRow, standIns := [], harness := (true, "15422c4196f80fe1b1bdd3a65bd548c5a19586566e8ac9299e942adfd4a58b7e"), looks := false }, kinds := [], alts := [], laidByText := true, laidKinds := [.data, .data, .data], laidTests := true, laidLooks := .later }
def FnJoinsMoreCardSaid : Prop := Claim7.holds Tryd.pinned (.plain (OpenSpec.ofChange fnJoinsMoreSpec)) fnJoinsMoreCard

/-- THE TIED CARD OF 'laws.FnExactTriangleNear'. -/
def fnExactTriangleNearCard : Claim7 := { stood := { row := fnExactTriangleNearRow, standIns := [], harness := (true, "15422c4196f80fe1b1bdd3a65bd548c5a19586566e8ac9299e942adfd4a58b7e"), looks := false }, kinds := [], alts := [], laidByText := true, laidKinds := [.data], laidTests := true, laidLooks := .later }
def FnExactTriangleNearCardSaid : Prop := Claim7.holds Tryd.pinned (.plain (OpenSpec.ofChange fnExactTriangleNearSpec)) fnExactTriangleNearCard

/-- THE TIED CARD OF 'laws.FnExactJoinsAll'. -/
def fnExactJoinsAllCard : Claim7 := { stood := { row := fnExactJoinsAllRow, standIns := [], harness := (true, "15422c4196f80fe1b1bdd3a65bd548c5a19586566e8ac9299e942adfd4a58b7e"), looks := false }, kinds := [], alts := [], laidByText := true, laidKinds := [.data, .data, .data], laidTests := true, laidLooks := .later }
def FnExactJoinsAllCardSaid : Prop := Claim7.holds Tryd.pinned (.plain (OpenSpec.ofChange fnExactJoinsAllSpec)) fnExactJoinsAllCard

/-- THE SECOND FORM's CARD OF 'laws.FnTriangleNear'. -/
def fnTriangleNearUptoCard : Claim7 := { stood := { row := fnTriangleNearUptoRow, standIns := [], harness := (true, "15422c4196f80fe1b1bdd3a65bd548c5a19586566e8ac9299e942adfd4a58b7e"), looks := false }, kinds := [], alts := [], laidByText := true, laidKinds := [.data], laidTests := true, laidLooks := .later }
def FnTriangleNearUptoCardSaid : Prop := Claim7.holds Tryd.pinned (.plain (OpenSpec.upto fnTriangleNearSpec)) fnTriangleNearUptoCard

/-- THE SECOND FORM's CARD OF 'laws.FnJoinsAll'. -/
def fnJoinsAllUptoCard : Claim7 := { stood := { row := fnJoinsAllUptoRow, standIns := [], harness := (true, "15422c4196f80fe1b1bdd3a65bd548c5a19586566e8ac9299e942adfd4a58b7e"), looks := false }, kinds := [], alts := [], laidByText := true, laidKinds := [.data, .data, .data], laidTests := true, laidLooks := .later }
def FnJoinsAllUptoCardSaid : Prop := Claim7.holds Tryd.pinned (.plain (OpenSpec.upto fnJoinsAllSpec)) fnJoinsAllUptoCard

/-- THE SECOND FORM's CARD OF 'laws.FnShrunk'. -/
def fnShrunkUptoCard : Claim7 := { stood := { row := fnShrunkUptoRow, standIns := [], harness := (true, "15422c4196f80fe1b1bdd3a65bd548c5a19586566e8ac9299e942adfd4a58b7e"), looks := false }, kinds := [], alts := [], laidByText := true, laidKinds := [.data, .data, .data], laidTests := true, laidLooks := .later }
def FnShrunkUptoCardSaid : Prop := Claim7.holds Tryd.pinned (.plain (OpenSpec.upto fnShrunkSpec)) fnShrunkUptoCard

/-- THE SECOND FORM's CARD OF 'laws.FnLastCell'. -/
def fnLastCellUptoCard : Claim7 := { stood := { row := fnLastCellUptoRow, standIns := [], harness := (true, "15422c4196f80fe1b1bdd3a65bd548c5a19586566e8ac9299e942adfd4a58b7e"), looks := false }, kinds := [], alts := [], laidByText := true, laidKinds := [.data, .data, .data], laidTests := true, laidLooks := .later }
def FnLastCellUptoCardSaid : Prop := Claim7.holds Tryd.pinned (.plain (OpenSpec.upto fnLastCellSpec)) fnLastCellUptoCard

/-- THE SECOND FORM's CARD OF 'laws.FnTriangleWins'. -/
def fnTriangleWinsUptoCard : Claim7 := { stood := { row := fnTriangleWinsUptoRow, standIns := [], harness := (true, "15422c4196f80fe1b1bdd3a65bd548c5a19586566e8ac9299e942adfd4a58b7e"), looks := false }, kinds := [], alts := [], laidByText := true, laidKinds := [.data, .data, .data], laidTests := true, laidLooks := .later }
def FnTriangleWinsUptoCardSaid : Prop := Claim7.holds Tryd.pinned (.plain (OpenSpec.upto fnTriangleWinsSpec)) fnTriangleWinsUptoCard

/-- THE SECOND FORM's CARD OF 'laws.FnTriangleHalf'. -/
def fnTriangleHalfUptoCard : Claim7 := { stood := { row := fnTriangleHalfUptoRow, standIns := [], harness := (true, "15422c4196f80fe1b1bdd3a65bd548c5a19586566e8ac9299e942adfd4a58b7e"), looks := false }, kinds := [], alts := [], laidByText := true, laidKinds := [.data, .data, .data], laidTests := true, laidLooks := .later }
def FnTriangleHalfUptoCardSaid : Prop := Claim7.holds Tryd.pinned (.plain (OpenSpec.upto fnTriangleHalfSpec)) fnTriangleHalfUptoCard

/-- THE SECOND FORM's CARD OF 'laws.FnJoinsMore'. -/
def fnJoinsMoreUptoCard : Claim7 := { stood := { row := fnJoinsMoreUptoRow, standIns := [], harness := (true, "15422c4196f80fe1b1bdd3a65bd548c5a19586566e8ac9299e942adfd4a58b7e"), looks := false }, kinds := [], alts := [], laidByText := true, laidKinds := [.data, .data, .data], laidTests := true, laidLooks := .later }
def FnJoinsMoreUptoCardSaid : Prop := Claim7.holds Tryd.pinned (.plain (OpenSpec.upto fnJoinsMoreSpec)) fnJoinsMoreUptoCard

/-- THE SECOND FORM's CARD OF 'laws.FnExactTriangleNear'. -/
def fnExactTriangleNearUptoCard : Claim7 := { stood := { row := fnExactTriangleNearUptoRow, standIns := [], harness := (true, "15422c4196f80fe1b1bdd3a65bd548c5a19586566e8ac9299e942adfd4a58b7e"), looks := false }, kinds := [], alts := [], laidByText := true, laidKinds := [.data], laidTests := true, laidLooks := .later }
def FnExactTriangleNearUptoCardSaid : Prop := Claim7.holds Tryd.pinned (.plain (OpenSpec.upto fnExactTriangleNearSpec)) fnExactTriangleNearUptoCard

/-- THE SECOND FORM's CARD OF 'laws.FnExactJoinsAll'. -/
def fnExactJoinsAllUptoCard : Claim7 := { stood := { row := fnExactJoinsAllUptoRow, standIns := [], harness := (true, "15422c4196f80fe1b1bdd3a65bd548c5a19586566e8ac9299e942adfd4a58b7e"), looks := false }, kinds := [], alts := [], laidByText := true, laidKinds := [.data, .data, .data], laidTests := true, laidLooks := .later }
def FnExactJoinsAllUptoCardSaid : Prop := Claim7.holds Tryd.pinned (.plain (OpenSpec.upto fnExactJoinsAllSpec)) fnExactJoinsAllUptoCard
end Rows
end Go.Proofs.YtlefknibddkjpaaDoor
