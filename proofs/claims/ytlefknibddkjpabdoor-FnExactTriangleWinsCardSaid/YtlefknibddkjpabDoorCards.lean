/-
  DERIVED. GIVEN WITH THE SEED: THE CARDS: each row of YtlefknibddkjpabDoorRows.lean that lists a variable, with what it lists TIED to the program's text (the seventh form; the later family's looks); each row that meets fmt, with fmt's text TOLD by the authors' own Lean function (tested against real Go, not proved from fmt's source: count such statements apart). THE CARD IS WHAT COUNTS. Prove the row's statement (the work); the ties are given (YtlefknibddkjpabDoorTie.lean); close each card by the builder's one call (the guide's Derived/Test/ToyasCard.lean, 'card_holds'). Laid BY PROGRAM, IN A SANDBOX (cutbox-door.mjs). By AI agents, Wed Nov 11 2026. No macro, syntax, notation, axiom, sorry.
-/
import Derived.Test.YtlefknibddkjpabDoorRows
import GoSem.ClaimSeven
namespace Go.Proofs.YtlefknibddkjpabDoor
namespace Rows

/-- THE TIED CARD OF 'laws.FnExactTriangleWins'. -/
def fnExactTriangleWinsCard : Claim7 := { stood := { row := fnExactTriangleWinsRow, standIns := [], harness := (true, "4c6209376d6ede6f0c097ac783ec99f33b720a9ca3e7aafb5ee69e5ba6795d0f"), looks := false }, kinds := [], alts := [], laidByText := true, laidKinds := [.data, .data, .data], laidTests := true, laidLooks := .later }
def FnExactTriangleWinsCardSaid : Prop := Claim7.holds Tryd.pinned (.plain (OpenSpec.ofChange fnExactTriangleWinsSpec)) fnExactTriangleWinsCard

/-- THE SECOND FORM's CARD OF 'laws.FnExactTriangleWins'. -/
def fnExactTriangleWinsUptoCard : Claim7 := { stood := { row := fnExactTriangleWinsUptoRow, standIns := [], harness := (true, "4c6209376d6ede6f0c097ac783ec99f33b720a9ca3e7aafb5ee69e5ba6795d0f"), looks := false }, kinds := [], alts := [], laidByText := true, laidKinds := [.data, .data, .data], laidTests := true, laidLooks := .later }
def FnExactTriangleWinsUptoCardSaid : Prop := Claim7.holds Tryd.pinned (.plain (OpenSpec.upto fnExactTriangleWinsSpec)) fnExactTriangleWinsUptoCard
end Rows
end Go.Proofs.YtlefknibddkjpabDoor
