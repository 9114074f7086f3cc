/-
  DERIVED. GIVEN WITH THE SEED: THE CARDS: each row of YtocjdekcmhgjeaaDoorRows.lean that lists a variable, with what it lists TIED to the program's text (the seventh form; the later family's looks); each row that meets fmt, with fmt's text TOLD by the authors' own Lean function (tested against real Go, not proved from fmt's source: count such statements apart). THE CARD IS WHAT COUNTS. Prove the row's statement (the work); the ties are given (YtocjdekcmhgjeaaDoorTie.lean); close each card by the builder's one call (the guide's Derived/Test/ToyasCard.lean, 'card_holds'). Laid BY PROGRAM, IN A SANDBOX (cutbox-door.mjs). By AI agents, Wed Nov 11 2026. No macro, syntax, notation, axiom, sorry.
-/
import Derived.Test.YtocjdekcmhgjeaaDoorRows
import GoSem.ClaimSeven
namespace Go.Proofs.YtocjdekcmhgjeaaDoor
namespace Rows

/-- THE TIED CARD OF 'laws.FnReverseWinner'. -/
def fnReverseWinnerCard : Claim7 := { stood := { row := fnReverseWinnerRow, standIns := [], harness := (true, "bbcc6b3807b0a028590f1fef05259ee69081ce8a0ae8b3f61b74abc05753f10e"), looks := false }, kinds := [], alts := [], laidByText := true, laidKinds := [.data, .data, .data], laidTests := true, laidLooks := .later }
def FnReverseWinnerCardSaid : Prop := Claim7.holds Tryd.pinned (.plain (OpenSpec.ofChange fnReverseWinnerSpec)) fnReverseWinnerCard

/-- THE TIED CARD OF 'laws.FnSafeCells'. -/
def fnSafeCellsCard : Claim7 := { stood := { row := fnSafeCellsRow, standIns := [], harness := (true, "bbcc6b3807b0a028590f1fef05259ee69081ce8a0ae8b3f61b74abc05753f10e"), looks := false }, kinds := [], alts := [], laidByText := true, laidKinds := [.data, .data, .data], laidTests := true, laidLooks := .later }
def FnSafeCellsCardSaid : Prop := Claim7.holds Tryd.pinned (.plain (OpenSpec.ofChange fnSafeCellsSpec)) fnSafeCellsCard

/-- THE TIED CARD OF 'laws.FnSquareReverse'. -/
def fnSquareReverseCard : Claim7 := { stood := { row := fnSquareReverseRow, standIns := [], harness := (true, "bbcc6b3807b0a028590f1fef05259ee69081ce8a0ae8b3f61b74abc05753f10e"), looks := false }, kinds := [], alts := [], laidByText := true, laidKinds := [.data, .data, .data], laidTests := true, laidLooks := .later }
def FnSquareReverseCardSaid : Prop := Claim7.holds Tryd.pinned (.plain (OpenSpec.ofChange fnSquareReverseSpec)) fnSquareReverseCard

/-- THE TIED CARD OF 'laws.FnReverseOne'. -/
def fnReverseOneCard : Claim7 := { stood := { row := fnReverseOneRow, standIns := [], harness := (true, "bbcc6b3807b0a028590f1fef05259ee69081ce8a0ae8b3f61b74abc05753f10e"), looks := false }, kinds := [], alts := [], laidByText := true, laidKinds := [.data, .data, .data], laidTests := true, laidLooks := .later }
def FnReverseOneCardSaid : Prop := Claim7.holds Tryd.pinned (.plain (OpenSpec.ofChange fnReverseOneSpec)) fnReverseOneCard

/-- THE TIED CARD OF 'laws.FnExactReverseWinner'. -/
def fnExactReverseWinnerCard : Claim7 := { stood := { row := fnExactReverseWinnerRow, standIns := [], harness := (true, "bbcc6b3807b0a028590f1fef05259ee69081ce8a0ae8b3f61b74abc05753f10e"), looks := false }, kinds := [], alts := [], laidByText := true, laidKinds := [.data, .data, .data], laidTests := true, laidLooks := .later }
def FnExactReverseWinnerCardSaid : Prop := Claim7.holds Tryd.pinned (.plain (OpenSpec.ofChange fnExactReverseWinnerSpec)) fnExactReverseWinnerCard

/-- THE TIED CARD OF 'laws.FnExactSafeCells'. -/
def fnExactSafeCellsCard : Claim7 := { stood := { row := fnExactSafeCellsRow, standIns := [], harness := (true, "bbcc6b3807b0a028590f1fef05259ee69081ce8a0ae8b3f61b74abc05753f10e"), looks := false }, kinds := [], alts := [], laidByText := true, laidKinds := [.data, .data, .data], laidTests := true, laidLooks := .later }
def FnExactSafeCellsCardSaid : Prop := Claim7.holds Tryd.pinned (.plain (OpenSpec.ofChange fnExactSafeCellsSpec)) fnExactSafeCellsCard

/-- THE TIED CARD OF 'laws.FnExactSquareReverse'. -/
def fnExactSquareReverseCard : Claim7 := { stood := { row := fnExactSquareReverseRow, standIns := [], harness := (true, "bbcc6b3807b0a028590f1fef05259ee69081ce8a0ae8b3f61b74abc05753f10e"), looks := false }, kinds := [], alts := [], laidByText := true, laidKinds := [.data, .data, .data], laidTests := true, laidLooks := .later }
def FnExactSquareReverseCardSaid : Prop := Claim7.holds Tryd.pinned (.plain (OpenSpec.ofChange fnExactSquareReverseSpec)) fnExactSquareReverseCard

/-- THE SECOND FORM's CARD OF 'laws.FnReverseWinner'. -/
def fnReverseWinnerUptoCard : Claim7 := { stood := { row := fnReverseWinnerUptoRow, standIns := [], harness := (true, "bbcc6b3807b0a028590f1fef05259ee69081ce8a0ae8b3f61b74abc05753f10e"), looks := false }, kinds := [], alts := [], laidByText := true, laidKinds := [.data, .data, .data], laidTests := true, laidLooks := .later }
def FnReverseWinnerUptoCardSaid : Prop := Claim7.holds Tryd.pinned (.plain (OpenSpec.upto fnReverseWinnerSpec)) fnReverseWinnerUptoCard

/-- THE SECOND FORM's CARD OF 'laws.FnSafeCells'. -/
def fnSafeCellsUptoCard : Claim7 := { stood := { row := fnSafeCellsUptoRow, standIns := [], harness := (true, "bbcc6b3807b0a028590f1fef05259ee69081ce8a0ae8b3f61b74abc05753f10e"), looks := false }, kinds := [], alts := [], laidByText := true, laidKinds := [.data, .data, .data], laidTests := true, laidLooks := .later }
def FnSafeCellsUptoCardSaid : Prop := Claim7.holds Tryd.pinned (.plain (OpenSpec.upto fnSafeCellsSpec)) fnSafeCellsUptoCard

/-- THE SECOND FORM's CARD OF 'laws.FnSquareReverse'. -/
def fnSquareReverseUptoCard : Claim7 := { stood := { row := fnSquareReverseUptoRow, standIns := [], harness := (true, "bbcc6b3807b0a028590f1fef05259ee69081ce8a0ae8b3f61b74abc05753f10e"), looks := false }, kinds := [], alts := [], laidByText := true, laidKinds := [.data, .data, .data], laidTests := true, laidLooks := .later }
def FnSquareReverseUptoCardSaid : Prop := Claim7.holds Tryd.pinned (.plain (OpenSpec.upto fnSquareReverseSpec)) fnSquareReverseUptoCard

/-- THE SECOND FORM's CARD OF 'laws.FnReverseOne'. -/
def fnReverseOneUptoCard : Claim7 := { stood := { row := fnReverseOneUptoRow, standIns := [], harness := (true, "bbcc6b3807b0a028590f1fef05259ee69081ce8a0ae8b3f61b74abc05753f10e"), looks := false }, kinds := [], alts := [], laidByText := true, laidKinds := [.data, .data, .data], laidTests := true, laidLooks := .later }
def FnReverseOneUptoCardSaid : Prop := Claim7.holds Tryd.pinned (.plain (OpenSpec.upto fnReverseOneSpec)) fnReverseOneUptoCard

/-- THE SECOND FORM's CARD OF 'laws.FnExactReverseWinner'. -/
def fnExactReverseWinnerUptoCard : Claim7 := { stood := { row := fnExactReverseWinnerUptoRow, standIns := [], harness := (true, "bbcc6b3807b0a028590f1fef05259ee69081ce8a0ae8b3f61b74abc05753f10e"), looks := false }, kinds := [], alts := [], laidByText := true, laidKinds := [.data, .data, .data], laidTests := true, laidLooks := .later }
def FnExactReverseWinnerUptoCardSaid : Prop := Claim7.holds Tryd.pinned (.plain (OpenSpec.upto fnExactReverseWinnerSpec)) fnExactReverseWinnerUptoCard

/-- THE SECOND FORM's CARD OF 'laws.FnExactSafeCells'. -/
def fnExactSafeCellsUptoCard : Claim7 := { stood := { row := fnExactSafeCellsUptoRow, standIns := [], harness := (true, "bbcc6b3807b0a028590f1fef05259ee69081ce8a0ae8b3f61b74abc05753f10e"), looks := false }, kinds := [], alts := [], laidByText := true, laidKinds := [.data, .data, .data], laidTests := true, laidLooks := .later }
def FnExactSafeCellsUptoCardSaid : Prop := Claim7.holds Tryd.pinned (.plain (OpenSpec.upto fnExactSafeCellsSpec)) fnExactSafeCellsUptoCard

/-- THE SECOND FORM's CARD OF 'laws.FnExactSquareReverse'. -/
def fnExactSquareReverseUptoCard : Claim7 := { stood := { row := fnExactSquareReverseUptoRow, standIns := [], harness := (true, "bbcc6b3807b0a028590f1fef05259ee69081ce8a0ae8b3f61b74abc05753f10e"), looks := false }, kinds := [], alts := [], laidByText := true, laidKinds := [.data, .data, .data], laidTests := true, laidLooks := .later }
def FnExactSquareReverseUptoCardSaid : Prop := Claim7.holds Tryd.pinned (.plain (OpenSpec.upto fnExactSquareReverseSpec)) fnExactSquareReverseUptoCard
end Rows
end Go.Proofs.YtocjdekcmhgjeaaDoor
