/-
  DERIVED. GIVEN WITH THE SEED: THE CARDS: each row of YtpaehbfknlpkbaaDoorRows.lean that lists a variable, with what it lists TIED to the program's text (the seventh form; the later family's looks); each row that meets fmt, with fmt's text TOLD by the authors' own Lean function (tested against real Go, not proved from fmt's source: count such statements apart). THE CARD IS WHAT COUNTS. Prove the row's statement (the work); the ties are given (YtpaehbfknlpkbaaDoorTie.lean); close each card by the builder's one call (the guide's Derived/Test/ToyasCard.lean, 'card_holds'). Laid BY PROGRAM, IN A SANDBOX (cutbox-door.mjs). By AI agents, Wed Nov 11 2026. No macro, syntax, notation, axiom, sorry.
-/
import Derived.Test.YtpaehbfknlpkbaaDoorRows
import GoSem.ClaimSeven
namespace Go.Proofs.YtpaehbfknlpkbaaDoor
namespace Rows

/-- THE TIED CARD OF 'laws.FnCellText'. -/
def fnCellTextCard : Claim7 := { stood := { row := fnCellTextRow, standIns := [], harness := (true, "897fc78b3619fb2bb1d8b50447f60aaca15d86c04c9963ec42bc509635585b87"), looks := false }, kinds := [], alts := [], laidByText := true, laidKinds := [.data, .data, .data], laidTests := true, laidLooks := .later }
def FnCellTextCardSaid : Prop := Claim7.holds Tryd.pinned (.plain (OpenSpec.ofChange fnCellTextSpec)) fnCellTextCard

/-- THE TIED CARD OF 'laws.FnReadCell'. -/
def fnReadCellCard : Claim7 := { stood := { row := fnReadCellRow, standIns := [], harness := (true, "897fc78b3619fb2bb1d8b50447f60aaca15d86c04c9963ec42bc509635585b87"), looks := false }, kinds := [], alts := [], laidByText := true, laidKinds := [.data, .data, .data], laidTests := true, laidLooks := .later }
def FnReadCellCardSaid : Prop := Claim7.holds Tryd.pinned (.plain (OpenSpec.ofChange fnReadCellSpec)) fnReadCellCard

/-- THE TIED CARD OF 'laws.FnRecordOk'. -/
def fnRecordOkCard : Claim7 := { stood := { row := fnRecordOkRow, standIns := [], harness := (true, "897fc78b3619fb2bb1d8b50447f60aaca15d86c04c9963ec42bc509635585b87"), looks := false }, kinds := [], alts := [], laidByText := true, laidKinds := [.data], laidTests := true, laidLooks := .later }
def FnRecordOkCardSaid : Prop := Claim7.holds Tryd.pinned (.plain (OpenSpec.ofChange fnRecordOkSpec)) fnRecordOkCard

/-- THE TIED CARD OF 'laws.FnEndOf'. -/
def fnEndOfCard : Claim7 := { stood := { row := fnEndOfRow, standIns := [], harness := (true, "897fc78b3619fb2bb1d8b50447f60aaca15d86c04c9963ec42bc509635585b87"), looks := false }, kinds := [], alts := [], laidByText := true, laidKinds := [.data], laidTests := true, laidLooks := .later }
def FnEndOfCardSaid : Prop := Claim7.holds Tryd.pinned (.plain (OpenSpec.ofChange fnEndOfSpec)) fnEndOfCard

/-- THE SECOND FORM's CARD OF 'laws.FnCellText'. -/
def fnCellTextUptoCard : Claim7 := { stood := { row := fnCellTextUptoRow, standIns := [], harness := (true, "897fc78b3619fb2bb1d8b50447f60aaca15d86c04c9963ec42bc509635585b87"), looks := false }, kinds := [], alts := [], laidByText := true, laidKinds := [.data, .data, .data], laidTests := true, laidLooks := .later }
def FnCellTextUptoCardSaid : Prop := Claim7.holds Tryd.pinned (.plain (OpenSpec.upto fnCellTextSpec)) fnCellTextUptoCard

/-- THE SECOND FORM's CARD OF 'laws.FnReadCell'. -/
def fnReadCellUptoCard : Claim7 := { stood := { row := fnReadCellUptoRow, standIns := [], harness := (true, "897fc78b3619fb2bb1d8b50447f60aaca15d86c04c9963ec42bc509635585b87"), looks := false }, kinds := [], alts := [], laidByText := true, laidKinds := [.data, .data, .data], laidTests := true, laidLooks := .later }
def FnReadCellUptoCardSaid : Prop := Claim7.holds Tryd.pinned (.plain (OpenSpec.upto fnReadCellSpec)) fnReadCellUptoCard

/-- THE SECOND FORM's CARD OF 'laws.FnRecordOk'. -/
def fnRecordOkUptoCard : Claim7 := { stood := { row := fnRecordOkUptoRow, standIns := [], harness := (true, "897fc78b3619fb2bb1d8b50447f60aaca15d86c04c9963ec42bc509635585b87"), looks := false }, kinds := [], alts := [], laidByText := true, laidKinds := [.data], laidTests := true, laidLooks := .later }
def FnRecordOkUptoCardSaid : Prop := Claim7.holds Tryd.pinned (.plain (OpenSpec.upto fnRecordOkSpec)) fnRecordOkUptoCard

/-- THE SECOND FORM's CARD OF 'laws.FnEndOf'. -/
def fnEndOfUptoCard : Claim7 := { stood := { row := fnEndOfUptoRow, standIns := [], harness := (true, "897fc78b3619fb2bb1d8b50447f60aaca15d86c04c9963ec42bc509635585b87"), looks := false }, kinds := [], alts := [], laidByText := true, laidKinds := [.data], laidTests := true, laidLooks := .later }
def FnEndOfUptoCardSaid : Prop := Claim7.holds Tryd.pinned (.plain (OpenSpec.upto fnEndOfSpec)) fnEndOfUptoCard
end Rows
end Go.Proofs.YtpaehbfknlpkbaaDoor
