/-
  DERIVED. GIVEN WITH THE SEED: THE CARDS: each row of YtaajbolfmhhdcaaDoorRows.lean that lists a variable, with what it lists TIED to the program's text (the seventh form; the later family's looks); each row that meets fmt, with fmt's text TOLD by the authors' own Lean function (tested against real Go, not proved from fmt's source: count such statements apart). THE CARD IS WHAT COUNTS. Prove the row's statement (the work); the ties are given (YtaajbolfmhhdcaaDoorTie.lean); close each card by the builder's one call (the guide's Derived/Test/ToyasCard.lean, 'card_holds'). Laid BY PROGRAM, IN A SANDBOX (cutbox-door.mjs). By AI agents, Wed Nov 11 2026. No macro, syntax, notation, axiom, sorry.
-/
import Derived.Test.YtaajbolfmhhdcaaDoorRows
import GoSem.ClaimSeven
namespace Go.Proofs.YtaajbolfmhhdcaaDoor
namespace Rows

/-- THE TIED CARD OF 'laws.FnNearCells'. -/
def fnNearCellsCard : Claim7 := { stood := { row := fnNearCellsRow, standIns := [], harness := (true, "1536cbd1d801e0a45cef4f8c029af8e035617a462554033d78e60a530a52ac05"), looks := false }, kinds := [], alts := [], laidByText := true, laidKinds := [.data], laidTests := true, laidLooks := .later }
def FnNearCellsCardSaid : Prop := Claim7.holds Tryd.pinned (.plain (OpenSpec.ofChange fnNearCellsSpec)) fnNearCellsCard

/-- THE TIED CARD OF 'laws.FnCellsFar'. -/
def fnCellsFarCard : Claim7 := { stood := { row := fnCellsFarRow, standIns := [], harness := (true, "1536cbd1d801e0a45cef4f8c029af8e035617a462554033d78e60a530a52ac05"), looks := false }, kinds := [], alts := [], laidByText := true, laidKinds := [.data], laidTests := true, laidLooks := .later }
def FnCellsFarCardSaid : Prop := Claim7.holds Tryd.pinned (.plain (OpenSpec.ofChange fnCellsFarSpec)) fnCellsFarCard

/-- THE TIED CARD OF 'laws.FnNearCount'. -/
def fnNearCountCard : Claim7 := { stood := { row := fnNearCountRow, standIns := [], harness := (true, "1536cbd1d801e0a45cef4f8c029af8e035617a462554033d78e60a530a52ac05"), looks := false }, kinds := [], alts := [], laidByText := true, laidKinds := [.data], laidTests := true, laidLooks := .later }
def FnNearCountCardSaid : Prop := Claim7.holds Tryd.pinned (.plain (OpenSpec.ofChange fnNearCountSpec)) fnNearCountCard

/-- THE TIED CARD OF 'laws.FnExactNearCells'. -/
def fnExactNearCellsCard : Claim7 := { stood := { row := fnExactNearCellsRow, standIns := [], harness := (true, "1536cbd1d801e0a45cef4f8c029af8e035617a462554033d78e60a530a52ac05"), looks := false }, kinds := [], alts := [], laidByText := true, laidKinds := [.data], laidTests := true, laidLooks := .later }
def FnExactNearCellsCardSaid : Prop := Claim7.holds Tryd.pinned (.plain (OpenSpec.ofChange fnExactNearCellsSpec)) fnExactNearCellsCard

/-- THE TIED CARD OF 'laws.FnExactCellsFar'. -/
def fnExactCellsFarCard : Claim7 := { stood := { row := fnExactCellsFarRow, standIns := [], harness := (true, "1536cbd1d801e0a45cef4f8c029af8e035617a462554033d78e60a530a52ac05"), looks := false }, kinds := [], alts := [], laidByText := true, laidKinds := [.data], laidTests := true, laidLooks := .later }
def FnExactCellsFarCardSaid : Prop := Claim7.holds Tryd.pinned (.plain (OpenSpec.ofChange fnExactCellsFarSpec)) fnExactCellsFarCard

/-- THE SECOND FORM's CARD OF 'laws.FnNearCells'. -/
def fnNearCellsUptoCard : Claim7 := { stood := { row := fnNearCellsUptoRow, standIns := [], harness := (true, "1536cbd1d801e0a45cef4f8c029af8e035617a462554033d78e60a530a52ac05"), looks := false }, kinds := [], alts := [], laidByText := true, laidKinds := [.data], laidTests := true, laidLooks := .later }
def FnNearCellsUptoCardSaid : Prop := Claim7.holds Tryd.pinned (.plain (OpenSpec.upto fnNearCellsSpec)) fnNearCellsUptoCard

/-- THE SECOND FORM's CARD OF 'laws.FnCellsFar'. -/
def fnCellsFarUptoCard : Claim7 := { stood := { row := fnCellsFarUptoRow, standIns := [], harness := (true, "1536cbd1d801e0a45cef4f8c029af8e035617a462554033d78e60a530a52ac05"), looks := false }, kinds := [], alts := [], laidByText := true, laidKinds := [.data], laidTests := true, laidLooks := .later }
def FnCellsFarUptoCardSaid : Prop := Claim7.holds Tryd.pinned (.plain (OpenSpec.upto fnCellsFarSpec)) fnCellsFarUptoCard

/-- THE SECOND FORM's CARD OF 'laws.FnNearCount'. -/
def fnNearCountUptoCard : Claim7 := { stood := { row := fnNearCountUptoRow, standIns := [], harness := (true, "1536cbd1d801e0a45cef4f8c029af8e035617a462554033d78e60a530a52ac05"), looks := false }, kinds := [], alts := [], laidByText := true, laidKinds := [.data], laidTests := true, laidLooks := .later }
def FnNearCountUptoCardSaid : Prop := Claim7.holds Tryd.pinned (.plain (OpenSpec.upto fnNearCountSpec)) fnNearCountUptoCard

/-- THE SECOND FORM's CARD OF 'laws.FnExactNearCells'. -/
def fnExactNearCellsUptoCard : Claim7 := { stood := { row := fnExactNearCellsUptoRow, standIns := [], harness := (true, "1536cbd1d801e0a45cef4f8c029af8e035617a462554033d78e60a530a52ac05"), looks := false }, kinds := [], alts := [], laidByText := true, laidKinds := [.data], laidTests := true, laidLooks := .later }
def FnExactNearCellsUptoCardSaid : Prop := Claim7.holds Tryd.pinned (.plain (OpenSpec.upto fnExactNearCellsSpec)) fnExactNearCellsUptoCard

/-- THE SECOND FORM's CARD OF 'laws.FnExactCellsFar'. -/
def fnExactCellsFarUptoCard : Claim7 := { stood := { row := fnExactCellsFarUptoRow, standIns := [], harness := (true, "1536cbd1d801e0a45cef4f8c029af8e035617a462554033d78e60a530a52ac05"), looks := false }, kinds := [], alts := [], laidByText := true, laidKinds := [.data], laidTests := true, laidLooks := .later }
def FnExactCellsFarUptoCardSaid : Prop := Claim7.holds Tryd.pinned (.plain (OpenSpec.upto fnExactCellsFarSpec)) fnExactCellsFarUptoCard
end Rows
end Go.Proofs.YtaajbolfmhhdcaaDoor
