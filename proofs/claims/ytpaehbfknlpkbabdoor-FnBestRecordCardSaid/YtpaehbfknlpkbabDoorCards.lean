/-
  DERIVED. GIVEN WITH THE SEED: THE CARDS: each row of YtpaehbfknlpkbabDoorRows.lean that lists a variable, with what it lists TIED to the program's text (the seventh form; the later family's looks); each row that meets fmt, with fmt's text TOLD by the authors' own Lean function (tested against real Go, not proved from fmt's source: count such statements apart). THE CARD IS WHAT COUNTS. Prove the row's statement (the work); the ties are given (YtpaehbfknlpkbabDoorTie.lean); close each card by the builder's one call (the guide's Derived/Test/ToyasCard.lean, 'card_holds'). Laid BY PROGRAM, IN A SANDBOX (cutbox-door.mjs). By AI agents, Wed Nov 11 2026. No macro, syntax, notation, axiom, sorry.
-/
import Derived.Test.YtpaehbfknlpkbabDoorRows
import GoSem.ClaimSeven
namespace Go.Proofs.YtpaehbfknlpkbabDoor
namespace Rows

/-- THE TIED CARD OF 'laws.FnRecordText'. -/
def fnRecordTextCard : Claim7 := { stood := { row := fnRecordTextRow, standIns := [], harness := (true, "fd64f42af7d772b0f20e1a69b0c63efcb76397e6d6e31aabaab75279484971a1"), looks := false }, kinds := [], alts := [], laidByText := true, laidKinds := [.data, .data, .data, .data, .data, .pinned], laidTests := true, laidLooks := .later }
def FnRecordTextCardSaid : Prop := Claim7.holds Tryd.pinned (.plain (OpenSpec.ofChange fnRecordTextSpec)) fnRecordTextCard

/-- THE TIED CARD OF 'laws.FnReadRecord'. -/
def fnReadRecordCard : Claim7 := { stood := { row := fnReadRecordRow, standIns := [], harness := (true, "fd64f42af7d772b0f20e1a69b0c63efcb76397e6d6e31aabaab75279484971a1"), looks := false }, kinds := [], alts := [], laidByText := true, laidKinds := [.data, .data, .data, .data, .data, .pinned], laidTests := true, laidLooks := .later }
def FnReadRecordCardSaid : Prop := Claim7.holds Tryd.pinned (.plain (OpenSpec.ofChange fnReadRecordSpec)) fnReadRecordCard

/-- THE TIED CARD OF 'laws.FnSlipsOf'. -/
def fnSlipsOfCard : Claim7 := { stood := { row := fnSlipsOfRow, standIns := [], harness := (true, "fd64f42af7d772b0f20e1a69b0c63efcb76397e6d6e31aabaab75279484971a1"), looks := false }, kinds := [], alts := [], laidByText := true, laidKinds := [.data, .data, .data], laidTests := true, laidLooks := .later }
def FnSlipsOfCardSaid : Prop := Claim7.holds Tryd.pinned (.plain (OpenSpec.ofChange fnSlipsOfSpec)) fnSlipsOfCard

/-- THE TIED CARD OF 'laws.FnBestRecord'. -/
def fnBestRecordCard : Claim7 := { stood := { row := fnBestRecordRow, standIns := [], harness := (true, "fd64f42af7d772b0f20e1a69b0c63efcb76397e6d6e31aabaab75279484971a1"), looks := false }, kinds := [], alts := [], laidByText := true, laidKinds := [.data, .data, .data], laidTests := true, laidLooks := .later }
def FnBestRecordCardSaid : Prop := Claim7.holds Tryd.pinned (.plain (OpenSpec.ofChange fnBestRecordSpec)) fnBestRecordCard

/-- THE SECOND FORM's CARD OF 'laws.FnRecordText'. -/
def fnRecordTextUptoCard : Claim7 := { stood := { row := fnRecordTextUptoRow, standIns := [], harness := (true, "fd64f42af7d772b0f20e1a69b0c63efcb76397e6d6e31aabaab75279484971a1"), looks := false }, kinds := [], alts := [], laidByText := true, laidKinds := [.data, .data, .data, .data, .data, .pinned], laidTests := true, laidLooks := .later }
def FnRecordTextUptoCardSaid : Prop := Claim7.holds Tryd.pinned (.plain (OpenSpec.upto fnRecordTextSpec)) fnRecordTextUptoCard

/-- THE SECOND FORM's CARD OF 'laws.FnReadRecord'. -/
def fnReadRecordUptoCard : Claim7 := { stood := { row := fnReadRecordUptoRow, standIns := [], harness := (true, "fd64f42af7d772b0f20e1a69b0c63efcb76397e6d6e31aabaab75279484971a1"), looks := false }, kinds := [], alts := [], laidByText := true, laidKinds := [.data, .data, .data, .data, .data, .pinned], laidTests := true, laidLooks := .later }
def FnReadRecordUptoCardSaid : Prop := Claim7.holds Tryd.pinned (.plain (OpenSpec.upto fnReadRecordSpec)) fnReadRecordUptoCard

/-- THE SECOND FORM's CARD OF 'laws.FnSlipsOf'. -/
def fnSlipsOfUptoCard : Claim7 := { stood := { row := fnSlipsOfUptoRow, standIns := [], harness := (true, "fd64f42af7d772b0f20e1a69b0c63efcb76397e6d6e31aabaab75279484971a1"), looks := false }, kinds := [], alts := [], laidByText := true, laidKinds := [.data, .data, .data], laidTests := true, laidLooks := .later }
def FnSlipsOfUptoCardSaid : Prop := Claim7.holds Tryd.pinned (.plain (OpenSpec.upto fnSlipsOfSpec)) fnSlipsOfUptoCard

/-- THE SECOND FORM's CARD OF 'laws.FnBestRecord'. -/
def fnBestRecordUptoCard : Claim7 := { stood := { row := fnBestRecordUptoRow, standIns := [], harness := (true, "fd64f42af7d772b0f20e1a69b0c63efcb76397e6d6e31aabaab75279484971a1"), looks := false }, kinds := [], alts := [], laidByText := true, laidKinds := [.data, .data, .data], laidTests := true, laidLooks := .later }
def FnBestRecordUptoCardSaid : Prop := Claim7.holds Tryd.pinned (.plain (OpenSpec.upto fnBestRecordSpec)) fnBestRecordUptoCard
end Rows
end Go.Proofs.YtpaehbfknlpkbabDoor
