/-
  No cell of these rows narrows 'for every input' (looked for: loops, veiled, ifaces, maps, wideKeys, modest, calm, conditions, laid).
  DERIVED. THE GIVEN ROWS OF THIS SEAT. 10 by the template 'for every input the law returns true; each argument reads behind the call as it read before'; 0 by the template 'total and deterministic' (their statements: YtaajbolfmhhdcaaTotals.lean).
  GIVEN WITH THE SEED: the statements are not yours to turn. If you find one false, say at which input.
  Laid BY PROGRAM, IN A SANDBOX (cutbox-rows.mjs): the forced cells as the released guide's own fill.sh prints them over the translation e81bfa304789a678… (all of the seat's roots in one cut). By AI agents, Wed Nov 11 2026. No macro, syntax, notation, axiom, sorry.
-/
import Derived.Test.YtaajbolfmhhdcaaChecked
import GoSem.Claim
import GoSem.ClaimJoined
import GoSem.ClaimMapViews
import Derived.JoinedTies
import Derived.KernelRfl
namespace Go.Proofs.Ytaajbolfmhhdcaa
/- THE CELL 'sum', in the pinned program and in every row, IS THE sha256 OF THE DUMP (.gsa) THAT YtaajbolfmhhdcaaProg.lean LOADS. Nothing in Lean hashes anything: it is a label: what it is worth is what the hold of that sum in a sandbox is worth. -/
noncomputable def Try.pinned : Pinned := { name := "ytaajbolfmhhdcaa", sum := "e81bfa304789a6789be018792f3a96052360e1b01a0117a1da916d7dfe373970", checked := Try.checked }
namespace Rows
def none {H : Type} : Left H := { results := [], args := [] }

/-- 'laws.FnBoardOk': WHATEVER THE INPUT: true; the input reads as it did. -/
def fnBoardOkSpec : ChangeSpec := { name := "fnBoardOk", fn := fun _ => fun
  | [d] => { results := [.lit (.bool true)], args := [d] }
  | _ => none }
def fnBoardOkRow : OpenClaim := { program := "ytaajbolfmhhdcaa", sum := "e81bfa304789a6789be018792f3a96052360e1b01a0117a1da916d7dfe373970", func := "loop.example/sidescross/laws.FnBoardOk", spec := "fnBoardOk", apart := false }
def FnBoardOkSaid : Prop := fnBoardOkRow.holds Try.pinned (OpenSpec.ofChange fnBoardOkSpec)

/-- ITS FALSE NEIGHBOUR: 'it returns false'. Refute it at one input. -/
def fnBoardOkWrong : ChangeSpec := { name := "fnBoardOk", fn := fun _ => fun
  | [d] => { results := [.lit (.bool false)], args := [d] }
  | _ => none }
def FnBoardOkWrongFalsely : Prop := fnBoardOkRow.holds Try.pinned (OpenSpec.ofChange fnBoardOkWrong)

/-- 'laws.FnPositionOk': WHATEVER THE INPUT: true; the input reads as it did. -/
def fnPositionOkSpec : ChangeSpec := { name := "fnPositionOk", fn := fun _ => fun
  | [d] => { results := [.lit (.bool true)], args := [d] }
  | _ => none }
def fnPositionOkRow : OpenClaim := { program := "ytaajbolfmhhdcaa", sum := "e81bfa304789a6789be018792f3a96052360e1b01a0117a1da916d7dfe373970", func := "loop.example/sidescross/laws.FnPositionOk", spec := "fnPositionOk", apart := false }
def FnPositionOkSaid : Prop := fnPositionOkRow.holds Try.pinned (OpenSpec.ofChange fnPositionOkSpec)

/-- ITS FALSE NEIGHBOUR: 'it returns false'. Refute it at one input. -/
def fnPositionOkWrong : ChangeSpec := { name := "fnPositionOk", fn := fun _ => fun
  | [d] => { results := [.lit (.bool false)], args := [d] }
  | _ => none }
def FnPositionOkWrongFalsely : Prop := fnPositionOkRow.holds Try.pinned (OpenSpec.ofChange fnPositionOkWrong)

/-- 'laws.FnCellsOf': WHATEVER THE INPUT: true; the input reads as it did. -/
def fnCellsOfSpec : ChangeSpec := { name := "fnCellsOf", fn := fun _ => fun
  | [d] => { results := [.lit (.bool true)], args := [d] }
  | _ => none }
def fnCellsOfRow : OpenClaim := { program := "ytaajbolfmhhdcaa", sum := "e81bfa304789a6789be018792f3a96052360e1b01a0117a1da916d7dfe373970", func := "loop.example/sidescross/laws.FnCellsOf", spec := "fnCellsOf", apart := false }
def FnCellsOfSaid : Prop := fnCellsOfRow.holds Try.pinned (OpenSpec.ofChange fnCellsOfSpec)

/-- ITS FALSE NEIGHBOUR: 'it returns false'. Refute it at one input. -/
def fnCellsOfWrong : ChangeSpec := { name := "fnCellsOf", fn := fun _ => fun
  | [d] => { results := [.lit (.bool false)], args := [d] }
  | _ => none }
def FnCellsOfWrongFalsely : Prop := fnCellsOfRow.holds Try.pinned (OpenSpec.ofChange fnCellsOfWrong)

/-- 'laws.FnHalfTurned': WHATEVER THE INPUT: true; the input reads as it did. -/
def fnHalfTurnedSpec : ChangeSpec := { name := "fnHalfTurned", fn := fun _ => fun
  | [d] => { results := [.lit (.bool true)], args := [d] }
  | _ => none }
def fnHalfTurnedRow : OpenClaim := { program := "ytaajbolfmhhdcaa", sum := "e81bfa304789a6789be018792f3a96052360e1b01a0117a1da916d7dfe373970", func := "loop.example/sidescross/laws.FnHalfTurned", spec := "fnHalfTurned", apart := false }
def FnHalfTurnedSaid : Prop := fnHalfTurnedRow.holds Try.pinned (OpenSpec.ofChange fnHalfTurnedSpec)

/-- ITS FALSE NEIGHBOUR: 'it returns false'. Refute it at one input. -/
def fnHalfTurnedWrong : ChangeSpec := { name := "fnHalfTurned", fn := fun _ => fun
  | [d] => { results := [.lit (.bool false)], args := [d] }
  | _ => none }
def FnHalfTurnedWrongFalsely : Prop := fnHalfTurnedRow.holds Try.pinned (OpenSpec.ofChange fnHalfTurnedWrong)

/-- 'laws.FnMirrored': WHATEVER THE INPUT: true; the input reads as it did. -/
def fnMirroredSpec : ChangeSpec := { name := "fnMirrored", fn := fun _ => fun
  | [d] => { results := [.lit (.bool true)], args := [d] }
  | _ => none }
def fnMirroredRow : OpenClaim := { program := "ytaajbolfmhhdcaa", sum := "e81bfa304789a6789be018792f3a96052360e1b01a0117a1da916d7dfe373970", func := "loop.example/sidescross/laws.FnMirrored", spec := "fnMirrored", apart := false }
def FnMirroredSaid : Prop := fnMirroredRow.holds Try.pinned (OpenSpec.ofChange fnMirroredSpec)

/-- ITS FALSE NEIGHBOUR: 'it returns false'. Refute it at one input. -/
def fnMirroredWrong : ChangeSpec := { name := "fnMirrored", fn := fun _ => fun
  | [d] => { results := [.lit (.bool false)], args := [d] }
  | _ => none }
def FnMirroredWrongFalsely : Prop := fnMirroredRow.holds Try.pinned (OpenSpec.ofChange fnMirroredWrong)

/-- 'laws.FnExactBoardOk': WHATEVER THE INPUT: true; the input reads as it did. -/
def fnExactBoardOkSpec : ChangeSpec := { name := "fnExactBoardOk", fn := fun _ => fun
  | [d1, d2] => { results := [.lit (.bool true)], args := [d1, d2] }
  | _ => none }
def fnExactBoardOkRow : OpenClaim := { program := "ytaajbolfmhhdcaa", sum := "e81bfa304789a6789be018792f3a96052360e1b01a0117a1da916d7dfe373970", func := "loop.example/sidescross/laws.FnExactBoardOk", spec := "fnExactBoardOk", apart := false }
def FnExactBoardOkSaid : Prop := fnExactBoardOkRow.holds Try.pinned (OpenSpec.ofChange fnExactBoardOkSpec)

/-- ITS FALSE NEIGHBOUR: 'it returns false'. Refute it at one input. -/
def fnExactBoardOkWrong : ChangeSpec := { name := "fnExactBoardOk", fn := fun _ => fun
  | [d1, d2] => { results := [.lit (.bool false)], args := [d1, d2] }
  | _ => none }
def FnExactBoardOkWrongFalsely : Prop := fnExactBoardOkRow.holds Try.pinned (OpenSpec.ofChange fnExactBoardOkWrong)

/-- 'laws.FnExactPositionOk': WHATEVER THE INPUT: true; the input reads as it did. -/
def fnExactPositionOkSpec : ChangeSpec := { name := "fnExactPositionOk", fn := fun _ => fun
  | [d1, d2, d3] => { results := [.lit (.bool true)], args := [d1, d2, d3] }
  | _ => none }
def fnExactPositionOkRow : OpenClaim := { program := "ytaajbolfmhhdcaa", sum := "e81bfa304789a6789be018792f3a96052360e1b01a0117a1da916d7dfe373970", func := "loop.example/sidescross/laws.FnExactPositionOk", spec := "fnExactPositionOk", apart := false }
def FnExactPositionOkSaid : Prop := fnExactPositionOkRow.holds Try.pinned (OpenSpec.ofChange fnExactPositionOkSpec)

/-- ITS FALSE NEIGHBOUR: 'it returns false'. Refute it at one input. -/
def fnExactPositionOkWrong : ChangeSpec := { name := "fnExactPositionOk", fn := fun _ => fun
  | [d1, d2, d3] => { results := [.lit (.bool false)], args := [d1, d2, d3] }
  | _ => none }
def FnExactPositionOkWrongFalsely : Prop := fnExactPositionOkRow.holds Try.pinned (OpenSpec.ofChange fnExactPositionOkWrong)

/-- 'laws.FnExactCellsOf': WHATEVER THE INPUT: true; the input reads as it did. -/
def fnExactCellsOfSpec : ChangeSpec := { name := "fnExactCellsOf", fn := fun _ => fun
  | [d1, d2, d3, d4] => { results := [.lit (.bool true)], args := [d1, d2, d3, d4] }
  | _ => none }
def fnExactCellsOfRow : OpenClaim := { program := "ytaajbolfmhhdcaa", sum := "e81bfa304789a6789be018792f3a96052360e1b01a0117a1da916d7dfe373970", func := "loop.example/sidescross/laws.FnExactCellsOf", spec := "fnExactCellsOf", apart := false }
def FnExactCellsOfSaid : Prop := fnExactCellsOfRow.holds Try.pinned (OpenSpec.ofChange fnExactCellsOfSpec)

/-- ITS FALSE NEIGHBOUR: 'it returns false'. Refute it at one input. -/
def fnExactCellsOfWrong : ChangeSpec := { name := "fnExactCellsOf", fn := fun _ => fun
  | [d1, d2, d3, d4] => { results := [.lit (.bool false)], args := [d1, d2, d3, d4] }
  | _ => none }
def FnExactCellsOfWrongFalsely : Prop := fnExactCellsOfRow.holds Try.pinned (OpenSpec.ofChange fnExactCellsOfWrong)

/-- 'laws.FnExactHalfTurned': WHATEVER THE INPUT: true; the input reads as it did. -/
def fnExactHalfTurnedSpec : ChangeSpec := { name := "fnExactHalfTurned", fn := fun _ => fun
  | [d1, d2, d3] => { results := [.lit (.bool true)], args := [d1, d2, d3] }
  | _ => none }
def fnExactHalfTurnedRow : OpenClaim := { program := "ytaajbolfmhhdcaa", sum := "e81bfa304789a6789be018792f3a96052360e1b01a0117a1da916d7dfe373970", func := "loop.example/sidescross/laws.FnExactHalfTurned", spec := "fnExactHalfTurned", apart := false }
def FnExactHalfTurnedSaid : Prop := fnExactHalfTurnedRow.holds Try.pinned (OpenSpec.ofChange fnExactHalfTurnedSpec)

/-- ITS FALSE NEIGHBOUR: 'it returns false'. Refute it at one input. -/
def fnExactHalfTurnedWrong : ChangeSpec := { name := "fnExactHalfTurned", fn := fun _ => fun
  | [d1, d2, d3] => { results := [.lit (.bool false)], args := [d1, d2, d3] }
  | _ => none }
def FnExactHalfTurnedWrongFalsely : Prop := fnExactHalfTurnedRow.holds Try.pinned (OpenSpec.ofChange fnExactHalfTurnedWrong)

/-- 'laws.FnExactMirrored': WHATEVER THE INPUT: true; the input reads as it did. -/
def fnExactMirroredSpec : ChangeSpec := { name := "fnExactMirrored", fn := fun _ => fun
  | [d1, d2, d3] => { results := [.lit (.bool true)], args := [d1, d2, d3] }
  | _ => none }
def fnExactMirroredRow : OpenClaim := { program := "ytaajbolfmhhdcaa", sum := "e81bfa304789a6789be018792f3a96052360e1b01a0117a1da916d7dfe373970", func := "loop.example/sidescross/laws.FnExactMirrored", spec := "fnExactMirrored", apart := false }
def FnExactMirroredSaid : Prop := fnExactMirroredRow.holds Try.pinned (OpenSpec.ofChange fnExactMirroredSpec)

/-- ITS FALSE NEIGHBOUR: 'it returns false'. Refute it at one input. -/
def fnExactMirroredWrong : ChangeSpec := { name := "fnExactMirrored", fn := fun _ => fun
  | [d1, d2, d3] => { results := [.lit (.bool false)], args := [d1, d2, d3] }
  | _ => none }
def FnExactMirroredWrongFalsely : Prop := fnExactMirroredRow.holds Try.pinned (OpenSpec.ofChange fnExactMirroredWrong)

/- THE SECOND FORM. 'bulk': how many values and letters a reading holds, each counted each time it is reached (what is shared counts as often as it is met; a slice's spare places count too). A statement '..UptoSaid' is the law's where the arguments, and the package variables that the reading takes, are together of bulk at most 1048576: NARROWER than '..Said'. Prove '..Said' where nothing that the law and all that it calls make is longer than what came in: it says more and counts as full. Else prove '..UptoSaid'. A law counts once. -/
mutual
def uptoBulk {H : Type} : DataW H → Nat
  | .lit (.string bytes) => bytes.length + 1
  | .lit _ => 1
  | .nil => 1
  | .ptr d => uptoBulk d + 1
  | .slice elems spare => uptoBulkAll elems + uptoBulkAll spare + 1
  | .agg parts => uptoBulkAll parts + 1
  | .iface _ d => uptoBulk d + 1
  | .map entries => uptoBulkEntries entries + 1
  | .held _ => 1
def uptoBulkAll {H : Type} : List (DataW H) → Nat
  | [] => 0
  | d :: r => uptoBulk d + uptoBulkAll r
def uptoBulkEntries {H : Type} : List (Lit × DataW H) → Nat
  | [] => 0
  | x :: r => uptoBulkEntry x + uptoBulkEntries r
def uptoBulkEntry {H : Type} : Lit × DataW H → Nat
  | (.string bytes, d) => bytes.length + uptoBulk d + 1
  | (_, d) => uptoBulk d + 1
 end
def uptoSmall : (H : Type) → List (DataW H) → Bool := fun _ ds => decide (uptoBulkAll ds ≤ 1048576)
def OpenSpec.upto (s : _root_.Go.ChangeSpec) : _root_.Go.OpenSpec := { _root_.Go.OpenSpec.ofChange s with cond := some uptoSmall }

/-- 'laws.FnBoardOk', WHERE WHAT IT READS IS OF BULK AT MOST 1048576: true; the input reads as it did. -/
def fnBoardOkUptoRow : OpenClaim := { program := "ytaajbolfmhhdcaa", sum := "e81bfa304789a6789be018792f3a96052360e1b01a0117a1da916d7dfe373970", func := "loop.example/sidescross/laws.FnBoardOk", spec := "fnBoardOk", apart := false, narrowed := true }
def FnBoardOkUptoSaid : Prop := fnBoardOkUptoRow.holds Try.pinned (OpenSpec.upto fnBoardOkSpec)

/-- 'laws.FnPositionOk', WHERE WHAT IT READS IS OF BULK AT MOST 1048576: true; the input reads as it did. -/
def fnPositionOkUptoRow : OpenClaim := { program := "ytaajbolfmhhdcaa", sum := "e81bfa304789a6789be018792f3a96052360e1b01a0117a1da916d7dfe373970", func := "loop.example/sidescross/laws.FnPositionOk", spec := "fnPositionOk", apart := false, narrowed := true }
def FnPositionOkUptoSaid : Prop := fnPositionOkUptoRow.holds Try.pinned (OpenSpec.upto fnPositionOkSpec)

/-- 'laws.FnCellsOf', WHERE WHAT IT READS IS OF BULK AT MOST 1048576: true; the input reads as it did. -/
def fnCellsOfUptoRow : OpenClaim := { program := "ytaajbolfmhhdcaa", sum := "e81bfa304789a6789be018792f3a96052360e1b01a0117a1da916d7dfe373970", func := "loop.example/sidescross/laws.FnCellsOf", spec := "fnCellsOf", apart := false, narrowed := true }
def FnCellsOfUptoSaid : Prop := fnCellsOfUptoRow.holds Try.pinned (OpenSpec.upto fnCellsOfSpec)

/-- 'laws.FnHalfTurned', WHERE WHAT IT READS IS OF BULK AT MOST 1048576: true; the input reads as it did. -/
def fnHalfTurnedUptoRow : OpenClaim := { program := "ytaajbolfmhhdcaa", sum := "e81bfa304789a6789be018792f3a96052360e1b01a0117a1da916d7dfe373970", func := "loop.example/sidescross/laws.FnHalfTurned", spec := "fnHalfTurned", apart := false, narrowed := true }
def FnHalfTurnedUptoSaid : Prop := fnHalfTurnedUptoRow.holds Try.pinned (OpenSpec.upto fnHalfTurnedSpec)

/-- 'laws.FnMirrored', WHERE WHAT IT READS IS OF BULK AT MOST 1048576: true; the input reads as it did. -/
def fnMirroredUptoRow : OpenClaim := { program := "ytaajbolfmhhdcaa", sum := "e81bfa304789a6789be018792f3a96052360e1b01a0117a1da916d7dfe373970", func := "loop.example/sidescross/laws.FnMirrored", spec := "fnMirrored", apart := false, narrowed := true }
def FnMirroredUptoSaid : Prop := fnMirroredUptoRow.holds Try.pinned (OpenSpec.upto fnMirroredSpec)

/-- 'laws.FnExactBoardOk', WHERE WHAT IT READS IS OF BULK AT MOST 1048576: true; the input reads as it did. -/
def fnExactBoardOkUptoRow : OpenClaim := { program := "ytaajbolfmhhdcaa", sum := "e81bfa304789a6789be018792f3a96052360e1b01a0117a1da916d7dfe373970", func := "loop.example/sidescross/laws.FnExactBoardOk", spec := "fnExactBoardOk", apart := false, narrowed := true }
def FnExactBoardOkUptoSaid : Prop := fnExactBoardOkUptoRow.holds Try.pinned (OpenSpec.upto fnExactBoardOkSpec)

/-- 'laws.FnExactPositionOk', WHERE WHAT IT READS IS OF BULK AT MOST 1048576: true; the input reads as it did. -/
def fnExactPositionOkUptoRow : OpenClaim := { program := "ytaajbolfmhhdcaa", sum := "e81bfa304789a6789be018792f3a96052360e1b01a0117a1da916d7dfe373970", func := "loop.example/sidescross/laws.FnExactPositionOk", spec := "fnExactPositionOk", apart := false, narrowed := true }
def FnExactPositionOkUptoSaid : Prop := fnExactPositionOkUptoRow.holds Try.pinned (OpenSpec.upto fnExactPositionOkSpec)

/-- 'laws.FnExactCellsOf', WHERE WHAT IT READS IS OF BULK AT MOST 1048576: true; the input reads as it did. -/
def fnExactCellsOfUptoRow : OpenClaim := { program := "ytaajbolfmhhdcaa", sum := "e81bfa304789a6789be018792f3a96052360e1b01a0117a1da916d7dfe373970", func := "loop.example/sidescross/laws.FnExactCellsOf", spec := "fnExactCellsOf", apart := false, narrowed := true }
def FnExactCellsOfUptoSaid : Prop := fnExactCellsOfUptoRow.holds Try.pinned (OpenSpec.upto fnExactCellsOfSpec)

/-- 'laws.FnExactHalfTurned', WHERE WHAT IT READS IS OF BULK AT MOST 1048576: true; the input reads as it did. -/
def fnExactHalfTurnedUptoRow : OpenClaim := { program := "ytaajbolfmhhdcaa", sum := "e81bfa304789a6789be018792f3a96052360e1b01a0117a1da916d7dfe373970", func := "loop.example/sidescross/laws.FnExactHalfTurned", spec := "fnExactHalfTurned", apart := false, narrowed := true }
def FnExactHalfTurnedUptoSaid : Prop := fnExactHalfTurnedUptoRow.holds Try.pinned (OpenSpec.upto fnExactHalfTurnedSpec)

/-- 'laws.FnExactMirrored', WHERE WHAT IT READS IS OF BULK AT MOST 1048576: true; the input reads as it did. -/
def fnExactMirroredUptoRow : OpenClaim := { program := "ytaajbolfmhhdcaa", sum := "e81bfa304789a6789be018792f3a96052360e1b01a0117a1da916d7dfe373970", func := "loop.example/sidescross/laws.FnExactMirrored", spec := "fnExactMirrored", apart := false, narrowed := true }
def FnExactMirroredUptoSaid : Prop := fnExactMirroredUptoRow.holds Try.pinned (OpenSpec.upto fnExactMirroredSpec)

end Rows
end Go.Proofs.Ytaajbolfmhhdcaa
