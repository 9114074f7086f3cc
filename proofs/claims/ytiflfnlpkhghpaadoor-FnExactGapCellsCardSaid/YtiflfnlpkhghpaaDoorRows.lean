/-
  NARROWER THAN 'FOR EVERY INPUT', by the rows' own cells (each row's printed sentence says how): FnJoins: laid · FnGroupOf: laid · FnGapOf: laid · FnFilled: laid · FnGapCells: laid · FnGapFree: laid · FnGroupJoins: laid · FnExactJoins: laid · FnExactGroupOf: laid · FnExactGapOf: laid · FnExactGapCells: laid.
  DERIVED. THE GIVEN ROWS OF THIS SEAT. 11 by the template 'for every input the law returns true; each argument reads behind the call as it read before'; 0 by the template 'total and deterministic' (their statements: YtiflfnlpkhghpaaDoorTotals.lean).
  GIVEN WITH THE SEED: the statements are not yours to turn. If you find one false, say at which input.
  Laid BY PROGRAM, IN A SANDBOX (cutbox-rows.mjs): the forced cells as the released guide's own fill.sh prints them over the translation 504151143b0813f4… (all of the seat's roots in one cut). By AI agents, Wed Nov 11 2026. No macro, syntax, notation, axiom, sorry.
-/
import Derived.Test.YtiflfnlpkhghpaaDoorChecked
import GoSem.Claim
import GoSem.ClaimJoined
import GoSem.ClaimMapViews
import Derived.JoinedTies
import Derived.KernelRfl
namespace Go.Proofs.YtiflfnlpkhghpaaDoor
/- THE CELL 'sum', in the pinned program and in every row, IS THE sha256 OF THE DUMP (.gsa) THAT YtiflfnlpkhghpaaDoorProg.lean LOADS. Nothing in Lean hashes anything: it is a label: what it is worth is what the hold of that sum in a sandbox is worth. -/
noncomputable def Tryd.pinned : Pinned := { name := "ytiflfnlpkhghpaadoor", sum := "504151143b0813f42347bce18bce2b5ff2f07a67c67458cc21fa4ff258c14556", checked := Tryd.checked }
namespace Rows
def none {H : Type} : Left H := { results := [], args := [] }

/- WHAT THE LISTED PACKAGE-LEVEL VARIABLES READ AS WHEN THE CALL BEGINS. Each datum BY PROGRAM (the guide's laid-datum.mjs) off the statement by which the dump's own 'gosem.cut.vars' lays the variable. In a bare row this is a premise. The card (YtiflfnlpkhghpaaDoorCards.lean) ties it to the program's text. -/
def laid_loop_example_sidescross_impl_nearSteps {H : Type} : DataW H := .agg [.agg [.lit (.int .i64 (-1)), .lit (.int .i64 0)], .agg [.lit (.int .i64 (-1)), .lit (.int .i64 1)], .agg [.lit (.int .i64 0), .lit (.int .i64 (-1))], .agg [.lit (.int .i64 0), .lit (.int .i64 1)], .agg [.lit (.int .i64 1), .lit (.int .i64 (-1))], .agg [.lit (.int .i64 1), .lit (.int .i64 0)]]

/-- 'laws.FnJoins': WHATEVER THE INPUT: true; the input reads as it did. -/
def fnJoinsSpec : ChangeSpec := { name := "fnJoins", vars := ["loop.example/sidescross/impl.nearSteps"], fn := fun _ => fun
  | [d, g1] => { results := [.lit (.bool true)], args := [d], vars := [g1] }
  | _ => none }
def fnJoinsRow : OpenClaim := { program := "ytiflfnlpkhghpaadoor", sum := "504151143b0813f42347bce18bce2b5ff2f07a67c67458cc21fa4ff258c14556", func := "loop.example/sidescross/laws.FnJoins", spec := "fnJoins", named := ["loop.example/sidescross/impl.nearSteps"], apart := false, laid := [("loop.example/sidescross/impl.nearSteps", laid_loop_example_sidescross_impl_nearSteps)] }
def FnJoinsSaid : Prop := fnJoinsRow.holds Tryd.pinned (OpenSpec.ofChange fnJoinsSpec)

/-- ITS FALSE NEIGHBOUR: 'it returns false'. Refute it at one input. -/
def fnJoinsWrong : ChangeSpec := { name := "fnJoins", vars := ["loop.example/sidescross/impl.nearSteps"], fn := fun _ => fun
  | [d, g1] => { results := [.lit (.bool false)], args := [d], vars := [g1] }
  | _ => none }
def FnJoinsWrongFalsely : Prop := fnJoinsRow.holds Tryd.pinned (OpenSpec.ofChange fnJoinsWrong)

/-- 'laws.FnGroupOf': WHATEVER THE INPUT: true; the input reads as it did. -/
def fnGroupOfSpec : ChangeSpec := { name := "fnGroupOf", vars := ["loop.example/sidescross/impl.nearSteps"], fn := fun _ => fun
  | [d, g1] => { results := [.lit (.bool true)], args := [d], vars := [g1] }
  | _ => none }
def fnGroupOfRow : OpenClaim := { program := "ytiflfnlpkhghpaadoor", sum := "504151143b0813f42347bce18bce2b5ff2f07a67c67458cc21fa4ff258c14556", func := "loop.example/sidescross/laws.FnGroupOf", spec := "fnGroupOf", named := ["loop.example/sidescross/impl.nearSteps"], apart := false, laid := [("loop.example/sidescross/impl.nearSteps", laid_loop_example_sidescross_impl_nearSteps)] }
def FnGroupOfSaid : Prop := fnGroupOfRow.holds Tryd.pinned (OpenSpec.ofChange fnGroupOfSpec)

/-- ITS FALSE NEIGHBOUR: 'it returns false'. Refute it at one input. -/
def fnGroupOfWrong : ChangeSpec := { name := "fnGroupOf", vars := ["loop.example/sidescross/impl.nearSteps"], fn := fun _ => fun
  | [d, g1] => { results := [.lit (.bool false)], args := [d], vars := [g1] }
  | _ => none }
def FnGroupOfWrongFalsely : Prop := fnGroupOfRow.holds Tryd.pinned (OpenSpec.ofChange fnGroupOfWrong)

/-- 'laws.FnGapOf': WHATEVER THE INPUT: true; the input reads as it did. -/
def fnGapOfSpec : ChangeSpec := { name := "fnGapOf", vars := ["loop.example/sidescross/impl.nearSteps"], fn := fun _ => fun
  | [d, g1] => { results := [.lit (.bool true)], args := [d], vars := [g1] }
  | _ => none }
def fnGapOfRow : OpenClaim := { program := "ytiflfnlpkhghpaadoor", sum := "504151143b0813f42347bce18bce2b5ff2f07a67c67458cc21fa4ff258c14556", func := "loop.example/sidescross/laws.FnGapOf", spec := "fnGapOf", named := ["loop.example/sidescross/impl.nearSteps"], apart := false, laid := [("loop.example/sidescross/impl.nearSteps", laid_loop_example_sidescross_impl_nearSteps)] }
def FnGapOfSaid : Prop := fnGapOfRow.holds Tryd.pinned (OpenSpec.ofChange fnGapOfSpec)

/-- ITS FALSE NEIGHBOUR: 'it returns false'. Refute it at one input. -/
def fnGapOfWrong : ChangeSpec := { name := "fnGapOf", vars := ["loop.example/sidescross/impl.nearSteps"], fn := fun _ => fun
  | [d, g1] => { results := [.lit (.bool false)], args := [d], vars := [g1] }
  | _ => none }
def FnGapOfWrongFalsely : Prop := fnGapOfRow.holds Tryd.pinned (OpenSpec.ofChange fnGapOfWrong)

/-- 'laws.FnFilled': WHATEVER THE INPUT: true; the input reads as it did. -/
def fnFilledSpec : ChangeSpec := { name := "fnFilled", vars := ["loop.example/sidescross/impl.nearSteps"], fn := fun _ => fun
  | [d, g1] => { results := [.lit (.bool true)], args := [d], vars := [g1] }
  | _ => none }
def fnFilledRow : OpenClaim := { program := "ytiflfnlpkhghpaadoor", sum := "504151143b0813f42347bce18bce2b5ff2f07a67c67458cc21fa4ff258c14556", func := "loop.example/sidescross/laws.FnFilled", spec := "fnFilled", named := ["loop.example/sidescross/impl.nearSteps"], apart := false, laid := [("loop.example/sidescross/impl.nearSteps", laid_loop_example_sidescross_impl_nearSteps)] }
def FnFilledSaid : Prop := fnFilledRow.holds Tryd.pinned (OpenSpec.ofChange fnFilledSpec)

/-- ITS FALSE NEIGHBOUR: 'it returns false'. Refute it at one input. -/
def fnFilledWrong : ChangeSpec := { name := "fnFilled", vars := ["loop.example/sidescross/impl.nearSteps"], fn := fun _ => fun
  | [d, g1] => { results := [.lit (.bool false)], args := [d], vars := [g1] }
  | _ => none }
def FnFilledWrongFalsely : Prop := fnFilledRow.holds Tryd.pinned (OpenSpec.ofChange fnFilledWrong)

/-- 'laws.FnGapCells': WHATEVER THE INPUT: true; the input reads as it did. -/
def fnGapCellsSpec : ChangeSpec := { name := "fnGapCells", vars := ["loop.example/sidescross/impl.nearSteps"], fn := fun _ => fun
  | [d, g1] => { results := [.lit (.bool true)], args := [d], vars := [g1] }
  | _ => none }
def fnGapCellsRow : OpenClaim := { program := "ytiflfnlpkhghpaadoor", sum := "504151143b0813f42347bce18bce2b5ff2f07a67c67458cc21fa4ff258c14556", func := "loop.example/sidescross/laws.FnGapCells", spec := "fnGapCells", named := ["loop.example/sidescross/impl.nearSteps"], apart := false, laid := [("loop.example/sidescross/impl.nearSteps", laid_loop_example_sidescross_impl_nearSteps)] }
def FnGapCellsSaid : Prop := fnGapCellsRow.holds Tryd.pinned (OpenSpec.ofChange fnGapCellsSpec)

/-- ITS FALSE NEIGHBOUR: 'it returns false'. Refute it at one input. -/
def fnGapCellsWrong : ChangeSpec := { name := "fnGapCells", vars := ["loop.example/sidescross/impl.nearSteps"], fn := fun _ => fun
  | [d, g1] => { results := [.lit (.bool false)], args := [d], vars := [g1] }
  | _ => none }
def FnGapCellsWrongFalsely : Prop := fnGapCellsRow.holds Tryd.pinned (OpenSpec.ofChange fnGapCellsWrong)

/-- 'laws.FnGapFree': WHATEVER THE INPUT: true; the input reads as it did. -/
def fnGapFreeSpec : ChangeSpec := { name := "fnGapFree", vars := ["loop.example/sidescross/impl.nearSteps"], fn := fun _ => fun
  | [d, g1] => { results := [.lit (.bool true)], args := [d], vars := [g1] }
  | _ => none }
def fnGapFreeRow : OpenClaim := { program := "ytiflfnlpkhghpaadoor", sum := "504151143b0813f42347bce18bce2b5ff2f07a67c67458cc21fa4ff258c14556", func := "loop.example/sidescross/laws.FnGapFree", spec := "fnGapFree", named := ["loop.example/sidescross/impl.nearSteps"], apart := false, laid := [("loop.example/sidescross/impl.nearSteps", laid_loop_example_sidescross_impl_nearSteps)] }
def FnGapFreeSaid : Prop := fnGapFreeRow.holds Tryd.pinned (OpenSpec.ofChange fnGapFreeSpec)

/-- ITS FALSE NEIGHBOUR: 'it returns false'. Refute it at one input. -/
def fnGapFreeWrong : ChangeSpec := { name := "fnGapFree", vars := ["loop.example/sidescross/impl.nearSteps"], fn := fun _ => fun
  | [d, g1] => { results := [.lit (.bool false)], args := [d], vars := [g1] }
  | _ => none }
def FnGapFreeWrongFalsely : Prop := fnGapFreeRow.holds Tryd.pinned (OpenSpec.ofChange fnGapFreeWrong)

/-- 'laws.FnGroupJoins': WHATEVER THE INPUT: true; the input reads as it did. -/
def fnGroupJoinsSpec : ChangeSpec := { name := "fnGroupJoins", vars := ["loop.example/sidescross/impl.nearSteps"], fn := fun _ => fun
  | [d, g1] => { results := [.lit (.bool true)], args := [d], vars := [g1] }
  | _ => none }
def fnGroupJoinsRow : OpenClaim := { program := "ytiflfnlpkhghpaadoor", sum := "504151143b0813f42347bce18bce2b5ff2f07a67c67458cc21fa4ff258c14556", func := "loop.example/sidescross/laws.FnGroupJoins", spec := "fnGroupJoins", named := ["loop.example/sidescross/impl.nearSteps"], apart := false, laid := [("loop.example/sidescross/impl.nearSteps", laid_loop_example_sidescross_impl_nearSteps)] }
def FnGroupJoinsSaid : Prop := fnGroupJoinsRow.holds Tryd.pinned (OpenSpec.ofChange fnGroupJoinsSpec)

/-- ITS FALSE NEIGHBOUR: 'it returns false'. Refute it at one input. -/
def fnGroupJoinsWrong : ChangeSpec := { name := "fnGroupJoins", vars := ["loop.example/sidescross/impl.nearSteps"], fn := fun _ => fun
  | [d, g1] => { results := [.lit (.bool false)], args := [d], vars := [g1] }
  | _ => none }
def FnGroupJoinsWrongFalsely : Prop := fnGroupJoinsRow.holds Tryd.pinned (OpenSpec.ofChange fnGroupJoinsWrong)

/-- 'laws.FnExactJoins': WHATEVER THE INPUT: true; the input reads as it did. -/
def fnExactJoinsSpec : ChangeSpec := { name := "fnExactJoins", vars := ["loop.example/sidescross/impl.nearSteps"], fn := fun _ => fun
  | [d1, d2, d3, d4, g1] => { results := [.lit (.bool true)], args := [d1, d2, d3, d4], vars := [g1] }
  | _ => none }
def fnExactJoinsRow : OpenClaim := { program := "ytiflfnlpkhghpaadoor", sum := "504151143b0813f42347bce18bce2b5ff2f07a67c67458cc21fa4ff258c14556", func := "loop.example/sidescross/laws.FnExactJoins", spec := "fnExactJoins", named := ["loop.example/sidescross/impl.nearSteps"], apart := false, laid := [("loop.example/sidescross/impl.nearSteps", laid_loop_example_sidescross_impl_nearSteps)] }
def FnExactJoinsSaid : Prop := fnExactJoinsRow.holds Tryd.pinned (OpenSpec.ofChange fnExactJoinsSpec)

/-- ITS FALSE NEIGHBOUR: 'it returns false'. Refute it at one input. -/
def fnExactJoinsWrong : ChangeSpec := { name := "fnExactJoins", vars := ["loop.example/sidescross/impl.nearSteps"], fn := fun _ => fun
  | [d1, d2, d3, d4, g1] => { results := [.lit (.bool false)], args := [d1, d2, d3, d4], vars := [g1] }
  | _ => none }
def FnExactJoinsWrongFalsely : Prop := fnExactJoinsRow.holds Tryd.pinned (OpenSpec.ofChange fnExactJoinsWrong)

/-- 'laws.FnExactGroupOf': WHATEVER THE INPUT: true; the input reads as it did. -/
def fnExactGroupOfSpec : ChangeSpec := { name := "fnExactGroupOf", vars := ["loop.example/sidescross/impl.nearSteps"], fn := fun _ => fun
  | [d1, d2, d3, d4, g1] => { results := [.lit (.bool true)], args := [d1, d2, d3, d4], vars := [g1] }
  | _ => none }
def fnExactGroupOfRow : OpenClaim := { program := "ytiflfnlpkhghpaadoor", sum := "504151143b0813f42347bce18bce2b5ff2f07a67c67458cc21fa4ff258c14556", func := "loop.example/sidescross/laws.FnExactGroupOf", spec := "fnExactGroupOf", named := ["loop.example/sidescross/impl.nearSteps"], apart := false, laid := [("loop.example/sidescross/impl.nearSteps", laid_loop_example_sidescross_impl_nearSteps)] }
def FnExactGroupOfSaid : Prop := fnExactGroupOfRow.holds Tryd.pinned (OpenSpec.ofChange fnExactGroupOfSpec)

/-- ITS FALSE NEIGHBOUR: 'it returns false'. Refute it at one input. -/
def fnExactGroupOfWrong : ChangeSpec := { name := "fnExactGroupOf", vars := ["loop.example/sidescross/impl.nearSteps"], fn := fun _ => fun
  | [d1, d2, d3, d4, g1] => { results := [.lit (.bool false)], args := [d1, d2, d3, d4], vars := [g1] }
  | _ => none }
def FnExactGroupOfWrongFalsely : Prop := fnExactGroupOfRow.holds Tryd.pinned (OpenSpec.ofChange fnExactGroupOfWrong)

/-- 'laws.FnExactGapOf': WHATEVER THE INPUT: true; the input reads as it did. -/
def fnExactGapOfSpec : ChangeSpec := { name := "fnExactGapOf", vars := ["loop.example/sidescross/impl.nearSteps"], fn := fun _ => fun
  | [d1, d2, d3, d4, g1] => { results := [.lit (.bool true)], args := [d1, d2, d3, d4], vars := [g1] }
  | _ => none }
def fnExactGapOfRow : OpenClaim := { program := "ytiflfnlpkhghpaadoor", sum := "504151143b0813f42347bce18bce2b5ff2f07a67c67458cc21fa4ff258c14556", func := "loop.example/sidescross/laws.FnExactGapOf", spec := "fnExactGapOf", named := ["loop.example/sidescross/impl.nearSteps"], apart := false, laid := [("loop.example/sidescross/impl.nearSteps", laid_loop_example_sidescross_impl_nearSteps)] }
def FnExactGapOfSaid : Prop := fnExactGapOfRow.holds Tryd.pinned (OpenSpec.ofChange fnExactGapOfSpec)

/-- ITS FALSE NEIGHBOUR: 'it returns false'. Refute it at one input. -/
def fnExactGapOfWrong : ChangeSpec := { name := "fnExactGapOf", vars := ["loop.example/sidescross/impl.nearSteps"], fn := fun _ => fun
  | [d1, d2, d3, d4, g1] => { results := [.lit (.bool false)], args := [d1, d2, d3, d4], vars := [g1] }
  | _ => none }
def FnExactGapOfWrongFalsely : Prop := fnExactGapOfRow.holds Tryd.pinned (OpenSpec.ofChange fnExactGapOfWrong)

/-- 'laws.FnExactGapCells': WHATEVER THE INPUT: true; the input reads as it did. -/
def fnExactGapCellsSpec : ChangeSpec := { name := "fnExactGapCells", vars := ["loop.example/sidescross/impl.nearSteps"], fn := fun _ => fun
  | [d1, d2, d3, d4, g1] => { results := [.lit (.bool true)], args := [d1, d2, d3, d4], vars := [g1] }
  | _ => none }
def fnExactGapCellsRow : OpenClaim := { program := "ytiflfnlpkhghpaadoor", sum := "504151143b0813f42347bce18bce2b5ff2f07a67c67458cc21fa4ff258c14556", func := "loop.example/sidescross/laws.FnExactGapCells", spec := "fnExactGapCells", named := ["loop.example/sidescross/impl.nearSteps"], apart := false, laid := [("loop.example/sidescross/impl.nearSteps", laid_loop_example_sidescross_impl_nearSteps)] }
def FnExactGapCellsSaid : Prop := fnExactGapCellsRow.holds Tryd.pinned (OpenSpec.ofChange fnExactGapCellsSpec)

/-- ITS FALSE NEIGHBOUR: 'it returns false'. Refute it at one input. -/
def fnExactGapCellsWrong : ChangeSpec := { name := "fnExactGapCells", vars := ["loop.example/sidescross/impl.nearSteps"], fn := fun _ => fun
  | [d1, d2, d3, d4, g1] => { results := [.lit (.bool false)], args := [d1, d2, d3, d4], vars := [g1] }
  | _ => none }
def FnExactGapCellsWrongFalsely : Prop := fnExactGapCellsRow.holds Tryd.pinned (OpenSpec.ofChange fnExactGapCellsWrong)

/- THE SECOND FORM. 'bulk': how many values and letters a reading holds, each counted each time it is reached (what is shared counts as often as it is met; a slice's spare places count too). A statement '..UptoSaid' is the law's where the arguments, and the package variables that the reading takes, are together of bulk at most 1048576: NARROWER than '..Said'. Prove '..Said' where nothing that the law and all that it calls make is longer than what came in: it says more and counts as full. Else prove '..UptoSaid'. A law counts once. -/
mutual
def uptoBulk {H : Type} : DataW H → Nat
  | .lit (.string bytes) => bytes.length + 1
  | .lit _ => 1
  | .nil => 1
  | .ptr d => uptoBulk d + 1
  | .slice elems spare => uptoBulkAll elems + uptoBulkAll spare + 1
  | .agg parts => uptoBulkAll parts + 1
  | .iface _ d => uptoBulk d + 1
  | .map entries => uptoBulkEntries entries + 1
  | .held _ => 1
def uptoBulkAll {H : Type} : List (DataW H) → Nat
  | [] => 0
  | d :: r => uptoBulk d + uptoBulkAll r
def uptoBulkEntries {H : Type} : List (Lit × DataW H) → Nat
  | [] => 0
  | x :: r => uptoBulkEntry x + uptoBulkEntries r
def uptoBulkEntry {H : Type} : Lit × DataW H → Nat
  | (.string bytes, d) => bytes.length + uptoBulk d + 1
  | (_, d) => uptoBulk d + 1
 end
def uptoSmall : (H : Type) → List (DataW H) → Bool := fun _ ds => decide (uptoBulkAll ds ≤ 1048576)
def OpenSpec.upto (s : _root_.Go.ChangeSpec) : _root_.Go.OpenSpec := { _root_.Go.OpenSpec.ofChange s with cond := some uptoSmall }

/-- 'laws.FnJoins', WHERE WHAT IT READS IS OF BULK AT MOST 1048576: true; the input reads as it did. -/
def fnJoinsUptoRow : OpenClaim := { program := "ytiflfnlpkhghpaadoor", sum := "504151143b0813f42347bce18bce2b5ff2f07a67c67458cc21fa4ff258c14556", func := "loop.example/sidescross/laws.FnJoins", spec := "fnJoins", named := ["loop.example/sidescross/impl.nearSteps"], apart := false, laid := [("loop.example/sidescross/impl.nearSteps", laid_loop_example_sidescross_impl_nearSteps)], narrowed := true }
def FnJoinsUptoSaid : Prop := fnJoinsUptoRow.holds Tryd.pinned (OpenSpec.upto fnJoinsSpec)

/-- 'laws.FnGroupOf', WHERE WHAT IT READS IS OF BULK AT MOST 1048576: true; the input reads as it did. -/
def fnGroupOfUptoRow : OpenClaim := { program := "ytiflfnlpkhghpaadoor", sum := "504151143b0813f42347bce18bce2b5ff2f07a67c67458cc21fa4ff258c14556", func := "loop.example/sidescross/laws.FnGroupOf", spec := "fnGroupOf", named := ["loop.example/sidescross/impl.nearSteps"], apart := false, laid := [("loop.example/sidescross/impl.nearSteps", laid_loop_example_sidescross_impl_nearSteps)], narrowed := true }
def FnGroupOfUptoSaid : Prop := fnGroupOfUptoRow.holds Tryd.pinned (OpenSpec.upto fnGroupOfSpec)

/-- 'laws.FnGapOf', WHERE WHAT IT READS IS OF BULK AT MOST 1048576: true; the input reads as it did. -/
def fnGapOfUptoRow : OpenClaim := { program := "ytiflfnlpkhghpaadoor", sum := "504151143b0813f42347bce18bce2b5ff2f07a67c67458cc21fa4ff258c14556", func := "loop.example/sidescross/laws.FnGapOf", spec := "fnGapOf", named := ["loop.example/sidescross/impl.nearSteps"], apart := false, laid := [("loop.example/sidescross/impl.nearSteps", laid_loop_example_sidescross_impl_nearSteps)], narrowed := true }
def FnGapOfUptoSaid : Prop := fnGapOfUptoRow.holds Tryd.pinned (OpenSpec.upto fnGapOfSpec)

/-- 'laws.FnFilled', WHERE WHAT IT READS IS OF BULK AT MOST 1048576: true; the input reads as it did. -/
def fnFilledUptoRow : OpenClaim := { program := "ytiflfnlpkhghpaadoor", sum := "504151143b0813f42347bce18bce2b5ff2f07a67c67458cc21fa4ff258c14556", func := "loop.example/sidescross/laws.FnFilled", spec := "fnFilled", named := ["loop.example/sidescross/impl.nearSteps"], apart := false, laid := [("loop.example/sidescross/impl.nearSteps", laid_loop_example_sidescross_impl_nearSteps)], narrowed := true }
def FnFilledUptoSaid : Prop := fnFilledUptoRow.holds Tryd.pinned (OpenSpec.upto fnFilledSpec)

/-- 'laws.FnGapCells', WHERE WHAT IT READS IS OF BULK AT MOST 1048576: true; the input reads as it did. -/
def fnGapCellsUptoRow : OpenClaim := { program := "ytiflfnlpkhghpaadoor", sum := "504151143b0813f42347bce18bce2b5ff2f07a67c67458cc21fa4ff258c14556", func := "loop.example/sidescross/laws.FnGapCells", spec := "fnGapCells", named := ["loop.example/sidescross/impl.nearSteps"], apart := false, laid := [("loop.example/sidescross/impl.nearSteps", laid_loop_example_sidescross_impl_nearSteps)], narrowed := true }
def FnGapCellsUptoSaid : Prop := fnGapCellsUptoRow.holds Tryd.pinned (OpenSpec.upto fnGapCellsSpec)

/-- 'laws.FnGapFree', WHERE WHAT IT READS IS OF BULK AT MOST 1048576: true; the input reads as it did. -/
def fnGapFreeUptoRow : OpenClaim := { program := "ytiflfnlpkhghpaadoor", sum := "504151143b0813f42347bce18bce2b5ff2f07a67c67458cc21fa4ff258c14556", func := "loop.example/sidescross/laws.FnGapFree", spec := "fnGapFree", named := ["loop.example/sidescross/impl.nearSteps"], apart := false, laid := [("loop.example/sidescross/impl.nearSteps", laid_loop_example_sidescross_impl_nearSteps)], narrowed := true }
def FnGapFreeUptoSaid : Prop := fnGapFreeUptoRow.holds Tryd.pinned (OpenSpec.upto fnGapFreeSpec)

/-- 'laws.FnGroupJoins', WHERE WHAT IT READS IS OF BULK AT MOST 1048576: true; the input reads as it did. -/
def fnGroupJoinsUptoRow : OpenClaim := { program := "ytiflfnlpkhghpaadoor", sum := "504151143b0813f42347bce18bce2b5ff2f07a67c67458cc21fa4ff258c14556", func := "loop.example/sidescross/laws.FnGroupJoins", spec := "fnGroupJoins", named := ["loop.example/sidescross/impl.nearSteps"], apart := false, laid := [("loop.example/sidescross/impl.nearSteps", laid_loop_example_sidescross_impl_nearSteps)], narrowed := true }
def FnGroupJoinsUptoSaid : Prop := fnGroupJoinsUptoRow.holds Tryd.pinned (OpenSpec.upto fnGroupJoinsSpec)

/-- 'laws.FnExactJoins', WHERE WHAT IT READS IS OF BULK AT MOST 1048576: true; the input reads as it did. -/
def fnExactJoinsUptoRow : OpenClaim := { program := "ytiflfnlpkhghpaadoor", sum := "504151143b0813f42347bce18bce2b5ff2f07a67c67458cc21fa4ff258c14556", func := "loop.example/sidescross/laws.FnExactJoins", spec := "fnExactJoins", named := ["loop.example/sidescross/impl.nearSteps"], apart := false, laid := [("loop.example/sidescross/impl.nearSteps", laid_loop_example_sidescross_impl_nearSteps)], narrowed := true }
def FnExactJoinsUptoSaid : Prop := fnExactJoinsUptoRow.holds Tryd.pinned (OpenSpec.upto fnExactJoinsSpec)

/-- 'laws.FnExactGroupOf', WHERE WHAT IT READS IS OF BULK AT MOST 1048576: true; the input reads as it did. -/
def fnExactGroupOfUptoRow : OpenClaim := { program := "ytiflfnlpkhghpaadoor", sum := "504151143b0813f42347bce18bce2b5ff2f07a67c67458cc21fa4ff258c14556", func := "loop.example/sidescross/laws.FnExactGroupOf", spec := "fnExactGroupOf", named := ["loop.example/sidescross/impl.nearSteps"], apart := false, laid := [("loop.example/sidescross/impl.nearSteps", laid_loop_example_sidescross_impl_nearSteps)], narrowed := true }
def FnExactGroupOfUptoSaid : Prop := fnExactGroupOfUptoRow.holds Tryd.pinned (OpenSpec.upto fnExactGroupOfSpec)

/-- 'laws.FnExactGapOf', WHERE WHAT IT READS IS OF BULK AT MOST 1048576: true; the input reads as it did. -/
def fnExactGapOfUptoRow : OpenClaim := { program := "ytiflfnlpkhghpaadoor", sum := "504151143b0813f42347bce18bce2b5ff2f07a67c67458cc21fa4ff258c14556", func := "loop.example/sidescross/laws.FnExactGapOf", spec := "fnExactGapOf", named := ["loop.example/sidescross/impl.nearSteps"], apart := false, laid := [("loop.example/sidescross/impl.nearSteps", laid_loop_example_sidescross_impl_nearSteps)], narrowed := true }
def FnExactGapOfUptoSaid : Prop := fnExactGapOfUptoRow.holds Tryd.pinned (OpenSpec.upto fnExactGapOfSpec)

/-- 'laws.FnExactGapCells', WHERE WHAT IT READS IS OF BULK AT MOST 1048576: true; the input reads as it did. -/
def fnExactGapCellsUptoRow : OpenClaim := { program := "ytiflfnlpkhghpaadoor", sum := "504151143b0813f42347bce18bce2b5ff2f07a67c67458cc21fa4ff258c14556", func := "loop.example/sidescross/laws.FnExactGapCells", spec := "fnExactGapCells", named := ["loop.example/sidescross/impl.nearSteps"], apart := false, laid := [("loop.example/sidescross/impl.nearSteps", laid_loop_example_sidescross_impl_nearSteps)], narrowed := true }
def FnExactGapCellsUptoSaid : Prop := fnExactGapCellsUptoRow.holds Tryd.pinned (OpenSpec.upto fnExactGapCellsSpec)

end Rows
end Go.Proofs.YtiflfnlpkhghpaaDoor
