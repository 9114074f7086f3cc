/-
  NARROWER THAN 'FOR EVERY INPUT', by the rows' own cells (each row's printed sentence says how): FnMattersAt: laid · FnDeadCells: laid · FnFillCount: laid · FnPivotCount: laid · FnPivotTurned: laid · FnFillMirror: laid · FnExactMattersAt: laid · FnExactDeadCells: laid · FnExactFillCount: laid · FnExactPivotCount: laid.
  DERIVED. THE GIVEN ROWS OF THIS SEAT. 10 by the template 'for every input the law returns true; each argument reads behind the call as it read before'; 0 by the template 'total and deterministic' (their statements: YtfgjbfaapbhppaaDoorTotals.lean).
  GIVEN WITH THE SEED: the statements are not yours to turn. If you find one false, say at which input.
  Laid BY PROGRAM, IN A SANDBOX (cutbox-rows.mjs): the forced cells as the released guide's own fill.sh prints them over the translation a1362352b05cfe73… (all of the seat's roots in one cut). By AI agents, Wed Nov 11 2026. No macro, syntax, notation, axiom, sorry.
-/
import Derived.Test.YtfgjbfaapbhppaaDoorChecked
import GoSem.Claim
import GoSem.ClaimJoined
import GoSem.ClaimMapViews
import Derived.JoinedTies
import Derived.KernelRfl
namespace Go.Proofs.YtfgjbfaapbhppaaDoor
/- THE CELL 'sum', in the pinned program and in every row, IS THE sha256 OF THE DUMP (.gsa) THAT YtfgjbfaapbhppaaDoorProg.lean LOADS. Nothing in Lean hashes anything: it is a label: what it is worth is what the hold of that sum in a sandbox is worth. -/
noncomputable def Tryd.pinned : Pinned := { name := "ytfgjbfaapbhppaadoor", sum := "a1362352b05cfe738de7d140df0d4a235464be28aa8319dc7b98067f150a99f8", checked := Tryd.checked }
namespace Rows
def none {H : Type} : Left H := { results := [], args := [] }

/- WHAT THE LISTED PACKAGE-LEVEL VARIABLES READ AS WHEN THE CALL BEGINS. Each datum BY PROGRAM (the guide's laid-datum.mjs) off the statement by which the dump's own 'gosem.cut.vars' lays the variable. In a bare row this is a premise. The card (YtfgjbfaapbhppaaDoorCards.lean) ties it to the program's text. -/
def laid_math_bits_deBruijn32tab {H : Type} : DataW H := .agg [.lit (.int .u8 0), .lit (.int .u8 1), .lit (.int .u8 28), .lit (.int .u8 2), .lit (.int .u8 29), .lit (.int .u8 14), .lit (.int .u8 24), .lit (.int .u8 3), .lit (.int .u8 30), .lit (.int .u8 22), .lit (.int .u8 20), .lit (.int .u8 15), .lit (.int .u8 25), .lit (.int .u8 17), .lit (.int .u8 4), .lit (.int .u8 8), .lit (.int .u8 31), .lit (.int .u8 27), .lit (.int .u8 13), .lit (.int .u8 23), .lit (.int .u8 21), .lit (.int .u8 19), .lit (.int .u8 16), .lit (.int .u8 7), .lit (.int .u8 26), .lit (.int .u8 12), .lit (.int .u8 18), .lit (.int .u8 6), .lit (.int .u8 11), .lit (.int .u8 5), .lit (.int .u8 10), .lit (.int .u8 9)]
def laid_math_bits_deBruijn64tab {H : Type} : DataW H := .agg [.lit (.int .u8 0), .lit (.int .u8 1), .lit (.int .u8 56), .lit (.int .u8 2), .lit (.int .u8 57), .lit (.int .u8 49), .lit (.int .u8 28), .lit (.int .u8 3), .lit (.int .u8 61), .lit (.int .u8 58), .lit (.int .u8 42), .lit (.int .u8 50), .lit (.int .u8 38), .lit (.int .u8 29), .lit (.int .u8 17), .lit (.int .u8 4), .lit (.int .u8 62), .lit (.int .u8 47), .lit (.int .u8 59), .lit (.int .u8 36), .lit (.int .u8 45), .lit (.int .u8 43), .lit (.int .u8 51), .lit (.int .u8 22), .lit (.int .u8 53), .lit (.int .u8 39), .lit (.int .u8 33), .lit (.int .u8 30), .lit (.int .u8 24), .lit (.int .u8 18), .lit (.int .u8 12), .lit (.int .u8 5), .lit (.int .u8 63), .lit (.int .u8 55), .lit (.int .u8 48), .lit (.int .u8 27), .lit (.int .u8 60), .lit (.int .u8 41), .lit (.int .u8 37), .lit (.int .u8 16), .lit (.int .u8 46), .lit (.int .u8 35), .lit (.int .u8 44), .lit (.int .u8 21), .lit (.int .u8 52), .lit (.int .u8 32), .lit (.int .u8 23), .lit (.int .u8 11), .lit (.int .u8 54), .lit (.int .u8 26), .lit (.int .u8 40), .lit (.int .u8 15), .lit (.int .u8 34), .lit (.int .u8 20), .lit (.int .u8 31), .lit (.int .u8 10), .lit (.int .u8 25), .lit (.int .u8 14), .lit (.int .u8 19), .lit (.int .u8 9), .lit (.int .u8 13), .lit (.int .u8 8), .lit (.int .u8 7), .lit (.int .u8 6)]
def laid_loop_example_sidescross_impl_nearSteps {H : Type} : DataW H := .agg [.agg [.lit (.int .i64 (-1)), .lit (.int .i64 0)], .agg [.lit (.int .i64 (-1)), .lit (.int .i64 1)], .agg [.lit (.int .i64 0), .lit (.int .i64 (-1))], .agg [.lit (.int .i64 0), .lit (.int .i64 1)], .agg [.lit (.int .i64 1), .lit (.int .i64 (-1))], .agg [.lit (.int .i64 1), .lit (.int .i64 0)]]

/-- 'laws.FnMattersAt': WHATEVER THE INPUT: true; the input reads as it did. -/
def fnMattersAtSpec : ChangeSpec := { name := "fnMattersAt", vars := ["loop.example/sidescross/impl.nearSteps"], fn := fun _ => fun
  | [d, g1] => { results := [.lit (.bool true)], args := [d], vars := [g1] }
  | _ => none }
def fnMattersAtRow : OpenClaim := { program := "ytfgjbfaapbhppaadoor", sum := "a1362352b05cfe738de7d140df0d4a235464be28aa8319dc7b98067f150a99f8", func := "loop.example/sidescross/laws.FnMattersAt", spec := "fnMattersAt", named := ["loop.example/sidescross/impl.nearSteps", "math/bits.deBruijn32tab", "math/bits.deBruijn64tab"], plainKeys := false, apart := false, laid := [("math/bits.deBruijn32tab", laid_math_bits_deBruijn32tab), ("math/bits.deBruijn64tab", laid_math_bits_deBruijn64tab), ("loop.example/sidescross/impl.nearSteps", laid_loop_example_sidescross_impl_nearSteps)] }
def FnMattersAtSaid : Prop := fnMattersAtRow.holds Tryd.pinned (OpenSpec.ofChange fnMattersAtSpec)

/-- ITS FALSE NEIGHBOUR: 'it returns false'. Refute it at one input. -/
def fnMattersAtWrong : ChangeSpec := { name := "fnMattersAt", vars := ["loop.example/sidescross/impl.nearSteps"], fn := fun _ => fun
  | [d, g1] => { results := [.lit (.bool false)], args := [d], vars := [g1] }
  | _ => none }
def FnMattersAtWrongFalsely : Prop := fnMattersAtRow.holds Tryd.pinned (OpenSpec.ofChange fnMattersAtWrong)

/-- 'laws.FnDeadCells': WHATEVER THE INPUT: true; the input reads as it did. -/
def fnDeadCellsSpec : ChangeSpec := { name := "fnDeadCells", vars := ["loop.example/sidescross/impl.nearSteps"], fn := fun _ => fun
  | [d, g1] => { results := [.lit (.bool true)], args := [d], vars := [g1] }
  | _ => none }
def fnDeadCellsRow : OpenClaim := { program := "ytfgjbfaapbhppaadoor", sum := "a1362352b05cfe738de7d140df0d4a235464be28aa8319dc7b98067f150a99f8", func := "loop.example/sidescross/laws.FnDeadCells", spec := "fnDeadCells", recurses := true, named := ["loop.example/sidescross/impl.nearSteps", "math/bits.deBruijn32tab", "math/bits.deBruijn64tab"], plainKeys := false, apart := false, laid := [("math/bits.deBruijn32tab", laid_math_bits_deBruijn32tab), ("math/bits.deBruijn64tab", laid_math_bits_deBruijn64tab), ("loop.example/sidescross/impl.nearSteps", laid_loop_example_sidescross_impl_nearSteps)] }
def FnDeadCellsSaid : Prop := fnDeadCellsRow.holds Tryd.pinned (OpenSpec.ofChange fnDeadCellsSpec)

/-- ITS FALSE NEIGHBOUR: 'it returns false'. Refute it at one input. -/
def fnDeadCellsWrong : ChangeSpec := { name := "fnDeadCells", vars := ["loop.example/sidescross/impl.nearSteps"], fn := fun _ => fun
  | [d, g1] => { results := [.lit (.bool false)], args := [d], vars := [g1] }
  | _ => none }
def FnDeadCellsWrongFalsely : Prop := fnDeadCellsRow.holds Tryd.pinned (OpenSpec.ofChange fnDeadCellsWrong)

/-- 'laws.FnFillCount': WHATEVER THE INPUT: true; the input reads as it did. -/
def fnFillCountSpec : ChangeSpec := { name := "fnFillCount", vars := ["loop.example/sidescross/impl.nearSteps"], fn := fun _ => fun
  | [d, g1] => { results := [.lit (.bool true)], args := [d], vars := [g1] }
  | _ => none }
def fnFillCountRow : OpenClaim := { program := "ytfgjbfaapbhppaadoor", sum := "a1362352b05cfe738de7d140df0d4a235464be28aa8319dc7b98067f150a99f8", func := "loop.example/sidescross/laws.FnFillCount", spec := "fnFillCount", named := ["loop.example/sidescross/impl.nearSteps", "math/bits.deBruijn32tab", "math/bits.deBruijn64tab"], plainKeys := false, apart := false, laid := [("math/bits.deBruijn32tab", laid_math_bits_deBruijn32tab), ("math/bits.deBruijn64tab", laid_math_bits_deBruijn64tab), ("loop.example/sidescross/impl.nearSteps", laid_loop_example_sidescross_impl_nearSteps)] }
def FnFillCountSaid : Prop := fnFillCountRow.holds Tryd.pinned (OpenSpec.ofChange fnFillCountSpec)

/-- ITS FALSE NEIGHBOUR: 'it returns false'. Refute it at one input. -/
def fnFillCountWrong : ChangeSpec := { name := "fnFillCount", vars := ["loop.example/sidescross/impl.nearSteps"], fn := fun _ => fun
  | [d, g1] => { results := [.lit (.bool false)], args := [d], vars := [g1] }
  | _ => none }
def FnFillCountWrongFalsely : Prop := fnFillCountRow.holds Tryd.pinned (OpenSpec.ofChange fnFillCountWrong)

/-- 'laws.FnPivotCount': WHATEVER THE INPUT: true; the input reads as it did. -/
def fnPivotCountSpec : ChangeSpec := { name := "fnPivotCount", vars := ["loop.example/sidescross/impl.nearSteps"], fn := fun _ => fun
  | [d, g1] => { results := [.lit (.bool true)], args := [d], vars := [g1] }
  | _ => none }
def fnPivotCountRow : OpenClaim := { program := "ytfgjbfaapbhppaadoor", sum := "a1362352b05cfe738de7d140df0d4a235464be28aa8319dc7b98067f150a99f8", func := "loop.example/sidescross/laws.FnPivotCount", spec := "fnPivotCount", named := ["loop.example/sidescross/impl.nearSteps", "math/bits.deBruijn32tab", "math/bits.deBruijn64tab"], plainKeys := false, apart := false, laid := [("math/bits.deBruijn32tab", laid_math_bits_deBruijn32tab), ("math/bits.deBruijn64tab", laid_math_bits_deBruijn64tab), ("loop.example/sidescross/impl.nearSteps", laid_loop_example_sidescross_impl_nearSteps)] }
def FnPivotCountSaid : Prop := fnPivotCountRow.holds Tryd.pinned (OpenSpec.ofChange fnPivotCountSpec)

/-- ITS FALSE NEIGHBOUR: 'it returns false'. Refute it at one input. -/
def fnPivotCountWrong : ChangeSpec := { name := "fnPivotCount", vars := ["loop.example/sidescross/impl.nearSteps"], fn := fun _ => fun
  | [d, g1] => { results := [.lit (.bool false)], args := [d], vars := [g1] }
  | _ => none }
def FnPivotCountWrongFalsely : Prop := fnPivotCountRow.holds Tryd.pinned (OpenSpec.ofChange fnPivotCountWrong)

/-- 'laws.FnPivotTurned': WHATEVER THE INPUT: true; the input reads as it did. -/
def fnPivotTurnedSpec : ChangeSpec := { name := "fnPivotTurned", vars := ["loop.example/sidescross/impl.nearSteps"], fn := fun _ => fun
  | [d, g1] => { results := [.lit (.bool true)], args := [d], vars := [g1] }
  | _ => none }
def fnPivotTurnedRow : OpenClaim := { program := "ytfgjbfaapbhppaadoor", sum := "a1362352b05cfe738de7d140df0d4a235464be28aa8319dc7b98067f150a99f8", func := "loop.example/sidescross/laws.FnPivotTurned", spec := "fnPivotTurned", named := ["loop.example/sidescross/impl.nearSteps", "math/bits.deBruijn32tab", "math/bits.deBruijn64tab"], plainKeys := false, apart := false, laid := [("math/bits.deBruijn32tab", laid_math_bits_deBruijn32tab), ("math/bits.deBruijn64tab", laid_math_bits_deBruijn64tab), ("loop.example/sidescross/impl.nearSteps", laid_loop_example_sidescross_impl_nearSteps)] }
def FnPivotTurnedSaid : Prop := fnPivotTurnedRow.holds Tryd.pinned (OpenSpec.ofChange fnPivotTurnedSpec)

/-- ITS FALSE NEIGHBOUR: 'it returns false'. Refute it at one input. -/
def fnPivotTurnedWrong : ChangeSpec := { name := "fnPivotTurned", vars := ["loop.example/sidescross/impl.nearSteps"], fn := fun _ => fun
  | [d, g1] => { results := [.lit (.bool false)], args := [d], vars := [g1] }
  | _ => none }
def FnPivotTurnedWrongFalsely : Prop := fnPivotTurnedRow.holds Tryd.pinned (OpenSpec.ofChange fnPivotTurnedWrong)

/-- 'laws.FnFillMirror': WHATEVER THE INPUT: true; the input reads as it did. -/
def fnFillMirrorSpec : ChangeSpec := { name := "fnFillMirror", vars := ["loop.example/sidescross/impl.nearSteps"], fn := fun _ => fun
  | [d, g1] => { results := [.lit (.bool true)], args := [d], vars := [g1] }
  | _ => none }
def fnFillMirrorRow : OpenClaim := { program := "ytfgjbfaapbhppaadoor", sum := "a1362352b05cfe738de7d140df0d4a235464be28aa8319dc7b98067f150a99f8", func := "loop.example/sidescross/laws.FnFillMirror", spec := "fnFillMirror", named := ["loop.example/sidescross/impl.nearSteps", "math/bits.deBruijn32tab", "math/bits.deBruijn64tab"], plainKeys := false, apart := false, laid := [("math/bits.deBruijn32tab", laid_math_bits_deBruijn32tab), ("math/bits.deBruijn64tab", laid_math_bits_deBruijn64tab), ("loop.example/sidescross/impl.nearSteps", laid_loop_example_sidescross_impl_nearSteps)] }
def FnFillMirrorSaid : Prop := fnFillMirrorRow.holds Tryd.pinned (OpenSpec.ofChange fnFillMirrorSpec)

/-- ITS FALSE NEIGHBOUR: 'it returns false'. Refute it at one input. -/
def fnFillMirrorWrong : ChangeSpec := { name := "fnFillMirror", vars := ["loop.example/sidescross/impl.nearSteps"], fn := fun _ => fun
  | [d, g1] => { results := [.lit (.bool false)], args := [d], vars := [g1] }
  | _ => none }
def FnFillMirrorWrongFalsely : Prop := fnFillMirrorRow.holds Tryd.pinned (OpenSpec.ofChange fnFillMirrorWrong)

/-- 'laws.FnExactMattersAt': WHATEVER THE INPUT: true; the input reads as it did. -/
def fnExactMattersAtSpec : ChangeSpec := { name := "fnExactMattersAt", vars := ["loop.example/sidescross/impl.nearSteps"], fn := fun _ => fun
  | [d1, d2, d3, d4, g1] => { results := [.lit (.bool true)], args := [d1, d2, d3, d4], vars := [g1] }
  | _ => none }
def fnExactMattersAtRow : OpenClaim := { program := "ytfgjbfaapbhppaadoor", sum := "a1362352b05cfe738de7d140df0d4a235464be28aa8319dc7b98067f150a99f8", func := "loop.example/sidescross/laws.FnExactMattersAt", spec := "fnExactMattersAt", named := ["loop.example/sidescross/impl.nearSteps", "math/bits.deBruijn32tab", "math/bits.deBruijn64tab"], plainKeys := false, apart := false, laid := [("math/bits.deBruijn32tab", laid_math_bits_deBruijn32tab), ("math/bits.deBruijn64tab", laid_math_bits_deBruijn64tab), ("loop.example/sidescross/impl.nearSteps", laid_loop_example_sidescross_impl_nearSteps)] }
def FnExactMattersAtSaid : Prop := fnExactMattersAtRow.holds Tryd.pinned (OpenSpec.ofChange fnExactMattersAtSpec)

/-- ITS FALSE NEIGHBOUR: 'it returns false'. Refute it at one input. -/
def fnExactMattersAtWrong : ChangeSpec := { name := "fnExactMattersAt", vars := ["loop.example/sidescross/impl.nearSteps"], fn := fun _ => fun
  | [d1, d2, d3, d4, g1] => { results := [.lit (.bool false)], args := [d1, d2, d3, d4], vars := [g1] }
  | _ => none }
def FnExactMattersAtWrongFalsely : Prop := fnExactMattersAtRow.holds Tryd.pinned (OpenSpec.ofChange fnExactMattersAtWrong)

/-- 'laws.FnExactDeadCells': WHATEVER THE INPUT: true; the input reads as it did. -/
def fnExactDeadCellsSpec : ChangeSpec := { name := "fnExactDeadCells", vars := ["loop.example/sidescross/impl.nearSteps"], fn := fun _ => fun
  | [d1, d2, d3, g1] => { results := [.lit (.bool true)], args := [d1, d2, d3], vars := [g1] }
  | _ => none }
def fnExactDeadCellsRow : OpenClaim := { program := "ytfgjbfaapbhppaadoor", sum := "a1362352b05cfe738de7d140df0d4a235464be28aa8319dc7b98067f150a99f8", func := "loop.example/sidescross/laws.FnExactDeadCells", spec := "fnExactDeadCells", named := ["loop.example/sidescross/impl.nearSteps", "math/bits.deBruijn32tab", "math/bits.deBruijn64tab"], plainKeys := false, apart := false, laid := [("math/bits.deBruijn32tab", laid_math_bits_deBruijn32tab), ("math/bits.deBruijn64tab", laid_math_bits_deBruijn64tab), ("loop.example/sidescross/impl.nearSteps", laid_loop_example_sidescross_impl_nearSteps)] }
def FnExactDeadCellsSaid : Prop := fnExactDeadCellsRow.holds Tryd.pinned (OpenSpec.ofChange fnExactDeadCellsSpec)

/-- ITS FALSE NEIGHBOUR: 'it returns false'. Refute it at one input. -/
def fnExactDeadCellsWrong : ChangeSpec := { name := "fnExactDeadCells", vars := ["loop.example/sidescross/impl.nearSteps"], fn := fun _ => fun
  | [d1, d2, d3, g1] => { results := [.lit (.bool false)], args := [d1, d2, d3], vars := [g1] }
  | _ => none }
def FnExactDeadCellsWrongFalsely : Prop := fnExactDeadCellsRow.holds Tryd.pinned (OpenSpec.ofChange fnExactDeadCellsWrong)

/-- 'laws.FnExactFillCount': WHATEVER THE INPUT: true; the input reads as it did. -/
def fnExactFillCountSpec : ChangeSpec := { name := "fnExactFillCount", vars := ["loop.example/sidescross/impl.nearSteps"], fn := fun _ => fun
  | [d1, d2, d3, d4, g1] => { results := [.lit (.bool true)], args := [d1, d2, d3, d4], vars := [g1] }
  | _ => none }
def fnExactFillCountRow : OpenClaim := { program := "ytfgjbfaapbhppaadoor", sum := "a1362352b05cfe738de7d140df0d4a235464be28aa8319dc7b98067f150a99f8", func := "loop.example/sidescross/laws.FnExactFillCount", spec := "fnExactFillCount", named := ["loop.example/sidescross/impl.nearSteps", "math/bits.deBruijn32tab", "math/bits.deBruijn64tab"], plainKeys := false, apart := false, laid := [("math/bits.deBruijn32tab", laid_math_bits_deBruijn32tab), ("math/bits.deBruijn64tab", laid_math_bits_deBruijn64tab), ("loop.example/sidescross/impl.nearSteps", laid_loop_example_sidescross_impl_nearSteps)] }
def FnExactFillCountSaid : Prop := fnExactFillCountRow.holds Tryd.pinned (OpenSpec.ofChange fnExactFillCountSpec)

/-- ITS FALSE NEIGHBOUR: 'it returns false'. Refute it at one input. -/
def fnExactFillCountWrong : ChangeSpec := { name := "fnExactFillCount", vars := ["loop.example/sidescross/impl.nearSteps"], fn := fun _ => fun
  | [d1, d2, d3, d4, g1] => { results := [.lit (.bool false)], args := [d1, d2, d3, d4], vars := [g1] }
  | _ => none }
def FnExactFillCountWrongFalsely : Prop := fnExactFillCountRow.holds Tryd.pinned (OpenSpec.ofChange fnExactFillCountWrong)

/-- 'laws.FnExactPivotCount': WHATEVER THE INPUT: true; the input reads as it did. -/
def fnExactPivotCountSpec : ChangeSpec := { name := "fnExactPivotCount", vars := ["loop.example/sidescross/impl.nearSteps"], fn := fun _ => fun
  | [d1, d2, d3, d4, g1] => { results := [.lit (.bool true)], args := [d1, d2, d3, d4], vars := [g1] }
  | _ => none }
def fnExactPivotCountRow : OpenClaim := { program := "ytfgjbfaapbhppaadoor", sum := "a1362352b05cfe738de7d140df0d4a235464be28aa8319dc7b98067f150a99f8", func := "loop.example/sidescross/laws.FnExactPivotCount", spec := "fnExactPivotCount", named := ["loop.example/sidescross/impl.nearSteps", "math/bits.deBruijn32tab", "math/bits.deBruijn64tab"], plainKeys := false, apart := false, laid := [("math/bits.deBruijn32tab", laid_math_bits_deBruijn32tab), ("math/bits.deBruijn64tab", laid_math_bits_deBruijn64tab), ("loop.example/sidescross/impl.nearSteps", laid_loop_example_sidescross_impl_nearSteps)] }
def FnExactPivotCountSaid : Prop := fnExactPivotCountRow.holds Tryd.pinned (OpenSpec.ofChange fnExactPivotCountSpec)

/-- ITS FALSE NEIGHBOUR: 'it returns false'. Refute it at one input. -/
def fnExactPivotCountWrong : ChangeSpec := { name := "fnExactPivotCount", vars := ["loop.example/sidescross/impl.nearSteps"], fn := fun _ => fun
  | [d1, d2, d3, d4, g1] => { results := [.lit (.bool false)], args := [d1, d2, d3, d4], vars := [g1] }
  | _ => none }
def FnExactPivotCountWrongFalsely : Prop := fnExactPivotCountRow.holds Tryd.pinned (OpenSpec.ofChange fnExactPivotCountWrong)

/- THE SECOND FORM. 'bulk': how many values and letters a reading holds, each counted each time it is reached (what is shared counts as often as it is met; a slice's spare places count too). A statement '..UptoSaid' is the law's where the arguments, and the package variables that the reading takes, are together of bulk at most 1048576: NARROWER than '..Said'. Prove '..Said' where nothing that the law and all that it calls make is longer than what came in: it says more and counts as full. Else prove '..UptoSaid'. A law counts once. -/
mutual
def uptoBulk {H : Type} : DataW H → Nat
  | .lit (.string bytes) => bytes.length + 1
  | .lit _ => 1
  | .nil => 1
  | .ptr d => uptoBulk d + 1
  | .slice elems spare => uptoBulkAll elems + uptoBulkAll spare + 1
  | .agg parts => uptoBulkAll parts + 1
  | .iface _ d => uptoBulk d + 1
  | .map entries => uptoBulkEntries entries + 1
  | .held _ => 1
def uptoBulkAll {H : Type} : List (DataW H) → Nat
  | [] => 0
  | d :: r => uptoBulk d + uptoBulkAll r
def uptoBulkEntries {H : Type} : List (Lit × DataW H) → Nat
  | [] => 0
  | x :: r => uptoBulkEntry x + uptoBulkEntries r
def uptoBulkEntry {H : Type} : Lit × DataW H → Nat
  | (.string bytes, d) => bytes.length + uptoBulk d + 1
  | (_, d) => uptoBulk d + 1
 end
def uptoSmall : (H : Type) → List (DataW H) → Bool := fun _ ds => decide (uptoBulkAll ds ≤ 1048576)
def OpenSpec.upto (s : _root_.Go.ChangeSpec) : _root_.Go.OpenSpec := { _root_.Go.OpenSpec.ofChange s with cond := some uptoSmall }

/-- 'laws.FnMattersAt', WHERE WHAT IT READS IS OF BULK AT MOST 1048576: true; the input reads as it did. -/
def fnMattersAtUptoRow : OpenClaim := { program := "ytfgjbfaapbhppaadoor", sum := "a1362352b05cfe738de7d140df0d4a235464be28aa8319dc7b98067f150a99f8", func := "loop.example/sidescross/laws.FnMattersAt", spec := "fnMattersAt", named := ["loop.example/sidescross/impl.nearSteps", "math/bits.deBruijn32tab", "math/bits.deBruijn64tab"], plainKeys := false, apart := false, laid := [("math/bits.deBruijn32tab", laid_math_bits_deBruijn32tab), ("math/bits.deBruijn64tab", laid_math_bits_deBruijn64tab), ("loop.example/sidescross/impl.nearSteps", laid_loop_example_sidescross_impl_nearSteps)], narrowed := true }
def FnMattersAtUptoSaid : Prop := fnMattersAtUptoRow.holds Tryd.pinned (OpenSpec.upto fnMattersAtSpec)

/-- 'laws.FnDeadCells', WHERE WHAT IT READS IS OF BULK AT MOST 1048576: true; the input reads as it did. -/
def fnDeadCellsUptoRow : OpenClaim := { program := "ytfgjbfaapbhppaadoor", sum := "a1362352b05cfe738de7d140df0d4a235464be28aa8319dc7b98067f150a99f8", func := "loop.example/sidescross/laws.FnDeadCells", spec := "fnDeadCells", recurses := true, named := ["loop.example/sidescross/impl.nearSteps", "math/bits.deBruijn32tab", "math/bits.deBruijn64tab"], plainKeys := false, apart := false, laid := [("math/bits.deBruijn32tab", laid_math_bits_deBruijn32tab), ("math/bits.deBruijn64tab", laid_math_bits_deBruijn64tab), ("loop.example/sidescross/impl.nearSteps", laid_loop_example_sidescross_impl_nearSteps)], narrowed := true }
def FnDeadCellsUptoSaid : Prop := fnDeadCellsUptoRow.holds Tryd.pinned (OpenSpec.upto fnDeadCellsSpec)

/-- 'laws.FnFillCount', WHERE WHAT IT READS IS OF BULK AT MOST 1048576: true; the input reads as it did. -/
def fnFillCountUptoRow : OpenClaim := { program := "ytfgjbfaapbhppaadoor", sum := "a1362352b05cfe738de7d140df0d4a235464be28aa8319dc7b98067f150a99f8", func := "loop.example/sidescross/laws.FnFillCount", spec := "fnFillCount", named := ["loop.example/sidescross/impl.nearSteps", "math/bits.deBruijn32tab", "math/bits.deBruijn64tab"], plainKeys := false, apart := false, laid := [("math/bits.deBruijn32tab", laid_math_bits_deBruijn32tab), ("math/bits.deBruijn64tab", laid_math_bits_deBruijn64tab), ("loop.example/sidescross/impl.nearSteps", laid_loop_example_sidescross_impl_nearSteps)], narrowed := true }
def FnFillCountUptoSaid : Prop := fnFillCountUptoRow.holds Tryd.pinned (OpenSpec.upto fnFillCountSpec)

/-- 'laws.FnPivotCount', WHERE WHAT IT READS IS OF BULK AT MOST 1048576: true; the input reads as it did. -/
def fnPivotCountUptoRow : OpenClaim := { program := "ytfgjbfaapbhppaadoor", sum := "a1362352b05cfe738de7d140df0d4a235464be28aa8319dc7b98067f150a99f8", func := "loop.example/sidescross/laws.FnPivotCount", spec := "fnPivotCount", named := ["loop.example/sidescross/impl.nearSteps", "math/bits.deBruijn32tab", "math/bits.deBruijn64tab"], plainKeys := false, apart := false, laid := [("math/bits.deBruijn32tab", laid_math_bits_deBruijn32tab), ("math/bits.deBruijn64tab", laid_math_bits_deBruijn64tab), ("loop.example/sidescross/impl.nearSteps", laid_loop_example_sidescross_impl_nearSteps)], narrowed := true }
def FnPivotCountUptoSaid : Prop := fnPivotCountUptoRow.holds Tryd.pinned (OpenSpec.upto fnPivotCountSpec)

/-- 'laws.FnPivotTurned', WHERE WHAT IT READS IS OF BULK AT MOST 1048576: true; the input reads as it did. -/
def fnPivotTurnedUptoRow : OpenClaim := { program := "ytfgjbfaapbhppaadoor", sum := "a1362352b05cfe738de7d140df0d4a235464be28aa8319dc7b98067f150a99f8", func := "loop.example/sidescross/laws.FnPivotTurned", spec := "fnPivotTurned", named := ["loop.example/sidescross/impl.nearSteps", "math/bits.deBruijn32tab", "math/bits.deBruijn64tab"], plainKeys := false, apart := false, laid := [("math/bits.deBruijn32tab", laid_math_bits_deBruijn32tab), ("math/bits.deBruijn64tab", laid_math_bits_deBruijn64tab), ("loop.example/sidescross/impl.nearSteps", laid_loop_example_sidescross_impl_nearSteps)], narrowed := true }
def FnPivotTurnedUptoSaid : Prop := fnPivotTurnedUptoRow.holds Tryd.pinned (OpenSpec.upto fnPivotTurnedSpec)

/-- 'laws.FnFillMirror', WHERE WHAT IT READS IS OF BULK AT MOST 1048576: true; the input reads as it did. -/
def fnFillMirrorUptoRow : OpenClaim := { program := "ytfgjbfaapbhppaadoor", sum := "a1362352b05cfe738de7d140df0d4a235464be28aa8319dc7b98067f150a99f8", func := "loop.example/sidescross/laws.FnFillMirror", spec := "fnFillMirror", named := ["loop.example/sidescross/impl.nearSteps", "math/bits.deBruijn32tab", "math/bits.deBruijn64tab"], plainKeys := false, apart := false, laid := [("math/bits.deBruijn32tab", laid_math_bits_deBruijn32tab), ("math/bits.deBruijn64tab", laid_math_bits_deBruijn64tab), ("loop.example/sidescross/impl.nearSteps", laid_loop_example_sidescross_impl_nearSteps)], narrowed := true }
def FnFillMirrorUptoSaid : Prop := fnFillMirrorUptoRow.holds Tryd.pinned (OpenSpec.upto fnFillMirrorSpec)

/-- 'laws.FnExactMattersAt', WHERE WHAT IT READS IS OF BULK AT MOST 1048576: true; the input reads as it did. -/
def fnExactMattersAtUptoRow : OpenClaim := { program := "ytfgjbfaapbhppaadoor", sum := "a1362352b05cfe738de7d140df0d4a235464be28aa8319dc7b98067f150a99f8", func := "loop.example/sidescross/laws.FnExactMattersAt", spec := "fnExactMattersAt", named := ["loop.example/sidescross/impl.nearSteps", "math/bits.deBruijn32tab", "math/bits.deBruijn64tab"], plainKeys := false, apart := false, laid := [("math/bits.deBruijn32tab", laid_math_bits_deBruijn32tab), ("math/bits.deBruijn64tab", laid_math_bits_deBruijn64tab), ("loop.example/sidescross/impl.nearSteps", laid_loop_example_sidescross_impl_nearSteps)], narrowed := true }
def FnExactMattersAtUptoSaid : Prop := fnExactMattersAtUptoRow.holds Tryd.pinned (OpenSpec.upto fnExactMattersAtSpec)

/-- 'laws.FnExactDeadCells', WHERE WHAT IT READS IS OF BULK AT MOST 1048576: true; the input reads as it did. -/
def fnExactDeadCellsUptoRow : OpenClaim := { program := "ytfgjbfaapbhppaadoor", sum := "a1362352b05cfe738de7d140df0d4a235464be28aa8319dc7b98067f150a99f8", func := "loop.example/sidescross/laws.FnExactDeadCells", spec := "fnExactDeadCells", named := ["loop.example/sidescross/impl.nearSteps", "math/bits.deBruijn32tab", "math/bits.deBruijn64tab"], plainKeys := false, apart := false, laid := [("math/bits.deBruijn32tab", laid_math_bits_deBruijn32tab), ("math/bits.deBruijn64tab", laid_math_bits_deBruijn64tab), ("loop.example/sidescross/impl.nearSteps", laid_loop_example_sidescross_impl_nearSteps)], narrowed := true }
def FnExactDeadCellsUptoSaid : Prop := fnExactDeadCellsUptoRow.holds Tryd.pinned (OpenSpec.upto fnExactDeadCellsSpec)

/-- 'laws.FnExactFillCount', WHERE WHAT IT READS IS OF BULK AT MOST 1048576: true; the input reads as it did. -/
def fnExactFillCountUptoRow : OpenClaim := { program := "ytfgjbfaapbhppaadoor", sum := "a1362352b05cfe738de7d140df0d4a235464be28aa8319dc7b98067f150a99f8", func := "loop.example/sidescross/laws.FnExactFillCount", spec := "fnExactFillCount", named := ["loop.example/sidescross/impl.nearSteps", "math/bits.deBruijn32tab", "math/bits.deBruijn64tab"], plainKeys := false, apart := false, laid := [("math/bits.deBruijn32tab", laid_math_bits_deBruijn32tab), ("math/bits.deBruijn64tab", laid_math_bits_deBruijn64tab), ("loop.example/sidescross/impl.nearSteps", laid_loop_example_sidescross_impl_nearSteps)], narrowed := true }
def FnExactFillCountUptoSaid : Prop := fnExactFillCountUptoRow.holds Tryd.pinned (OpenSpec.upto fnExactFillCountSpec)

/-- 'laws.FnExactPivotCount', WHERE WHAT IT READS IS OF BULK AT MOST 1048576: true; the input reads as it did. -/
def fnExactPivotCountUptoRow : OpenClaim := { program := "ytfgjbfaapbhppaadoor", sum := "a1362352b05cfe738de7d140df0d4a235464be28aa8319dc7b98067f150a99f8", func := "loop.example/sidescross/laws.FnExactPivotCount", spec := "fnExactPivotCount", named := ["loop.example/sidescross/impl.nearSteps", "math/bits.deBruijn32tab", "math/bits.deBruijn64tab"], plainKeys := false, apart := false, laid := [("math/bits.deBruijn32tab", laid_math_bits_deBruijn32tab), ("math/bits.deBruijn64tab", laid_math_bits_deBruijn64tab), ("loop.example/sidescross/impl.nearSteps", laid_loop_example_sidescross_impl_nearSteps)], narrowed := true }
def FnExactPivotCountUptoSaid : Prop := fnExactPivotCountUptoRow.holds Tryd.pinned (OpenSpec.upto fnExactPivotCountSpec)

end Rows
end Go.Proofs.YtfgjbfaapbhppaaDoor
