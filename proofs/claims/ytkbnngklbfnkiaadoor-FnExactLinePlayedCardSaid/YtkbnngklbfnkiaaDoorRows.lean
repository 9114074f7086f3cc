/-
  NARROWER THAN 'FOR EVERY INPUT', by the rows' own cells (each row's printed sentence says how): FnMoveOk: laid · FnPlayed: laid · FnWinnerOf: laid · FnWinningCells: laid · FnLinePlayed: laid · FnAnswers: laid · FnWinsGrow: laid · FnExactMoveOk: laid · FnExactPlayed: laid · FnExactWinnerOf: laid · FnExactWinningCells: laid · FnExactLinePlayed: laid.
  DERIVED. THE GIVEN ROWS OF THIS SEAT. 12 by the template 'for every input the law returns true; each argument reads behind the call as it read before'; 0 by the template 'total and deterministic' (their statements: YtkbnngklbfnkiaaDoorTotals.lean).
  GIVEN WITH THE SEED: the statements are not yours to turn. If you find one false, say at which input.
  Laid BY PROGRAM, IN A SANDBOX (cutbox-rows.mjs): the forced cells as the released guide's own fill.sh prints them over the translation e6d6e47c969eeae4… (all of the seat's roots in one cut). By AI agents, Wed Nov 11 2026. No macro, syntax, notation, axiom, sorry.
-/
import Derived.Test.YtkbnngklbfnkiaaDoorChecked
import GoSem.Claim
import GoSem.ClaimJoined
import GoSem.ClaimMapViews
import Derived.JoinedTies
import Derived.KernelRfl
namespace Go.Proofs.YtkbnngklbfnkiaaDoor
/- THE CELL 'sum', in the pinned program and in every row, IS THE sha256 OF THE DUMP (.gsa) THAT YtkbnngklbfnkiaaDoorProg.lean LOADS. Nothing in Lean hashes anything: it is a label: what it is worth is what the hold of that sum in a sandbox is worth. -/
noncomputable def Tryd.pinned : Pinned := { name := "ytkbnngklbfnkiaadoor", sum := "e6d6e47c969eeae4751310ccb4a03be63e0a45e8ad610fe75f70baca68df7729", checked := Tryd.checked }
namespace Rows
def none {H : Type} : Left H := { results := [], args := [] }

/- WHAT THE LISTED PACKAGE-LEVEL VARIABLES READ AS WHEN THE CALL BEGINS. Each datum BY PROGRAM (the guide's laid-datum.mjs) off the statement by which the dump's own 'gosem.cut.vars' lays the variable. In a bare row this is a premise. The card (YtkbnngklbfnkiaaDoorCards.lean) ties it to the program's text. -/
def laid_loop_example_sidescross_impl_nearSteps {H : Type} : DataW H := .agg [.agg [.lit (.int .i64 (-1)), .lit (.int .i64 0)], .agg [.lit (.int .i64 (-1)), .lit (.int .i64 1)], .agg [.lit (.int .i64 0), .lit (.int .i64 (-1))], .agg [.lit (.int .i64 0), .lit (.int .i64 1)], .agg [.lit (.int .i64 1), .lit (.int .i64 (-1))], .agg [.lit (.int .i64 1), .lit (.int .i64 0)]]
def laid_math_bits_deBruijn32tab {H : Type} : DataW H := .agg [.lit (.int .u8 0), .lit (.int .u8 1), .lit (.int .u8 28), .lit (.int .u8 2), .lit (.int .u8 29), .lit (.int .u8 14), .lit (.int .u8 24), .lit (.int .u8 3), .lit (.int .u8 30), .lit (.int .u8 22), .lit (.int .u8 20), .lit (.int .u8 15), .lit (.int .u8 25), .lit (.int .u8 17), .lit (.int .u8 4), .lit (.int .u8 8), .lit (.int .u8 31), .lit (.int .u8 27), .lit (.int .u8 13), .lit (.int .u8 23), .lit (.int .u8 21), .lit (.int .u8 19), .lit (.int .u8 16), .lit (.int .u8 7), .lit (.int .u8 26), .lit (.int .u8 12), .lit (.int .u8 18), .lit (.int .u8 6), .lit (.int .u8 11), .lit (.int .u8 5), .lit (.int .u8 10), .lit (.int .u8 9)]
def laid_math_bits_deBruijn64tab {H : Type} : DataW H := .agg [.lit (.int .u8 0), .lit (.int .u8 1), .lit (.int .u8 56), .lit (.int .u8 2), .lit (.int .u8 57), .lit (.int .u8 49), .lit (.int .u8 28), .lit (.int .u8 3), .lit (.int .u8 61), .lit (.int .u8 58), .lit (.int .u8 42), .lit (.int .u8 50), .lit (.int .u8 38), .lit (.int .u8 29), .lit (.int .u8 17), .lit (.int .u8 4), .lit (.int .u8 62), .lit (.int .u8 47), .lit (.int .u8 59), .lit (.int .u8 36), .lit (.int .u8 45), .lit (.int .u8 43), .lit (.int .u8 51), .lit (.int .u8 22), .lit (.int .u8 53), .lit (.int .u8 39), .lit (.int .u8 33), .lit (.int .u8 30), .lit (.int .u8 24), .lit (.int .u8 18), .lit (.int .u8 12), .lit (.int .u8 5), .lit (.int .u8 63), .lit (.int .u8 55), .lit (.int .u8 48), .lit (.int .u8 27), .lit (.int .u8 60), .lit (.int .u8 41), .lit (.int .u8 37), .lit (.int .u8 16), .lit (.int .u8 46), .lit (.int .u8 35), .lit (.int .u8 44), .lit (.int .u8 21), .lit (.int .u8 52), .lit (.int .u8 32), .lit (.int .u8 23), .lit (.int .u8 11), .lit (.int .u8 54), .lit (.int .u8 26), .lit (.int .u8 40), .lit (.int .u8 15), .lit (.int .u8 34), .lit (.int .u8 20), .lit (.int .u8 31), .lit (.int .u8 10), .lit (.int .u8 25), .lit (.int .u8 14), .lit (.int .u8 19), .lit (.int .u8 9), .lit (.int .u8 13), .lit (.int .u8 8), .lit (.int .u8 7), .lit (.int .u8 6)]

/-- 'laws.FnMoveOk': WHATEVER THE INPUT: true; the input reads as it did. -/
def fnMoveOkSpec : ChangeSpec := { name := "fnMoveOk", vars := ["loop.example/sidescross/impl.nearSteps"], fn := fun _ => fun
  | [d, g1] => { results := [.lit (.bool true)], args := [d], vars := [g1] }
  | _ => none }
def fnMoveOkRow : OpenClaim := { program := "ytkbnngklbfnkiaadoor", sum := "e6d6e47c969eeae4751310ccb4a03be63e0a45e8ad610fe75f70baca68df7729", func := "loop.example/sidescross/laws.FnMoveOk", spec := "fnMoveOk", named := ["loop.example/sidescross/impl.nearSteps"], plainKeys := false, apart := false, laid := [("loop.example/sidescross/impl.nearSteps", laid_loop_example_sidescross_impl_nearSteps)] }
def FnMoveOkSaid : Prop := fnMoveOkRow.holds Tryd.pinned (OpenSpec.ofChange fnMoveOkSpec)

/-- ITS FALSE NEIGHBOUR: 'it returns false'. Refute it at one input. -/
def fnMoveOkWrong : ChangeSpec := { name := "fnMoveOk", vars := ["loop.example/sidescross/impl.nearSteps"], fn := fun _ => fun
  | [d, g1] => { results := [.lit (.bool false)], args := [d], vars := [g1] }
  | _ => none }
def FnMoveOkWrongFalsely : Prop := fnMoveOkRow.holds Tryd.pinned (OpenSpec.ofChange fnMoveOkWrong)

/-- 'laws.FnPlayed': WHATEVER THE INPUT: true; the input reads as it did. -/
def fnPlayedSpec : ChangeSpec := { name := "fnPlayed", vars := ["loop.example/sidescross/impl.nearSteps"], fn := fun _ => fun
  | [d, g1] => { results := [.lit (.bool true)], args := [d], vars := [g1] }
  | _ => none }
def fnPlayedRow : OpenClaim := { program := "ytkbnngklbfnkiaadoor", sum := "e6d6e47c969eeae4751310ccb4a03be63e0a45e8ad610fe75f70baca68df7729", func := "loop.example/sidescross/laws.FnPlayed", spec := "fnPlayed", named := ["loop.example/sidescross/impl.nearSteps"], plainKeys := false, apart := false, laid := [("loop.example/sidescross/impl.nearSteps", laid_loop_example_sidescross_impl_nearSteps)] }
def FnPlayedSaid : Prop := fnPlayedRow.holds Tryd.pinned (OpenSpec.ofChange fnPlayedSpec)

/-- ITS FALSE NEIGHBOUR: 'it returns false'. Refute it at one input. -/
def fnPlayedWrong : ChangeSpec := { name := "fnPlayed", vars := ["loop.example/sidescross/impl.nearSteps"], fn := fun _ => fun
  | [d, g1] => { results := [.lit (.bool false)], args := [d], vars := [g1] }
  | _ => none }
def FnPlayedWrongFalsely : Prop := fnPlayedRow.holds Tryd.pinned (OpenSpec.ofChange fnPlayedWrong)

/-- 'laws.FnWinnerOf': WHATEVER THE INPUT: true; the input reads as it did. -/
def fnWinnerOfSpec : ChangeSpec := { name := "fnWinnerOf", vars := ["loop.example/sidescross/impl.nearSteps"], fn := fun _ => fun
  | [d, g1] => { results := [.lit (.bool true)], args := [d], vars := [g1] }
  | _ => none }
def fnWinnerOfRow : OpenClaim := { program := "ytkbnngklbfnkiaadoor", sum := "e6d6e47c969eeae4751310ccb4a03be63e0a45e8ad610fe75f70baca68df7729", func := "loop.example/sidescross/laws.FnWinnerOf", spec := "fnWinnerOf", recurses := true, named := ["loop.example/sidescross/impl.nearSteps", "math/bits.deBruijn32tab", "math/bits.deBruijn64tab"], plainKeys := false, apart := false, laid := [("math/bits.deBruijn32tab", laid_math_bits_deBruijn32tab), ("math/bits.deBruijn64tab", laid_math_bits_deBruijn64tab), ("loop.example/sidescross/impl.nearSteps", laid_loop_example_sidescross_impl_nearSteps)] }
def FnWinnerOfSaid : Prop := fnWinnerOfRow.holds Tryd.pinned (OpenSpec.ofChange fnWinnerOfSpec)

/-- ITS FALSE NEIGHBOUR: 'it returns false'. Refute it at one input. -/
def fnWinnerOfWrong : ChangeSpec := { name := "fnWinnerOf", vars := ["loop.example/sidescross/impl.nearSteps"], fn := fun _ => fun
  | [d, g1] => { results := [.lit (.bool false)], args := [d], vars := [g1] }
  | _ => none }
def FnWinnerOfWrongFalsely : Prop := fnWinnerOfRow.holds Tryd.pinned (OpenSpec.ofChange fnWinnerOfWrong)

/-- 'laws.FnWinningCells': WHATEVER THE INPUT: true; the input reads as it did. -/
def fnWinningCellsSpec : ChangeSpec := { name := "fnWinningCells", vars := ["loop.example/sidescross/impl.nearSteps"], fn := fun _ => fun
  | [d, g1] => { results := [.lit (.bool true)], args := [d], vars := [g1] }
  | _ => none }
def fnWinningCellsRow : OpenClaim := { program := "ytkbnngklbfnkiaadoor", sum := "e6d6e47c969eeae4751310ccb4a03be63e0a45e8ad610fe75f70baca68df7729", func := "loop.example/sidescross/laws.FnWinningCells", spec := "fnWinningCells", recurses := true, named := ["loop.example/sidescross/impl.nearSteps", "math/bits.deBruijn32tab", "math/bits.deBruijn64tab"], plainKeys := false, apart := false, laid := [("math/bits.deBruijn32tab", laid_math_bits_deBruijn32tab), ("math/bits.deBruijn64tab", laid_math_bits_deBruijn64tab), ("loop.example/sidescross/impl.nearSteps", laid_loop_example_sidescross_impl_nearSteps)] }
def FnWinningCellsSaid : Prop := fnWinningCellsRow.holds Tryd.pinned (OpenSpec.ofChange fnWinningCellsSpec)

/-- ITS FALSE NEIGHBOUR: 'it returns false'. Refute it at one input. -/
def fnWinningCellsWrong : ChangeSpec := { name := "fnWinningCells", vars := ["loop.example/sidescross/impl.nearSteps"], fn := fun _ => fun
  | [d, g1] => { results := [.lit (.bool false)], args := [d], vars := [g1] }
  | _ => none }
def FnWinningCellsWrongFalsely : Prop := fnWinningCellsRow.holds Tryd.pinned (OpenSpec.ofChange fnWinningCellsWrong)

/-- 'laws.FnLinePlayed': WHATEVER THE INPUT: true; the input reads as it did. -/
def fnLinePlayedSpec : ChangeSpec := { name := "fnLinePlayed", vars := ["loop.example/sidescross/impl.nearSteps"], fn := fun _ => fun
  | [d, g1] => { results := [.lit (.bool true)], args := [d], vars := [g1] }
  | _ => none }
def fnLinePlayedRow : OpenClaim := { program := "ytkbnngklbfnkiaadoor", sum := "e6d6e47c969eeae4751310ccb4a03be63e0a45e8ad610fe75f70baca68df7729", func := "loop.example/sidescross/laws.FnLinePlayed", spec := "fnLinePlayed", recurses := true, named := ["loop.example/sidescross/impl.nearSteps", "math/bits.deBruijn32tab", "math/bits.deBruijn64tab"], plainKeys := false, apart := false, laid := [("math/bits.deBruijn32tab", laid_math_bits_deBruijn32tab), ("math/bits.deBruijn64tab", laid_math_bits_deBruijn64tab), ("loop.example/sidescross/impl.nearSteps", laid_loop_example_sidescross_impl_nearSteps)] }
def FnLinePlayedSaid : Prop := fnLinePlayedRow.holds Tryd.pinned (OpenSpec.ofChange fnLinePlayedSpec)

/-- ITS FALSE NEIGHBOUR: 'it returns false'. Refute it at one input. -/
def fnLinePlayedWrong : ChangeSpec := { name := "fnLinePlayed", vars := ["loop.example/sidescross/impl.nearSteps"], fn := fun _ => fun
  | [d, g1] => { results := [.lit (.bool false)], args := [d], vars := [g1] }
  | _ => none }
def FnLinePlayedWrongFalsely : Prop := fnLinePlayedRow.holds Tryd.pinned (OpenSpec.ofChange fnLinePlayedWrong)

/-- 'laws.FnAnswers': WHATEVER THE INPUT: true; the input reads as it did. -/
def fnAnswersSpec : ChangeSpec := { name := "fnAnswers", vars := ["loop.example/sidescross/impl.nearSteps"], fn := fun _ => fun
  | [d, g1] => { results := [.lit (.bool true)], args := [d], vars := [g1] }
  | _ => none }
def fnAnswersRow : OpenClaim := { program := "ytkbnngklbfnkiaadoor", sum := "e6d6e47c969eeae4751310ccb4a03be63e0a45e8ad610fe75f70baca68df7729", func := "loop.example/sidescross/laws.FnAnswers", spec := "fnAnswers", recurses := true, named := ["loop.example/sidescross/impl.nearSteps", "math/bits.deBruijn32tab", "math/bits.deBruijn64tab"], plainKeys := false, apart := false, laid := [("math/bits.deBruijn32tab", laid_math_bits_deBruijn32tab), ("math/bits.deBruijn64tab", laid_math_bits_deBruijn64tab), ("loop.example/sidescross/impl.nearSteps", laid_loop_example_sidescross_impl_nearSteps)] }
def FnAnswersSaid : Prop := fnAnswersRow.holds Tryd.pinned (OpenSpec.ofChange fnAnswersSpec)

/-- ITS FALSE NEIGHBOUR: 'it returns false'. Refute it at one input. -/
def fnAnswersWrong : ChangeSpec := { name := "fnAnswers", vars := ["loop.example/sidescross/impl.nearSteps"], fn := fun _ => fun
  | [d, g1] => { results := [.lit (.bool false)], args := [d], vars := [g1] }
  | _ => none }
def FnAnswersWrongFalsely : Prop := fnAnswersRow.holds Tryd.pinned (OpenSpec.ofChange fnAnswersWrong)

/-- 'laws.FnWinsGrow': WHATEVER THE INPUT: true; the input reads as it did. -/
def fnWinsGrowSpec : ChangeSpec := { name := "fnWinsGrow", vars := ["loop.example/sidescross/impl.nearSteps"], fn := fun _ => fun
  | [d, g1] => { results := [.lit (.bool true)], args := [d], vars := [g1] }
  | _ => none }
def fnWinsGrowRow : OpenClaim := { program := "ytkbnngklbfnkiaadoor", sum := "e6d6e47c969eeae4751310ccb4a03be63e0a45e8ad610fe75f70baca68df7729", func := "loop.example/sidescross/laws.FnWinsGrow", spec := "fnWinsGrow", recurses := true, named := ["loop.example/sidescross/impl.nearSteps", "math/bits.deBruijn32tab", "math/bits.deBruijn64tab"], plainKeys := false, apart := false, laid := [("math/bits.deBruijn32tab", laid_math_bits_deBruijn32tab), ("math/bits.deBruijn64tab", laid_math_bits_deBruijn64tab), ("loop.example/sidescross/impl.nearSteps", laid_loop_example_sidescross_impl_nearSteps)] }
def FnWinsGrowSaid : Prop := fnWinsGrowRow.holds Tryd.pinned (OpenSpec.ofChange fnWinsGrowSpec)

/-- ITS FALSE NEIGHBOUR: 'it returns false'. Refute it at one input. -/
def fnWinsGrowWrong : ChangeSpec := { name := "fnWinsGrow", vars := ["loop.example/sidescross/impl.nearSteps"], fn := fun _ => fun
  | [d, g1] => { results := [.lit (.bool false)], args := [d], vars := [g1] }
  | _ => none }
def FnWinsGrowWrongFalsely : Prop := fnWinsGrowRow.holds Tryd.pinned (OpenSpec.ofChange fnWinsGrowWrong)

/-- 'laws.FnExactMoveOk': WHATEVER THE INPUT: true; the input reads as it did. -/
def fnExactMoveOkSpec : ChangeSpec := { name := "fnExactMoveOk", vars := ["loop.example/sidescross/impl.nearSteps"], fn := fun _ => fun
  | [d1, d2, d3, d4, d5, g1] => { results := [.lit (.bool true)], args := [d1, d2, d3, d4, d5], vars := [g1] }
  | _ => none }
def fnExactMoveOkRow : OpenClaim := { program := "ytkbnngklbfnkiaadoor", sum := "e6d6e47c969eeae4751310ccb4a03be63e0a45e8ad610fe75f70baca68df7729", func := "loop.example/sidescross/laws.FnExactMoveOk", spec := "fnExactMoveOk", named := ["loop.example/sidescross/impl.nearSteps"], plainKeys := false, apart := false, laid := [("loop.example/sidescross/impl.nearSteps", laid_loop_example_sidescross_impl_nearSteps)] }
def FnExactMoveOkSaid : Prop := fnExactMoveOkRow.holds Tryd.pinned (OpenSpec.ofChange fnExactMoveOkSpec)

/-- ITS FALSE NEIGHBOUR: 'it returns false'. Refute it at one input. -/
def fnExactMoveOkWrong : ChangeSpec := { name := "fnExactMoveOk", vars := ["loop.example/sidescross/impl.nearSteps"], fn := fun _ => fun
  | [d1, d2, d3, d4, d5, g1] => { results := [.lit (.bool false)], args := [d1, d2, d3, d4, d5], vars := [g1] }
  | _ => none }
def FnExactMoveOkWrongFalsely : Prop := fnExactMoveOkRow.holds Tryd.pinned (OpenSpec.ofChange fnExactMoveOkWrong)

/-- 'laws.FnExactPlayed': WHATEVER THE INPUT: true; the input reads as it did. -/
def fnExactPlayedSpec : ChangeSpec := { name := "fnExactPlayed", vars := ["loop.example/sidescross/impl.nearSteps"], fn := fun _ => fun
  | [d1, d2, d3, d4, d5, g1] => { results := [.lit (.bool true)], args := [d1, d2, d3, d4, d5], vars := [g1] }
  | _ => none }
def fnExactPlayedRow : OpenClaim := { program := "ytkbnngklbfnkiaadoor", sum := "e6d6e47c969eeae4751310ccb4a03be63e0a45e8ad610fe75f70baca68df7729", func := "loop.example/sidescross/laws.FnExactPlayed", spec := "fnExactPlayed", named := ["loop.example/sidescross/impl.nearSteps"], plainKeys := false, apart := false, laid := [("loop.example/sidescross/impl.nearSteps", laid_loop_example_sidescross_impl_nearSteps)] }
def FnExactPlayedSaid : Prop := fnExactPlayedRow.holds Tryd.pinned (OpenSpec.ofChange fnExactPlayedSpec)

/-- ITS FALSE NEIGHBOUR: 'it returns false'. Refute it at one input. -/
def fnExactPlayedWrong : ChangeSpec := { name := "fnExactPlayed", vars := ["loop.example/sidescross/impl.nearSteps"], fn := fun _ => fun
  | [d1, d2, d3, d4, d5, g1] => { results := [.lit (.bool false)], args := [d1, d2, d3, d4, d5], vars := [g1] }
  | _ => none }
def FnExactPlayedWrongFalsely : Prop := fnExactPlayedRow.holds Tryd.pinned (OpenSpec.ofChange fnExactPlayedWrong)

/-- 'laws.FnExactWinnerOf': WHATEVER THE INPUT: true; the input reads as it did. -/
def fnExactWinnerOfSpec : ChangeSpec := { name := "fnExactWinnerOf", vars := ["loop.example/sidescross/impl.nearSteps"], fn := fun _ => fun
  | [d1, d2, d3, d4, g1] => { results := [.lit (.bool true)], args := [d1, d2, d3, d4], vars := [g1] }
  | _ => none }
def fnExactWinnerOfRow : OpenClaim := { program := "ytkbnngklbfnkiaadoor", sum := "e6d6e47c969eeae4751310ccb4a03be63e0a45e8ad610fe75f70baca68df7729", func := "loop.example/sidescross/laws.FnExactWinnerOf", spec := "fnExactWinnerOf", recurses := true, named := ["loop.example/sidescross/impl.nearSteps", "math/bits.deBruijn32tab", "math/bits.deBruijn64tab"], plainKeys := false, apart := false, laid := [("math/bits.deBruijn32tab", laid_math_bits_deBruijn32tab), ("math/bits.deBruijn64tab", laid_math_bits_deBruijn64tab), ("loop.example/sidescross/impl.nearSteps", laid_loop_example_sidescross_impl_nearSteps)] }
def FnExactWinnerOfSaid : Prop := fnExactWinnerOfRow.holds Tryd.pinned (OpenSpec.ofChange fnExactWinnerOfSpec)

/-- ITS FALSE NEIGHBOUR: 'it returns false'. Refute it at one input. -/
def fnExactWinnerOfWrong : ChangeSpec := { name := "fnExactWinnerOf", vars := ["loop.example/sidescross/impl.nearSteps"], fn := fun _ => fun
  | [d1, d2, d3, d4, g1] => { results := [.lit (.bool false)], args := [d1, d2, d3, d4], vars := [g1] }
  | _ => none }
def FnExactWinnerOfWrongFalsely : Prop := fnExactWinnerOfRow.holds Tryd.pinned (OpenSpec.ofChange fnExactWinnerOfWrong)

/-- 'laws.FnExactWinningCells': WHATEVER THE INPUT: true; the input reads as it did. -/
def fnExactWinningCellsSpec : ChangeSpec := { name := "fnExactWinningCells", vars := ["loop.example/sidescross/impl.nearSteps"], fn := fun _ => fun
  | [d1, d2, d3, d4, g1] => { results := [.lit (.bool true)], args := [d1, d2, d3, d4], vars := [g1] }
  | _ => none }
def fnExactWinningCellsRow : OpenClaim := { program := "ytkbnngklbfnkiaadoor", sum := "e6d6e47c969eeae4751310ccb4a03be63e0a45e8ad610fe75f70baca68df7729", func := "loop.example/sidescross/laws.FnExactWinningCells", spec := "fnExactWinningCells", recurses := true, named := ["loop.example/sidescross/impl.nearSteps", "math/bits.deBruijn32tab", "math/bits.deBruijn64tab"], plainKeys := false, apart := false, laid := [("math/bits.deBruijn32tab", laid_math_bits_deBruijn32tab), ("math/bits.deBruijn64tab", laid_math_bits_deBruijn64tab), ("loop.example/sidescross/impl.nearSteps", laid_loop_example_sidescross_impl_nearSteps)] }
def FnExactWinningCellsSaid : Prop := fnExactWinningCellsRow.holds Tryd.pinned (OpenSpec.ofChange fnExactWinningCellsSpec)

/-- ITS FALSE NEIGHBOUR: 'it returns false'. Refute it at one input. -/
def fnExactWinningCellsWrong : ChangeSpec := { name := "fnExactWinningCells", vars := ["loop.example/sidescross/impl.nearSteps"], fn := fun _ => fun
  | [d1, d2, d3, d4, g1] => { results := [.lit (.bool false)], args := [d1, d2, d3, d4], vars := [g1] }
  | _ => none }
def FnExactWinningCellsWrongFalsely : Prop := fnExactWinningCellsRow.holds Tryd.pinned (OpenSpec.ofChange fnExactWinningCellsWrong)

/-- 'laws.FnExactLinePlayed': WHATEVER THE INPUT: true; the input reads as it did. -/
def fnExactLinePlayedSpec : ChangeSpec := { name := "fnExactLinePlayed", vars := ["loop.example/sidescross/impl.nearSteps"], fn := fun _ => fun
  | [d1, d2, d3, d4, g1] => { results := [.lit (.bool true)], args := [d1, d2, d3, d4], vars := [g1] }
  | _ => none }
def fnExactLinePlayedRow : OpenClaim := { program := "ytkbnngklbfnkiaadoor", sum := "e6d6e47c969eeae4751310ccb4a03be63e0a45e8ad610fe75f70baca68df7729", func := "loop.example/sidescross/laws.FnExactLinePlayed", spec := "fnExactLinePlayed", recurses := true, named := ["loop.example/sidescross/impl.nearSteps", "math/bits.deBruijn32tab", "math/bits.deBruijn64tab"], plainKeys := false, apart := false, laid := [("math/bits.deBruijn32tab", laid_math_bits_deBruijn32tab), ("math/bits.deBruijn64tab", laid_math_bits_deBruijn64tab), ("loop.example/sidescross/impl.nearSteps", laid_loop_example_sidescross_impl_nearSteps)] }
def FnExactLinePlayedSaid : Prop := fnExactLinePlayedRow.holds Tryd.pinned (OpenSpec.ofChange fnExactLinePlayedSpec)

/-- ITS FALSE NEIGHBOUR: 'it returns false'. Refute it at one input. -/
def fnExactLinePlayedWrong : ChangeSpec := { name := "fnExactLinePlayed", vars := ["loop.example/sidescross/impl.nearSteps"], fn := fun _ => fun
  | [d1, d2, d3, d4, g1] => { results := [.lit (.bool false)], args := [d1, d2, d3, d4], vars := [g1] }
  | _ => none }
def FnExactLinePlayedWrongFalsely : Prop := fnExactLinePlayedRow.holds Tryd.pinned (OpenSpec.ofChange fnExactLinePlayedWrong)

/- THE SECOND FORM. 'bulk': how many values and letters a reading holds, each counted each time it is reached (what is shared counts as often as it is met; a slice's spare places count too). A statement '..UptoSaid' is the law's where the arguments, and the package variables that the reading takes, are together of bulk at most 1048576: NARROWER than '..Said'. Prove '..Said' where nothing that the law and all that it calls make is longer than what came in: it says more and counts as full. Else prove '..UptoSaid'. A law counts once. -/
mutual
def uptoBulk {H : Type} : DataW H → Nat
  | .lit (.string bytes) => bytes.length + 1
  | .lit _ => 1
  | .nil => 1
  | .ptr d => uptoBulk d + 1
  | .slice elems spare => uptoBulkAll elems + uptoBulkAll spare + 1
  | .agg parts => uptoBulkAll parts + 1
  | .iface _ d => uptoBulk d + 1
  | .map entries => uptoBulkEntries entries + 1
  | .held _ => 1
def uptoBulkAll {H : Type} : List (DataW H) → Nat
  | [] => 0
  | d :: r => uptoBulk d + uptoBulkAll r
def uptoBulkEntries {H : Type} : List (Lit × DataW H) → Nat
  | [] => 0
  | x :: r => uptoBulkEntry x + uptoBulkEntries r
def uptoBulkEntry {H : Type} : Lit × DataW H → Nat
  | (.string bytes, d) => bytes.length + uptoBulk d + 1
  | (_, d) => uptoBulk d + 1
 end
def uptoSmall : (H : Type) → List (DataW H) → Bool := fun _ ds => decide (uptoBulkAll ds ≤ 1048576)
def OpenSpec.upto (s : _root_.Go.ChangeSpec) : _root_.Go.OpenSpec := { _root_.Go.OpenSpec.ofChange s with cond := some uptoSmall }

/-- 'laws.FnMoveOk', WHERE WHAT IT READS IS OF BULK AT MOST 1048576: true; the input reads as it did. -/
def fnMoveOkUptoRow : OpenClaim := { program := "ytkbnngklbfnkiaadoor", sum := "e6d6e47c969eeae4751310ccb4a03be63e0a45e8ad610fe75f70baca68df7729", func := "loop.example/sidescross/laws.FnMoveOk", spec := "fnMoveOk", named := ["loop.example/sidescross/impl.nearSteps"], plainKeys := false, apart := false, laid := [("loop.example/sidescross/impl.nearSteps", laid_loop_example_sidescross_impl_nearSteps)], narrowed := true }
def FnMoveOkUptoSaid : Prop := fnMoveOkUptoRow.holds Tryd.pinned (OpenSpec.upto fnMoveOkSpec)

/-- 'laws.FnPlayed', WHERE WHAT IT READS IS OF BULK AT MOST 1048576: true; the input reads as it did. -/
def fnPlayedUptoRow : OpenClaim := { program := "ytkbnngklbfnkiaadoor", sum := "e6d6e47c969eeae4751310ccb4a03be63e0a45e8ad610fe75f70baca68df7729", func := "loop.example/sidescross/laws.FnPlayed", spec := "fnPlayed", named := ["loop.example/sidescross/impl.nearSteps"], plainKeys := false, apart := false, laid := [("loop.example/sidescross/impl.nearSteps", laid_loop_example_sidescross_impl_nearSteps)], narrowed := true }
def FnPlayedUptoSaid : Prop := fnPlayedUptoRow.holds Tryd.pinned (OpenSpec.upto fnPlayedSpec)

/-- 'laws.FnWinnerOf', WHERE WHAT IT READS IS OF BULK AT MOST 1048576: true; the input reads as it did. -/
def fnWinnerOfUptoRow : OpenClaim := { program := "ytkbnngklbfnkiaadoor", sum := "e6d6e47c969eeae4751310ccb4a03be63e0a45e8ad610fe75f70baca68df7729", func := "loop.example/sidescross/laws.FnWinnerOf", spec := "fnWinnerOf", recurses := true, named := ["loop.example/sidescross/impl.nearSteps", "math/bits.deBruijn32tab", "math/bits.deBruijn64tab"], plainKeys := false, apart := false, laid := [("math/bits.deBruijn32tab", laid_math_bits_deBruijn32tab), ("math/bits.deBruijn64tab", laid_math_bits_deBruijn64tab), ("loop.example/sidescross/impl.nearSteps", laid_loop_example_sidescross_impl_nearSteps)], narrowed := true }
def FnWinnerOfUptoSaid : Prop := fnWinnerOfUptoRow.holds Tryd.pinned (OpenSpec.upto fnWinnerOfSpec)

/-- 'laws.FnWinningCells', WHERE WHAT IT READS IS OF BULK AT MOST 1048576: true; the input reads as it did. -/
def fnWinningCellsUptoRow : OpenClaim := { program := "ytkbnngklbfnkiaadoor", sum := "e6d6e47c969eeae4751310ccb4a03be63e0a45e8ad610fe75f70baca68df7729", func := "loop.example/sidescross/laws.FnWinningCells", spec := "fnWinningCells", recurses := true, named := ["loop.example/sidescross/impl.nearSteps", "math/bits.deBruijn32tab", "math/bits.deBruijn64tab"], plainKeys := false, apart := false, laid := [("math/bits.deBruijn32tab", laid_math_bits_deBruijn32tab), ("math/bits.deBruijn64tab", laid_math_bits_deBruijn64tab), ("loop.example/sidescross/impl.nearSteps", laid_loop_example_sidescross_impl_nearSteps)], narrowed := true }
def FnWinningCellsUptoSaid : Prop := fnWinningCellsUptoRow.holds Tryd.pinned (OpenSpec.upto fnWinningCellsSpec)

/-- 'laws.FnLinePlayed', WHERE WHAT IT READS IS OF BULK AT MOST 1048576: true; the input reads as it did. -/
def fnLinePlayedUptoRow : OpenClaim := { program := "ytkbnngklbfnkiaadoor", sum := "e6d6e47c969eeae4751310ccb4a03be63e0a45e8ad610fe75f70baca68df7729", func := "loop.example/sidescross/laws.FnLinePlayed", spec := "fnLinePlayed", recurses := true, named := ["loop.example/sidescross/impl.nearSteps", "math/bits.deBruijn32tab", "math/bits.deBruijn64tab"], plainKeys := false, apart := false, laid := [("math/bits.deBruijn32tab", laid_math_bits_deBruijn32tab), ("math/bits.deBruijn64tab", laid_math_bits_deBruijn64tab), ("loop.example/sidescross/impl.nearSteps", laid_loop_example_sidescross_impl_nearSteps)], narrowed := true }
def FnLinePlayedUptoSaid : Prop := fnLinePlayedUptoRow.holds Tryd.pinned (OpenSpec.upto fnLinePlayedSpec)

/-- 'laws.FnAnswers', WHERE WHAT IT READS IS OF BULK AT MOST 1048576: true; the input reads as it did. -/
def fnAnswersUptoRow : OpenClaim := { program := "ytkbnngklbfnkiaadoor", sum := "e6d6e47c969eeae4751310ccb4a03be63e0a45e8ad610fe75f70baca68df7729", func := "loop.example/sidescross/laws.FnAnswers", spec := "fnAnswers", recurses := true, named := ["loop.example/sidescross/impl.nearSteps", "math/bits.deBruijn32tab", "math/bits.deBruijn64tab"], plainKeys := false, apart := false, laid := [("math/bits.deBruijn32tab", laid_math_bits_deBruijn32tab), ("math/bits.deBruijn64tab", laid_math_bits_deBruijn64tab), ("loop.example/sidescross/impl.nearSteps", laid_loop_example_sidescross_impl_nearSteps)], narrowed := true }
def FnAnswersUptoSaid : Prop := fnAnswersUptoRow.holds Tryd.pinned (OpenSpec.upto fnAnswersSpec)

/-- 'laws.FnWinsGrow', WHERE WHAT IT READS IS OF BULK AT MOST 1048576: true; the input reads as it did. -/
def fnWinsGrowUptoRow : OpenClaim := { program := "ytkbnngklbfnkiaadoor", sum := "e6d6e47c969eeae4751310ccb4a03be63e0a45e8ad610fe75f70baca68df7729", func := "loop.example/sidescross/laws.FnWinsGrow", spec := "fnWinsGrow", recurses := true, named := ["loop.example/sidescross/impl.nearSteps", "math/bits.deBruijn32tab", "math/bits.deBruijn64tab"], plainKeys := false, apart := false, laid := [("math/bits.deBruijn32tab", laid_math_bits_deBruijn32tab), ("math/bits.deBruijn64tab", laid_math_bits_deBruijn64tab), ("loop.example/sidescross/impl.nearSteps", laid_loop_example_sidescross_impl_nearSteps)], narrowed := true }
def FnWinsGrowUptoSaid : Prop := fnWinsGrowUptoRow.holds Tryd.pinned (OpenSpec.upto fnWinsGrowSpec)

/-- 'laws.FnExactMoveOk', WHERE WHAT IT READS IS OF BULK AT MOST 1048576: true; the input reads as it did. -/
def fnExactMoveOkUptoRow : OpenClaim := { program := "ytkbnngklbfnkiaadoor", sum := "e6d6e47c969eeae4751310ccb4a03be63e0a45e8ad610fe75f70baca68df7729", func := "loop.example/sidescross/laws.FnExactMoveOk", spec := "fnExactMoveOk", named := ["loop.example/sidescross/impl.nearSteps"], plainKeys := false, apart := false, laid := [("loop.example/sidescross/impl.nearSteps", laid_loop_example_sidescross_impl_nearSteps)], narrowed := true }
def FnExactMoveOkUptoSaid : Prop := fnExactMoveOkUptoRow.holds Tryd.pinned (OpenSpec.upto fnExactMoveOkSpec)

/-- 'laws.FnExactPlayed', WHERE WHAT IT READS IS OF BULK AT MOST 1048576: true; the input reads as it did. -/
def fnExactPlayedUptoRow : OpenClaim := { program := "ytkbnngklbfnkiaadoor", sum := "e6d6e47c969eeae4751310ccb4a03be63e0a45e8ad610fe75f70baca68df7729", func := "loop.example/sidescross/laws.FnExactPlayed", spec := "fnExactPlayed", named := ["loop.example/sidescross/impl.nearSteps"], plainKeys := false, apart := false, laid := [("loop.example/sidescross/impl.nearSteps", laid_loop_example_sidescross_impl_nearSteps)], narrowed := true }
def FnExactPlayedUptoSaid : Prop := fnExactPlayedUptoRow.holds Tryd.pinned (OpenSpec.upto fnExactPlayedSpec)

/-- 'laws.FnExactWinnerOf', WHERE WHAT IT READS IS OF BULK AT MOST 1048576: true; the input reads as it did. -/
def fnExactWinnerOfUptoRow : OpenClaim := { program := "ytkbnngklbfnkiaadoor", sum := "e6d6e47c969eeae4751310ccb4a03be63e0a45e8ad610fe75f70baca68df7729", func := "loop.example/sidescross/laws.FnExactWinnerOf", spec := "fnExactWinnerOf", recurses := true, named := ["loop.example/sidescross/impl.nearSteps", "math/bits.deBruijn32tab", "math/bits.deBruijn64tab"], plainKeys := false, apart := false, laid := [("math/bits.deBruijn32tab", laid_math_bits_deBruijn32tab), ("math/bits.deBruijn64tab", laid_math_bits_deBruijn64tab), ("loop.example/sidescross/impl.nearSteps", laid_loop_example_sidescross_impl_nearSteps)], narrowed := true }
def FnExactWinnerOfUptoSaid : Prop := fnExactWinnerOfUptoRow.holds Tryd.pinned (OpenSpec.upto fnExactWinnerOfSpec)

/-- 'laws.FnExactWinningCells', WHERE WHAT IT READS IS OF BULK AT MOST 1048576: true; the input reads as it did. -/
def fnExactWinningCellsUptoRow : OpenClaim := { program := "ytkbnngklbfnkiaadoor", sum := "e6d6e47c969eeae4751310ccb4a03be63e0a45e8ad610fe75f70baca68df7729", func := "loop.example/sidescross/laws.FnExactWinningCells", spec := "fnExactWinningCells", recurses := true, named := ["loop.example/sidescross/impl.nearSteps", "math/bits.deBruijn32tab", "math/bits.deBruijn64tab"], plainKeys := false, apart := false, laid := [("math/bits.deBruijn32tab", laid_math_bits_deBruijn32tab), ("math/bits.deBruijn64tab", laid_math_bits_deBruijn64tab), ("loop.example/sidescross/impl.nearSteps", laid_loop_example_sidescross_impl_nearSteps)], narrowed := true }
def FnExactWinningCellsUptoSaid : Prop := fnExactWinningCellsUptoRow.holds Tryd.pinned (OpenSpec.upto fnExactWinningCellsSpec)

/-- 'laws.FnExactLinePlayed', WHERE WHAT IT READS IS OF BULK AT MOST 1048576: true; the input reads as it did. -/
def fnExactLinePlayedUptoRow : OpenClaim := { program := "ytkbnngklbfnkiaadoor", sum := "e6d6e47c969eeae4751310ccb4a03be63e0a45e8ad610fe75f70baca68df7729", func := "loop.example/sidescross/laws.FnExactLinePlayed", spec := "fnExactLinePlayed", recurses := true, named := ["loop.example/sidescross/impl.nearSteps", "math/bits.deBruijn32tab", "math/bits.deBruijn64tab"], plainKeys := false, apart := false, laid := [("math/bits.deBruijn32tab", laid_math_bits_deBruijn32tab), ("math/bits.deBruijn64tab", laid_math_bits_deBruijn64tab), ("loop.example/sidescross/impl.nearSteps", laid_loop_example_sidescross_impl_nearSteps)], narrowed := true }
def FnExactLinePlayedUptoSaid : Prop := fnExactLinePlayedUptoRow.holds Tryd.pinned (OpenSpec.upto fnExactLinePlayedSpec)

end Rows
end Go.Proofs.YtkbnngklbfnkiaaDoor
