/-
  NARROWER THAN 'FOR EVERY INPUT', by the rows' own cells (each row's printed sentence says how): FnTriangleNear: laid · FnJoinsAll: laid · FnShrunk: laid · FnLastCell: laid · FnTriangleWins: laid · FnTriangleHalf: laid · FnJoinsMore: laid · FnExactTriangleNear: laid · FnExactJoinsAll: laid.
  DERIVED. THE GIVEN ROWS OF THIS SEAT. 9 by the template 'for every input the law returns true; each argument reads behind the call as it read before'; 0 by the template 'total and deterministic' (their statements: YtlefknibddkjpaaDoorTotals.lean).
  GIVEN WITH THE SEED: the statements are not yours to turn. If you find one false, say at which input.
  Laid BY PROGRAM, IN A SANDBOX (cutbox-rows.mjs): the forced cells as the released guide's own fill.sh prints them over the translation 01b9f50aa43bdeee… (all of the seat's roots in one cut). By AI agents, Wed Nov 11 2026. No macro, syntax, notation, axiom, sorry.
-/
import Derived.Test.YtlefknibddkjpaaDoorChecked
import GoSem.Claim
import GoSem.ClaimJoined
import GoSem.ClaimMapViews
import Derived.JoinedTies
import Derived.KernelRfl
namespace Go.Proofs.YtlefknibddkjpaaDoor
/- THE CELL 'sum', in the pinned program and in every row, IS THE sha256 OF THE DUMP (.gsa) THAT YtlefknibddkjpaaDoorProg.lean LOADS. Nothing in Lean hashes anything: it is a label: what it is worth is what the hold of that sum in a sandbox is worth. -/
noncomputable def Tryd.pinned : Pinned := { name := "ytlefknibddkjpaadoor", sum := "01b9f50aa43bdeee43288fccf1660728b51e496c1f5d5ee3f00b6e514fee52a7", checked := Tryd.checked }
namespace Rows
def none {H : Type} : Left H := { results := [], args := [] }

/- WHAT THE LISTED PACKAGE-LEVEL VARIABLES READ AS WHEN THE CALL BEGINS. Each datum BY PROGRAM (the guide's laid-datum.mjs) off the statement by which the dump's own 'gosem.cut.vars' lays the variable. In a bare row this is a premise. The card (YtlefknibddkjpaaDoorCards.lean) ties it to the program's text. -/
def laid_loop_example_sidescross_impl_triangleSteps {H : Type} : DataW H := .agg [.agg [.lit (.int .i64 (-1)), .lit (.int .i64 (-1))], .agg [.lit (.int .i64 (-1)), .lit (.int .i64 0)], .agg [.lit (.int .i64 0), .lit (.int .i64 (-1))], .agg [.lit (.int .i64 0), .lit (.int .i64 1)], .agg [.lit (.int .i64 1), .lit (.int .i64 0)], .agg [.lit (.int .i64 1), .lit (.int .i64 1)]]
def laid_math_bits_deBruijn32tab {H : Type} : DataW H := .agg [.lit (.int .u8 0), .lit (.int .u8 1), .lit (.int .u8 28), .lit (.int .u8 2), .lit (.int .u8 29), .lit (.int .u8 14), .lit (.int .u8 24), .lit (.int .u8 3), .lit (.int .u8 30), .lit (.int .u8 22), .lit (.int .u8 20), .lit (.int .u8 15), .lit (.int .u8 25), .lit (.int .u8 17), .lit (.int .u8 4), .lit (.int .u8 8), .lit (.int .u8 31), .lit (.int .u8 27), .lit (.int .u8 13), .lit (.int .u8 23), .lit (.int .u8 21), .lit (.int .u8 19), .lit (.int .u8 16), .lit (.int .u8 7), .lit (.int .u8 26), .lit (.int .u8 12), .lit (.int .u8 18), .lit (.int .u8 6), .lit (.int .u8 11), .lit (.int .u8 5), .lit (.int .u8 10), .lit (.int .u8 9)]
def laid_math_bits_deBruijn64tab {H : Type} : DataW H := .agg [.lit (.int .u8 0), .lit (.int .u8 1), .lit (.int .u8 56), .lit (.int .u8 2), .lit (.int .u8 57), .lit (.int .u8 49), .lit (.int .u8 28), .lit (.int .u8 3), .lit (.int .u8 61), .lit (.int .u8 58), .lit (.int .u8 42), .lit (.int .u8 50), .lit (.int .u8 38), .lit (.int .u8 29), .lit (.int .u8 17), .lit (.int .u8 4), .lit (.int .u8 62), .lit (.int .u8 47), .lit (.int .u8 59), .lit (.int .u8 36), .lit (.int .u8 45), .lit (.int .u8 43), .lit (.int .u8 51), .lit (.int .u8 22), .lit (.int .u8 53), .lit (.int .u8 39), .lit (.int .u8 33), .lit (.int .u8 30), .lit (.int .u8 24), .lit (.int .u8 18), .lit (.int .u8 12), .lit (.int .u8 5), .lit (.int .u8 63), .lit (.int .u8 55), .lit (.int .u8 48), .lit (.int .u8 27), .lit (.int .u8 60), .lit (.int .u8 41), .lit (.int .u8 37), .lit (.int .u8 16), .lit (.int .u8 46), .lit (.int .u8 35), .lit (.int .u8 44), .lit (.int .u8 21), .lit (.int .u8 52), .lit (.int .u8 32), .lit (.int .u8 23), .lit (.int .u8 11), .lit (.int .u8 54), .lit (.int .u8 26), .lit (.int .u8 40), .lit (.int .u8 15), .lit (.int .u8 34), .lit (.int .u8 20), .lit (.int .u8 31), .lit (.int .u8 10), .lit (.int .u8 25), .lit (.int .u8 14), .lit (.int .u8 19), .lit (.int .u8 9), .lit (.int .u8 13), .lit (.int .u8 8), .lit (.int .u8 7), .lit (.int .u8 6)]

/-- 'laws.FnTriangleNear': WHATEVER THE INPUT: true; the input reads as it did. -/
def fnTriangleNearSpec : ChangeSpec := { name := "fnTriangleNear", vars := ["loop.example/sidescross/impl.triangleSteps"], fn := fun _ => fun
  | [d, g1] => { results := [.lit (.bool true)], args := [d], vars := [g1] }
  | _ => none }
def fnTriangleNearRow : OpenClaim := { program := "ytlefknibddkjpaadoor", sum := "01b9f50aa43bdeee43288fccf1660728b51e496c1f5d5ee3f00b6e514fee52a7", func := "loop.example/sidescross/laws.FnTriangleNear", spec := "fnTriangleNear", named := ["loop.example/sidescross/impl.triangleSteps"], apart := false, laid := [("loop.example/sidescross/impl.triangleSteps", laid_loop_example_sidescross_impl_triangleSteps)] }
def FnTriangleNearSaid : Prop := fnTriangleNearRow.holds Tryd.pinned (OpenSpec.ofChange fnTriangleNearSpec)

/-- ITS FALSE NEIGHBOUR: 'it returns false'. Refute it at one input. -/
def fnTriangleNearWrong : ChangeSpec := { name := "fnTriangleNear", vars := ["loop.example/sidescross/impl.triangleSteps"], fn := fun _ => fun
  | [d, g1] => { results := [.lit (.bool false)], args := [d], vars := [g1] }
  | _ => none }
def FnTriangleNearWrongFalsely : Prop := fnTriangleNearRow.holds Tryd.pinned (OpenSpec.ofChange fnTriangleNearWrong)

/-- 'laws.FnJoinsAll': WHATEVER THE INPUT: true; the input reads as it did. -/
def fnJoinsAllSpec : ChangeSpec := { name := "fnJoinsAll", vars := ["loop.example/sidescross/impl.triangleSteps"], fn := fun _ => fun
  | [d, g1] => { results := [.lit (.bool true)], args := [d], vars := [g1] }
  | _ => none }
def fnJoinsAllRow : OpenClaim := { program := "ytlefknibddkjpaadoor", sum := "01b9f50aa43bdeee43288fccf1660728b51e496c1f5d5ee3f00b6e514fee52a7", func := "loop.example/sidescross/laws.FnJoinsAll", spec := "fnJoinsAll", named := ["math/bits.deBruijn32tab", "math/bits.deBruijn64tab", "loop.example/sidescross/impl.triangleSteps"], apart := false, laid := [("math/bits.deBruijn32tab", laid_math_bits_deBruijn32tab), ("math/bits.deBruijn64tab", laid_math_bits_deBruijn64tab), ("loop.example/sidescross/impl.triangleSteps", laid_loop_example_sidescross_impl_triangleSteps)] }
def FnJoinsAllSaid : Prop := fnJoinsAllRow.holds Tryd.pinned (OpenSpec.ofChange fnJoinsAllSpec)

/-- ITS FALSE NEIGHBOUR: 'it returns false'. Refute it at one input. -/
def fnJoinsAllWrong : ChangeSpec := { name := "fnJoinsAll", vars := ["loop.example/sidescross/impl.triangleSteps"], fn := fun _ => fun
  | [d, g1] => { results := [.lit (.bool false)], args := [d], vars := [g1] }
  | _ => none }
def FnJoinsAllWrongFalsely : Prop := fnJoinsAllRow.holds Tryd.pinned (OpenSpec.ofChange fnJoinsAllWrong)

/-- 'laws.FnShrunk': WHATEVER THE INPUT: true; the input reads as it did. -/
def fnShrunkSpec : ChangeSpec := { name := "fnShrunk", vars := ["loop.example/sidescross/impl.triangleSteps"], fn := fun _ => fun
  | [d, g1] => { results := [.lit (.bool true)], args := [d], vars := [g1] }
  | _ => none }
def fnShrunkRow : OpenClaim := { program := "ytlefknibddkjpaadoor", sum := "01b9f50aa43bdeee43288fccf1660728b51e496c1f5d5ee3f00b6e514fee52a7", func := "loop.example/sidescross/laws.FnShrunk", spec := "fnShrunk", named := ["math/bits.deBruijn32tab", "math/bits.deBruijn64tab", "loop.example/sidescross/impl.triangleSteps"], apart := false, laid := [("math/bits.deBruijn32tab", laid_math_bits_deBruijn32tab), ("math/bits.deBruijn64tab", laid_math_bits_deBruijn64tab), ("loop.example/sidescross/impl.triangleSteps", laid_loop_example_sidescross_impl_triangleSteps)] }
def FnShrunkSaid : Prop := fnShrunkRow.holds Tryd.pinned (OpenSpec.ofChange fnShrunkSpec)

/-- ITS FALSE NEIGHBOUR: 'it returns false'. Refute it at one input. -/
def fnShrunkWrong : ChangeSpec := { name := "fnShrunk", vars := ["loop.example/sidescross/impl.triangleSteps"], fn := fun _ => fun
  | [d, g1] => { results := [.lit (.bool false)], args := [d], vars := [g1] }
  | _ => none }
def FnShrunkWrongFalsely : Prop := fnShrunkRow.holds Tryd.pinned (OpenSpec.ofChange fnShrunkWrong)

/-- 'laws.FnLastCell': WHATEVER THE INPUT: true; the input reads as it did. -/
def fnLastCellSpec : ChangeSpec := { name := "fnLastCell", vars := ["loop.example/sidescross/impl.triangleSteps"], fn := fun _ => fun
  | [d, g1] => { results := [.lit (.bool true)], args := [d], vars := [g1] }
  | _ => none }
def fnLastCellRow : OpenClaim := { program := "ytlefknibddkjpaadoor", sum := "01b9f50aa43bdeee43288fccf1660728b51e496c1f5d5ee3f00b6e514fee52a7", func := "loop.example/sidescross/laws.FnLastCell", spec := "fnLastCell", named := ["math/bits.deBruijn32tab", "math/bits.deBruijn64tab", "loop.example/sidescross/impl.triangleSteps"], apart := false, laid := [("math/bits.deBruijn32tab", laid_math_bits_deBruijn32tab), ("math/bits.deBruijn64tab", laid_math_bits_deBruijn64tab), ("loop.example/sidescross/impl.triangleSteps", laid_loop_example_sidescross_impl_triangleSteps)] }
def FnLastCellSaid : Prop := fnLastCellRow.holds Tryd.pinned (OpenSpec.ofChange fnLastCellSpec)

/-- ITS FALSE NEIGHBOUR: 'it returns false'. Refute it at one input. -/
def fnLastCellWrong : ChangeSpec := { name := "fnLastCell", vars := ["loop.example/sidescross/impl.triangleSteps"], fn := fun _ => fun
  | [d, g1] => { results := [.lit (.bool false)], args := [d], vars := [g1] }
  | _ => none }
def FnLastCellWrongFalsely : Prop := fnLastCellRow.holds Tryd.pinned (OpenSpec.ofChange fnLastCellWrong)

/-- 'laws.FnTriangleWins': WHATEVER THE INPUT: true; the input reads as it did. -/
def fnTriangleWinsSpec : ChangeSpec := { name := "fnTriangleWins", vars := ["loop.example/sidescross/impl.triangleSteps"], fn := fun _ => fun
  | [d, g1] => { results := [.lit (.bool true)], args := [d], vars := [g1] }
  | _ => none }
def fnTriangleWinsRow : OpenClaim := { program := "ytlefknibddkjpaadoor", sum := "01b9f50aa43bdeee43288fccf1660728b51e496c1f5d5ee3f00b6e514fee52a7", func := "loop.example/sidescross/laws.FnTriangleWins", spec := "fnTriangleWins", named := ["math/bits.deBruijn32tab", "math/bits.deBruijn64tab", "loop.example/sidescross/impl.triangleSteps"], apart := false, laid := [("math/bits.deBruijn32tab", laid_math_bits_deBruijn32tab), ("math/bits.deBruijn64tab", laid_math_bits_deBruijn64tab), ("loop.example/sidescross/impl.triangleSteps", laid_loop_example_sidescross_impl_triangleSteps)] }
def FnTriangleWinsSaid : Prop := fnTriangleWinsRow.holds Tryd.pinned (OpenSpec.ofChange fnTriangleWinsSpec)

/-- ITS FALSE NEIGHBOUR: 'it returns false'. Refute it at one input. -/
def fnTriangleWinsWrong : ChangeSpec := { name := "fnTriangleWins", vars := ["loop.example/sidescross/impl.triangleSteps"], fn := fun _ => fun
  | [d, g1] => { results := [.lit (.bool false)], args := [d], vars := [g1] }
  | _ => none }
def FnTriangleWinsWrongFalsely : Prop := fnTriangleWinsRow.holds Tryd.pinned (OpenSpec.ofChange fnTriangleWinsWrong)

/-- 'laws.FnTriangleHalf': WHATEVER THE INPUT: true; the input reads as it did. -/
def fnTriangleHalfSpec : ChangeSpec := { name := "fnTriangleHalf", vars := ["loop.example/sidescross/impl.triangleSteps"], fn := fun _ => fun
  | [d, g1] => { results := [.lit (.bool true)], args := [d], vars := [g1] }
  | _ => none }
def fnTriangleHalfRow : OpenClaim := { program := "ytlefknibddkjpaadoor", sum := "01b9f50aa43bdeee43288fccf1660728b51e496c1f5d5ee3f00b6e514fee52a7", func := "loop.example/sidescross/laws.FnTriangleHalf", spec := "fnTriangleHalf", named := ["math/bits.deBruijn32tab", "math/bits.deBruijn64tab", "loop.example/sidescross/impl.triangleSteps"], apart := false, laid := [("math/bits.deBruijn32tab", laid_math_bits_deBruijn32tab), ("math/bits.deBruijn64tab", laid_math_bits_deBruijn64tab), ("loop.example/sidescross/impl.triangleSteps", laid_loop_example_sidescross_impl_triangleSteps)] }
def FnTriangleHalfSaid : Prop := fnTriangleHalfRow.holds Tryd.pinned (OpenSpec.ofChange fnTriangleHalfSpec)

/-- ITS FALSE NEIGHBOUR: 'it returns false'. Refute it at one input. -/
def fnTriangleHalfWrong : ChangeSpec := { name := "fnTriangleHalf", vars := ["loop.example/sidescross/impl.triangleSteps"], fn := fun _ => fun
  | [d, g1] => { results := [.lit (.bool false)], args := [d], vars := [g1] }
  | _ => none }
def FnTriangleHalfWrongFalsely : Prop := fnTriangleHalfRow.holds Tryd.pinned (OpenSpec.ofChange fnTriangleHalfWrong)

/-- 'laws.FnJoinsMore': WHATEVER THE INPUT: true; the input reads as it did. -/
def fnJoinsMoreSpec : ChangeSpec := { name := "fnJoinsMore", vars := ["loop.example/sidescross/impl.triangleSteps"], fn := fun _ => fun
  | [d, g1] => { results := [.lit (.bool true)], args := [d], vars := [g1] }
  | _ => none }
def fnJoinsMoreRow : OpenClaim := { program := "ytlefknibddkjpaadoor", sum := "01b9f50aa43bdeee43288fccf1660728b51e496c1f5d5ee3f00b6e514fee52a7", func := "loop.example/sidescross/laws.FnJoinsMore", spec := "fnJoinsMore", named := ["math/bits.deBruijn32tab", "math/bits.deBruijn64tab", "loop.example/sidescross/impl.triangleSteps"], apart := false, laid := [("math/bits.deBruijn32tab", laid_math_bits_deBruijn32tab), ("math/bits.deBruijn64tab", laid_math_bits_deBruijn64tab), ("loop.example/sidescross/impl.triangleSteps", laid_loop_example_sidescross_impl_triangleSteps)] }
def FnJoinsMoreSaid : Prop := fnJoinsMoreRow.holds Tryd.pinned (OpenSpec.ofChange fnJoinsMoreSpec)

/-- ITS FALSE NEIGHBOUR: 'it returns false'. Refute it at one input. -/
def fnJoinsMoreWrong : ChangeSpec := { name := "fnJoinsMore", vars := ["loop.example/sidescross/impl.triangleSteps"], fn := fun _ => fun
  | [d, g1] => { results := [.lit (.bool false)], args := [d], vars := [g1] }
  | _ => none }
def FnJoinsMoreWrongFalsely : Prop := fnJoinsMoreRow.holds Tryd.pinned (OpenSpec.ofChange fnJoinsMoreWrong)

/-- 'laws.FnExactTriangleNear': WHATEVER THE INPUT: true; the input reads as it did. -/
def fnExactTriangleNearSpec : ChangeSpec := { name := "fnExactTriangleNear", vars := ["loop.example/sidescross/impl.triangleSteps"], fn := fun _ => fun
  | [d1, d2, g1] => { results := [.lit (.bool true)], args := [d1, d2], vars := [g1] }
  | _ => none }
def fnExactTriangleNearRow : OpenClaim := { program := "ytlefknibddkjpaadoor", sum := "01b9f50aa43bdeee43288fccf1660728b51e496c1f5d5ee3f00b6e514fee52a7", func := "loop.example/sidescross/laws.FnExactTriangleNear", spec := "fnExactTriangleNear", named := ["loop.example/sidescross/impl.triangleSteps"], apart := false, laid := [("loop.example/sidescross/impl.triangleSteps", laid_loop_example_sidescross_impl_triangleSteps)] }
def FnExactTriangleNearSaid : Prop := fnExactTriangleNearRow.holds Tryd.pinned (OpenSpec.ofChange fnExactTriangleNearSpec)

/-- ITS FALSE NEIGHBOUR: 'it returns false'. Refute it at one input. -/
def fnExactTriangleNearWrong : ChangeSpec := { name := "fnExactTriangleNear", vars := ["loop.example/sidescross/impl.triangleSteps"], fn := fun _ => fun
  | [d1, d2, g1] => { results := [.lit (.bool false)], args := [d1, d2], vars := [g1] }
  | _ => none }
def FnExactTriangleNearWrongFalsely : Prop := fnExactTriangleNearRow.holds Tryd.pinned (OpenSpec.ofChange fnExactTriangleNearWrong)

/-- 'laws.FnExactJoinsAll': WHATEVER THE INPUT: true; the input reads as it did. -/
def fnExactJoinsAllSpec : ChangeSpec := { name := "fnExactJoinsAll", vars := ["loop.example/sidescross/impl.triangleSteps"], fn := fun _ => fun
  | [d1, d2, d3, g1] => { results := [.lit (.bool true)], args := [d1, d2, d3], vars := [g1] }
  | _ => none }
def fnExactJoinsAllRow : OpenClaim := { program := "ytlefknibddkjpaadoor", sum := "01b9f50aa43bdeee43288fccf1660728b51e496c1f5d5ee3f00b6e514fee52a7", func := "loop.example/sidescross/laws.FnExactJoinsAll", spec := "fnExactJoinsAll", named := ["math/bits.deBruijn32tab", "math/bits.deBruijn64tab", "loop.example/sidescross/impl.triangleSteps"], apart := false, laid := [("math/bits.deBruijn32tab", laid_math_bits_deBruijn32tab), ("math/bits.deBruijn64tab", laid_math_bits_deBruijn64tab), ("loop.example/sidescross/impl.triangleSteps", laid_loop_example_sidescross_impl_triangleSteps)] }
def FnExactJoinsAllSaid : Prop := fnExactJoinsAllRow.holds Tryd.pinned (OpenSpec.ofChange fnExactJoinsAllSpec)

/-- ITS FALSE NEIGHBOUR: 'it returns false'. Refute it at one input. -/
def fnExactJoinsAllWrong : ChangeSpec := { name := "fnExactJoinsAll", vars := ["loop.example/sidescross/impl.triangleSteps"], fn := fun _ => fun
  | [d1, d2, d3, g1] => { results := [.lit (.bool false)], args := [d1, d2, d3], vars := [g1] }
  | _ => none }
def FnExactJoinsAllWrongFalsely : Prop := fnExactJoinsAllRow.holds Tryd.pinned (OpenSpec.ofChange fnExactJoinsAllWrong)

/- THE SECOND FORM. 'bulk': how many values and letters a reading holds, each counted each time it is reached (what is shared counts as often as it is met; a slice's spare places count too). A statement '..UptoSaid' is the law's where the arguments, and the package variables that the reading takes, are together of bulk at most 1048576: NARROWER than '..Said'. Prove '..Said' where nothing that the law and all that it calls make is longer than what came in: it says more and counts as full. Else prove '..UptoSaid'. A law counts once. -/
mutual
def uptoBulk {H : Type} : DataW H → Nat
  | .lit (.string bytes) => bytes.length + 1
  | .lit _ => 1
  | .nil => 1
  | .ptr d => uptoBulk d + 1
  | .slice elems spare => uptoBulkAll elems + uptoBulkAll spare + 1
  | .agg parts => uptoBulkAll parts + 1
  | .iface _ d => uptoBulk d + 1
  | .map entries => uptoBulkEntries entries + 1
  | .held _ => 1
def uptoBulkAll {H : Type} : List (DataW H) → Nat
  | [] => 0
  | d :: r => uptoBulk d + uptoBulkAll r
def uptoBulkEntries {H : Type} : List (Lit × DataW H) → Nat
  | [] => 0
  | x :: r => uptoBulkEntry x + uptoBulkEntries r
def uptoBulkEntry {H : Type} : Lit × DataW H → Nat
  | (.string bytes, d) => bytes.length + uptoBulk d + 1
  | (_, d) => uptoBulk d + 1
 end
def uptoSmall : (H : Type) → List (DataW H) → Bool := fun _ ds => decide (uptoBulkAll ds ≤ 1048576)
def OpenSpec.upto (s : _root_.Go.ChangeSpec) : _root_.Go.OpenSpec := { _root_.Go.OpenSpec.ofChange s with cond := some uptoSmall }

/-- 'laws.FnTriangleNear', WHERE WHAT IT READS IS OF BULK AT MOST 1048576: true; the input reads as it did. -/
def fnTriangleNearUptoRow : OpenClaim := { program := "ytlefknibddkjpaadoor", sum := "01b9f50aa43bdeee43288fccf1660728b51e496c1f5d5ee3f00b6e514fee52a7", func := "loop.example/sidescross/laws.FnTriangleNear", spec := "fnTriangleNear", named := ["loop.example/sidescross/impl.triangleSteps"], apart := false, laid := [("loop.example/sidescross/impl.triangleSteps", laid_loop_example_sidescross_impl_triangleSteps)], narrowed := true }
def FnTriangleNearUptoSaid : Prop := fnTriangleNearUptoRow.holds Tryd.pinned (OpenSpec.upto fnTriangleNearSpec)

/-- 'laws.FnJoinsAll', WHERE WHAT IT READS IS OF BULK AT MOST 1048576: true; the input reads as it did. -/
def fnJoinsAllUptoRow : OpenClaim := { program := "ytlefknibddkjpaadoor", sum := "01b9f50aa43bdeee43288fccf1660728b51e496c1f5d5ee3f00b6e514fee52a7", func := "loop.example/sidescross/laws.FnJoinsAll", spec := "fnJoinsAll", named := ["math/bits.deBruijn32tab", "math/bits.deBruijn64tab", "loop.example/sidescross/impl.triangleSteps"], apart := false, laid := [("math/bits.deBruijn32tab", laid_math_bits_deBruijn32tab), ("math/bits.deBruijn64tab", laid_math_bits_deBruijn64tab), ("loop.example/sidescross/impl.triangleSteps", laid_loop_example_sidescross_impl_triangleSteps)], narrowed := true }
def FnJoinsAllUptoSaid : Prop := fnJoinsAllUptoRow.holds Tryd.pinned (OpenSpec.upto fnJoinsAllSpec)

/-- 'laws.FnShrunk', WHERE WHAT IT READS IS OF BULK AT MOST 1048576: true; the input reads as it did. -/
def fnShrunkUptoRow : OpenClaim := { program := "ytlefknibddkjpaadoor", sum := "01b9f50aa43bdeee43288fccf1660728b51e496c1f5d5ee3f00b6e514fee52a7", func := "loop.example/sidescross/laws.FnShrunk", spec := "fnShrunk", named := ["math/bits.deBruijn32tab", "math/bits.deBruijn64tab", "loop.example/sidescross/impl.triangleSteps"], apart := false, laid := [("math/bits.deBruijn32tab", laid_math_bits_deBruijn32tab), ("math/bits.deBruijn64tab", laid_math_bits_deBruijn64tab), ("loop.example/sidescross/impl.triangleSteps", laid_loop_example_sidescross_impl_triangleSteps)], narrowed := true }
def FnShrunkUptoSaid : Prop := fnShrunkUptoRow.holds Tryd.pinned (OpenSpec.upto fnShrunkSpec)

/-- 'laws.FnLastCell', WHERE WHAT IT READS IS OF BULK AT MOST 1048576: true; the input reads as it did. -/
def fnLastCellUptoRow : OpenClaim := { program := "ytlefknibddkjpaadoor", sum := "01b9f50aa43bdeee43288fccf1660728b51e496c1f5d5ee3f00b6e514fee52a7", func := "loop.example/sidescross/laws.FnLastCell", spec := "fnLastCell", named := ["math/bits.deBruijn32tab", "math/bits.deBruijn64tab", "loop.example/sidescross/impl.triangleSteps"], apart := false, laid := [("math/bits.deBruijn32tab", laid_math_bits_deBruijn32tab), ("math/bits.deBruijn64tab", laid_math_bits_deBruijn64tab), ("loop.example/sidescross/impl.triangleSteps", laid_loop_example_sidescross_impl_triangleSteps)], narrowed := true }
def FnLastCellUptoSaid : Prop := fnLastCellUptoRow.holds Tryd.pinned (OpenSpec.upto fnLastCellSpec)

/-- 'laws.FnTriangleWins', WHERE WHAT IT READS IS OF BULK AT MOST 1048576: true; the input reads as it did. -/
def fnTriangleWinsUptoRow : OpenClaim := { program := "ytlefknibddkjpaadoor", sum := "01b9f50aa43bdeee43288fccf1660728b51e496c1f5d5ee3f00b6e514fee52a7", func := "loop.example/sidescross/laws.FnTriangleWins", spec := "fnTriangleWins", named := ["math/bits.deBruijn32tab", "math/bits.deBruijn64tab", "loop.example/sidescross/impl.triangleSteps"], apart := false, laid := [("math/bits.deBruijn32tab", laid_math_bits_deBruijn32tab), ("math/bits.deBruijn64tab", laid_math_bits_deBruijn64tab), ("loop.example/sidescross/impl.triangleSteps", laid_loop_example_sidescross_impl_triangleSteps)], narrowed := true }
def FnTriangleWinsUptoSaid : Prop := fnTriangleWinsUptoRow.holds Tryd.pinned (OpenSpec.upto fnTriangleWinsSpec)

/-- 'laws.FnTriangleHalf', WHERE WHAT IT READS IS OF BULK AT MOST 1048576: true; the input reads as it did. -/
def fnTriangleHalfUptoRow : OpenClaim := { program := "ytlefknibddkjpaadoor", sum := "01b9f50aa43bdeee43288fccf1660728b51e496c1f5d5ee3f00b6e514fee52a7", func := "loop.example/sidescross/laws.FnTriangleHalf", spec := "fnTriangleHalf", named := ["math/bits.deBruijn32tab", "math/bits.deBruijn64tab", "loop.example/sidescross/impl.triangleSteps"], apart := false, laid := [("math/bits.deBruijn32tab", laid_math_bits_deBruijn32tab), ("math/bits.deBruijn64tab", laid_math_bits_deBruijn64tab), ("loop.example/sidescross/impl.triangleSteps", laid_loop_example_sidescross_impl_triangleSteps)], narrowed := true }
def FnTriangleHalfUptoSaid : Prop := fnTriangleHalfUptoRow.holds Tryd.pinned (OpenSpec.upto fnTriangleHalfSpec)

/-- 'laws.FnJoinsMore', WHERE WHAT IT READS IS OF BULK AT MOST 1048576: true; the input reads as it did. -/
def fnJoinsMoreUptoRow : OpenClaim := { program := "ytlefknibddkjpaadoor", sum := "01b9f50aa43bdeee43288fccf1660728b51e496c1f5d5ee3f00b6e514fee52a7", func := "loop.example/sidescross/laws.FnJoinsMore", spec := "fnJoinsMore", named := ["math/bits.deBruijn32tab", "math/bits.deBruijn64tab", "loop.example/sidescross/impl.triangleSteps"], apart := false, laid := [("math/bits.deBruijn32tab", laid_math_bits_deBruijn32tab), ("math/bits.deBruijn64tab", laid_math_bits_deBruijn64tab), ("loop.example/sidescross/impl.triangleSteps", laid_loop_example_sidescross_impl_triangleSteps)], narrowed := true }
def FnJoinsMoreUptoSaid : Prop := fnJoinsMoreUptoRow.holds Tryd.pinned (OpenSpec.upto fnJoinsMoreSpec)

/-- 'laws.FnExactTriangleNear', WHERE WHAT IT READS IS OF BULK AT MOST 1048576: true; the input reads as it did. -/
def fnExactTriangleNearUptoRow : OpenClaim := { program := "ytlefknibddkjpaadoor", sum := "01b9f50aa43bdeee43288fccf1660728b51e496c1f5d5ee3f00b6e514fee52a7", func := "loop.example/sidescross/laws.FnExactTriangleNear", spec := "fnExactTriangleNear", named := ["loop.example/sidescross/impl.triangleSteps"], apart := false, laid := [("loop.example/sidescross/impl.triangleSteps", laid_loop_example_sidescross_impl_triangleSteps)], narrowed := true }
def FnExactTriangleNearUptoSaid : Prop := fnExactTriangleNearUptoRow.holds Tryd.pinned (OpenSpec.upto fnExactTriangleNearSpec)

/-- 'laws.FnExactJoinsAll', WHERE WHAT IT READS IS OF BULK AT MOST 1048576: true; the input reads as it did. -/
def fnExactJoinsAllUptoRow : OpenClaim := { program := "ytlefknibddkjpaadoor", sum := "01b9f50aa43bdeee43288fccf1660728b51e496c1f5d5ee3f00b6e514fee52a7", func := "loop.example/sidescross/laws.FnExactJoinsAll", spec := "fnExactJoinsAll", named := ["math/bits.deBruijn32tab", "math/bits.deBruijn64tab", "loop.example/sidescross/impl.triangleSteps"], apart := false, laid := [("math/bits.deBruijn32tab", laid_math_bits_deBruijn32tab), ("math/bits.deBruijn64tab", laid_math_bits_deBruijn64tab), ("loop.example/sidescross/impl.triangleSteps", laid_loop_example_sidescross_impl_triangleSteps)], narrowed := true }
def FnExactJoinsAllUptoSaid : Prop := fnExactJoinsAllUptoRow.holds Tryd.pinned (OpenSpec.upto fnExactJoinsAllSpec)

end Rows
end Go.Proofs.YtlefknibddkjpaaDoor
