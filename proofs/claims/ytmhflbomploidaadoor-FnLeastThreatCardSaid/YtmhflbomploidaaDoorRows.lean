/-
  NARROWER THAN 'FOR EVERY INPUT', by the rows' own cells (each row's printed sentence says how): FnCarrierOk: laid · FnThreatOk: laid · FnLeastCarrier: laid · FnLeastThreat: laid · FnTwoThreats: laid · FnBridgesOf: laid · FnMustCells: laid · FnCarrierMore: laid · FnExactCarrierOk: laid · FnExactThreatOk: laid · FnExactLeastCarrier: laid · FnExactLeastThreat: laid · FnExactBridgesOf: laid · FnExactMustCells: laid.
  DERIVED. THE GIVEN ROWS OF THIS SEAT. 14 by the template 'for every input the law returns true; each argument reads behind the call as it read before'; 0 by the template 'total and deterministic' (their statements: YtmhflbomploidaaDoorTotals.lean).
  GIVEN WITH THE SEED: the statements are not yours to turn. If you find one false, say at which input.
  Laid BY PROGRAM, IN A SANDBOX (cutbox-rows.mjs): the forced cells as the released guide's own fill.sh prints them over the translation 98ce941760438bde… (all of the seat's roots in one cut). By AI agents, Wed Nov 11 2026. No macro, syntax, notation, axiom, sorry.
-/
import Derived.Test.YtmhflbomploidaaDoorChecked
import GoSem.Claim
import GoSem.ClaimJoined
import GoSem.ClaimMapViews
import Derived.JoinedTies
import Derived.KernelRfl
namespace Go.Proofs.YtmhflbomploidaaDoor
/- THE CELL 'sum', in the pinned program and in every row, IS THE sha256 OF THE DUMP (.gsa) THAT YtmhflbomploidaaDoorProg.lean LOADS. Nothing in Lean hashes anything: it is a label: what it is worth is what the hold of that sum in a sandbox is worth. -/
noncomputable def Tryd.pinned : Pinned := { name := "ytmhflbomploidaadoor", sum := "98ce941760438bde3cea8c068c791911a244306097566f9780d5e7e8e991d7d5", checked := Tryd.checked }
namespace Rows
def none {H : Type} : Left H := { results := [], args := [] }

/- WHAT THE LISTED PACKAGE-LEVEL VARIABLES READ AS WHEN THE CALL BEGINS. Each datum BY PROGRAM (the guide's laid-datum.mjs) off the statement by which the dump's own 'gosem.cut.vars' lays the variable. In a bare row this is a premise. The card (YtmhflbomploidaaDoorCards.lean) ties it to the program's text. -/
def laid_math_bits_deBruijn32tab {H : Type} : DataW H := .agg [.lit (.int .u8 0), .lit (.int .u8 1), .lit (.int .u8 28), .lit (.int .u8 2), .lit (.int .u8 29), .lit (.int .u8 14), .lit (.int .u8 24), .lit (.int .u8 3), .lit (.int .u8 30), .lit (.int .u8 22), .lit (.int .u8 20), .lit (.int .u8 15), .lit (.int .u8 25), .lit (.int .u8 17), .lit (.int .u8 4), .lit (.int .u8 8), .lit (.int .u8 31), .lit (.int .u8 27), .lit (.int .u8 13), .lit (.int .u8 23), .lit (.int .u8 21), .lit (.int .u8 19), .lit (.int .u8 16), .lit (.int .u8 7), .lit (.int .u8 26), .lit (.int .u8 12), .lit (.int .u8 18), .lit (.int .u8 6), .lit (.int .u8 11), .lit (.int .u8 5), .lit (.int .u8 10), .lit (.int .u8 9)]
def laid_math_bits_deBruijn64tab {H : Type} : DataW H := .agg [.lit (.int .u8 0), .lit (.int .u8 1), .lit (.int .u8 56), .lit (.int .u8 2), .lit (.int .u8 57), .lit (.int .u8 49), .lit (.int .u8 28), .lit (.int .u8 3), .lit (.int .u8 61), .lit (.int .u8 58), .lit (.int .u8 42), .lit (.int .u8 50), .lit (.int .u8 38), .lit (.int .u8 29), .lit (.int .u8 17), .lit (.int .u8 4), .lit (.int .u8 62), .lit (.int .u8 47), .lit (.int .u8 59), .lit (.int .u8 36), .lit (.int .u8 45), .lit (.int .u8 43), .lit (.int .u8 51), .lit (.int .u8 22), .lit (.int .u8 53), .lit (.int .u8 39), .lit (.int .u8 33), .lit (.int .u8 30), .lit (.int .u8 24), .lit (.int .u8 18), .lit (.int .u8 12), .lit (.int .u8 5), .lit (.int .u8 63), .lit (.int .u8 55), .lit (.int .u8 48), .lit (.int .u8 27), .lit (.int .u8 60), .lit (.int .u8 41), .lit (.int .u8 37), .lit (.int .u8 16), .lit (.int .u8 46), .lit (.int .u8 35), .lit (.int .u8 44), .lit (.int .u8 21), .lit (.int .u8 52), .lit (.int .u8 32), .lit (.int .u8 23), .lit (.int .u8 11), .lit (.int .u8 54), .lit (.int .u8 26), .lit (.int .u8 40), .lit (.int .u8 15), .lit (.int .u8 34), .lit (.int .u8 20), .lit (.int .u8 31), .lit (.int .u8 10), .lit (.int .u8 25), .lit (.int .u8 14), .lit (.int .u8 19), .lit (.int .u8 9), .lit (.int .u8 13), .lit (.int .u8 8), .lit (.int .u8 7), .lit (.int .u8 6)]
def laid_loop_example_sidescross_impl_nearSteps {H : Type} : DataW H := .agg [.agg [.lit (.int .i64 (-1)), .lit (.int .i64 0)], .agg [.lit (.int .i64 (-1)), .lit (.int .i64 1)], .agg [.lit (.int .i64 0), .lit (.int .i64 (-1))], .agg [.lit (.int .i64 0), .lit (.int .i64 1)], .agg [.lit (.int .i64 1), .lit (.int .i64 (-1))], .agg [.lit (.int .i64 1), .lit (.int .i64 0)]]

/-- 'laws.FnCarrierOk': WHATEVER THE INPUT: true; the input reads as it did. -/
def fnCarrierOkSpec : ChangeSpec := { name := "fnCarrierOk", vars := ["loop.example/sidescross/impl.nearSteps"], fn := fun _ => fun
  | [d, g1] => { results := [.lit (.bool true)], args := [d], vars := [g1] }
  | _ => none }
def fnCarrierOkRow : OpenClaim := { program := "ytmhflbomploidaadoor", sum := "98ce941760438bde3cea8c068c791911a244306097566f9780d5e7e8e991d7d5", func := "loop.example/sidescross/laws.FnCarrierOk", spec := "fnCarrierOk", recurses := true, named := ["loop.example/sidescross/impl.nearSteps", "math/bits.deBruijn32tab", "math/bits.deBruijn64tab"], plainKeys := false, apart := false, laid := [("math/bits.deBruijn32tab", laid_math_bits_deBruijn32tab), ("math/bits.deBruijn64tab", laid_math_bits_deBruijn64tab), ("loop.example/sidescross/impl.nearSteps", laid_loop_example_sidescross_impl_nearSteps)] }
def FnCarrierOkSaid : Prop := fnCarrierOkRow.holds Tryd.pinned (OpenSpec.ofChange fnCarrierOkSpec)

/-- ITS FALSE NEIGHBOUR: 'it returns false'. Refute it at one input. -/
def fnCarrierOkWrong : ChangeSpec := { name := "fnCarrierOk", vars := ["loop.example/sidescross/impl.nearSteps"], fn := fun _ => fun
  | [d, g1] => { results := [.lit (.bool false)], args := [d], vars := [g1] }
  | _ => none }
def FnCarrierOkWrongFalsely : Prop := fnCarrierOkRow.holds Tryd.pinned (OpenSpec.ofChange fnCarrierOkWrong)

/-- 'laws.FnThreatOk': WHATEVER THE INPUT: true; the input reads as it did. -/
def fnThreatOkSpec : ChangeSpec := { name := "fnThreatOk", vars := ["loop.example/sidescross/impl.nearSteps"], fn := fun _ => fun
  | [d, g1] => { results := [.lit (.bool true)], args := [d], vars := [g1] }
  | _ => none }
def fnThreatOkRow : OpenClaim := { program := "ytmhflbomploidaadoor", sum := "98ce941760438bde3cea8c068c791911a244306097566f9780d5e7e8e991d7d5", func := "loop.example/sidescross/laws.FnThreatOk", spec := "fnThreatOk", recurses := true, named := ["loop.example/sidescross/impl.nearSteps", "math/bits.deBruijn32tab", "math/bits.deBruijn64tab"], plainKeys := false, apart := false, laid := [("math/bits.deBruijn32tab", laid_math_bits_deBruijn32tab), ("math/bits.deBruijn64tab", laid_math_bits_deBruijn64tab), ("loop.example/sidescross/impl.nearSteps", laid_loop_example_sidescross_impl_nearSteps)] }
def FnThreatOkSaid : Prop := fnThreatOkRow.holds Tryd.pinned (OpenSpec.ofChange fnThreatOkSpec)

/-- ITS FALSE NEIGHBOUR: 'it returns false'. Refute it at one input. -/
def fnThreatOkWrong : ChangeSpec := { name := "fnThreatOk", vars := ["loop.example/sidescross/impl.nearSteps"], fn := fun _ => fun
  | [d, g1] => { results := [.lit (.bool false)], args := [d], vars := [g1] }
  | _ => none }
def FnThreatOkWrongFalsely : Prop := fnThreatOkRow.holds Tryd.pinned (OpenSpec.ofChange fnThreatOkWrong)

/-- 'laws.FnLeastCarrier': WHATEVER THE INPUT: true; the input reads as it did. -/
def fnLeastCarrierSpec : ChangeSpec := { name := "fnLeastCarrier", vars := ["loop.example/sidescross/impl.nearSteps"], fn := fun _ => fun
  | [d, g1] => { results := [.lit (.bool true)], args := [d], vars := [g1] }
  | _ => none }
def fnLeastCarrierRow : OpenClaim := { program := "ytmhflbomploidaadoor", sum := "98ce941760438bde3cea8c068c791911a244306097566f9780d5e7e8e991d7d5", func := "loop.example/sidescross/laws.FnLeastCarrier", spec := "fnLeastCarrier", unfollowed := true, recurses := true, named := ["loop.example/sidescross/impl.nearSteps", "math/bits.deBruijn32tab", "math/bits.deBruijn64tab"], plainKeys := false, apart := false, laid := [("math/bits.deBruijn32tab", laid_math_bits_deBruijn32tab), ("math/bits.deBruijn64tab", laid_math_bits_deBruijn64tab), ("loop.example/sidescross/impl.nearSteps", laid_loop_example_sidescross_impl_nearSteps)] }
def FnLeastCarrierSaid : Prop := fnLeastCarrierRow.holds Tryd.pinned (OpenSpec.ofChange fnLeastCarrierSpec)

/-- ITS FALSE NEIGHBOUR: 'it returns false'. Refute it at one input. -/
def fnLeastCarrierWrong : ChangeSpec := { name := "fnLeastCarrier", vars := ["loop.example/sidescross/impl.nearSteps"], fn := fun _ => fun
  | [d, g1] => { results := [.lit (.bool false)], args := [d], vars := [g1] }
  | _ => none }
def FnLeastCarrierWrongFalsely : Prop := fnLeastCarrierRow.holds Tryd.pinned (OpenSpec.ofChange fnLeastCarrierWrong)

/-- 'laws.FnLeastThreat': WHATEVER THE INPUT: true; the input reads as it did. -/
def fnLeastThreatSpec : ChangeSpec := { name := "fnLeastThreat", vars := ["loop.example/sidescross/impl.nearSteps"], fn := fun _ => fun
  | [d, g1] => { results := [.lit (.bool true)], args := [d], vars := [g1] }
  | _ => none }
def fnLeastThreatRow : OpenClaim := { program := "ytmhflbomploidaadoor", sum := "98ce941760438bde3cea8c068c791911a244306097566f9780d5e7e8e991d7d5", func := "loop.example/sidescross/laws.FnLeastThreat", spec := "fnLeastThreat", unfollowed := true, recurses := true, named := ["loop.example/sidescross/impl.nearSteps", "math/bits.deBruijn32tab", "math/bits.deBruijn64tab"], plainKeys := false, apart := false, laid := [("math/bits.deBruijn32tab", laid_math_bits_deBruijn32tab), ("math/bits.deBruijn64tab", laid_math_bits_deBruijn64tab), ("loop.example/sidescross/impl.nearSteps", laid_loop_example_sidescross_impl_nearSteps)] }
def FnLeastThreatSaid : Prop := fnLeastThreatRow.holds Tryd.pinned (OpenSpec.ofChange fnLeastThreatSpec)

/-- ITS FALSE NEIGHBOUR: 'it returns false'. Refute it at one input. -/
def fnLeastThreatWrong : ChangeSpec := { name := "fnLeastThreat", vars := ["loop.example/sidescross/impl.nearSteps"], fn := fun _ => fun
  | [d, g1] => { results := [.lit (.bool false)], args := [d], vars := [g1] }
  | _ => none }
def FnLeastThreatWrongFalsely : Prop := fnLeastThreatRow.holds Tryd.pinned (OpenSpec.ofChange fnLeastThreatWrong)

/-- 'laws.FnTwoThreats': WHATEVER THE INPUT: true; the input reads as it did. -/
def fnTwoThreatsSpec : ChangeSpec := { name := "fnTwoThreats", vars := ["loop.example/sidescross/impl.nearSteps"], fn := fun _ => fun
  | [d1, d2, g1] => { results := [.lit (.bool true)], args := [d1, d2], vars := [g1] }
  | _ => none }
def fnTwoThreatsRow : OpenClaim := { program := "ytmhflbomploidaadoor", sum := "98ce941760438bde3cea8c068c791911a244306097566f9780d5e7e8e991d7d5", func := "loop.example/sidescross/laws.FnTwoThreats", spec := "fnTwoThreats", recurses := true, named := ["loop.example/sidescross/impl.nearSteps", "math/bits.deBruijn32tab", "math/bits.deBruijn64tab"], plainKeys := false, apart := false, laid := [("math/bits.deBruijn32tab", laid_math_bits_deBruijn32tab), ("math/bits.deBruijn64tab", laid_math_bits_deBruijn64tab), ("loop.example/sidescross/impl.nearSteps", laid_loop_example_sidescross_impl_nearSteps)] }
def FnTwoThreatsSaid : Prop := fnTwoThreatsRow.holds Tryd.pinned (OpenSpec.ofChange fnTwoThreatsSpec)

/-- ITS FALSE NEIGHBOUR: 'it returns false'. Refute it at one input. -/
def fnTwoThreatsWrong : ChangeSpec := { name := "fnTwoThreats", vars := ["loop.example/sidescross/impl.nearSteps"], fn := fun _ => fun
  | [d1, d2, g1] => { results := [.lit (.bool false)], args := [d1, d2], vars := [g1] }
  | _ => none }
def FnTwoThreatsWrongFalsely : Prop := fnTwoThreatsRow.holds Tryd.pinned (OpenSpec.ofChange fnTwoThreatsWrong)

/-- 'laws.FnBridgesOf': WHATEVER THE INPUT: true; the input reads as it did. -/
def fnBridgesOfSpec : ChangeSpec := { name := "fnBridgesOf", vars := ["loop.example/sidescross/impl.nearSteps"], fn := fun _ => fun
  | [d, g1] => { results := [.lit (.bool true)], args := [d], vars := [g1] }
  | _ => none }
def fnBridgesOfRow : OpenClaim := { program := "ytmhflbomploidaadoor", sum := "98ce941760438bde3cea8c068c791911a244306097566f9780d5e7e8e991d7d5", func := "loop.example/sidescross/laws.FnBridgesOf", spec := "fnBridgesOf", named := ["loop.example/sidescross/impl.nearSteps"], plainKeys := false, apart := false, laid := [("loop.example/sidescross/impl.nearSteps", laid_loop_example_sidescross_impl_nearSteps)] }
def FnBridgesOfSaid : Prop := fnBridgesOfRow.holds Tryd.pinned (OpenSpec.ofChange fnBridgesOfSpec)

/-- ITS FALSE NEIGHBOUR: 'it returns false'. Refute it at one input. -/
def fnBridgesOfWrong : ChangeSpec := { name := "fnBridgesOf", vars := ["loop.example/sidescross/impl.nearSteps"], fn := fun _ => fun
  | [d, g1] => { results := [.lit (.bool false)], args := [d], vars := [g1] }
  | _ => none }
def FnBridgesOfWrongFalsely : Prop := fnBridgesOfRow.holds Tryd.pinned (OpenSpec.ofChange fnBridgesOfWrong)

/-- 'laws.FnMustCells': WHATEVER THE INPUT: true; the input reads as it did. -/
def fnMustCellsSpec : ChangeSpec := { name := "fnMustCells", vars := ["loop.example/sidescross/impl.nearSteps"], fn := fun _ => fun
  | [d, g1] => { results := [.lit (.bool true)], args := [d], vars := [g1] }
  | _ => none }
def fnMustCellsRow : OpenClaim := { program := "ytmhflbomploidaadoor", sum := "98ce941760438bde3cea8c068c791911a244306097566f9780d5e7e8e991d7d5", func := "loop.example/sidescross/laws.FnMustCells", spec := "fnMustCells", recurses := true, named := ["loop.example/sidescross/impl.nearSteps", "math/bits.deBruijn32tab", "math/bits.deBruijn64tab"], plainKeys := false, apart := false, laid := [("math/bits.deBruijn32tab", laid_math_bits_deBruijn32tab), ("math/bits.deBruijn64tab", laid_math_bits_deBruijn64tab), ("loop.example/sidescross/impl.nearSteps", laid_loop_example_sidescross_impl_nearSteps)] }
def FnMustCellsSaid : Prop := fnMustCellsRow.holds Tryd.pinned (OpenSpec.ofChange fnMustCellsSpec)

/-- ITS FALSE NEIGHBOUR: 'it returns false'. Refute it at one input. -/
def fnMustCellsWrong : ChangeSpec := { name := "fnMustCells", vars := ["loop.example/sidescross/impl.nearSteps"], fn := fun _ => fun
  | [d, g1] => { results := [.lit (.bool false)], args := [d], vars := [g1] }
  | _ => none }
def FnMustCellsWrongFalsely : Prop := fnMustCellsRow.holds Tryd.pinned (OpenSpec.ofChange fnMustCellsWrong)

/-- 'laws.FnCarrierMore': WHATEVER THE INPUT: true; the input reads as it did. -/
def fnCarrierMoreSpec : ChangeSpec := { name := "fnCarrierMore", vars := ["loop.example/sidescross/impl.nearSteps"], fn := fun _ => fun
  | [d1, d2, g1] => { results := [.lit (.bool true)], args := [d1, d2], vars := [g1] }
  | _ => none }
def fnCarrierMoreRow : OpenClaim := { program := "ytmhflbomploidaadoor", sum := "98ce941760438bde3cea8c068c791911a244306097566f9780d5e7e8e991d7d5", func := "loop.example/sidescross/laws.FnCarrierMore", spec := "fnCarrierMore", recurses := true, named := ["loop.example/sidescross/impl.nearSteps", "math/bits.deBruijn32tab", "math/bits.deBruijn64tab"], plainKeys := false, apart := false, laid := [("math/bits.deBruijn32tab", laid_math_bits_deBruijn32tab), ("math/bits.deBruijn64tab", laid_math_bits_deBruijn64tab), ("loop.example/sidescross/impl.nearSteps", laid_loop_example_sidescross_impl_nearSteps)] }
def FnCarrierMoreSaid : Prop := fnCarrierMoreRow.holds Tryd.pinned (OpenSpec.ofChange fnCarrierMoreSpec)

/-- ITS FALSE NEIGHBOUR: 'it returns false'. Refute it at one input. -/
def fnCarrierMoreWrong : ChangeSpec := { name := "fnCarrierMore", vars := ["loop.example/sidescross/impl.nearSteps"], fn := fun _ => fun
  | [d1, d2, g1] => { results := [.lit (.bool false)], args := [d1, d2], vars := [g1] }
  | _ => none }
def FnCarrierMoreWrongFalsely : Prop := fnCarrierMoreRow.holds Tryd.pinned (OpenSpec.ofChange fnCarrierMoreWrong)

/-- 'laws.FnExactCarrierOk': WHATEVER THE INPUT: true; the input reads as it did. -/
def fnExactCarrierOkSpec : ChangeSpec := { name := "fnExactCarrierOk", vars := ["loop.example/sidescross/impl.nearSteps"], fn := fun _ => fun
  | [d1, d2, d3, d4, d5, g1] => { results := [.lit (.bool true)], args := [d1, d2, d3, d4, d5], vars := [g1] }
  | _ => none }
def fnExactCarrierOkRow : OpenClaim := { program := "ytmhflbomploidaadoor", sum := "98ce941760438bde3cea8c068c791911a244306097566f9780d5e7e8e991d7d5", func := "loop.example/sidescross/laws.FnExactCarrierOk", spec := "fnExactCarrierOk", recurses := true, named := ["loop.example/sidescross/impl.nearSteps", "math/bits.deBruijn32tab", "math/bits.deBruijn64tab"], plainKeys := false, apart := false, laid := [("math/bits.deBruijn32tab", laid_math_bits_deBruijn32tab), ("math/bits.deBruijn64tab", laid_math_bits_deBruijn64tab), ("loop.example/sidescross/impl.nearSteps", laid_loop_example_sidescross_impl_nearSteps)] }
def FnExactCarrierOkSaid : Prop := fnExactCarrierOkRow.holds Tryd.pinned (OpenSpec.ofChange fnExactCarrierOkSpec)

/-- ITS FALSE NEIGHBOUR: 'it returns false'. Refute it at one input. -/
def fnExactCarrierOkWrong : ChangeSpec := { name := "fnExactCarrierOk", vars := ["loop.example/sidescross/impl.nearSteps"], fn := fun _ => fun
  | [d1, d2, d3, d4, d5, g1] => { results := [.lit (.bool false)], args := [d1, d2, d3, d4, d5], vars := [g1] }
  | _ => none }
def FnExactCarrierOkWrongFalsely : Prop := fnExactCarrierOkRow.holds Tryd.pinned (OpenSpec.ofChange fnExactCarrierOkWrong)

/-- 'laws.FnExactThreatOk': WHATEVER THE INPUT: true; the input reads as it did. -/
def fnExactThreatOkSpec : ChangeSpec := { name := "fnExactThreatOk", vars := ["loop.example/sidescross/impl.nearSteps"], fn := fun _ => fun
  | [d1, d2, d3, d4, d5, g1] => { results := [.lit (.bool true)], args := [d1, d2, d3, d4, d5], vars := [g1] }
  | _ => none }
def fnExactThreatOkRow : OpenClaim := { program := "ytmhflbomploidaadoor", sum := "98ce941760438bde3cea8c068c791911a244306097566f9780d5e7e8e991d7d5", func := "loop.example/sidescross/laws.FnExactThreatOk", spec := "fnExactThreatOk", recurses := true, named := ["loop.example/sidescross/impl.nearSteps", "math/bits.deBruijn32tab", "math/bits.deBruijn64tab"], plainKeys := false, apart := false, laid := [("math/bits.deBruijn32tab", laid_math_bits_deBruijn32tab), ("math/bits.deBruijn64tab", laid_math_bits_deBruijn64tab), ("loop.example/sidescross/impl.nearSteps", laid_loop_example_sidescross_impl_nearSteps)] }
def FnExactThreatOkSaid : Prop := fnExactThreatOkRow.holds Tryd.pinned (OpenSpec.ofChange fnExactThreatOkSpec)

/-- ITS FALSE NEIGHBOUR: 'it returns false'. Refute it at one input. -/
def fnExactThreatOkWrong : ChangeSpec := { name := "fnExactThreatOk", vars := ["loop.example/sidescross/impl.nearSteps"], fn := fun _ => fun
  | [d1, d2, d3, d4, d5, g1] => { results := [.lit (.bool false)], args := [d1, d2, d3, d4, d5], vars := [g1] }
  | _ => none }
def FnExactThreatOkWrongFalsely : Prop := fnExactThreatOkRow.holds Tryd.pinned (OpenSpec.ofChange fnExactThreatOkWrong)

/-- 'laws.FnExactLeastCarrier': WHATEVER THE INPUT: true; the input reads as it did. -/
def fnExactLeastCarrierSpec : ChangeSpec := { name := "fnExactLeastCarrier", vars := ["loop.example/sidescross/impl.nearSteps"], fn := fun _ => fun
  | [d1, d2, d3, d4, g1] => { results := [.lit (.bool true)], args := [d1, d2, d3, d4], vars := [g1] }
  | _ => none }
def fnExactLeastCarrierRow : OpenClaim := { program := "ytmhflbomploidaadoor", sum := "98ce941760438bde3cea8c068c791911a244306097566f9780d5e7e8e991d7d5", func := "loop.example/sidescross/laws.FnExactLeastCarrier", spec := "fnExactLeastCarrier", unfollowed := true, recurses := true, named := ["loop.example/sidescross/impl.nearSteps", "math/bits.deBruijn32tab", "math/bits.deBruijn64tab"], plainKeys := false, apart := false, laid := [("math/bits.deBruijn32tab", laid_math_bits_deBruijn32tab), ("math/bits.deBruijn64tab", laid_math_bits_deBruijn64tab), ("loop.example/sidescross/impl.nearSteps", laid_loop_example_sidescross_impl_nearSteps)] }
def FnExactLeastCarrierSaid : Prop := fnExactLeastCarrierRow.holds Tryd.pinned (OpenSpec.ofChange fnExactLeastCarrierSpec)

/-- ITS FALSE NEIGHBOUR: 'it returns false'. Refute it at one input. -/
def fnExactLeastCarrierWrong : ChangeSpec := { name := "fnExactLeastCarrier", vars := ["loop.example/sidescross/impl.nearSteps"], fn := fun _ => fun
  | [d1, d2, d3, d4, g1] => { results := [.lit (.bool false)], args := [d1, d2, d3, d4], vars := [g1] }
  | _ => none }
def FnExactLeastCarrierWrongFalsely : Prop := fnExactLeastCarrierRow.holds Tryd.pinned (OpenSpec.ofChange fnExactLeastCarrierWrong)

/-- 'laws.FnExactLeastThreat': WHATEVER THE INPUT: true; the input reads as it did. -/
def fnExactLeastThreatSpec : ChangeSpec := { name := "fnExactLeastThreat", vars := ["loop.example/sidescross/impl.nearSteps"], fn := fun _ => fun
  | [d1, d2, d3, d4, g1] => { results := [.lit (.bool true)], args := [d1, d2, d3, d4], vars := [g1] }
  | _ => none }
def fnExactLeastThreatRow : OpenClaim := { program := "ytmhflbomploidaadoor", sum := "98ce941760438bde3cea8c068c791911a244306097566f9780d5e7e8e991d7d5", func := "loop.example/sidescross/laws.FnExactLeastThreat", spec := "fnExactLeastThreat", unfollowed := true, recurses := true, named := ["loop.example/sidescross/impl.nearSteps", "math/bits.deBruijn32tab", "math/bits.deBruijn64tab"], plainKeys := false, apart := false, laid := [("math/bits.deBruijn32tab", laid_math_bits_deBruijn32tab), ("math/bits.deBruijn64tab", laid_math_bits_deBruijn64tab), ("loop.example/sidescross/impl.nearSteps", laid_loop_example_sidescross_impl_nearSteps)] }
def FnExactLeastThreatSaid : Prop := fnExactLeastThreatRow.holds Tryd.pinned (OpenSpec.ofChange fnExactLeastThreatSpec)

/-- ITS FALSE NEIGHBOUR: 'it returns false'. Refute it at one input. -/
def fnExactLeastThreatWrong : ChangeSpec := { name := "fnExactLeastThreat", vars := ["loop.example/sidescross/impl.nearSteps"], fn := fun _ => fun
  | [d1, d2, d3, d4, g1] => { results := [.lit (.bool false)], args := [d1, d2, d3, d4], vars := [g1] }
  | _ => none }
def FnExactLeastThreatWrongFalsely : Prop := fnExactLeastThreatRow.holds Tryd.pinned (OpenSpec.ofChange fnExactLeastThreatWrong)

/-- 'laws.FnExactBridgesOf': WHATEVER THE INPUT: true; the input reads as it did. -/
def fnExactBridgesOfSpec : ChangeSpec := { name := "fnExactBridgesOf", vars := ["loop.example/sidescross/impl.nearSteps"], fn := fun _ => fun
  | [d1, d2, d3, g1] => { results := [.lit (.bool true)], args := [d1, d2, d3], vars := [g1] }
  | _ => none }
def fnExactBridgesOfRow : OpenClaim := { program := "ytmhflbomploidaadoor", sum := "98ce941760438bde3cea8c068c791911a244306097566f9780d5e7e8e991d7d5", func := "loop.example/sidescross/laws.FnExactBridgesOf", spec := "fnExactBridgesOf", named := ["loop.example/sidescross/impl.nearSteps"], plainKeys := false, apart := false, laid := [("loop.example/sidescross/impl.nearSteps", laid_loop_example_sidescross_impl_nearSteps)] }
def FnExactBridgesOfSaid : Prop := fnExactBridgesOfRow.holds Tryd.pinned (OpenSpec.ofChange fnExactBridgesOfSpec)

/-- ITS FALSE NEIGHBOUR: 'it returns false'. Refute it at one input. -/
def fnExactBridgesOfWrong : ChangeSpec := { name := "fnExactBridgesOf", vars := ["loop.example/sidescross/impl.nearSteps"], fn := fun _ => fun
  | [d1, d2, d3, g1] => { results := [.lit (.bool false)], args := [d1, d2, d3], vars := [g1] }
  | _ => none }
def FnExactBridgesOfWrongFalsely : Prop := fnExactBridgesOfRow.holds Tryd.pinned (OpenSpec.ofChange fnExactBridgesOfWrong)

/-- 'laws.FnExactMustCells': WHATEVER THE INPUT: true; the input reads as it did. -/
def fnExactMustCellsSpec : ChangeSpec := { name := "fnExactMustCells", vars := ["loop.example/sidescross/impl.nearSteps"], fn := fun _ => fun
  | [d1, d2, d3, d4, g1] => { results := [.lit (.bool true)], args := [d1, d2, d3, d4], vars := [g1] }
  | _ => none }
def fnExactMustCellsRow : OpenClaim := { program := "ytmhflbomploidaadoor", sum := "98ce941760438bde3cea8c068c791911a244306097566f9780d5e7e8e991d7d5", func := "loop.example/sidescross/laws.FnExactMustCells", spec := "fnExactMustCells", recurses := true, named := ["loop.example/sidescross/impl.nearSteps", "math/bits.deBruijn32tab", "math/bits.deBruijn64tab"], plainKeys := false, apart := false, laid := [("math/bits.deBruijn32tab", laid_math_bits_deBruijn32tab), ("math/bits.deBruijn64tab", laid_math_bits_deBruijn64tab), ("loop.example/sidescross/impl.nearSteps", laid_loop_example_sidescross_impl_nearSteps)] }
def FnExactMustCellsSaid : Prop := fnExactMustCellsRow.holds Tryd.pinned (OpenSpec.ofChange fnExactMustCellsSpec)

/-- ITS FALSE NEIGHBOUR: 'it returns false'. Refute it at one input. -/
def fnExactMustCellsWrong : ChangeSpec := { name := "fnExactMustCells", vars := ["loop.example/sidescross/impl.nearSteps"], fn := fun _ => fun
  | [d1, d2, d3, d4, g1] => { results := [.lit (.bool false)], args := [d1, d2, d3, d4], vars := [g1] }
  | _ => none }
def FnExactMustCellsWrongFalsely : Prop := fnExactMustCellsRow.holds Tryd.pinned (OpenSpec.ofChange fnExactMustCellsWrong)

/- THE SECOND FORM. 'bulk': how many values and letters a reading holds, each counted each time it is reached (what is shared counts as often as it is met; a slice's spare places count too). A statement '..UptoSaid' is the law's where the arguments, and the package variables that the reading takes, are together of bulk at most 1048576: NARROWER than '..Said'. Prove '..Said' where nothing that the law and all that it calls make is longer than what came in: it says more and counts as full. Else prove '..UptoSaid'. A law counts once. -/
mutual
def uptoBulk {H : Type} : DataW H → Nat
  | .lit (.string bytes) => bytes.length + 1
  | .lit _ => 1
  | .nil => 1
  | .ptr d => uptoBulk d + 1
  | .slice elems spare => uptoBulkAll elems + uptoBulkAll spare + 1
  | .agg parts => uptoBulkAll parts + 1
  | .iface _ d => uptoBulk d + 1
  | .map entries => uptoBulkEntries entries + 1
  | .held _ => 1
def uptoBulkAll {H : Type} : List (DataW H) → Nat
  | [] => 0
  | d :: r => uptoBulk d + uptoBulkAll r
def uptoBulkEntries {H : Type} : List (Lit × DataW H) → Nat
  | [] => 0
  | x :: r => uptoBulkEntry x + uptoBulkEntries r
def uptoBulkEntry {H : Type} : Lit × DataW H → Nat
  | (.string bytes, d) => bytes.length + uptoBulk d + 1
  | (_, d) => uptoBulk d + 1
 end
def uptoSmall : (H : Type) → List (DataW H) → Bool := fun _ ds => decide (uptoBulkAll ds ≤ 1048576)
def OpenSpec.upto (s : _root_.Go.ChangeSpec) : _root_.Go.OpenSpec := { _root_.Go.OpenSpec.ofChange s with cond := some uptoSmall }

/-- 'laws.FnCarrierOk', WHERE WHAT IT READS IS OF BULK AT MOST 1048576: true; the input reads as it did. -/
def fnCarrierOkUptoRow : OpenClaim := { program := "ytmhflbomploidaadoor", sum := "98ce941760438bde3cea8c068c791911a244306097566f9780d5e7e8e991d7d5", func := "loop.example/sidescross/laws.FnCarrierOk", spec := "fnCarrierOk", recurses := true, named := ["loop.example/sidescross/impl.nearSteps", "math/bits.deBruijn32tab", "math/bits.deBruijn64tab"], plainKeys := false, apart := false, laid := [("math/bits.deBruijn32tab", laid_math_bits_deBruijn32tab), ("math/bits.deBruijn64tab", laid_math_bits_deBruijn64tab), ("loop.example/sidescross/impl.nearSteps", laid_loop_example_sidescross_impl_nearSteps)], narrowed := true }
def FnCarrierOkUptoSaid : Prop := fnCarrierOkUptoRow.holds Tryd.pinned (OpenSpec.upto fnCarrierOkSpec)

/-- 'laws.FnThreatOk', WHERE WHAT IT READS IS OF BULK AT MOST 1048576: true; the input reads as it did. -/
def fnThreatOkUptoRow : OpenClaim := { program := "ytmhflbomploidaadoor", sum := "98ce941760438bde3cea8c068c791911a244306097566f9780d5e7e8e991d7d5", func := "loop.example/sidescross/laws.FnThreatOk", spec := "fnThreatOk", recurses := true, named := ["loop.example/sidescross/impl.nearSteps", "math/bits.deBruijn32tab", "math/bits.deBruijn64tab"], plainKeys := false, apart := false, laid := [("math/bits.deBruijn32tab", laid_math_bits_deBruijn32tab), ("math/bits.deBruijn64tab", laid_math_bits_deBruijn64tab), ("loop.example/sidescross/impl.nearSteps", laid_loop_example_sidescross_impl_nearSteps)], narrowed := true }
def FnThreatOkUptoSaid : Prop := fnThreatOkUptoRow.holds Tryd.pinned (OpenSpec.upto fnThreatOkSpec)

/-- 'laws.FnLeastCarrier', WHERE WHAT IT READS IS OF BULK AT MOST 1048576: true; the input reads as it did. -/
def fnLeastCarrierUptoRow : OpenClaim := { program := "ytmhflbomploidaadoor", sum := "98ce941760438bde3cea8c068c791911a244306097566f9780d5e7e8e991d7d5", func := "loop.example/sidescross/laws.FnLeastCarrier", spec := "fnLeastCarrier", unfollowed := true, recurses := true, named := ["loop.example/sidescross/impl.nearSteps", "math/bits.deBruijn32tab", "math/bits.deBruijn64tab"], plainKeys := false, apart := false, laid := [("math/bits.deBruijn32tab", laid_math_bits_deBruijn32tab), ("math/bits.deBruijn64tab", laid_math_bits_deBruijn64tab), ("loop.example/sidescross/impl.nearSteps", laid_loop_example_sidescross_impl_nearSteps)], narrowed := true }
def FnLeastCarrierUptoSaid : Prop := fnLeastCarrierUptoRow.holds Tryd.pinned (OpenSpec.upto fnLeastCarrierSpec)

/-- 'laws.FnLeastThreat', WHERE WHAT IT READS IS OF BULK AT MOST 1048576: true; the input reads as it did. -/
def fnLeastThreatUptoRow : OpenClaim := { program := "ytmhflbomploidaadoor", sum := "98ce941760438bde3cea8c068c791911a244306097566f9780d5e7e8e991d7d5", func := "loop.example/sidescross/laws.FnLeastThreat", spec := "fnLeastThreat", unfollowed := true, recurses := true, named := ["loop.example/sidescross/impl.nearSteps", "math/bits.deBruijn32tab", "math/bits.deBruijn64tab"], plainKeys := false, apart := false, laid := [("math/bits.deBruijn32tab", laid_math_bits_deBruijn32tab), ("math/bits.deBruijn64tab", laid_math_bits_deBruijn64tab), ("loop.example/sidescross/impl.nearSteps", laid_loop_example_sidescross_impl_nearSteps)], narrowed := true }
def FnLeastThreatUptoSaid : Prop := fnLeastThreatUptoRow.holds Tryd.pinned (OpenSpec.upto fnLeastThreatSpec)

/-- 'laws.FnTwoThreats', WHERE WHAT IT READS IS OF BULK AT MOST 1048576: true; the input reads as it did. -/
def fnTwoThreatsUptoRow : OpenClaim := { program := "ytmhflbomploidaadoor", sum := "98ce941760438bde3cea8c068c791911a244306097566f9780d5e7e8e991d7d5", func := "loop.example/sidescross/laws.FnTwoThreats", spec := "fnTwoThreats", recurses := true, named := ["loop.example/sidescross/impl.nearSteps", "math/bits.deBruijn32tab", "math/bits.deBruijn64tab"], plainKeys := false, apart := false, laid := [("math/bits.deBruijn32tab", laid_math_bits_deBruijn32tab), ("math/bits.deBruijn64tab", laid_math_bits_deBruijn64tab), ("loop.example/sidescross/impl.nearSteps", laid_loop_example_sidescross_impl_nearSteps)], narrowed := true }
def FnTwoThreatsUptoSaid : Prop := fnTwoThreatsUptoRow.holds Tryd.pinned (OpenSpec.upto fnTwoThreatsSpec)

/-- 'laws.FnBridgesOf', WHERE WHAT IT READS IS OF BULK AT MOST 1048576: true; the input reads as it did. -/
def fnBridgesOfUptoRow : OpenClaim := { program := "ytmhflbomploidaadoor", sum := "98ce941760438bde3cea8c068c791911a244306097566f9780d5e7e8e991d7d5", func := "loop.example/sidescross/laws.FnBridgesOf", spec := "fnBridgesOf", named := ["loop.example/sidescross/impl.nearSteps"], plainKeys := false, apart := false, laid := [("loop.example/sidescross/impl.nearSteps", laid_loop_example_sidescross_impl_nearSteps)], narrowed := true }
def FnBridgesOfUptoSaid : Prop := fnBridgesOfUptoRow.holds Tryd.pinned (OpenSpec.upto fnBridgesOfSpec)

/-- 'laws.FnMustCells', WHERE WHAT IT READS IS OF BULK AT MOST 1048576: true; the input reads as it did. -/
def fnMustCellsUptoRow : OpenClaim := { program := "ytmhflbomploidaadoor", sum := "98ce941760438bde3cea8c068c791911a244306097566f9780d5e7e8e991d7d5", func := "loop.example/sidescross/laws.FnMustCells", spec := "fnMustCells", recurses := true, named := ["loop.example/sidescross/impl.nearSteps", "math/bits.deBruijn32tab", "math/bits.deBruijn64tab"], plainKeys := false, apart := false, laid := [("math/bits.deBruijn32tab", laid_math_bits_deBruijn32tab), ("math/bits.deBruijn64tab", laid_math_bits_deBruijn64tab), ("loop.example/sidescross/impl.nearSteps", laid_loop_example_sidescross_impl_nearSteps)], narrowed := true }
def FnMustCellsUptoSaid : Prop := fnMustCellsUptoRow.holds Tryd.pinned (OpenSpec.upto fnMustCellsSpec)

/-- 'laws.FnCarrierMore', WHERE WHAT IT READS IS OF BULK AT MOST 1048576: true; the input reads as it did. -/
def fnCarrierMoreUptoRow : OpenClaim := { program := "ytmhflbomploidaadoor", sum := "98ce941760438bde3cea8c068c791911a244306097566f9780d5e7e8e991d7d5", func := "loop.example/sidescross/laws.FnCarrierMore", spec := "fnCarrierMore", recurses := true, named := ["loop.example/sidescross/impl.nearSteps", "math/bits.deBruijn32tab", "math/bits.deBruijn64tab"], plainKeys := false, apart := false, laid := [("math/bits.deBruijn32tab", laid_math_bits_deBruijn32tab), ("math/bits.deBruijn64tab", laid_math_bits_deBruijn64tab), ("loop.example/sidescross/impl.nearSteps", laid_loop_example_sidescross_impl_nearSteps)], narrowed := true }
def FnCarrierMoreUptoSaid : Prop := fnCarrierMoreUptoRow.holds Tryd.pinned (OpenSpec.upto fnCarrierMoreSpec)

/-- 'laws.FnExactCarrierOk', WHERE WHAT IT READS IS OF BULK AT MOST 1048576: true; the input reads as it did. -/
def fnExactCarrierOkUptoRow : OpenClaim := { program := "ytmhflbomploidaadoor", sum := "98ce941760438bde3cea8c068c791911a244306097566f9780d5e7e8e991d7d5", func := "loop.example/sidescross/laws.FnExactCarrierOk", spec := "fnExactCarrierOk", recurses := true, named := ["loop.example/sidescross/impl.nearSteps", "math/bits.deBruijn32tab", "math/bits.deBruijn64tab"], plainKeys := false, apart := false, laid := [("math/bits.deBruijn32tab", laid_math_bits_deBruijn32tab), ("math/bits.deBruijn64tab", laid_math_bits_deBruijn64tab), ("loop.example/sidescross/impl.nearSteps", laid_loop_example_sidescross_impl_nearSteps)], narrowed := true }
def FnExactCarrierOkUptoSaid : Prop := fnExactCarrierOkUptoRow.holds Tryd.pinned (OpenSpec.upto fnExactCarrierOkSpec)

/-- 'laws.FnExactThreatOk', WHERE WHAT IT READS IS OF BULK AT MOST 1048576: true; the input reads as it did. -/
def fnExactThreatOkUptoRow : OpenClaim := { program := "ytmhflbomploidaadoor", sum := "98ce941760438bde3cea8c068c791911a244306097566f9780d5e7e8e991d7d5", func := "loop.example/sidescross/laws.FnExactThreatOk", spec := "fnExactThreatOk", recurses := true, named := ["loop.example/sidescross/impl.nearSteps", "math/bits.deBruijn32tab", "math/bits.deBruijn64tab"], plainKeys := false, apart := false, laid := [("math/bits.deBruijn32tab", laid_math_bits_deBruijn32tab), ("math/bits.deBruijn64tab", laid_math_bits_deBruijn64tab), ("loop.example/sidescross/impl.nearSteps", laid_loop_example_sidescross_impl_nearSteps)], narrowed := true }
def FnExactThreatOkUptoSaid : Prop := fnExactThreatOkUptoRow.holds Tryd.pinned (OpenSpec.upto fnExactThreatOkSpec)

/-- 'laws.FnExactLeastCarrier', WHERE WHAT IT READS IS OF BULK AT MOST 1048576: true; the input reads as it did. -/
def fnExactLeastCarrierUptoRow : OpenClaim := { program := "ytmhflbomploidaadoor", sum := "98ce941760438bde3cea8c068c791911a244306097566f9780d5e7e8e991d7d5", func := "loop.example/sidescross/laws.FnExactLeastCarrier", spec := "fnExactLeastCarrier", unfollowed := true, recurses := true, named := ["loop.example/sidescross/impl.nearSteps", "math/bits.deBruijn32tab", "math/bits.deBruijn64tab"], plainKeys := false, apart := false, laid := [("math/bits.deBruijn32tab", laid_math_bits_deBruijn32tab), ("math/bits.deBruijn64tab", laid_math_bits_deBruijn64tab), ("loop.example/sidescross/impl.nearSteps", laid_loop_example_sidescross_impl_nearSteps)], narrowed := true }
def FnExactLeastCarrierUptoSaid : Prop := fnExactLeastCarrierUptoRow.holds Tryd.pinned (OpenSpec.upto fnExactLeastCarrierSpec)

/-- 'laws.FnExactLeastThreat', WHERE WHAT IT READS IS OF BULK AT MOST 1048576: true; the input reads as it did. -/
def fnExactLeastThreatUptoRow : OpenClaim := { program := "ytmhflbomploidaadoor", sum := "98ce941760438bde3cea8c068c791911a244306097566f9780d5e7e8e991d7d5", func := "loop.example/sidescross/laws.FnExactLeastThreat", spec := "fnExactLeastThreat", unfollowed := true, recurses := true, named := ["loop.example/sidescross/impl.nearSteps", "math/bits.deBruijn32tab", "math/bits.deBruijn64tab"], plainKeys := false, apart := false, laid := [("math/bits.deBruijn32tab", laid_math_bits_deBruijn32tab), ("math/bits.deBruijn64tab", laid_math_bits_deBruijn64tab), ("loop.example/sidescross/impl.nearSteps", laid_loop_example_sidescross_impl_nearSteps)], narrowed := true }
def FnExactLeastThreatUptoSaid : Prop := fnExactLeastThreatUptoRow.holds Tryd.pinned (OpenSpec.upto fnExactLeastThreatSpec)

/-- 'laws.FnExactBridgesOf', WHERE WHAT IT READS IS OF BULK AT MOST 1048576: true; the input reads as it did. -/
def fnExactBridgesOfUptoRow : OpenClaim := { program := "ytmhflbomploidaadoor", sum := "98ce941760438bde3cea8c068c791911a244306097566f9780d5e7e8e991d7d5", func := "loop.example/sidescross/laws.FnExactBridgesOf", spec := "fnExactBridgesOf", named := ["loop.example/sidescross/impl.nearSteps"], plainKeys := false, apart := false, laid := [("loop.example/sidescross/impl.nearSteps", laid_loop_example_sidescross_impl_nearSteps)], narrowed := true }
def FnExactBridgesOfUptoSaid : Prop := fnExactBridgesOfUptoRow.holds Tryd.pinned (OpenSpec.upto fnExactBridgesOfSpec)

/-- 'laws.FnExactMustCells', WHERE WHAT IT READS IS OF BULK AT MOST 1048576: true; the input reads as it did. -/
def fnExactMustCellsUptoRow : OpenClaim := { program := "ytmhflbomploidaadoor", sum := "98ce941760438bde3cea8c068c791911a244306097566f9780d5e7e8e991d7d5", func := "loop.example/sidescross/laws.FnExactMustCells", spec := "fnExactMustCells", recurses := true, named := ["loop.example/sidescross/impl.nearSteps", "math/bits.deBruijn32tab", "math/bits.deBruijn64tab"], plainKeys := false, apart := false, laid := [("math/bits.deBruijn32tab", laid_math_bits_deBruijn32tab), ("math/bits.deBruijn64tab", laid_math_bits_deBruijn64tab), ("loop.example/sidescross/impl.nearSteps", laid_loop_example_sidescross_impl_nearSteps)], narrowed := true }
def FnExactMustCellsUptoSaid : Prop := fnExactMustCellsUptoRow.holds Tryd.pinned (OpenSpec.upto fnExactMustCellsSpec)

end Rows
end Go.Proofs.YtmhflbomploidaaDoor
