/-
  NARROWER THAN 'FOR EVERY INPUT', by the rows' own cells (each row's printed sentence says how): FnReverseWinner: laid · FnSafeCells: laid · FnSquareReverse: laid · FnReverseOne: laid · FnExactReverseWinner: laid · FnExactSafeCells: laid · FnExactSquareReverse: laid.
  DERIVED. THE GIVEN ROWS OF THIS SEAT. 7 by the template 'for every input the law returns true; each argument reads behind the call as it read before'; 0 by the template 'total and deterministic' (their statements: YtocjdekcmhgjeaaDoorTotals.lean).
  GIVEN WITH THE SEED: the statements are not yours to turn. If you find one false, say at which input.
  Laid BY PROGRAM, IN A SANDBOX (cutbox-rows.mjs): the forced cells as the released guide's own fill.sh prints them over the translation dd934375465867a5… (all of the seat's roots in one cut). By AI agents, Wed Nov 11 2026. No macro, syntax, notation, axiom, sorry.
-/
import Derived.Test.YtocjdekcmhgjeaaDoorChecked
import GoSem.Claim
import GoSem.ClaimJoined
import GoSem.ClaimMapViews
import Derived.JoinedTies
import Derived.KernelRfl
namespace Go.Proofs.YtocjdekcmhgjeaaDoor
/- THE CELL 'sum', in the pinned program and in every row, IS THE sha256 OF THE DUMP (.gsa) THAT YtocjdekcmhgjeaaDoorProg.lean LOADS. Nothing in Lean hashes anything: it is a label: what it is worth is what the hold of that sum in a sandbox is worth. -/
noncomputable def Tryd.pinned : Pinned := { name := "ytocjdekcmhgjeaadoor", sum := "dd934375465867a5d5d926ec736c20516dc9af38ef7d62cfc5836e52a3a8cff3", checked := Tryd.checked }
namespace Rows
def none {H : Type} : Left H := { results := [], args := [] }

/- WHAT THE LISTED PACKAGE-LEVEL VARIABLES READ AS WHEN THE CALL BEGINS. Each datum BY PROGRAM (the guide's laid-datum.mjs) off the statement by which the dump's own 'gosem.cut.vars' lays the variable. In a bare row this is a premise. The card (YtocjdekcmhgjeaaDoorCards.lean) ties it to the program's text. -/
def laid_math_bits_deBruijn32tab {H : Type} : DataW H := .agg [.lit (.int .u8 0), .lit (.int .u8 1), .lit (.int .u8 28), .lit (.int .u8 2), .lit (.int .u8 29), .lit (.int .u8 14), .lit (.int .u8 24), .lit (.int .u8 3), .lit (.int .u8 30), .lit (.int .u8 22), .lit (.int .u8 20), .lit (.int .u8 15), .lit (.int .u8 25), .lit (.int .u8 17), .lit (.int .u8 4), .lit (.int .u8 8), .lit (.int .u8 31), .lit (.int .u8 27), .lit (.int .u8 13), .lit (.int .u8 23), .lit (.int .u8 21), .lit (.int .u8 19), .lit (.int .u8 16), .lit (.int .u8 7), .lit (.int .u8 26), .lit (.int .u8 12), .lit (.int .u8 18), .lit (.int .u8 6), .lit (.int .u8 11), .lit (.int .u8 5), .lit (.int .u8 10), .lit (.int .u8 9)]
def laid_math_bits_deBruijn64tab {H : Type} : DataW H := .agg [.lit (.int .u8 0), .lit (.int .u8 1), .lit (.int .u8 56), .lit (.int .u8 2), .lit (.int .u8 57), .lit (.int .u8 49), .lit (.int .u8 28), .lit (.int .u8 3), .lit (.int .u8 61), .lit (.int .u8 58), .lit (.int .u8 42), .lit (.int .u8 50), .lit (.int .u8 38), .lit (.int .u8 29), .lit (.int .u8 17), .lit (.int .u8 4), .lit (.int .u8 62), .lit (.int .u8 47), .lit (.int .u8 59), .lit (.int .u8 36), .lit (.int .u8 45), .lit (.int .u8 43), .lit (.int .u8 51), .lit (.int .u8 22), .lit (.int .u8 53), .lit (.int .u8 39), .lit (.int .u8 33), .lit (.int .u8 30), .lit (.int .u8 24), .lit (.int .u8 18), .lit (.int .u8 12), .lit (.int .u8 5), .lit (.int .u8 63), .lit (.int .u8 55), .lit (.int .u8 48), .lit (.int .u8 27), .lit (.int .u8 60), .lit (.int .u8 41), .lit (.int .u8 37), .lit (.int .u8 16), .lit (.int .u8 46), .lit (.int .u8 35), .lit (.int .u8 44), .lit (.int .u8 21), .lit (.int .u8 52), .lit (.int .u8 32), .lit (.int .u8 23), .lit (.int .u8 11), .lit (.int .u8 54), .lit (.int .u8 26), .lit (.int .u8 40), .lit (.int .u8 15), .lit (.int .u8 34), .lit (.int .u8 20), .lit (.int .u8 31), .lit (.int .u8 10), .lit (.int .u8 25), .lit (.int .u8 14), .lit (.int .u8 19), .lit (.int .u8 9), .lit (.int .u8 13), .lit (.int .u8 8), .lit (.int .u8 7), .lit (.int .u8 6)]
def laid_loop_example_sidescross_impl_nearSteps {H : Type} : DataW H := .agg [.agg [.lit (.int .i64 (-1)), .lit (.int .i64 0)], .agg [.lit (.int .i64 (-1)), .lit (.int .i64 1)], .agg [.lit (.int .i64 0), .lit (.int .i64 (-1))], .agg [.lit (.int .i64 0), .lit (.int .i64 1)], .agg [.lit (.int .i64 1), .lit (.int .i64 (-1))], .agg [.lit (.int .i64 1), .lit (.int .i64 0)]]

/-- 'laws.FnReverseWinner': WHATEVER THE INPUT: true; the input reads as it did. -/
def fnReverseWinnerSpec : ChangeSpec := { name := "fnReverseWinner", vars := ["loop.example/sidescross/impl.nearSteps"], fn := fun _ => fun
  | [d, g1] => { results := [.lit (.bool true)], args := [d], vars := [g1] }
  | _ => none }
def fnReverseWinnerRow : OpenClaim := { program := "ytocjdekcmhgjeaadoor", sum := "dd934375465867a5d5d926ec736c20516dc9af38ef7d62cfc5836e52a3a8cff3", func := "loop.example/sidescross/laws.FnReverseWinner", spec := "fnReverseWinner", unfollowed := true, recurses := true, named := ["loop.example/sidescross/impl.nearSteps", "math/bits.deBruijn32tab", "math/bits.deBruijn64tab"], plainKeys := false, apart := false, laid := [("math/bits.deBruijn32tab", laid_math_bits_deBruijn32tab), ("math/bits.deBruijn64tab", laid_math_bits_deBruijn64tab), ("loop.example/sidescross/impl.nearSteps", laid_loop_example_sidescross_impl_nearSteps)] }
def FnReverseWinnerSaid : Prop := fnReverseWinnerRow.holds Tryd.pinned (OpenSpec.ofChange fnReverseWinnerSpec)

/-- ITS FALSE NEIGHBOUR: 'it returns false'. Refute it at one input. -/
def fnReverseWinnerWrong : ChangeSpec := { name := "fnReverseWinner", vars := ["loop.example/sidescross/impl.nearSteps"], fn := fun _ => fun
  | [d, g1] => { results := [.lit (.bool false)], args := [d], vars := [g1] }
  | _ => none }
def FnReverseWinnerWrongFalsely : Prop := fnReverseWinnerRow.holds Tryd.pinned (OpenSpec.ofChange fnReverseWinnerWrong)

/-- 'laws.FnSafeCells': WHATEVER THE INPUT: true; the input reads as it did. -/
def fnSafeCellsSpec : ChangeSpec := { name := "fnSafeCells", vars := ["loop.example/sidescross/impl.nearSteps"], fn := fun _ => fun
  | [d, g1] => { results := [.lit (.bool true)], args := [d], vars := [g1] }
  | _ => none }
def fnSafeCellsRow : OpenClaim := { program := "ytocjdekcmhgjeaadoor", sum := "dd934375465867a5d5d926ec736c20516dc9af38ef7d62cfc5836e52a3a8cff3", func := "loop.example/sidescross/laws.FnSafeCells", spec := "fnSafeCells", unfollowed := true, recurses := true, named := ["loop.example/sidescross/impl.nearSteps", "math/bits.deBruijn32tab", "math/bits.deBruijn64tab"], plainKeys := false, apart := false, laid := [("math/bits.deBruijn32tab", laid_math_bits_deBruijn32tab), ("math/bits.deBruijn64tab", laid_math_bits_deBruijn64tab), ("loop.example/sidescross/impl.nearSteps", laid_loop_example_sidescross_impl_nearSteps)] }
def FnSafeCellsSaid : Prop := fnSafeCellsRow.holds Tryd.pinned (OpenSpec.ofChange fnSafeCellsSpec)

/-- ITS FALSE NEIGHBOUR: 'it returns false'. Refute it at one input. -/
def fnSafeCellsWrong : ChangeSpec := { name := "fnSafeCells", vars := ["loop.example/sidescross/impl.nearSteps"], fn := fun _ => fun
  | [d, g1] => { results := [.lit (.bool false)], args := [d], vars := [g1] }
  | _ => none }
def FnSafeCellsWrongFalsely : Prop := fnSafeCellsRow.holds Tryd.pinned (OpenSpec.ofChange fnSafeCellsWrong)

/-- 'laws.FnSquareReverse': WHATEVER THE INPUT: true; the input reads as it did. -/
def fnSquareReverseSpec : ChangeSpec := { name := "fnSquareReverse", vars := ["loop.example/sidescross/impl.nearSteps"], fn := fun _ => fun
  | [d, g1] => { results := [.lit (.bool true)], args := [d], vars := [g1] }
  | _ => none }
def fnSquareReverseRow : OpenClaim := { program := "ytocjdekcmhgjeaadoor", sum := "dd934375465867a5d5d926ec736c20516dc9af38ef7d62cfc5836e52a3a8cff3", func := "loop.example/sidescross/laws.FnSquareReverse", spec := "fnSquareReverse", unfollowed := true, recurses := true, named := ["loop.example/sidescross/impl.nearSteps", "math/bits.deBruijn32tab", "math/bits.deBruijn64tab"], plainKeys := false, apart := false, laid := [("math/bits.deBruijn32tab", laid_math_bits_deBruijn32tab), ("math/bits.deBruijn64tab", laid_math_bits_deBruijn64tab), ("loop.example/sidescross/impl.nearSteps", laid_loop_example_sidescross_impl_nearSteps)] }
def FnSquareReverseSaid : Prop := fnSquareReverseRow.holds Tryd.pinned (OpenSpec.ofChange fnSquareReverseSpec)

/-- ITS FALSE NEIGHBOUR: 'it returns false'. Refute it at one input. -/
def fnSquareReverseWrong : ChangeSpec := { name := "fnSquareReverse", vars := ["loop.example/sidescross/impl.nearSteps"], fn := fun _ => fun
  | [d, g1] => { results := [.lit (.bool false)], args := [d], vars := [g1] }
  | _ => none }
def FnSquareReverseWrongFalsely : Prop := fnSquareReverseRow.holds Tryd.pinned (OpenSpec.ofChange fnSquareReverseWrong)

/-- 'laws.FnReverseOne': WHATEVER THE INPUT: true; the input reads as it did. -/
def fnReverseOneSpec : ChangeSpec := { name := "fnReverseOne", vars := ["loop.example/sidescross/impl.nearSteps"], fn := fun _ => fun
  | [d, g1] => { results := [.lit (.bool true)], args := [d], vars := [g1] }
  | _ => none }
def fnReverseOneRow : OpenClaim := { program := "ytocjdekcmhgjeaadoor", sum := "dd934375465867a5d5d926ec736c20516dc9af38ef7d62cfc5836e52a3a8cff3", func := "loop.example/sidescross/laws.FnReverseOne", spec := "fnReverseOne", unfollowed := true, recurses := true, named := ["loop.example/sidescross/impl.nearSteps", "math/bits.deBruijn32tab", "math/bits.deBruijn64tab"], plainKeys := false, apart := false, laid := [("math/bits.deBruijn32tab", laid_math_bits_deBruijn32tab), ("math/bits.deBruijn64tab", laid_math_bits_deBruijn64tab), ("loop.example/sidescross/impl.nearSteps", laid_loop_example_sidescross_impl_nearSteps)] }
def FnReverseOneSaid : Prop := fnReverseOneRow.holds Tryd.pinned (OpenSpec.ofChange fnReverseOneSpec)

/-- ITS FALSE NEIGHBOUR: 'it returns false'. Refute it at one input. -/
def fnReverseOneWrong : ChangeSpec := { name := "fnReverseOne", vars := ["loop.example/sidescross/impl.nearSteps"], fn := fun _ => fun
  | [d, g1] => { results := [.lit (.bool false)], args := [d], vars := [g1] }
  | _ => none }
def FnReverseOneWrongFalsely : Prop := fnReverseOneRow.holds Tryd.pinned (OpenSpec.ofChange fnReverseOneWrong)

/-- 'laws.FnExactReverseWinner': WHATEVER THE INPUT: true; the input reads as it did. -/
def fnExactReverseWinnerSpec : ChangeSpec := { name := "fnExactReverseWinner", vars := ["loop.example/sidescross/impl.nearSteps"], fn := fun _ => fun
  | [d1, d2, d3, d4, g1] => { results := [.lit (.bool true)], args := [d1, d2, d3, d4], vars := [g1] }
  | _ => none }
def fnExactReverseWinnerRow : OpenClaim := { program := "ytocjdekcmhgjeaadoor", sum := "dd934375465867a5d5d926ec736c20516dc9af38ef7d62cfc5836e52a3a8cff3", func := "loop.example/sidescross/laws.FnExactReverseWinner", spec := "fnExactReverseWinner", unfollowed := true, recurses := true, named := ["loop.example/sidescross/impl.nearSteps", "math/bits.deBruijn32tab", "math/bits.deBruijn64tab"], plainKeys := false, apart := false, laid := [("math/bits.deBruijn32tab", laid_math_bits_deBruijn32tab), ("math/bits.deBruijn64tab", laid_math_bits_deBruijn64tab), ("loop.example/sidescross/impl.nearSteps", laid_loop_example_sidescross_impl_nearSteps)] }
def FnExactReverseWinnerSaid : Prop := fnExactReverseWinnerRow.holds Tryd.pinned (OpenSpec.ofChange fnExactReverseWinnerSpec)

/-- ITS FALSE NEIGHBOUR: 'it returns false'. Refute it at one input. -/
def fnExactReverseWinnerWrong : ChangeSpec := { name := "fnExactReverseWinner", vars := ["loop.example/sidescross/impl.nearSteps"], fn := fun _ => fun
  | [d1, d2, d3, d4, g1] => { results := [.lit (.bool false)], args := [d1, d2, d3, d4], vars := [g1] }
  | _ => none }
def FnExactReverseWinnerWrongFalsely : Prop := fnExactReverseWinnerRow.holds Tryd.pinned (OpenSpec.ofChange fnExactReverseWinnerWrong)

/-- 'laws.FnExactSafeCells': WHATEVER THE INPUT: true; the input reads as it did. -/
def fnExactSafeCellsSpec : ChangeSpec := { name := "fnExactSafeCells", vars := ["loop.example/sidescross/impl.nearSteps"], fn := fun _ => fun
  | [d1, d2, d3, d4, g1] => { results := [.lit (.bool true)], args := [d1, d2, d3, d4], vars := [g1] }
  | _ => none }
def fnExactSafeCellsRow : OpenClaim := { program := "ytocjdekcmhgjeaadoor", sum := "dd934375465867a5d5d926ec736c20516dc9af38ef7d62cfc5836e52a3a8cff3", func := "loop.example/sidescross/laws.FnExactSafeCells", spec := "fnExactSafeCells", unfollowed := true, recurses := true, named := ["loop.example/sidescross/impl.nearSteps", "math/bits.deBruijn32tab", "math/bits.deBruijn64tab"], plainKeys := false, apart := false, laid := [("math/bits.deBruijn32tab", laid_math_bits_deBruijn32tab), ("math/bits.deBruijn64tab", laid_math_bits_deBruijn64tab), ("loop.example/sidescross/impl.nearSteps", laid_loop_example_sidescross_impl_nearSteps)] }
def FnExactSafeCellsSaid : Prop := fnExactSafeCellsRow.holds Tryd.pinned (OpenSpec.ofChange fnExactSafeCellsSpec)

/-- ITS FALSE NEIGHBOUR: 'it returns false'. Refute it at one input. -/
def fnExactSafeCellsWrong : ChangeSpec := { name := "fnExactSafeCells", vars := ["loop.example/sidescross/impl.nearSteps"], fn := fun _ => fun
  | [d1, d2, d3, d4, g1] => { results := [.lit (.bool false)], args := [d1, d2, d3, d4], vars := [g1] }
  | _ => none }
def FnExactSafeCellsWrongFalsely : Prop := fnExactSafeCellsRow.holds Tryd.pinned (OpenSpec.ofChange fnExactSafeCellsWrong)

/-- 'laws.FnExactSquareReverse': WHATEVER THE INPUT: true; the input reads as it did. -/
def fnExactSquareReverseSpec : ChangeSpec := { name := "fnExactSquareReverse", vars := ["loop.example/sidescross/impl.nearSteps"], fn := fun _ => fun
  | [d, g1] => { results := [.lit (.bool true)], args := [d], vars := [g1] }
  | _ => none }
def fnExactSquareReverseRow : OpenClaim := { program := "ytocjdekcmhgjeaadoor", sum := "dd934375465867a5d5d926ec736c20516dc9af38ef7d62cfc5836e52a3a8cff3", func := "loop.example/sidescross/laws.FnExactSquareReverse", spec := "fnExactSquareReverse", unfollowed := true, recurses := true, named := ["loop.example/sidescross/impl.nearSteps", "math/bits.deBruijn32tab", "math/bits.deBruijn64tab"], plainKeys := false, apart := false, laid := [("math/bits.deBruijn32tab", laid_math_bits_deBruijn32tab), ("math/bits.deBruijn64tab", laid_math_bits_deBruijn64tab), ("loop.example/sidescross/impl.nearSteps", laid_loop_example_sidescross_impl_nearSteps)] }
def FnExactSquareReverseSaid : Prop := fnExactSquareReverseRow.holds Tryd.pinned (OpenSpec.ofChange fnExactSquareReverseSpec)

/-- ITS FALSE NEIGHBOUR: 'it returns false'. Refute it at one input. -/
def fnExactSquareReverseWrong : ChangeSpec := { name := "fnExactSquareReverse", vars := ["loop.example/sidescross/impl.nearSteps"], fn := fun _ => fun
  | [d, g1] => { results := [.lit (.bool false)], args := [d], vars := [g1] }
  | _ => none }
def FnExactSquareReverseWrongFalsely : Prop := fnExactSquareReverseRow.holds Tryd.pinned (OpenSpec.ofChange fnExactSquareReverseWrong)

/- THE SECOND FORM. 'bulk': how many values and letters a reading holds, each counted each time it is reached (what is shared counts as often as it is met; a slice's spare places count too). A statement '..UptoSaid' is the law's where the arguments, and the package variables that the reading takes, are together of bulk at most 1048576: NARROWER than '..Said'. Prove '..Said' where nothing that the law and all that it calls make is longer than what came in: it says more and counts as full. Else prove '..UptoSaid'. A law counts once. -/
mutual
def uptoBulk {H : Type} : DataW H → Nat
  | .lit (.string bytes) => bytes.length + 1
  | .lit _ => 1
  | .nil => 1
  | .ptr d => uptoBulk d + 1
  | .slice elems spare => uptoBulkAll elems + uptoBulkAll spare + 1
  | .agg parts => uptoBulkAll parts + 1
  | .iface _ d => uptoBulk d + 1
  | .map entries => uptoBulkEntries entries + 1
  | .held _ => 1
def uptoBulkAll {H : Type} : List (DataW H) → Nat
  | [] => 0
  | d :: r => uptoBulk d + uptoBulkAll r
def uptoBulkEntries {H : Type} : List (Lit × DataW H) → Nat
  | [] => 0
  | x :: r => uptoBulkEntry x + uptoBulkEntries r
def uptoBulkEntry {H : Type} : Lit × DataW H → Nat
  | (.string bytes, d) => bytes.length + uptoBulk d + 1
  | (_, d) => uptoBulk d + 1
 end
def uptoSmall : (H : Type) → List (DataW H) → Bool := fun _ ds => decide (uptoBulkAll ds ≤ 1048576)
def OpenSpec.upto (s : _root_.Go.ChangeSpec) : _root_.Go.OpenSpec := { _root_.Go.OpenSpec.ofChange s with cond := some uptoSmall }

/-- 'laws.FnReverseWinner', WHERE WHAT IT READS IS OF BULK AT MOST 1048576: true; the input reads as it did. -/
def fnReverseWinnerUptoRow : OpenClaim := { program := "ytocjdekcmhgjeaadoor", sum := "dd934375465867a5d5d926ec736c20516dc9af38ef7d62cfc5836e52a3a8cff3", func := "loop.example/sidescross/laws.FnReverseWinner", spec := "fnReverseWinner", unfollowed := true, recurses := true, named := ["loop.example/sidescross/impl.nearSteps", "math/bits.deBruijn32tab", "math/bits.deBruijn64tab"], plainKeys := false, apart := false, laid := [("math/bits.deBruijn32tab", laid_math_bits_deBruijn32tab), ("math/bits.deBruijn64tab", laid_math_bits_deBruijn64tab), ("loop.example/sidescross/impl.nearSteps", laid_loop_example_sidescross_impl_nearSteps)], narrowed := true }
def FnReverseWinnerUptoSaid : Prop := fnReverseWinnerUptoRow.holds Tryd.pinned (OpenSpec.upto fnReverseWinnerSpec)

/-- 'laws.FnSafeCells', WHERE WHAT IT READS IS OF BULK AT MOST 1048576: true; the input reads as it did. -/
def fnSafeCellsUptoRow : OpenClaim := { program := "ytocjdekcmhgjeaadoor", sum := "dd934375465867a5d5d926ec736c20516dc9af38ef7d62cfc5836e52a3a8cff3", func := "loop.example/sidescross/laws.FnSafeCells", spec := "fnSafeCells", unfollowed := true, recurses := true, named := ["loop.example/sidescross/impl.nearSteps", "math/bits.deBruijn32tab", "math/bits.deBruijn64tab"], plainKeys := false, apart := false, laid := [("math/bits.deBruijn32tab", laid_math_bits_deBruijn32tab), ("math/bits.deBruijn64tab", laid_math_bits_deBruijn64tab), ("loop.example/sidescross/impl.nearSteps", laid_loop_example_sidescross_impl_nearSteps)], narrowed := true }
def FnSafeCellsUptoSaid : Prop := fnSafeCellsUptoRow.holds Tryd.pinned (OpenSpec.upto fnSafeCellsSpec)

/-- 'laws.FnSquareReverse', WHERE WHAT IT READS IS OF BULK AT MOST 1048576: true; the input reads as it did. -/
def fnSquareReverseUptoRow : OpenClaim := { program := "ytocjdekcmhgjeaadoor", sum := "dd934375465867a5d5d926ec736c20516dc9af38ef7d62cfc5836e52a3a8cff3", func := "loop.example/sidescross/laws.FnSquareReverse", spec := "fnSquareReverse", unfollowed := true, recurses := true, named := ["loop.example/sidescross/impl.nearSteps", "math/bits.deBruijn32tab", "math/bits.deBruijn64tab"], plainKeys := false, apart := false, laid := [("math/bits.deBruijn32tab", laid_math_bits_deBruijn32tab), ("math/bits.deBruijn64tab", laid_math_bits_deBruijn64tab), ("loop.example/sidescross/impl.nearSteps", laid_loop_example_sidescross_impl_nearSteps)], narrowed := true }
def FnSquareReverseUptoSaid : Prop := fnSquareReverseUptoRow.holds Tryd.pinned (OpenSpec.upto fnSquareReverseSpec)

/-- 'laws.FnReverseOne', WHERE WHAT IT READS IS OF BULK AT MOST 1048576: true; the input reads as it did. -/
def fnReverseOneUptoRow : OpenClaim := { program := "ytocjdekcmhgjeaadoor", sum := "dd934375465867a5d5d926ec736c20516dc9af38ef7d62cfc5836e52a3a8cff3", func := "loop.example/sidescross/laws.FnReverseOne", spec := "fnReverseOne", unfollowed := true, recurses := true, named := ["loop.example/sidescross/impl.nearSteps", "math/bits.deBruijn32tab", "math/bits.deBruijn64tab"], plainKeys := false, apart := false, laid := [("math/bits.deBruijn32tab", laid_math_bits_deBruijn32tab), ("math/bits.deBruijn64tab", laid_math_bits_deBruijn64tab), ("loop.example/sidescross/impl.nearSteps", laid_loop_example_sidescross_impl_nearSteps)], narrowed := true }
def FnReverseOneUptoSaid : Prop := fnReverseOneUptoRow.holds Tryd.pinned (OpenSpec.upto fnReverseOneSpec)

/-- 'laws.FnExactReverseWinner', WHERE WHAT IT READS IS OF BULK AT MOST 1048576: true; the input reads as it did. -/
def fnExactReverseWinnerUptoRow : OpenClaim := { program := "ytocjdekcmhgjeaadoor", sum := "dd934375465867a5d5d926ec736c20516dc9af38ef7d62cfc5836e52a3a8cff3", func := "loop.example/sidescross/laws.FnExactReverseWinner", spec := "fnExactReverseWinner", unfollowed := true, recurses := true, named := ["loop.example/sidescross/impl.nearSteps", "math/bits.deBruijn32tab", "math/bits.deBruijn64tab"], plainKeys := false, apart := false, laid := [("math/bits.deBruijn32tab", laid_math_bits_deBruijn32tab), ("math/bits.deBruijn64tab", laid_math_bits_deBruijn64tab), ("loop.example/sidescross/impl.nearSteps", laid_loop_example_sidescross_impl_nearSteps)], narrowed := true }
def FnExactReverseWinnerUptoSaid : Prop := fnExactReverseWinnerUptoRow.holds Tryd.pinned (OpenSpec.upto fnExactReverseWinnerSpec)

/-- 'laws.FnExactSafeCells', WHERE WHAT IT READS IS OF BULK AT MOST 1048576: true; the input reads as it did. -/
def fnExactSafeCellsUptoRow : OpenClaim := { program := "ytocjdekcmhgjeaadoor", sum := "dd934375465867a5d5d926ec736c20516dc9af38ef7d62cfc5836e52a3a8cff3", func := "loop.example/sidescross/laws.FnExactSafeCells", spec := "fnExactSafeCells", unfollowed := true, recurses := true, named := ["loop.example/sidescross/impl.nearSteps", "math/bits.deBruijn32tab", "math/bits.deBruijn64tab"], plainKeys := false, apart := false, laid := [("math/bits.deBruijn32tab", laid_math_bits_deBruijn32tab), ("math/bits.deBruijn64tab", laid_math_bits_deBruijn64tab), ("loop.example/sidescross/impl.nearSteps", laid_loop_example_sidescross_impl_nearSteps)], narrowed := true }
def FnExactSafeCellsUptoSaid : Prop := fnExactSafeCellsUptoRow.holds Tryd.pinned (OpenSpec.upto fnExactSafeCellsSpec)

/-- 'laws.FnExactSquareReverse', WHERE WHAT IT READS IS OF BULK AT MOST 1048576: true; the input reads as it did. -/
def fnExactSquareReverseUptoRow : OpenClaim := { program := "ytocjdekcmhgjeaadoor", sum := "dd934375465867a5d5d926ec736c20516dc9af38ef7d62cfc5836e52a3a8cff3", func := "loop.example/sidescross/laws.FnExactSquareReverse", spec := "fnExactSquareReverse", unfollowed := true, recurses := true, named := ["loop.example/sidescross/impl.nearSteps", "math/bits.deBruijn32tab", "math/bits.deBruijn64tab"], plainKeys := false, apart := false, laid := [("math/bits.deBruijn32tab", laid_math_bits_deBruijn32tab), ("math/bits.deBruijn64tab", laid_math_bits_deBruijn64tab), ("loop.example/sidescross/impl.nearSteps", laid_loop_example_sidescross_impl_nearSteps)], narrowed := true }
def FnExactSquareReverseUptoSaid : Prop := fnExactSquareReverseUptoRow.holds Tryd.pinned (OpenSpec.upto fnExactSquareReverseSpec)

end Rows
end Go.Proofs.YtocjdekcmhgjeaaDoor
