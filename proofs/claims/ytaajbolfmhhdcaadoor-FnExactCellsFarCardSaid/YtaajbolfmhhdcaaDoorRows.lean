/-
  NARROWER THAN 'FOR EVERY INPUT', by the rows' own cells (each row's printed sentence says how): FnNearCells: laid · FnCellsFar: laid · FnNearCount: laid · FnExactNearCells: laid · FnExactCellsFar: laid.
  DERIVED. THE GIVEN ROWS OF THIS SEAT. 5 by the template 'for every input the law returns true; each argument reads behind the call as it read before'; 0 by the template 'total and deterministic' (their statements: YtaajbolfmhhdcaaDoorTotals.lean).
  GIVEN WITH THE SEED: the statements are not yours to turn. If you find one false, say at which input.
  Laid BY PROGRAM, IN A SANDBOX (cutbox-rows.mjs): the forced cells as the released guide's own fill.sh prints them over the translation 72aa087c2315f663… (all of the seat's roots in one cut). By AI agents, Wed Nov 11 2026. No macro, syntax, notation, axiom, sorry.
-/
import Derived.Test.YtaajbolfmhhdcaaDoorChecked
import GoSem.Claim
import GoSem.ClaimJoined
import GoSem.ClaimMapViews
import Derived.JoinedTies
import Derived.KernelRfl
namespace Go.Proofs.YtaajbolfmhhdcaaDoor
/- THE CELL 'sum', in the pinned program and in every row, IS THE sha256 OF THE DUMP (.gsa) THAT YtaajbolfmhhdcaaDoorProg.lean LOADS. Nothing in Lean hashes anything: it is a label: what it is worth is what the hold of that sum in a sandbox is worth. -/
noncomputable def Tryd.pinned : Pinned := { name := "ytaajbolfmhhdcaadoor", sum := "72aa087c2315f663d17874cf2af856002dd3e44dc70262df4bd2ecdd024f089d", checked := Tryd.checked }
namespace Rows
def none {H : Type} : Left H := { results := [], args := [] }

/- WHAT THE LISTED PACKAGE-LEVEL VARIABLES READ AS WHEN THE CALL BEGINS. Each datum BY PROGRAM (the guide's laid-datum.mjs) off the statement by which the dump's own 'gosem.cut.vars' lays the variable. In a bare row this is a premise. The card (YtaajbolfmhhdcaaDoorCards.lean) ties it to the program's text. -/
def laid_loop_example_sidescross_impl_nearSteps {H : Type} : DataW H := .agg [.agg [.lit (.int .i64 (-1)), .lit (.int .i64 0)], .agg [.lit (.int .i64 (-1)), .lit (.int .i64 1)], .agg [.lit (.int .i64 0), .lit (.int .i64 (-1))], .agg [.lit (.int .i64 0), .lit (.int .i64 1)], .agg [.lit (.int .i64 1), .lit (.int .i64 (-1))], .agg [.lit (.int .i64 1), .lit (.int .i64 0)]]

/-- 'laws.FnNearCells': WHATEVER THE INPUT: true; the input reads as it did. -/
def fnNearCellsSpec : ChangeSpec := { name := "fnNearCells", vars := ["loop.example/sidescross/impl.nearSteps"], fn := fun _ => fun
  | [d, g1] => { results := [.lit (.bool true)], args := [d], vars := [g1] }
  | _ => none }
def fnNearCellsRow : OpenClaim := { program := "ytaajbolfmhhdcaadoor", sum := "72aa087c2315f663d17874cf2af856002dd3e44dc70262df4bd2ecdd024f089d", func := "loop.example/sidescross/laws.FnNearCells", spec := "fnNearCells", named := ["loop.example/sidescross/impl.nearSteps"], apart := false, laid := [("loop.example/sidescross/impl.nearSteps", laid_loop_example_sidescross_impl_nearSteps)] }
def FnNearCellsSaid : Prop := fnNearCellsRow.holds Tryd.pinned (OpenSpec.ofChange fnNearCellsSpec)

/-- ITS FALSE NEIGHBOUR: 'it returns false'. Refute it at one input. -/
def fnNearCellsWrong : ChangeSpec := { name := "fnNearCells", vars := ["loop.example/sidescross/impl.nearSteps"], fn := fun _ => fun
  | [d, g1] => { results := [.lit (.bool false)], args := [d], vars := [g1] }
  | _ => none }
def FnNearCellsWrongFalsely : Prop := fnNearCellsRow.holds Tryd.pinned (OpenSpec.ofChange fnNearCellsWrong)

/-- 'laws.FnCellsFar': WHATEVER THE INPUT: true; the input reads as it did. -/
def fnCellsFarSpec : ChangeSpec := { name := "fnCellsFar", vars := ["loop.example/sidescross/impl.nearSteps"], fn := fun _ => fun
  | [d, g1] => { results := [.lit (.bool true)], args := [d], vars := [g1] }
  | _ => none }
def fnCellsFarRow : OpenClaim := { program := "ytaajbolfmhhdcaadoor", sum := "72aa087c2315f663d17874cf2af856002dd3e44dc70262df4bd2ecdd024f089d", func := "loop.example/sidescross/laws.FnCellsFar", spec := "fnCellsFar", named := ["loop.example/sidescross/impl.nearSteps"], apart := false, laid := [("loop.example/sidescross/impl.nearSteps", laid_loop_example_sidescross_impl_nearSteps)] }
def FnCellsFarSaid : Prop := fnCellsFarRow.holds Tryd.pinned (OpenSpec.ofChange fnCellsFarSpec)

/-- ITS FALSE NEIGHBOUR: 'it returns false'. Refute it at one input. -/
def fnCellsFarWrong : ChangeSpec := { name := "fnCellsFar", vars := ["loop.example/sidescross/impl.nearSteps"], fn := fun _ => fun
  | [d, g1] => { results := [.lit (.bool false)], args := [d], vars := [g1] }
  | _ => none }
def FnCellsFarWrongFalsely : Prop := fnCellsFarRow.holds Tryd.pinned (OpenSpec.ofChange fnCellsFarWrong)

/-- 'laws.FnNearCount': WHATEVER THE INPUT: true; the input reads as it did. -/
def fnNearCountSpec : ChangeSpec := { name := "fnNearCount", vars := ["loop.example/sidescross/impl.nearSteps"], fn := fun _ => fun
  | [d, g1] => { results := [.lit (.bool true)], args := [d], vars := [g1] }
  | _ => none }
def fnNearCountRow : OpenClaim := { program := "ytaajbolfmhhdcaadoor", sum := "72aa087c2315f663d17874cf2af856002dd3e44dc70262df4bd2ecdd024f089d", func := "loop.example/sidescross/laws.FnNearCount", spec := "fnNearCount", named := ["loop.example/sidescross/impl.nearSteps"], apart := false, laid := [("loop.example/sidescross/impl.nearSteps", laid_loop_example_sidescross_impl_nearSteps)] }
def FnNearCountSaid : Prop := fnNearCountRow.holds Tryd.pinned (OpenSpec.ofChange fnNearCountSpec)

/-- ITS FALSE NEIGHBOUR: 'it returns false'. Refute it at one input. -/
def fnNearCountWrong : ChangeSpec := { name := "fnNearCount", vars := ["loop.example/sidescross/impl.nearSteps"], fn := fun _ => fun
  | [d, g1] => { results := [.lit (.bool false)], args := [d], vars := [g1] }
  | _ => none }
def FnNearCountWrongFalsely : Prop := fnNearCountRow.holds Tryd.pinned (OpenSpec.ofChange fnNearCountWrong)

/-- 'laws.FnExactNearCells': WHATEVER THE INPUT: true; the input reads as it did. -/
def fnExactNearCellsSpec : ChangeSpec := { name := "fnExactNearCells", vars := ["loop.example/sidescross/impl.nearSteps"], fn := fun _ => fun
  | [d1, d2, d3, g1] => { results := [.lit (.bool true)], args := [d1, d2, d3], vars := [g1] }
  | _ => none }
def fnExactNearCellsRow : OpenClaim := { program := "ytaajbolfmhhdcaadoor", sum := "72aa087c2315f663d17874cf2af856002dd3e44dc70262df4bd2ecdd024f089d", func := "loop.example/sidescross/laws.FnExactNearCells", spec := "fnExactNearCells", named := ["loop.example/sidescross/impl.nearSteps"], apart := false, laid := [("loop.example/sidescross/impl.nearSteps", laid_loop_example_sidescross_impl_nearSteps)] }
def FnExactNearCellsSaid : Prop := fnExactNearCellsRow.holds Tryd.pinned (OpenSpec.ofChange fnExactNearCellsSpec)

/-- ITS FALSE NEIGHBOUR: 'it returns false'. Refute it at one input. -/
def fnExactNearCellsWrong : ChangeSpec := { name := "fnExactNearCells", vars := ["loop.example/sidescross/impl.nearSteps"], fn := fun _ => fun
  | [d1, d2, d3, g1] => { results := [.lit (.bool false)], args := [d1, d2, d3], vars := [g1] }
  | _ => none }
def FnExactNearCellsWrongFalsely : Prop := fnExactNearCellsRow.holds Tryd.pinned (OpenSpec.ofChange fnExactNearCellsWrong)

/-- 'laws.FnExactCellsFar': WHATEVER THE INPUT: true; the input reads as it did. -/
def fnExactCellsFarSpec : ChangeSpec := { name := "fnExactCellsFar", vars := ["loop.example/sidescross/impl.nearSteps"], fn := fun _ => fun
  | [d1, d2, d3, d4, g1] => { results := [.lit (.bool true)], args := [d1, d2, d3, d4], vars := [g1] }
  | _ => none }
def fnExactCellsFarRow : OpenClaim := { program := "ytaajbolfmhhdcaadoor", sum := "72aa087c2315f663d17874cf2af856002dd3e44dc70262df4bd2ecdd024f089d", func := "loop.example/sidescross/laws.FnExactCellsFar", spec := "fnExactCellsFar", named := ["loop.example/sidescross/impl.nearSteps"], apart := false, laid := [("loop.example/sidescross/impl.nearSteps", laid_loop_example_sidescross_impl_nearSteps)] }
def FnExactCellsFarSaid : Prop := fnExactCellsFarRow.holds Tryd.pinned (OpenSpec.ofChange fnExactCellsFarSpec)

/-- ITS FALSE NEIGHBOUR: 'it returns false'. Refute it at one input. -/
def fnExactCellsFarWrong : ChangeSpec := { name := "fnExactCellsFar", vars := ["loop.example/sidescross/impl.nearSteps"], fn := fun _ => fun
  | [d1, d2, d3, d4, g1] => { results := [.lit (.bool false)], args := [d1, d2, d3, d4], vars := [g1] }
  | _ => none }
def FnExactCellsFarWrongFalsely : Prop := fnExactCellsFarRow.holds Tryd.pinned (OpenSpec.ofChange fnExactCellsFarWrong)

/- THE SECOND FORM. 'bulk': how many values and letters a reading holds, each counted each time it is reached (what is shared counts as often as it is met; a slice's spare places count too). A statement '..UptoSaid' is the law's where the arguments, and the package variables that the reading takes, are together of bulk at most 1048576: NARROWER than '..Said'. Prove '..Said' where nothing that the law and all that it calls make is longer than what came in: it says more and counts as full. Else prove '..UptoSaid'. A law counts once. -/
mutual
def uptoBulk {H : Type} : DataW H → Nat
  | .lit (.string bytes) => bytes.length + 1
  | .lit _ => 1
  | .nil => 1
  | .ptr d => uptoBulk d + 1
  | .slice elems spare => uptoBulkAll elems + uptoBulkAll spare + 1
  | .agg parts => uptoBulkAll parts + 1
  | .iface _ d => uptoBulk d + 1
  | .map entries => uptoBulkEntries entries + 1
  | .held _ => 1
def uptoBulkAll {H : Type} : List (DataW H) → Nat
  | [] => 0
  | d :: r => uptoBulk d + uptoBulkAll r
def uptoBulkEntries {H : Type} : List (Lit × DataW H) → Nat
  | [] => 0
  | x :: r => uptoBulkEntry x + uptoBulkEntries r
def uptoBulkEntry {H : Type} : Lit × DataW H → Nat
  | (.string bytes, d) => bytes.length + uptoBulk d + 1
  | (_, d) => uptoBulk d + 1
 end
def uptoSmall : (H : Type) → List (DataW H) → Bool := fun _ ds => decide (uptoBulkAll ds ≤ 1048576)
def OpenSpec.upto (s : _root_.Go.ChangeSpec) : _root_.Go.OpenSpec := { _root_.Go.OpenSpec.ofChange s with cond := some uptoSmall }

/-- 'laws.FnNearCells', WHERE WHAT IT READS IS OF BULK AT MOST 1048576: true; the input reads as it did. -/
def fnNearCellsUptoRow : OpenClaim := { program := "ytaajbolfmhhdcaadoor", sum := "72aa087c2315f663d17874cf2af856002dd3e44dc70262df4bd2ecdd024f089d", func := "loop.example/sidescross/laws.FnNearCells", spec := "fnNearCells", named := ["loop.example/sidescross/impl.nearSteps"], apart := false, laid := [("loop.example/sidescross/impl.nearSteps", laid_loop_example_sidescross_impl_nearSteps)], narrowed := true }
def FnNearCellsUptoSaid : Prop := fnNearCellsUptoRow.holds Tryd.pinned (OpenSpec.upto fnNearCellsSpec)

/-- 'laws.FnCellsFar', WHERE WHAT IT READS IS OF BULK AT MOST 1048576: true; the input reads as it did. -/
def fnCellsFarUptoRow : OpenClaim := { program := "ytaajbolfmhhdcaadoor", sum := "72aa087c2315f663d17874cf2af856002dd3e44dc70262df4bd2ecdd024f089d", func := "loop.example/sidescross/laws.FnCellsFar", spec := "fnCellsFar", named := ["loop.example/sidescross/impl.nearSteps"], apart := false, laid := [("loop.example/sidescross/impl.nearSteps", laid_loop_example_sidescross_impl_nearSteps)], narrowed := true }
def FnCellsFarUptoSaid : Prop := fnCellsFarUptoRow.holds Tryd.pinned (OpenSpec.upto fnCellsFarSpec)

/-- 'laws.FnNearCount', WHERE WHAT IT READS IS OF BULK AT MOST 1048576: true; the input reads as it did. -/
def fnNearCountUptoRow : OpenClaim := { program := "ytaajbolfmhhdcaadoor", sum := "72aa087c2315f663d17874cf2af856002dd3e44dc70262df4bd2ecdd024f089d", func := "loop.example/sidescross/laws.FnNearCount", spec := "fnNearCount", named := ["loop.example/sidescross/impl.nearSteps"], apart := false, laid := [("loop.example/sidescross/impl.nearSteps", laid_loop_example_sidescross_impl_nearSteps)], narrowed := true }
def FnNearCountUptoSaid : Prop := fnNearCountUptoRow.holds Tryd.pinned (OpenSpec.upto fnNearCountSpec)

/-- 'laws.FnExactNearCells', WHERE WHAT IT READS IS OF BULK AT MOST 1048576: true; the input reads as it did. -/
def fnExactNearCellsUptoRow : OpenClaim := { program := "ytaajbolfmhhdcaadoor", sum := "72aa087c2315f663d17874cf2af856002dd3e44dc70262df4bd2ecdd024f089d", func := "loop.example/sidescross/laws.FnExactNearCells", spec := "fnExactNearCells", named := ["loop.example/sidescross/impl.nearSteps"], apart := false, laid := [("loop.example/sidescross/impl.nearSteps", laid_loop_example_sidescross_impl_nearSteps)], narrowed := true }
def FnExactNearCellsUptoSaid : Prop := fnExactNearCellsUptoRow.holds Tryd.pinned (OpenSpec.upto fnExactNearCellsSpec)

/-- 'laws.FnExactCellsFar', WHERE WHAT IT READS IS OF BULK AT MOST 1048576: true; the input reads as it did. -/
def fnExactCellsFarUptoRow : OpenClaim := { program := "ytaajbolfmhhdcaadoor", sum := "72aa087c2315f663d17874cf2af856002dd3e44dc70262df4bd2ecdd024f089d", func := "loop.example/sidescross/laws.FnExactCellsFar", spec := "fnExactCellsFar", named := ["loop.example/sidescross/impl.nearSteps"], apart := false, laid := [("loop.example/sidescross/impl.nearSteps", laid_loop_example_sidescross_impl_nearSteps)], narrowed := true }
def FnExactCellsFarUptoSaid : Prop := fnExactCellsFarUptoRow.holds Tryd.pinned (OpenSpec.upto fnExactCellsFarSpec)

end Rows
end Go.Proofs.YtaajbolfmhhdcaaDoor
