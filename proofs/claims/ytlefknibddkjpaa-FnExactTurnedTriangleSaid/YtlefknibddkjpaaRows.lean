/-
  No cell of these rows narrows 'for every input' (looked for: loops, veiled, ifaces, maps, wideKeys, modest, calm, conditions, laid).
  DERIVED. THE GIVEN ROWS OF THIS SEAT. 6 by the template 'for every input the law returns true; each argument reads behind the call as it read before'; 0 by the template 'total and deterministic' (their statements: YtlefknibddkjpaaTotals.lean).
  GIVEN WITH THE SEED: the statements are not yours to turn. If you find one false, say at which input.
  Laid BY PROGRAM, IN A SANDBOX (cutbox-rows.mjs): the forced cells as the released guide's own fill.sh prints them over the translation 749fc356acaa44bf… (all of the seat's roots in one cut). By AI agents, Wed Nov 11 2026. No macro, syntax, notation, axiom, sorry.
-/
import Derived.Test.YtlefknibddkjpaaChecked
import GoSem.Claim
import GoSem.ClaimJoined
import GoSem.ClaimMapViews
import Derived.JoinedTies
import Derived.KernelRfl
namespace Go.Proofs.Ytlefknibddkjpaa
/- THE CELL 'sum', in the pinned program and in every row, IS THE sha256 OF THE DUMP (.gsa) THAT YtlefknibddkjpaaProg.lean LOADS. Nothing in Lean hashes anything: it is a label: what it is worth is what the hold of that sum in a sandbox is worth. -/
noncomputable def Try.pinned : Pinned := { name := "ytlefknibddkjpaa", sum := "749fc356acaa44bf6cacfe27b247f030f6f1382dcc1c53a506ccf1d281595d46", checked := Try.checked }
namespace Rows
def none {H : Type} : Left H := { results := [], args := [] }

/-- 'laws.FnTriangleOk': WHATEVER THE INPUT: true; the input reads as it did. -/
def fnTriangleOkSpec : ChangeSpec := { name := "fnTriangleOk", fn := fun _ => fun
  | [d] => { results := [.lit (.bool true)], args := [d] }
  | _ => none }
def fnTriangleOkRow : OpenClaim := { program := "ytlefknibddkjpaa", sum := "749fc356acaa44bf6cacfe27b247f030f6f1382dcc1c53a506ccf1d281595d46", func := "loop.example/sidescross/laws.FnTriangleOk", spec := "fnTriangleOk", apart := false }
def FnTriangleOkSaid : Prop := fnTriangleOkRow.holds Try.pinned (OpenSpec.ofChange fnTriangleOkSpec)

/-- ITS FALSE NEIGHBOUR: 'it returns false'. Refute it at one input. -/
def fnTriangleOkWrong : ChangeSpec := { name := "fnTriangleOk", fn := fun _ => fun
  | [d] => { results := [.lit (.bool false)], args := [d] }
  | _ => none }
def FnTriangleOkWrongFalsely : Prop := fnTriangleOkRow.holds Try.pinned (OpenSpec.ofChange fnTriangleOkWrong)

/-- 'laws.FnTurnedTriangle': WHATEVER THE INPUT: true; the input reads as it did. -/
def fnTurnedTriangleSpec : ChangeSpec := { name := "fnTurnedTriangle", fn := fun _ => fun
  | [d] => { results := [.lit (.bool true)], args := [d] }
  | _ => none }
def fnTurnedTriangleRow : OpenClaim := { program := "ytlefknibddkjpaa", sum := "749fc356acaa44bf6cacfe27b247f030f6f1382dcc1c53a506ccf1d281595d46", func := "loop.example/sidescross/laws.FnTurnedTriangle", spec := "fnTurnedTriangle", apart := false }
def FnTurnedTriangleSaid : Prop := fnTurnedTriangleRow.holds Try.pinned (OpenSpec.ofChange fnTurnedTriangleSpec)

/-- ITS FALSE NEIGHBOUR: 'it returns false'. Refute it at one input. -/
def fnTurnedTriangleWrong : ChangeSpec := { name := "fnTurnedTriangle", fn := fun _ => fun
  | [d] => { results := [.lit (.bool false)], args := [d] }
  | _ => none }
def FnTurnedTriangleWrongFalsely : Prop := fnTurnedTriangleRow.holds Try.pinned (OpenSpec.ofChange fnTurnedTriangleWrong)

/-- 'laws.FnExactTriangleOk': WHATEVER THE INPUT: true; the input reads as it did. -/
def fnExactTriangleOkSpec : ChangeSpec := { name := "fnExactTriangleOk", fn := fun _ => fun
  | [d1, d2] => { results := [.lit (.bool true)], args := [d1, d2] }
  | _ => none }
def fnExactTriangleOkRow : OpenClaim := { program := "ytlefknibddkjpaa", sum := "749fc356acaa44bf6cacfe27b247f030f6f1382dcc1c53a506ccf1d281595d46", func := "loop.example/sidescross/laws.FnExactTriangleOk", spec := "fnExactTriangleOk", apart := false }
def FnExactTriangleOkSaid : Prop := fnExactTriangleOkRow.holds Try.pinned (OpenSpec.ofChange fnExactTriangleOkSpec)

/-- ITS FALSE NEIGHBOUR: 'it returns false'. Refute it at one input. -/
def fnExactTriangleOkWrong : ChangeSpec := { name := "fnExactTriangleOk", fn := fun _ => fun
  | [d1, d2] => { results := [.lit (.bool false)], args := [d1, d2] }
  | _ => none }
def FnExactTriangleOkWrongFalsely : Prop := fnExactTriangleOkRow.holds Try.pinned (OpenSpec.ofChange fnExactTriangleOkWrong)

/-- 'laws.FnExactShrunk': WHATEVER THE INPUT: true; the input reads as it did. -/
def fnExactShrunkSpec : ChangeSpec := { name := "fnExactShrunk", fn := fun _ => fun
  | [d1, d2] => { results := [.lit (.bool true)], args := [d1, d2] }
  | _ => none }
def fnExactShrunkRow : OpenClaim := { program := "ytlefknibddkjpaa", sum := "749fc356acaa44bf6cacfe27b247f030f6f1382dcc1c53a506ccf1d281595d46", func := "loop.example/sidescross/laws.FnExactShrunk", spec := "fnExactShrunk", apart := false }
def FnExactShrunkSaid : Prop := fnExactShrunkRow.holds Try.pinned (OpenSpec.ofChange fnExactShrunkSpec)

/-- ITS FALSE NEIGHBOUR: 'it returns false'. Refute it at one input. -/
def fnExactShrunkWrong : ChangeSpec := { name := "fnExactShrunk", fn := fun _ => fun
  | [d1, d2] => { results := [.lit (.bool false)], args := [d1, d2] }
  | _ => none }
def FnExactShrunkWrongFalsely : Prop := fnExactShrunkRow.holds Try.pinned (OpenSpec.ofChange fnExactShrunkWrong)

/-- 'laws.FnExactLastCell': WHATEVER THE INPUT: true; the input reads as it did. -/
def fnExactLastCellSpec : ChangeSpec := { name := "fnExactLastCell", fn := fun _ => fun
  | [d1, d2] => { results := [.lit (.bool true)], args := [d1, d2] }
  | _ => none }
def fnExactLastCellRow : OpenClaim := { program := "ytlefknibddkjpaa", sum := "749fc356acaa44bf6cacfe27b247f030f6f1382dcc1c53a506ccf1d281595d46", func := "loop.example/sidescross/laws.FnExactLastCell", spec := "fnExactLastCell", apart := false }
def FnExactLastCellSaid : Prop := fnExactLastCellRow.holds Try.pinned (OpenSpec.ofChange fnExactLastCellSpec)

/-- ITS FALSE NEIGHBOUR: 'it returns false'. Refute it at one input. -/
def fnExactLastCellWrong : ChangeSpec := { name := "fnExactLastCell", fn := fun _ => fun
  | [d1, d2] => { results := [.lit (.bool false)], args := [d1, d2] }
  | _ => none }
def FnExactLastCellWrongFalsely : Prop := fnExactLastCellRow.holds Try.pinned (OpenSpec.ofChange fnExactLastCellWrong)

/-- 'laws.FnExactTurnedTriangle': WHATEVER THE INPUT: true; the input reads as it did. -/
def fnExactTurnedTriangleSpec : ChangeSpec := { name := "fnExactTurnedTriangle", fn := fun _ => fun
  | [d1, d2] => { results := [.lit (.bool true)], args := [d1, d2] }
  | _ => none }
def fnExactTurnedTriangleRow : OpenClaim := { program := "ytlefknibddkjpaa", sum := "749fc356acaa44bf6cacfe27b247f030f6f1382dcc1c53a506ccf1d281595d46", func := "loop.example/sidescross/laws.FnExactTurnedTriangle", spec := "fnExactTurnedTriangle", apart := false }
def FnExactTurnedTriangleSaid : Prop := fnExactTurnedTriangleRow.holds Try.pinned (OpenSpec.ofChange fnExactTurnedTriangleSpec)

/-- ITS FALSE NEIGHBOUR: 'it returns false'. Refute it at one input. -/
def fnExactTurnedTriangleWrong : ChangeSpec := { name := "fnExactTurnedTriangle", fn := fun _ => fun
  | [d1, d2] => { results := [.lit (.bool false)], args := [d1, d2] }
  | _ => none }
def FnExactTurnedTriangleWrongFalsely : Prop := fnExactTurnedTriangleRow.holds Try.pinned (OpenSpec.ofChange fnExactTurnedTriangleWrong)

/- THE SECOND FORM. 'bulk': how many values and letters a reading holds, each counted each time it is reached (what is shared counts as often as it is met; a slice's spare places count too). A statement '..UptoSaid' is the law's where the arguments, and the package variables that the reading takes, are together of bulk at most 1048576: NARROWER than '..Said'. Prove '..Said' where nothing that the law and all that it calls make is longer than what came in: it says more and counts as full. Else prove '..UptoSaid'. A law counts once. -/
mutual
def uptoBulk {H : Type} : DataW H → Nat
  | .lit (.string bytes) => bytes.length + 1
  | .lit _ => 1
  | .nil => 1
  | .ptr d => uptoBulk d + 1
  | .slice elems spare => uptoBulkAll elems + uptoBulkAll spare + 1
  | .agg parts => uptoBulkAll parts + 1
  | .iface _ d => uptoBulk d + 1
  | .map entries => uptoBulkEntries entries + 1
  | .held _ => 1
def uptoBulkAll {H : Type} : List (DataW H) → Nat
  | [] => 0
  | d :: r => uptoBulk d + uptoBulkAll r
def uptoBulkEntries {H : Type} : List (Lit × DataW H) → Nat
  | [] => 0
  | x :: r => uptoBulkEntry x + uptoBulkEntries r
def uptoBulkEntry {H : Type} : Lit × DataW H → Nat
  | (.string bytes, d) => bytes.length + uptoBulk d + 1
  | (_, d) => uptoBulk d + 1
 end
def uptoSmall : (H : Type) → List (DataW H) → Bool := fun _ ds => decide (uptoBulkAll ds ≤ 1048576)
def OpenSpec.upto (s : _root_.Go.ChangeSpec) : _root_.Go.OpenSpec := { _root_.Go.OpenSpec.ofChange s with cond := some uptoSmall }

/-- 'laws.FnTriangleOk', WHERE WHAT IT READS IS OF BULK AT MOST 1048576: true; the input reads as it did. -/
def fnTriangleOkUptoRow : OpenClaim := { program := "ytlefknibddkjpaa", sum := "749fc356acaa44bf6cacfe27b247f030f6f1382dcc1c53a506ccf1d281595d46", func := "loop.example/sidescross/laws.FnTriangleOk", spec := "fnTriangleOk", apart := false, narrowed := true }
def FnTriangleOkUptoSaid : Prop := fnTriangleOkUptoRow.holds Try.pinned (OpenSpec.upto fnTriangleOkSpec)

/-- 'laws.FnTurnedTriangle', WHERE WHAT IT READS IS OF BULK AT MOST 1048576: true; the input reads as it did. -/
def fnTurnedTriangleUptoRow : OpenClaim := { program := "ytlefknibddkjpaa", sum := "749fc356acaa44bf6cacfe27b247f030f6f1382dcc1c53a506ccf1d281595d46", func := "loop.example/sidescross/laws.FnTurnedTriangle", spec := "fnTurnedTriangle", apart := false, narrowed := true }
def FnTurnedTriangleUptoSaid : Prop := fnTurnedTriangleUptoRow.holds Try.pinned (OpenSpec.upto fnTurnedTriangleSpec)

/-- 'laws.FnExactTriangleOk', WHERE WHAT IT READS IS OF BULK AT MOST 1048576: true; the input reads as it did. -/
def fnExactTriangleOkUptoRow : OpenClaim := { program := "ytlefknibddkjpaa", sum := "749fc356acaa44bf6cacfe27b247f030f6f1382dcc1c53a506ccf1d281595d46", func := "loop.example/sidescross/laws.FnExactTriangleOk", spec := "fnExactTriangleOk", apart := false, narrowed := true }
def FnExactTriangleOkUptoSaid : Prop := fnExactTriangleOkUptoRow.holds Try.pinned (OpenSpec.upto fnExactTriangleOkSpec)

/-- 'laws.FnExactShrunk', WHERE WHAT IT READS IS OF BULK AT MOST 1048576: true; the input reads as it did. -/
def fnExactShrunkUptoRow : OpenClaim := { program := "ytlefknibddkjpaa", sum := "749fc356acaa44bf6cacfe27b247f030f6f1382dcc1c53a506ccf1d281595d46", func := "loop.example/sidescross/laws.FnExactShrunk", spec := "fnExactShrunk", apart := false, narrowed := true }
def FnExactShrunkUptoSaid : Prop := fnExactShrunkUptoRow.holds Try.pinned (OpenSpec.upto fnExactShrunkSpec)

/-- 'laws.FnExactLastCell', WHERE WHAT IT READS IS OF BULK AT MOST 1048576: true; the input reads as it did. -/
def fnExactLastCellUptoRow : OpenClaim := { program := "ytlefknibddkjpaa", sum := "749fc356acaa44bf6cacfe27b247f030f6f1382dcc1c53a506ccf1d281595d46", func := "loop.example/sidescross/laws.FnExactLastCell", spec := "fnExactLastCell", apart := false, narrowed := true }
def FnExactLastCellUptoSaid : Prop := fnExactLastCellUptoRow.holds Try.pinned (OpenSpec.upto fnExactLastCellSpec)

/-- 'laws.FnExactTurnedTriangle', WHERE WHAT IT READS IS OF BULK AT MOST 1048576: true; the input reads as it did. -/
def fnExactTurnedTriangleUptoRow : OpenClaim := { program := "ytlefknibddkjpaa", sum := "749fc356acaa44bf6cacfe27b247f030f6f1382dcc1c53a506ccf1d281595d46", func := "loop.example/sidescross/laws.FnExactTurnedTriangle", spec := "fnExactTurnedTriangle", apart := false, narrowed := true }
def FnExactTurnedTriangleUptoSaid : Prop := fnExactTurnedTriangleUptoRow.holds Try.pinned (OpenSpec.upto fnExactTurnedTriangleSpec)

end Rows
end Go.Proofs.Ytlefknibddkjpaa
