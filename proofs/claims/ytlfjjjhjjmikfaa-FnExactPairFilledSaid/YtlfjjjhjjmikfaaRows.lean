/-
  No cell of these rows narrows 'for every input' (looked for: loops, veiled, ifaces, maps, wideKeys, modest, calm, conditions, laid).
  DERIVED. THE GIVEN ROWS OF THIS SEAT. 3 by the template 'for every input the law returns true; each argument reads behind the call as it read before'; 0 by the template 'total and deterministic' (their statements: YtlfjjjhjjmikfaaTotals.lean).
  GIVEN WITH THE SEED: the statements are not yours to turn. If you find one false, say at which input.
  Laid BY PROGRAM, IN A SANDBOX (cutbox-rows.mjs): the forced cells as the released guide's own fill.sh prints them over the translation 7300e65691ac2a60… (all of the seat's roots in one cut). By AI agents, Wed Nov 11 2026. No macro, syntax, notation, axiom, sorry.
-/
import Derived.Test.YtlfjjjhjjmikfaaChecked
import GoSem.Claim
import GoSem.ClaimJoined
import GoSem.ClaimMapViews
import Derived.JoinedTies
import Derived.KernelRfl
namespace Go.Proofs.Ytlfjjjhjjmikfaa
/- THE CELL 'sum', in the pinned program and in every row, IS THE sha256 OF THE DUMP (.gsa) THAT YtlfjjjhjjmikfaaProg.lean LOADS. Nothing in Lean hashes anything: it is a label: what it is worth is what the hold of that sum in a sandbox is worth. -/
noncomputable def Try.pinned : Pinned := { name := "ytlfjjjhjjmikfaa", sum := "7300e65691ac2a6014e07950fec3a3227400ae8a571f99a737191b14efa0cf4d", checked := Try.checked }
namespace Rows
def none {H : Type} : Left H := { results := [], args := [] }

/-- 'laws.FnPairCell': WHATEVER THE INPUT: true; the input reads as it did. -/
def fnPairCellSpec : ChangeSpec := { name := "fnPairCell", fn := fun _ => fun
  | [d] => { results := [.lit (.bool true)], args := [d] }
  | _ => none }
def fnPairCellRow : OpenClaim := { program := "ytlfjjjhjjmikfaa", sum := "7300e65691ac2a6014e07950fec3a3227400ae8a571f99a737191b14efa0cf4d", func := "loop.example/sidescross/laws.FnPairCell", spec := "fnPairCell", apart := false }
def FnPairCellSaid : Prop := fnPairCellRow.holds Try.pinned (OpenSpec.ofChange fnPairCellSpec)

/-- ITS FALSE NEIGHBOUR: 'it returns false'. Refute it at one input. -/
def fnPairCellWrong : ChangeSpec := { name := "fnPairCell", fn := fun _ => fun
  | [d] => { results := [.lit (.bool false)], args := [d] }
  | _ => none }
def FnPairCellWrongFalsely : Prop := fnPairCellRow.holds Try.pinned (OpenSpec.ofChange fnPairCellWrong)

/-- 'laws.FnExactPairCell': WHATEVER THE INPUT: true; the input reads as it did. -/
def fnExactPairCellSpec : ChangeSpec := { name := "fnExactPairCell", fn := fun _ => fun
  | [d1, d2, d3] => { results := [.lit (.bool true)], args := [d1, d2, d3] }
  | _ => none }
def fnExactPairCellRow : OpenClaim := { program := "ytlfjjjhjjmikfaa", sum := "7300e65691ac2a6014e07950fec3a3227400ae8a571f99a737191b14efa0cf4d", func := "loop.example/sidescross/laws.FnExactPairCell", spec := "fnExactPairCell", apart := false }
def FnExactPairCellSaid : Prop := fnExactPairCellRow.holds Try.pinned (OpenSpec.ofChange fnExactPairCellSpec)

/-- ITS FALSE NEIGHBOUR: 'it returns false'. Refute it at one input. -/
def fnExactPairCellWrong : ChangeSpec := { name := "fnExactPairCell", fn := fun _ => fun
  | [d1, d2, d3] => { results := [.lit (.bool false)], args := [d1, d2, d3] }
  | _ => none }
def FnExactPairCellWrongFalsely : Prop := fnExactPairCellRow.holds Try.pinned (OpenSpec.ofChange fnExactPairCellWrong)

/-- 'laws.FnExactPairFilled': WHATEVER THE INPUT: true; the input reads as it did. -/
def fnExactPairFilledSpec : ChangeSpec := { name := "fnExactPairFilled", fn := fun _ => fun
  | [d1, d2, d3] => { results := [.lit (.bool true)], args := [d1, d2, d3] }
  | _ => none }
def fnExactPairFilledRow : OpenClaim := { program := "ytlfjjjhjjmikfaa", sum := "7300e65691ac2a6014e07950fec3a3227400ae8a571f99a737191b14efa0cf4d", func := "loop.example/sidescross/laws.FnExactPairFilled", spec := "fnExactPairFilled", apart := false }
def FnExactPairFilledSaid : Prop := fnExactPairFilledRow.holds Try.pinned (OpenSpec.ofChange fnExactPairFilledSpec)

/-- ITS FALSE NEIGHBOUR: 'it returns false'. Refute it at one input. -/
def fnExactPairFilledWrong : ChangeSpec := { name := "fnExactPairFilled", fn := fun _ => fun
  | [d1, d2, d3] => { results := [.lit (.bool false)], args := [d1, d2, d3] }
  | _ => none }
def FnExactPairFilledWrongFalsely : Prop := fnExactPairFilledRow.holds Try.pinned (OpenSpec.ofChange fnExactPairFilledWrong)

/- THE SECOND FORM. 'bulk': how many values and letters a reading holds, each counted each time it is reached (what is shared counts as often as it is met; a slice's spare places count too). A statement '..UptoSaid' is the law's where the arguments, and the package variables that the reading takes, are together of bulk at most 1048576: NARROWER than '..Said'. Prove '..Said' where nothing that the law and all that it calls make is longer than what came in: it says more and counts as full. Else prove '..UptoSaid'. A law counts once. -/
mutual
def uptoBulk {H : Type} : DataW H → Nat
  | .lit (.string bytes) => bytes.length + 1
  | .lit _ => 1
  | .nil => 1
  | .ptr d => uptoBulk d + 1
  | .slice elems spare => uptoBulkAll elems + uptoBulkAll spare + 1
  | .agg parts => uptoBulkAll parts + 1
  | .iface _ d => uptoBulk d + 1
  | .map entries => uptoBulkEntries entries + 1
  | .held _ => 1
def uptoBulkAll {H : Type} : List (DataW H) → Nat
  | [] => 0
  | d :: r => uptoBulk d + uptoBulkAll r
def uptoBulkEntries {H : Type} : List (Lit × DataW H) → Nat
  | [] => 0
  | x :: r => uptoBulkEntry x + uptoBulkEntries r
def uptoBulkEntry {H : Type} : Lit × DataW H → Nat
  | (.string bytes, d) => bytes.length + uptoBulk d + 1
  | (_, d) => uptoBulk d + 1
 end
def uptoSmall : (H : Type) → List (DataW H) → Bool := fun _ ds => decide (uptoBulkAll ds ≤ 1048576)
def OpenSpec.upto (s : _root_.Go.ChangeSpec) : _root_.Go.OpenSpec := { _root_.Go.OpenSpec.ofChange s with cond := some uptoSmall }

/-- 'laws.FnPairCell', WHERE WHAT IT READS IS OF BULK AT MOST 1048576: true; the input reads as it did. -/
def fnPairCellUptoRow : OpenClaim := { program := "ytlfjjjhjjmikfaa", sum := "7300e65691ac2a6014e07950fec3a3227400ae8a571f99a737191b14efa0cf4d", func := "loop.example/sidescross/laws.FnPairCell", spec := "fnPairCell", apart := false, narrowed := true }
def FnPairCellUptoSaid : Prop := fnPairCellUptoRow.holds Try.pinned (OpenSpec.upto fnPairCellSpec)

/-- 'laws.FnExactPairCell', WHERE WHAT IT READS IS OF BULK AT MOST 1048576: true; the input reads as it did. -/
def fnExactPairCellUptoRow : OpenClaim := { program := "ytlfjjjhjjmikfaa", sum := "7300e65691ac2a6014e07950fec3a3227400ae8a571f99a737191b14efa0cf4d", func := "loop.example/sidescross/laws.FnExactPairCell", spec := "fnExactPairCell", apart := false, narrowed := true }
def FnExactPairCellUptoSaid : Prop := fnExactPairCellUptoRow.holds Try.pinned (OpenSpec.upto fnExactPairCellSpec)

/-- 'laws.FnExactPairFilled', WHERE WHAT IT READS IS OF BULK AT MOST 1048576: true; the input reads as it did. -/
def fnExactPairFilledUptoRow : OpenClaim := { program := "ytlfjjjhjjmikfaa", sum := "7300e65691ac2a6014e07950fec3a3227400ae8a571f99a737191b14efa0cf4d", func := "loop.example/sidescross/laws.FnExactPairFilled", spec := "fnExactPairFilled", apart := false, narrowed := true }
def FnExactPairFilledUptoSaid : Prop := fnExactPairFilledUptoRow.holds Try.pinned (OpenSpec.upto fnExactPairFilledSpec)

end Rows
end Go.Proofs.Ytlfjjjhjjmikfaa
