/- Texts of this seat, in their order, put together by program. -/
import Derived.Test.YtbmmcldbllhhhacDoorJ6
import Derived.Test.YtbmmcldbllhhhacDoorProg
import Derived.KernelRfl
set_option linter.unusedSimpArgs false
set_option linter.unusedVariables false
set_option linter.unusedSectionVars false
/- Of each function of this seat's program its plain form over the interpreter, written by program; each equation is the kernel's. -/
set_option linter.unusedVariables false
set_option maxRecDepth 100000
namespace Go.Proofs.YtbmmcldbllhhhacDoor.G
open Go Go.Ip Go.Proofs

def fn_laws_FnExactTreePair : Nat := 3
def fn_laws_FnExactPairOn : Nat := 4
def fn_laws_FnExactPairSomewhere : Nat := 5
def fn_laws_FnExactTreeReply : Nat := 6
def fn_laws_FnExactTreesThrough : Nat := 7
def fn_laws_szWireS : Nat := 8
def fn_spec_TreePair : Nat := 9
def fn_laws_toWireS : Nat := 10
def fn_impl_TreePair : Nat := 11
def fn_laws_eqWireS : Nat := 12
def fn_spec_PairOn : Nat := 13
def fn_impl_PairOn : Nat := 14
def fn_spec_PairSomewhere : Nat := 15
def fn_impl_PairSomewhere : Nat := 16
def fn_spec_TreeReply : Nat := 17
def fn_impl_TreeReply : Nat := 18
def fn_spec_TreesThrough : Nat := 19
def fn_impl_TreesThrough : Nat := 20
def fn_spec_WiresOk : Nat := 21
def fn_spec_l10Pair : Nat := 22
def fn_laws_toWire : Nat := 23
def fn_impl_pairAmong : Nat := 24
def fn_impl_TreesOf : Nat := 25
def fn_laws_eqWire : Nat := 26
def fn_spec_l1In : Nat := 27
def fn_impl_WiresOk : Nat := 28
def fn_impl_allNodes : Nat := 29
def fn_impl_treesOn : Nat := 30
def fn_impl_partsOf : Nat := 31
def fn_spec_TreeOk : Nat := 32
def fn_spec_l10Tree : Nat := 33
def fn_impl_TreeOk : Nat := 34
def fn_impl_wireOk : Nat := 35
def fn_impl_hasWire : Nat := 36
def fn_spec_TreesOf : Nat := 37
def fn_impl_nodeOk : Nat := 38
def fn_impl_allWires : Nat := 39
def fn_impl_treeOn : Nat := 40
def fn_spec_l6Size : Nat := 41
def fn_spec_l9Reach : Nat := 42
def fn_impl_wireSetOk : Nat := 43
def fn_impl_countIn : Nat := 44
def fn_impl_nodesReached : Nat := 45
def fn_spec_l2List : Nat := 46
def fn_bits_OnesCount : Nat := 47
def fn_impl_nodesBeside : Nat := 48
def fn_bits_OnesCount64 : Nat := 50
def fn_impl_leastIn : Nat := 51
def fn_bits_TrailingZeros : Nat := 52
def fn_bits_TrailingZeros32 : Nat := 53
def fn_bits_TrailingZeros64 : Nat := 54
def laws_FnExactTreePair.kl : Nat → List Nat := fun n => match n with
  | 0 => [2, 3, 4, 5, 6, 7, 8, 9, 10, 11, 12, 13, 14, 15, 16, 17, 18, 19, 20, 21, 22, 23, 24, 25, 26, 27, 28, 29, 30, 31, 32, 33, 34, 35, 36, 37, 38, 39, 40, 41, 42, 43, 44, 45, 46, 47, 48, 49, 50, 51, 52]
  | 4 => [13, 14, 15]
  | 6 => [5, 16]
  | 8 => [0, 1, 17]
  | 10 => [17, 18, 19, 20, 21, 22, 23, 24, 25]
  | 12 => [26, 27]
  | 14 => [0, 28, 29, 30, 31, 32, 33, 34]
  | 16 => [6, 7, 8, 10, 11, 12, 35, 36, 37, 38, 39, 40, 41, 42, 43, 44, 45, 46]
  | 18 => [1, 9, 47]
  | 20 => [1, 9, 47, 48, 49, 50, 51]
  | 22 => [52]
  | 24 => [52]
  | _ => []
def laws_FnExactPairOn.kl : Nat → List Nat := fun n => match n with
  | 0 => [3, 4, 5, 6, 7, 8, 9, 10, 11, 12, 13, 14, 15, 16, 17, 18, 19, 20, 21, 22, 23, 24, 25, 26, 27, 28, 29, 30, 31, 32, 33, 34]
  | 4 => [11, 12, 13]
  | 6 => [7, 14]
  | 8 => [0, 1, 2, 15]
  | 10 => [15, 16, 17, 18, 19, 20]
  | 12 => [21, 22]
  | 14 => [0, 2, 23, 24, 25, 26]
  | 16 => [8, 10, 27, 28]
  | 18 => [1, 9, 29]
  | 20 => [1, 9, 29, 30, 31, 32, 33]
  | 22 => [34]
  | 24 => [34]
  | _ => []
def laws_FnExactPairSomewhere.kl : Nat → List Nat := fun n => match n with
  | 0 => [2, 3, 4, 5, 6, 7, 8, 9, 10, 11, 12, 13, 14, 15, 16, 17, 18, 19, 20, 21, 22, 23, 24, 25, 26, 27, 28, 29, 30]
  | 4 => [9, 10, 11]
  | 6 => [5, 12]
  | 8 => [0, 1, 13]
  | 10 => [13, 14, 15, 16, 17]
  | 12 => [18, 19]
  | 14 => [0, 20, 21, 22]
  | 16 => [6, 8, 23, 24]
  | 18 => [1, 7, 25]
  | 20 => [1, 7, 25, 26, 27, 28, 29]
  | 22 => [30]
  | 24 => [30]
  | _ => []
def laws_FnExactTreeReply.kl : Nat → List Nat := fun n => match n with
  | 0 => [5, 6, 7, 8, 9, 10, 11, 12, 13, 14, 15, 16, 17, 18, 19, 20, 21, 22, 23, 24, 25, 26, 27, 28, 29, 30, 31, 32, 33, 34, 35, 36, 37, 38, 39, 40, 41, 42]
  | 4 => [15, 16, 17]
  | 6 => [11, 18]
  | 8 => [0, 1, 2, 3, 4, 19]
  | 10 => [19, 20, 21, 22, 23, 24, 25, 26]
  | 12 => [27, 28]
  | 14 => [0, 2, 3, 4, 29, 30, 31, 32, 33, 34]
  | 16 => [12, 14, 35, 36]
  | 18 => [1, 13, 37]
  | 20 => [1, 13, 37, 38, 39, 40, 41]
  | 22 => [42]
  | 24 => [42]
  | _ => []
def laws_FnExactTreesThrough.kl : Nat → List Nat := fun n => match n with
  | 0 => [3, 4, 5, 6, 7, 8, 9, 10, 11, 12, 13, 14, 15, 16, 17, 18, 19, 20, 21, 22, 23, 24, 25, 26, 27, 28, 29, 30, 31, 32, 33, 34]
  | 4 => [11, 12, 13]
  | 6 => [7, 14]
  | 8 => [0, 1, 2, 15]
  | 10 => [15, 16, 17, 18, 19, 20]
  | 12 => [21, 22]
  | 14 => [0, 2, 23, 24, 25, 26]
  | 16 => [8, 10, 27, 28]
  | 18 => [1, 9, 29]
  | 20 => [1, 9, 29, 30, 31, 32, 33]
  | 22 => [34]
  | 24 => [34]
  | _ => []
def laws_szWireS.kl : Nat → List Nat := fun n => match n with
  | 0 => [2, 3, 4, 5, 6, 7, 8, 9, 10, 11]
  | 2 => [0, 5, 6, 7, 8]
  | 4 => [9]
  | 6 => [1, 10]
  | 8 => [1, 10, 11]
  | _ => []
def spec_TreePair.kl : Nat → List Nat := fun n => match n with
  | 0 => [2, 3, 4, 5, 6, 7, 8, 9, 10, 11, 12, 13, 14, 15, 16, 17, 18]
  | 2 => [7, 8, 9]
  | 4 => [0, 1, 10]
  | 6 => [0, 1, 10, 11, 12, 13, 14, 15, 16, 17, 18]
  | _ => []
def laws_toWireS.kl : Nat → List Nat := fun n => match n with
  | 0 => [1, 2, 3, 4, 5, 6, 7, 8, 9, 10, 11, 12, 13, 14, 15, 16, 17, 18, 19, 20, 21, 22]
  | 2 => [5, 6, 7]
  | 3 => [11]
  | 6 => [8, 9, 10, 12, 13, 14, 15, 16, 17, 18, 19, 20, 21]
  | 8 => [12, 13]
  | 10 => [14, 15, 16, 17, 18, 19, 20, 21]
  | 12 => [0, 3, 4, 11, 22]
  | _ => []
def impl_TreePair.kl : Nat → List Nat := fun n => match n with
  | 0 => [2, 3, 4, 5, 6, 7, 8, 9, 10, 11, 12, 13]
  | 2 => [0, 1, 7, 8, 9, 10, 11, 12, 13]
  | _ => []
def laws_eqWireS.kl : Nat → List Nat := fun n => match n with
  | 0 => [2, 3, 4, 5, 6, 7, 8, 9, 10, 11, 12, 13, 14, 15, 16, 17, 18, 19, 20, 21, 22, 23, 24, 25, 26]
  | 2 => [6, 7, 8, 9]
  | 3 => [14]
  | 4 => [0, 1, 10]
  | 6 => [10]
  | 8 => [4, 11, 12, 13, 15, 16, 17, 18, 19, 20, 21, 22, 23, 24, 25, 26]
  | 10 => [15, 16, 26]
  | 12 => [17, 18, 19, 20, 21, 22, 23, 24, 25]
  | 14 => [0, 1, 5, 26]
  | 16 => [0, 1, 5, 14]
  | _ => []
def spec_PairOn.kl : Nat → List Nat := fun n => match n with
  | 0 => [3, 4, 5, 6, 7, 8, 9, 10, 11, 12, 13, 14, 15, 16, 17, 18, 19, 20, 21, 22, 23, 24, 25, 26, 27, 28, 29, 30, 31, 32, 33, 34]
  | 2 => [0, 10, 11, 12, 13, 14, 15, 16, 17, 18, 19, 20, 21, 22, 23, 24, 25]
  | 4 => [1, 2, 26]
  | 6 => [1, 2, 7, 8, 26, 27, 28, 29, 30, 31, 32, 33]
  | 8 => [9, 34]
  | _ => []
def impl_PairOn.kl : Nat → List Nat := fun n => match n with
  | 0 => [3, 4, 5, 6, 7, 8, 9, 10, 11, 12, 13, 14, 15, 16, 17, 18, 19, 20, 21, 22, 23, 24, 25, 26, 27, 28, 29, 30, 31, 32, 33, 34, 35, 36, 37]
  | 2 => [0, 10, 11, 12, 13, 14, 15, 16, 17, 18, 19, 20, 21, 22, 23, 24, 25, 26, 27]
  | 4 => [1, 2, 28]
  | 6 => [1, 2, 7, 8, 28, 29, 30, 31, 32, 33, 34, 35, 36]
  | 8 => [9, 37]
  | _ => []
def spec_PairSomewhere.kl : Nat → List Nat := fun n => match n with
  | 0 => [2, 3, 4, 5, 6, 7, 8, 9, 10, 11, 12, 13, 14, 15, 16, 17, 18, 19, 20, 21]
  | 3 => [14]
  | 4 => [4, 6, 7, 8, 9, 10, 11, 12, 13, 15, 16, 17, 18, 19, 20, 21]
  | 6 => [15, 16, 20]
  | 8 => [17, 18, 19]
  | 10 => [0, 1, 5, 20, 21]
  | 12 => [0, 1, 5, 14]
  | _ => []
def impl_PairSomewhere.kl : Nat → List Nat := fun n => match n with
  | 0 => [2, 3, 4, 5, 6, 7, 8, 9, 10, 11, 12, 13, 14, 15, 16, 17, 18, 19, 20, 21, 22, 23, 24]
  | 2 => [7, 8, 9]
  | 3 => [16]
  | 4 => [0, 1, 10]
  | 6 => [10, 11, 12]
  | 8 => [4, 6, 17, 18, 19, 20, 21, 22, 23, 24]
  | 10 => [17, 18]
  | 12 => [19, 20, 21]
  | 14 => [0, 1, 6, 13, 14, 15, 22, 23]
  | 16 => [6, 22, 24]
  | 18 => [0, 1, 13, 14, 15, 16]
  | _ => []
def spec_TreeReply.kl : Nat → List Nat := fun n => match n with
  | 0 => [5, 6, 7, 8, 9, 10, 11, 12, 13, 14, 15, 16, 17, 18, 19, 20, 21, 22, 23, 24, 25, 26, 27, 28, 29, 30, 31, 32, 33, 34, 35, 36, 37, 38, 39, 40, 41, 42, 43, 44, 45, 46, 47, 48, 49, 50, 51, 52, 53, 54, 55, 56, 57, 58, 59, 60, 61, 62, 63, 64]
  | 2 => [12, 13, 14, 15, 16, 17, 18, 19, 20, 21, 22, 23, 24, 25, 26, 27, 28, 29, 30, 31, 32, 33, 34, 35, 36, 37]
  | 3 => [42]
  | 4 => [0, 1, 2, 3, 4, 38]
  | 6 => [38]
  | 8 => [10, 39, 40, 41, 43, 44, 45, 46, 47, 48, 49, 50, 51, 52, 53, 54, 55, 56, 57, 58, 59, 60, 61, 62, 63, 64]
  | 10 => [43, 44, 63]
  | 12 => [45, 46, 47, 48, 49, 50, 51, 52, 53, 54, 55, 56, 57, 58, 59, 60, 61, 62]
  | 14 => [0, 1, 2, 3, 4, 11, 63, 64]
  | 16 => [0, 1, 2, 3, 4, 11, 42]
  | _ => []
def impl_TreeReply.kl : Nat → List Nat := fun n => match n with
  | 0 => [5, 6, 7, 8, 9, 10, 11, 12, 13, 14, 15, 16, 17, 18, 19, 20, 21, 22, 23, 24, 25, 26, 27, 28, 29, 30, 31, 32, 33, 34, 35, 36, 37, 38, 39, 40, 41, 42, 43, 44, 45, 46, 47, 48, 49, 50, 51, 52, 53, 54, 55, 56, 57, 58, 59]
  | 2 => [13, 14, 15, 16, 17, 18, 19, 20, 21, 22, 23, 24, 25, 26, 27, 28, 29, 30, 31, 32, 33, 34, 35]
  | 3 => [44]
  | 4 => [0, 1, 2, 3, 4, 36]
  | 6 => [2, 4, 36, 37, 38, 39, 40]
  | 8 => [41]
  | 10 => [10, 12, 45, 46, 47, 48, 49, 50, 51, 52, 53, 54, 55, 56, 57, 58, 59]
  | 12 => [45]
  | 14 => [46, 47, 48, 49, 50, 51, 52, 53, 54, 55, 56]
  | 16 => [0, 1, 3, 11, 12, 42, 43, 57, 58]
  | 18 => [12, 57, 59]
  | 20 => [0, 1, 3, 11, 42, 43, 44]
  | _ => []
def spec_TreesThrough.kl : Nat → List Nat := fun n => match n with
  | 0 => [3, 4, 5, 6, 7, 8, 9, 10, 11, 12, 13, 14, 15, 16, 17, 18, 19, 20, 21, 22, 23, 24, 25, 26, 27, 28, 29, 30, 31, 32, 33, 34, 35, 36, 37, 38, 39, 40]
  | 2 => [10, 11, 12, 13, 14, 15, 16, 17, 18, 19, 20]
  | 3 => [28]
  | 4 => [0, 1, 2, 21]
  | 6 => [21]
  | 8 => [0, 1, 22, 23, 24]
  | 12 => [25, 26, 27, 29, 30, 31, 32, 33, 34, 35, 36, 37, 38, 39]
  | 14 => [29, 30]
  | 16 => [31, 32, 33, 34, 35, 36, 37, 38, 39]
  | 18 => [2, 7, 8, 9, 28, 40]
  | _ => []
def impl_TreesThrough.kl : Nat → List Nat := fun n => match n with
  | 0 => [3, 4, 5, 6, 7, 8, 9, 10, 11, 12, 13, 14, 15, 16, 17, 18, 19, 20, 21, 22, 23, 24, 25, 26, 27, 28, 29, 30, 31, 32, 33, 34]
  | 2 => [10, 11, 12, 13, 14, 15, 16, 17, 18]
  | 3 => [25]
  | 4 => [0, 1, 2, 19]
  | 6 => [19]
  | 8 => [0, 1, 20, 21]
  | 10 => [9, 26, 27, 28, 29, 30, 31, 32, 33]
  | 12 => [26, 27]
  | 14 => [9, 28, 29]
  | 16 => [30, 31, 32]
  | 18 => [30, 33]
  | 20 => [2, 7, 22, 23, 24, 25, 34]
  | _ => []
def spec_WiresOk.kl : Nat → List Nat := fun n => match n with
  | 0 => [2, 3, 4, 5, 6, 7, 8, 9, 10, 11, 12, 13, 14, 15, 16, 17, 18, 19, 20, 21, 22, 23, 24, 25, 26, 27, 28, 29, 30, 31, 32, 33, 34, 35, 36, 37, 38, 39, 40, 41, 42, 43, 44, 45, 46, 47, 48, 49, 50]
  | 3 => [10]
  | 4 => [4, 6, 7, 8, 9, 11, 12, 13, 14, 15, 16, 17, 18, 19, 20, 21, 22, 23, 24, 25, 26, 27, 28, 29, 30, 31, 32, 33, 34, 35, 36, 37, 38, 39, 40, 41, 42, 43]
  | 6 => [11, 12, 43]
  | 8 => [13, 14, 15, 16]
  | 10 => [6, 17, 18, 19, 20, 21, 22, 23, 24, 25, 26, 27, 28, 29, 30, 31, 32, 33, 34, 35, 36, 37, 38, 39, 40, 41, 42]
  | 12 => [0, 1, 5, 43]
  | 14 => [0, 1, 5, 10, 44, 45, 46, 47, 48, 49, 50]
  | _ => []
def spec_l10Pair.kl : Nat → List Nat := fun n => match n with
  | 0 => [2, 3, 4, 5, 6, 7, 8, 9, 10, 11, 12, 13, 14, 15, 16, 17, 18, 19, 20, 21, 22, 23, 24, 25, 26, 27, 28, 29, 30, 31, 32, 33, 34, 35, 36, 37, 38, 39, 40, 41]
  | 3 => [13]
  | 4 => [4, 5, 6, 8, 9, 10, 11, 12, 14, 15, 16, 17, 18, 19, 20, 21, 22, 23, 24, 25, 26, 27, 28, 29, 30, 31, 32, 33, 34, 35, 36, 37, 38, 39, 40, 41]
  | 6 => [8, 14, 15, 20, 27]
  | 7 => [27]
  | 8 => [16, 17, 18, 19]
  | 10 => [20, 21, 22]
  | 12 => [4, 5, 6, 23, 24, 25, 26, 28, 29, 30, 31, 32, 33, 34, 35, 36, 37, 38, 39, 40, 41]
  | 14 => [28, 29, 39]
  | 16 => [30, 31, 32, 33, 34, 35, 36, 37, 38]
  | 18 => [0, 1, 7, 8, 39, 40, 41]
  | 20 => [0, 1, 7, 13]
  | _ => []
def laws_toWire.kl : Nat → List Nat := fun n => match n with
  | 0 => [0, 3, 4, 5, 6, 7, 8, 9, 10]
  | 4 => [4, 5, 6]
  | 6 => [1, 7, 8, 9]
  | 8 => [3, 10]
  | _ => []
def impl_pairAmong.kl : Nat → List Nat := fun n => match n with
  | 0 => [1, 2, 3, 4, 5, 6, 7, 8, 9, 10, 11, 12, 13, 14, 15, 16, 17, 18, 19, 20, 21, 22, 23, 24, 25, 26, 27, 28]
  | 3 => [12]
  | 4 => [2, 3, 4, 6, 8, 13, 14, 15, 16, 17, 18, 19, 20, 21, 22, 23, 24, 25, 26, 27, 28]
  | 6 => [13, 14]
  | 7 => [18]
  | 10 => [2, 3, 4, 8, 19, 20, 21, 22, 23, 24, 25, 26, 27]
  | 12 => [19, 20]
  | 14 => [21, 22, 23]
  | 16 => [0, 6, 8, 9, 10, 11, 15, 16, 17, 24, 25, 26]
  | 18 => [8, 24, 27]
  | 20 => [6, 15, 16, 17, 18, 28]
  | 22 => [0, 9, 10, 11, 12]
  | _ => []
def impl_TreesOf.kl : Nat → List Nat := fun n => match n with
  | 0 => [2, 3, 4, 5, 6, 7, 8, 9, 10, 11, 12]
  | 2 => [5, 6, 7]
  | 4 => [0, 1, 8]
  | 6 => [0, 1, 8, 9, 10, 11, 12]
  | _ => []
def laws_eqWire.kl : Nat → List Nat := fun n => match n with
  | 0 => [0, 1, 4, 5, 6, 7, 8, 9, 10, 11, 12, 13, 14]
  | 2 => [5, 6, 7, 8]
  | 4 => [2, 3, 9]
  | 6 => [2, 3, 9, 10, 11, 12, 13]
  | 8 => [14]
  | 10 => [14]
  | _ => []
def spec_l1In.kl : Nat → List Nat := fun n => match n with
  | 0 => [3, 4, 5, 6, 7, 8, 9, 10, 11, 12, 13, 14]
  | 2 => [0, 1, 2, 7, 8, 9, 10, 11, 12, 13, 14]
  | _ => []
def impl_WiresOk.kl : Nat → List Nat := fun n => match n with
  | 0 => [2, 3, 4, 5, 6, 7, 8, 9, 10, 11, 12, 13, 14, 15, 16, 17, 18, 19, 20, 21, 22, 23, 24, 25, 26, 27, 28, 29, 30, 31, 32, 33, 34, 35, 36, 37, 38, 39, 40, 41, 42, 43]
  | 2 => [7, 8, 9, 10, 11, 12, 13, 14, 15, 16]
  | 3 => [21]
  | 4 => [0, 1, 17]
  | 6 => [1, 17]
  | 8 => [4, 6, 22, 23, 24, 25, 26, 27, 28, 29, 30, 31, 32, 33, 34, 35, 36, 37, 38, 39, 40, 41, 42, 43]
  | 10 => [22, 23]
  | 12 => [6, 24, 25, 26, 27, 28, 29, 30, 31, 32, 33, 34, 35, 36, 37, 38, 39, 40, 41]
  | 14 => [0, 18, 19, 20, 42]
  | 16 => [42, 43]
  | 18 => [0, 18, 19, 20, 21]
  | _ => []
def impl_allNodes.kl : Nat → List Nat := fun n => match n with
  | 0 => [1, 2, 3, 4, 5]
  | 2 => [0, 3, 4, 5]
  | _ => []
def impl_treesOn.kl : Nat → List Nat := fun n => match n with
  | 0 => [2, 3, 4, 5, 6, 7, 8, 9, 10, 11, 12, 13, 14, 15, 16, 17, 18, 19, 20, 21, 22, 23, 24, 25]
  | 3 => [13]
  | 4 => [8, 9]
  | 6 => [7, 14, 15, 16, 17, 18, 19, 20, 21, 22, 23, 24]
  | 8 => [14, 15]
  | 10 => [16, 17, 18]
  | 12 => [7, 19, 20, 21, 22, 23]
  | 14 => [7, 19, 24]
  | 16 => [0, 1, 5, 10, 11, 12, 13, 25]
  | _ => []
def impl_partsOf.kl : Nat → List Nat := fun n => match n with
  | 0 => [1, 2, 3, 4, 5, 6, 7, 8, 9, 10, 11, 12, 13, 14, 15, 16, 17, 18, 19, 20]
  | 2 => [5]
  | 3 => [8]
  | 6 => [6, 7, 9, 10, 11, 12, 13, 14, 15, 16, 17, 18, 19]
  | 8 => [9, 10, 11, 12, 13, 14, 15]
  | 10 => [16, 17, 18, 19]
  | 12 => [0, 3, 4, 8, 20]
  | _ => []
def spec_TreeOk.kl : Nat → List Nat := fun n => match n with
  | 0 => [3, 4, 5, 6, 7, 8, 9, 10, 11, 12, 13, 14, 15, 16, 17, 18, 19, 20, 21, 22, 23, 24, 25]
  | 2 => [0, 1, 2, 7, 8, 9, 10, 11, 12, 13, 14, 15, 16, 17, 18, 19, 20, 21, 22, 23, 24, 25]
  | _ => []
def spec_l10Tree.kl : Nat → List Nat := fun n => match n with
  | 0 => [3, 4, 5, 6, 7, 8, 9, 10, 11, 12, 13, 14, 15, 16, 17, 18, 19, 20, 21, 22, 23, 24, 25, 26, 27, 28, 29, 30, 31, 32, 33, 34, 35, 36, 37, 38, 39, 40, 41, 42, 43, 44, 45, 46, 47, 48, 49, 50, 51, 52, 53]
  | 3 => [11]
  | 4 => [6, 8, 9, 10, 12, 13, 14, 15, 16, 17, 18, 19, 20, 21, 22, 23, 24, 25, 26, 27, 28, 29, 30, 31, 32, 33, 34, 35, 36, 37, 38, 39, 40]
  | 6 => [12, 13, 40]
  | 8 => [14, 15, 16, 17, 18, 19, 20, 21, 22, 23, 24, 25, 26, 27, 28, 29, 30, 31, 32, 33, 34, 35, 36, 37, 38, 39]
  | 10 => [0, 1, 2, 7, 40]
  | 12 => [0, 1, 2, 7, 11, 41, 42, 43, 44, 45, 46, 47, 48, 49, 50, 51, 52, 53]
  | _ => []
def impl_TreeOk.kl : Nat → List Nat := fun n => match n with
  | 0 => [3, 4, 5, 6, 7, 8, 9, 10, 11, 12, 13, 14, 15, 16, 17, 18, 19, 20, 21]
  | 2 => [0, 1, 2, 7, 8, 9, 10, 11, 12, 13, 14, 15, 16, 17, 18, 19, 20, 21]
  | _ => []
def impl_wireOk.kl : Nat → List Nat := fun n => match n with
  | 0 => [2, 3, 4, 5, 6, 7, 8, 9, 10, 11, 12]
  | 2 => [0, 1, 5, 6, 7, 8, 9, 10, 11, 12]
  | _ => []
def impl_hasWire.kl : Nat → List Nat := fun n => match n with
  | 0 => [2, 3, 4, 5, 6, 7, 8, 9]
  | 2 => [0, 1, 5, 6, 7, 8, 9]
  | _ => []
def spec_TreesOf.kl : Nat → List Nat := fun n => match n with
  | 0 => [2, 3, 4, 5, 6, 7, 8, 9, 10, 11, 12, 13, 14, 15, 16, 17, 18, 19, 20, 21, 22, 23, 24, 25, 26, 27, 28, 29, 30]
  | 2 => [7]
  | 3 => [17]
  | 6 => [8, 9, 10, 11, 12, 13, 14, 15, 16, 18, 19, 20, 21, 22, 23, 24, 25, 26, 27, 28, 29]
  | 8 => [18, 19, 25]
  | 10 => [20, 21, 22, 23, 24]
  | 12 => [25, 26, 27, 28, 29]
  | 14 => [0, 1, 5, 6, 17, 30]
  | _ => []
def impl_nodeOk.kl : Nat → List Nat := fun n => match n with
  | 0 => [2, 3, 4, 5, 6, 7, 8, 9, 10, 11]
  | 2 => [0, 1, 5, 6, 7, 8, 9, 10, 11]
  | _ => []
def impl_allWires.kl : Nat → List Nat := fun n => match n with
  | 0 => [1, 2, 3, 4, 5, 6]
  | 2 => [0, 3, 4, 5, 6]
  | _ => []
def impl_treeOn.kl : Nat → List Nat := fun n => match n with
  | 0 => [3, 4, 5, 6, 7, 8, 9, 10, 11, 12, 13, 14, 15, 16, 17, 18, 19]
  | 2 => [0, 1, 2, 7, 8, 9, 10, 11, 12, 13, 14, 15, 16, 17, 18, 19]
  | _ => []
def spec_l6Size.kl : Nat → List Nat := fun n => match n with
  | 0 => [1, 2, 3, 4, 5]
  | 2 => [0, 3, 4, 5]
  | _ => []
def spec_l9Reach.kl : Nat → List Nat := fun n => match n with
  | 0 => [3, 4, 5, 6, 7, 8, 9, 10, 11, 12, 13, 14, 15, 16, 17, 18, 19, 20, 21, 22, 23, 24, 25, 26, 27, 28, 29, 30, 31, 32, 33, 34, 35, 36, 37, 38, 39, 40, 41, 42, 43, 44, 45, 46, 47, 48, 49, 50, 51, 52, 53, 54, 55, 56, 57, 58]
  | 2 => [2, 10, 11]
  | 3 => [12]
  | 6 => [8, 9, 13, 14, 15, 16, 17, 18, 19, 20, 21, 22, 23, 24, 25, 26, 27, 28, 29, 30, 31, 32, 33, 34, 35, 36, 37, 38, 39, 40, 41, 42, 43, 44, 45, 46, 47, 48, 49, 50, 51, 52, 53, 54, 55, 56, 57]
  | 7 => [16]
  | 12 => [13, 14, 15, 17, 18, 19, 20, 21, 22, 23, 24, 25, 26, 27, 28, 29, 30, 31, 32, 33, 34, 35, 36, 37, 38, 39, 40, 41, 42, 43, 44, 45, 46, 47, 48, 49, 50, 51, 52, 53, 54, 55, 56, 57]
  | 14 => [17, 18, 42]
  | 16 => [19, 20, 21, 22, 23, 24, 25, 26, 27, 28, 29, 30, 31, 32, 33, 34, 35, 36, 37, 38, 39, 40, 41]
  | 18 => [8, 42, 43, 44, 45, 46, 47, 48, 49, 50, 51, 52, 53, 54, 55, 56, 57]
  | 22 => [0, 1, 7, 12, 58]
  | _ => []
def impl_wireSetOk.kl : Nat → List Nat := fun n => match n with
  | 0 => [2, 3, 4, 5, 6, 7, 8, 9, 10, 11, 12]
  | 2 => [0, 1, 5, 6, 7, 8, 9, 10, 11, 12]
  | _ => []
def impl_countIn.kl : Nat → List Nat := fun n => match n with
  | 0 => [1, 2, 3, 4, 5]
  | 2 => [0, 3, 4, 5]
  | _ => []
def impl_nodesReached.kl : Nat → List Nat := fun n => match n with
  | 0 => [3, 4, 5, 6, 7, 8, 9, 10, 11, 12, 13, 14, 15, 16, 17, 18, 19, 20]
  | 2 => [8]
  | 3 => [10]
  | 4 => [9, 11, 12, 13, 14, 15, 16, 17, 18, 19]
  | 6 => [11, 12, 13, 14, 15, 16]
  | 8 => [17, 18, 19]
  | 10 => [0, 1, 2, 7, 10, 20]
  | _ => []
def spec_l2List.kl : Nat → List Nat := fun n => match n with
  | 0 => [1, 2, 3, 4, 5, 6, 7, 8, 9, 10, 11, 12, 13, 14, 15, 16, 17, 18, 19, 20, 21]
  | 2 => [5]
  | 3 => [9]
  | 6 => [6, 7, 8, 10, 11, 12, 13, 14, 15, 16, 17, 18, 19, 20]
  | 8 => [10, 11, 16]
  | 10 => [12, 13, 14, 15]
  | 12 => [16, 17, 18, 19, 20]
  | 14 => [0, 3, 4, 9, 21]
  | _ => []
def bits_OnesCount.kl : Nat → List Nat := fun n => match n with
  | 0 => [1, 2, 3, 4, 5, 6, 7]
  | 2 => [0, 3, 4, 5]
  | 4 => [0, 6, 7]
  | _ => []
def impl_nodesBeside.kl : Nat → List Nat := fun n => match n with
  | 0 => [3, 4, 5, 6, 7, 8, 9, 10, 11, 12, 13, 14, 15, 16, 17, 18, 19, 20, 21, 22, 23, 24, 25, 26, 27, 28, 29, 30, 31, 32, 33, 34, 35, 36, 37]
  | 3 => [13]
  | 4 => [1, 11]
  | 6 => [9, 10, 12, 14, 15, 16, 17, 18, 19, 20, 21, 22, 23, 24, 25, 26, 27, 28, 29, 30, 31, 32, 33, 34, 35, 36]
  | 8 => [10, 14, 15, 16, 17, 33]
  | 10 => [18, 19, 20, 21, 22]
  | 12 => [9, 23, 24, 25, 26, 27, 28, 29]
  | 14 => [30, 31, 32]
  | 16 => [10, 33, 34, 35, 36]
  | 18 => [0, 2, 7, 8, 13, 37]
  | _ => []
def bits_OnesCount64.kl : Nat → List Nat := fun n => match n with
  | 0 => [1, 2, 3, 4, 5, 6, 7, 8, 9, 10, 11, 12, 13, 14, 15, 16, 17, 18, 19, 20, 21, 22, 23, 24, 25, 26, 27, 28, 29, 30, 31, 32, 33, 34]
  | 2 => [3, 4, 5, 6, 7, 8]
  | 4 => [9, 10, 11, 12, 13, 14]
  | 6 => [15, 16, 17, 18, 19]
  | 8 => [20, 21, 22, 23]
  | 10 => [24, 25, 26, 27]
  | 12 => [28, 29, 30, 31]
  | 14 => [0, 32, 33, 34]
  | _ => []
def impl_leastIn.kl : Nat → List Nat := fun n => match n with
  | 0 => [1, 2, 3, 4, 5]
  | 2 => [0, 3, 4, 5]
  | _ => []
def bits_TrailingZeros.kl : Nat → List Nat := fun n => match n with
  | 0 => [1, 2, 3, 4, 5, 6, 7]
  | 2 => [0, 3, 4, 5]
  | 4 => [0, 6, 7]
  | _ => []
def bits_TrailingZeros32.kl : Nat → List Nat := fun n => match n with
  | 0 => [1, 2, 3, 4, 5, 6, 7, 8, 9, 10, 11, 12, 13]
  | 2 => [3]
  | 4 => [0, 4]
  | 6 => [0, 4, 5, 6, 7, 8, 9, 10, 11, 12, 13]
  | _ => []
def bits_TrailingZeros64.kl : Nat → List Nat := fun n => match n with
  | 0 => [1, 2, 3, 4, 5, 6, 7, 8, 9, 10, 11, 12, 13]
  | 2 => [3]
  | 4 => [0, 4]
  | 6 => [0, 4, 5, 6, 7, 8, 9, 10, 11, 12, 13]
  | _ => []
def KL : FuncId → Nat → List Nat := fun f => match f with
  | 3 => laws_FnExactTreePair.kl
  | 4 => laws_FnExactPairOn.kl
  | 5 => laws_FnExactPairSomewhere.kl
  | 6 => laws_FnExactTreeReply.kl
  | 7 => laws_FnExactTreesThrough.kl
  | 8 => laws_szWireS.kl
  | 9 => spec_TreePair.kl
  | 10 => laws_toWireS.kl
  | 11 => impl_TreePair.kl
  | 12 => laws_eqWireS.kl
  | 13 => spec_PairOn.kl
  | 14 => impl_PairOn.kl
  | 15 => spec_PairSomewhere.kl
  | 16 => impl_PairSomewhere.kl
  | 17 => spec_TreeReply.kl
  | 18 => impl_TreeReply.kl
  | 19 => spec_TreesThrough.kl
  | 20 => impl_TreesThrough.kl
  | 21 => spec_WiresOk.kl
  | 22 => spec_l10Pair.kl
  | 23 => laws_toWire.kl
  | 24 => impl_pairAmong.kl
  | 25 => impl_TreesOf.kl
  | 26 => laws_eqWire.kl
  | 27 => spec_l1In.kl
  | 28 => impl_WiresOk.kl
  | 29 => impl_allNodes.kl
  | 30 => impl_treesOn.kl
  | 31 => impl_partsOf.kl
  | 32 => spec_TreeOk.kl
  | 33 => spec_l10Tree.kl
  | 34 => impl_TreeOk.kl
  | 35 => impl_wireOk.kl
  | 36 => impl_hasWire.kl
  | 37 => spec_TreesOf.kl
  | 38 => impl_nodeOk.kl
  | 39 => impl_allWires.kl
  | 40 => impl_treeOn.kl
  | 41 => spec_l6Size.kl
  | 42 => spec_l9Reach.kl
  | 43 => impl_wireSetOk.kl
  | 44 => impl_countIn.kl
  | 45 => impl_nodesReached.kl
  | 46 => spec_l2List.kl
  | 47 => bits_OnesCount.kl
  | 48 => impl_nodesBeside.kl
  | 50 => bits_OnesCount64.kl
  | 51 => impl_leastIn.kl
  | 52 => bits_TrailingZeros.kl
  | 53 => bits_TrailingZeros32.kl
  | 54 => bits_TrailingZeros64.kl
  | _ => fun _ => []
noncomputable def CL (g : Nat → PV) (lf n : Nat) : FuncId → List PV → PHeap → Res := call Tryd.prog g KL lf n
noncomputable def YL (g : Nat → PV) (lf n : Nat) : Nat → List PV → PHeap → Res := yields Tryd.prog g KL lf n
noncomputable def env (g : Nat → PV) (lf n : Nat) : Env := ⟨g, lf, CL g lf n, std Tryd.prog, YL g lf n⟩
@[simp] theorem env_C (g : Nat → PV) (lf n : Nat) : (env g lf n).C = CL g lf n := rfl
@[simp] theorem env_Y (g : Nat → PV) (lf n : Nat) : (env g lf n).Y = YL g lf n := rfl
@[simp] theorem env_g (g : Nat → PV) (lf n : Nat) : (env g lf n).g = g := rfl
@[simp] theorem env_lf (g : Nat → PV) (lf n : Nat) : (env g lf n).lf = lf := rfl
@[simp] theorem env_pick (g : Nat → PV) (lf n : Nat) : (env g lf n).p.pick = pickP := rfl
@[simp] theorem env_alloc (g : Nat → PV) (lf n : Nat) : (env g lf n).p.alloc = allocP Tryd.prog := rfl
@[simp] theorem env_box (g : Nat → PV) (lf n : Nat) : (env g lf n).p.box = boxP := rfl
@[simp] theorem env_build (g : Nat → PV) (lf n : Nat) : (env g lf n).p.build = buildP Tryd.prog := rfl
@[simp] theorem env_buildSlice (g : Nat → PV) (lf n : Nat) : (env g lf n).p.buildSlice = buildSliceP Tryd.prog := rfl
@[simp] theorem env_load (g : Nat → PV) (lf n : Nat) : (env g lf n).p.load = loadP Tryd.prog := rfl
@[simp] theorem env_store (g : Nat → PV) (lf n : Nat) : (env g lf n).p.store = storeP Tryd.prog := rfl
@[simp] theorem env_ptr (g : Nat → PV) (lf n : Nat) : (env g lf n).p.ptr = ptrP := rfl
@[simp] theorem env_bin (g : Nat → PV) (lf n : Nat) : (env g lf n).p.bin = binP Tryd.prog := rfl
@[simp] theorem env_un (g : Nat → PV) (lf n : Nat) : (env g lf n).p.un = unP := rfl
@[simp] theorem env_conv (g : Nat → PV) (lf n : Nat) : (env g lf n).p.conv = convP Tryd.prog := rfl
@[simp] theorem env_make (g : Nat → PV) (lf n : Nat) : (env g lf n).p.make = makeP Tryd.prog := rfl
@[simp] theorem env_slice (g : Nat → PV) (lf n : Nat) : (env g lf n).p.slice = sliceP Tryd.prog := rfl
@[simp] theorem env_fieldAddr (g : Nat → PV) (lf n : Nat) : (env g lf n).p.fieldAddr = fieldAddrP Tryd.prog := rfl
@[simp] theorem env_field (g : Nat → PV) (lf n : Nat) : (env g lf n).p.field = fieldP Tryd.prog := rfl
@[simp] theorem env_indexAddr (g : Nat → PV) (lf n : Nat) : (env g lf n).p.indexAddr = indexAddrP Tryd.prog := rfl
@[simp] theorem env_index (g : Nat → PV) (lf n : Nat) : (env g lf n).p.index = indexP Tryd.prog := rfl
@[simp] theorem env_extract (g : Nat → PV) (lf n : Nat) : (env g lf n).p.extract = extractP := rfl
@[simp] theorem env_len (g : Nat → PV) (lf n : Nat) : (env g lf n).p.len = lenP Tryd.prog := rfl
@[simp] theorem env_append (g : Nat → PV) (lf n : Nat) : (env g lf n).p.append = appendP Tryd.prog := rfl
@[simp] theorem env_max (g : Nat → PV) (lf n : Nat) : (env g lf n).p.max = foldP maxP2 := rfl
@[simp] theorem env_min (g : Nat → PV) (lf n : Nat) : (env g lf n).p.min = foldP minP2 := rfl
@[simp] theorem env_makeMap (g : Nat → PV) (lf n : Nat) : (env g lf n).p.makeMap = makeMapP := rfl
@[simp] theorem env_lookup (g : Nat → PV) (lf n : Nat) : (env g lf n).p.lookup = lookupP Tryd.prog := rfl
@[simp] theorem env_update (g : Nat → PV) (lf n : Nat) : (env g lf n).p.update = updateP Tryd.prog := rfl
@[simp] theorem env_clos (g : Nat → PV) (lf n : Nat) : (env g lf n).p.clos = closP := rfl
@[simp] theorem env_bstr (g : Nat → PV) (lf n : Nat) : (env g lf n).p.bstr = bstrP Tryd.prog := rfl
end Go.Proofs.YtbmmcldbllhhhacDoor.G

/- From what the interpreter computes for a law to what the machine's call of it does. -/
set_option maxRecDepth 20000
namespace Go.Proofs.YtbmmcldbllhhhacDoor
open Go Go.Ip Go.RowKit G

def g0 : Nat → PV := fun _ => .junk
def LF : Nat := 4294967296

theorem prog_mixed : Tryd.prog.follows .mixedOrders = true := by kernel_rfl
theorem prog_ok : progOk Tryd.prog = true := by kernel_rfl

theorem sim_none (w : World) : Sim w.heap.size w [] [] w :=
  ⟨rfl, Below.refl _ _, Nat.le_refl _, fun id o l h _ => by simp at h, fun i j li lj ei ci ej cj _ h => by simp at h, fun i j li lj ei ej _ h => by simp at h, fun i j li lj oi oj _ h => by simp at h, fun _ h => h, fun _ _ h => False.elim h, fun _ h => False.elim h, fun _ _ _ _ _ _ h => h⟩

/-- A slice of integers, nil or not, as the interpreter's heap holds it. -/
def IntSl (k : IntKind) (h : PHeap) (p : PV) (xs : List Int) : Prop :=
  (p = .nilsl ∧ xs = []) ∨ ∃ id off, p = .sl id off xs.length ∧ ∀ (i : Nat) x, xs[i]? = some x → (cellsAt h id)[off + i]? = some (.int k x)

end Go.Proofs.YtbmmcldbllhhhacDoor

