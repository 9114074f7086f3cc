/- Texts of this seat, in their order, put together by program. -/
import Derived.Test.YtbmmcldbllhhhaaDoorJ6
import Derived.Test.YtbmmcldbllhhhaaDoorProg
import Derived.KernelRfl
set_option linter.unusedSimpArgs false
set_option linter.unusedVariables false
set_option linter.unusedSectionVars false
/- Of each function of this seat's program its plain form over the interpreter, written by program; each equation is the kernel's. -/
set_option linter.unusedVariables false
set_option maxRecDepth 100000
namespace Go.Proofs.YtbmmcldbllhhhaaDoor.G
open Go Go.Ip Go.Proofs

def fn_laws_FnTreeOk : Nat := 3
def fn_laws_FnTreesOf : Nat := 4
def fn_laws_FnTreePair : Nat := 5
def fn_laws_FnPairOn : Nat := 6
def fn_laws_FnPairSomewhere : Nat := 7
def fn_spec_DrawTreeOk : Nat := 8
def fn_impl_TreeOk : Nat := 9
def fn_spec_TreeOk : Nat := 10
def fn_laws_alive : Nat := 11
def fn_impl_LinksEnds : Nat := 12
def fn_spec_DrawTreesOf : Nat := 13
def fn_impl_TreesOf : Nat := 14
def fn_laws_sameInts : Nat := 15
def fn_spec_TreesOf : Nat := 16
def fn_spec_WiresOk : Nat := 17
def fn_laws_hasInt : Nat := 18
def fn_laws_ascend : Nat := 19
def fn_spec_DrawTreePair : Nat := 20
def fn_impl_TreePair : Nat := 21
def fn_spec_TreePair : Nat := 22
def fn_impl_WiresWinner : Nat := 23
def fn_spec_DrawPairOn : Nat := 24
def fn_impl_PairOn : Nat := 25
def fn_spec_PairOn : Nat := 26
def fn_spec_DrawPairSomewhere : Nat := 27
def fn_impl_PairSomewhere : Nat := 28
def fn_spec_PairSomewhere : Nat := 29
def fn_spec_l20Open : Nat := 30
def fn_spec_l20Rich : Nat := 31
def fn_spec_l20Rd_pick : Nat := 32
def fn_impl_WiresOk : Nat := 33
def fn_impl_wireSetOk : Nat := 34
def fn_impl_treeOn : Nat := 35
def fn_impl_allNodes : Nat := 36
def fn_spec_l1In : Nat := 37
def fn_spec_l10Tree : Nat := 38
def fn_impl_BoardOk : Nat := 39
def fn_impl_linked : Nat := 40
def fn_impl_treesOn : Nat := 41
def fn_impl_pairAmong : Nat := 42
def fn_spec_l10Pair : Nat := 43
def fn_impl_OwnersOk : Nat := 44
def fn_impl_playerOk : Nat := 45
def fn_impl_newNetGame : Nat := 46
def fn_impl_netGame_winner : Nat := 47
def fn_impl_standingOf : Nat := 48
def fn_impl_partsOf : Nat := 49
def fn_spec_l20Wires : Nat := 50
def fn_impl_nodeOk : Nat := 51
def fn_impl_allWires : Nat := 52
def fn_impl_countIn : Nat := 53
def fn_impl_nodesReached : Nat := 54
def fn_spec_l6Size : Nat := 55
def fn_spec_l9Reach : Nat := 56
def fn_impl_sizeOk : Nat := 57
def fn_impl_contentOk : Nat := 58
def fn_impl_netGame_solved : Nat := 59
def fn_impl_setOf : Nat := 60
def fn_spec_l20Rd_odd : Nat := 61
def fn_bits_OnesCount : Nat := 62
def fn_impl_nodesBeside : Nat := 63
def fn_spec_l2List : Nat := 64
def fn_impl_netGame_won : Nat := 65
def fn_impl_netGame_wins : Nat := 66
def fn_impl_leastIn : Nat := 67
def fn_impl_exchanged : Nat := 68
def fn_bits_OnesCount64 : Nat := 70
def fn_impl_wonBy : Nat := 71
def fn_impl_standing_after : Nat := 72
def fn_bits_TrailingZeros : Nat := 73
def fn_bits_TrailingZeros32 : Nat := 74
def fn_bits_TrailingZeros64 : Nat := 75
def laws_FnTreeOk.kl : Nat → List Nat := fun n => match n with
  | 0 => [1, 2, 3, 4, 5, 6, 7, 8, 9, 10, 11, 12, 13, 14, 15, 16, 17, 18, 19, 20, 21, 22, 23, 24, 25, 26, 27, 28, 29, 30, 31, 32, 33, 34, 35, 36, 37, 38, 39, 40, 41, 42, 43, 44, 45, 46]
  | 2 => [8, 9]
  | 3 => [33]
  | 4 => [0, 10]
  | 6 => [0, 10, 11, 12, 13, 14, 15, 16]
  | 8 => [17, 18, 19, 20]
  | 10 => [21, 22, 23, 24, 25]
  | 12 => [3, 4, 5, 6, 26]
  | 14 => [6, 26, 27]
  | 16 => [3, 4, 5, 28, 29]
  | 18 => [28]
  | 20 => [2, 30, 31, 32, 34, 35, 36, 37, 38, 39, 40, 41, 42]
  | 22 => [34, 35, 42]
  | 24 => [36, 37, 38, 39, 40, 41]
  | 26 => [3, 4, 5, 7, 42]
  | 28 => [3, 4, 5, 7, 33, 43, 44, 45, 46]
  | _ => []
def laws_FnTreesOf.kl : Nat → List Nat := fun n => match n with
  | 0 => [1, 2, 3, 4, 5, 6, 7, 8, 9, 10, 11, 12, 13, 14, 15, 16, 17, 18, 19, 20, 21, 22, 23, 24, 25, 26, 27, 28, 29, 30, 31, 32, 33, 34, 35, 36, 37, 38, 39, 40, 41, 42, 43, 44, 45, 46, 47, 48, 49, 50, 51, 52, 53]
  | 2 => [7, 8]
  | 3 => [38]
  | 4 => [0, 9]
  | 6 => [0, 9, 10, 11, 12, 13, 14]
  | 8 => [15, 16, 17]
  | 10 => [18, 19, 20, 21, 22]
  | 12 => [3, 4, 5, 23]
  | 14 => [23, 24, 25, 26]
  | 16 => [3, 4, 5, 27, 28, 29, 30, 31, 32, 33]
  | 18 => [27]
  | 20 => [2, 34, 35, 36, 37, 39, 40, 41, 42, 43, 44, 45, 46, 47, 48]
  | 22 => [39, 40, 48]
  | 24 => [41, 42, 43, 44, 45, 46, 47]
  | 26 => [3, 4, 5, 6, 48]
  | 28 => [3, 4, 5, 6, 38, 49, 50, 51, 52, 53]
  | _ => []
def laws_FnTreePair.kl : Nat → List Nat := fun n => match n with
  | 0 => [1, 2, 3, 4, 5, 6, 7, 8, 9, 10, 11, 12, 13, 14, 15, 16, 17, 18, 19, 20, 21, 22, 23, 24, 25, 26, 27, 28, 29, 30, 31, 32, 33, 34, 35, 36, 37, 38, 39, 40, 41, 42, 43, 44, 45, 46, 47, 48, 49, 50, 51, 52, 53, 54, 55, 56, 57, 58, 59, 60, 61, 62, 63, 64, 65, 66, 67, 68, 69, 70, 71, 72, 73, 74, 75, 76, 77, 78, 79, 80, 81, 82, 83, 84, 85, 86, 87, 88, 89]
  | 2 => [11, 12]
  | 4 => [0, 13]
  | 6 => [0, 13, 14, 15, 16, 17, 18]
  | 8 => [19, 20, 21, 22, 23, 24, 25]
  | 10 => [26, 27, 28, 29, 30, 31, 32]
  | 12 => [8, 9, 10, 33, 34, 35, 36, 37, 38, 39, 40, 41, 42, 43, 44]
  | 14 => [3, 4, 5, 6, 7, 45]
  | 16 => [7, 45, 46]
  | 18 => [3, 4, 5, 6, 47, 48, 49, 50, 51, 52, 53, 54, 55, 56]
  | 20 => [3, 4, 5, 6, 47, 57, 58, 59, 60, 61, 62, 63, 64, 65, 66, 67, 68, 69, 70, 71, 72, 73, 74, 75, 76, 77, 78, 79, 80, 81, 82, 83, 84, 85, 86, 87, 88, 89]
  | _ => []
def laws_FnPairOn.kl : Nat → List Nat := fun n => match n with
  | 0 => [1, 2, 3, 4, 5, 6, 7, 8, 9, 10, 11, 12, 13, 14, 15, 16, 17, 18, 19, 20, 21, 22, 23, 24, 25, 26, 27, 28, 29, 30, 31, 32, 33, 34, 35, 36, 37, 38, 39, 40, 41, 42, 43, 44, 45, 46, 47, 48, 49, 50, 51, 52, 53, 54, 55, 56, 57, 58, 59, 60, 61, 62, 63, 64, 65, 66, 67, 68, 69, 70, 71, 72, 73, 74, 75, 76, 77, 78, 79, 80, 81, 82, 83, 84, 85, 86, 87, 88, 89, 90, 91, 92, 93, 94]
  | 2 => [12, 13]
  | 3 => [50]
  | 4 => [0, 14]
  | 6 => [0, 14, 15, 16, 17, 18, 19, 20]
  | 8 => [21, 22, 23, 24]
  | 10 => [25, 26, 27, 28, 29]
  | 12 => [3, 4, 5, 6, 30]
  | 14 => [30, 31, 32, 33]
  | 16 => [3, 4, 5, 6, 34, 35, 36, 37, 38, 39]
  | 18 => [7, 8, 34, 40, 41, 42, 43, 44, 45, 46]
  | 24 => [47, 48, 49, 51, 52, 53, 54, 55, 56, 57, 58, 59, 60, 61, 62, 63, 64, 65, 66]
  | 26 => [51, 52, 64]
  | 28 => [53, 54, 55, 56, 57, 58, 59, 60, 61, 62, 63]
  | 30 => [64, 65, 66]
  | 32 => [3, 4, 5, 6, 9, 10, 11, 50, 67, 68, 69, 70, 71, 72, 73, 74, 75, 76, 77, 78, 79, 80, 81, 82, 83, 84, 85, 86, 87, 88, 89, 90, 91, 92, 93, 94]
  | _ => []
def laws_FnPairSomewhere.kl : Nat → List Nat := fun n => match n with
  | 0 => [1, 2, 3, 4, 5, 6, 7, 8, 9, 10, 11, 12, 13, 14, 15, 16, 17, 18, 19, 20, 21, 22, 23, 24, 25, 26, 27, 28, 29, 30, 31, 32, 33, 34, 35, 36, 37, 38, 39, 40, 41, 42, 43, 44, 45, 46, 47, 48, 49, 50, 51, 52, 53, 54, 55, 56]
  | 2 => [7, 8]
  | 4 => [0, 9]
  | 6 => [0, 9, 10, 11, 12, 13, 14]
  | 8 => [15, 16, 17]
  | 10 => [18, 19, 20, 21]
  | 12 => [3, 4, 5, 22]
  | 14 => [22, 23, 24, 25]
  | 16 => [3, 4, 5, 26, 27, 28, 29, 30, 31]
  | 18 => [26, 32, 33, 34, 35, 36, 37, 38]
  | 20 => [39]
  | 22 => [3, 4, 5, 6, 40, 41, 42, 43, 44, 45, 46, 47, 48, 49]
  | 24 => [3, 4, 5, 6, 40, 50, 51, 52, 53, 54, 55, 56]
  | _ => []
def spec_DrawTreeOk.kl : Nat → List Nat := fun n => match n with
  | 0 => [1, 2, 3, 4, 5, 6, 7, 8, 9, 10, 11, 12, 13, 14, 15, 16, 17, 18, 19, 20, 21, 22, 23, 24, 25, 26, 27, 28, 29, 30, 31, 32, 33, 34, 35, 36, 37, 38, 39, 40, 41, 42, 43, 44, 45, 46, 47]
  | 2 => [0, 9, 10]
  | 4 => [11, 12, 13, 14, 15]
  | 6 => [16, 17, 18]
  | 8 => [19, 20, 21, 22, 23, 24, 25]
  | 10 => [5, 6, 7, 8, 26, 27, 28, 29, 30, 31, 32, 33, 34, 35]
  | 12 => [5, 6, 7, 8, 26, 36, 37, 38, 39, 40, 41, 42, 43, 44, 45, 46, 47]
  | _ => []
def impl_TreeOk.kl : Nat → List Nat := fun n => match n with
  | 0 => [3, 4, 5, 6, 7, 8, 9, 10, 11, 12, 13, 14, 15, 16, 17, 18, 19, 20, 21]
  | 2 => [0, 1, 2, 7, 8, 9, 10, 11, 12, 13, 14, 15, 16, 17, 18, 19, 20, 21]
  | _ => []
def spec_TreeOk.kl : Nat → List Nat := fun n => match n with
  | 0 => [3, 4, 5, 6, 7, 8, 9, 10, 11, 12, 13, 14, 15, 16, 17, 18, 19, 20, 21, 22, 23, 24, 25]
  | 2 => [0, 1, 2, 7, 8, 9, 10, 11, 12, 13, 14, 15, 16, 17, 18, 19, 20, 21, 22, 23, 24, 25]
  | _ => []
def laws_alive.kl : Nat → List Nat := fun n => match n with
  | 0 => [0, 1, 2, 3, 4, 5]
  | 2 => [1, 2, 3, 4, 5]
  | _ => []
def impl_LinksEnds.kl : Nat → List Nat := fun n => match n with
  | 0 => [3, 4, 5, 6, 7, 8, 9, 10, 11, 12, 13, 14, 15, 16, 17, 18, 19]
  | 2 => [0, 1, 2, 7, 8, 9, 10, 11, 12, 13, 14, 15, 16, 17, 18, 19]
  | _ => []
def spec_DrawTreesOf.kl : Nat → List Nat := fun n => match n with
  | 0 => [1, 2, 3, 4, 5, 6, 7, 8]
  | 2 => [0, 4, 5, 6, 7, 8]
  | _ => []
def impl_TreesOf.kl : Nat → List Nat := fun n => match n with
  | 0 => [2, 3, 4, 5, 6, 7, 8, 9, 10, 11, 12]
  | 2 => [5, 6, 7]
  | 4 => [0, 1, 8]
  | 6 => [0, 1, 8, 9, 10, 11, 12]
  | _ => []
def laws_sameInts.kl : Nat → List Nat := fun n => match n with
  | 0 => [2, 3, 4, 5, 6, 7, 8, 9, 10, 11, 12, 13, 14, 15, 16, 17, 18, 19, 20, 21, 22, 23, 24, 25]
  | 2 => [6, 7, 8, 9]
  | 3 => [14]
  | 4 => [0, 1, 10]
  | 6 => [10]
  | 8 => [4, 11, 12, 13, 15, 16, 17, 18, 19, 20, 21, 22, 23, 24, 25]
  | 10 => [15, 16, 25]
  | 12 => [17, 18, 19, 20, 21, 22, 23, 24]
  | 14 => [0, 1, 5, 25]
  | 16 => [0, 1, 5, 14]
  | _ => []
def spec_TreesOf.kl : Nat → List Nat := fun n => match n with
  | 0 => [2, 3, 4, 5, 6, 7, 8, 9, 10, 11, 12, 13, 14, 15, 16, 17, 18, 19, 20, 21, 22, 23, 24, 25, 26, 27, 28, 29, 30]
  | 2 => [7]
  | 3 => [17]
  | 6 => [8, 9, 10, 11, 12, 13, 14, 15, 16, 18, 19, 20, 21, 22, 23, 24, 25, 26, 27, 28, 29]
  | 8 => [18, 19, 25]
  | 10 => [20, 21, 22, 23, 24]
  | 12 => [25, 26, 27, 28, 29]
  | 14 => [0, 1, 5, 6, 17, 30]
  | _ => []
def spec_WiresOk.kl : Nat → List Nat := fun n => match n with
  | 0 => [2, 3, 4, 5, 6, 7, 8, 9, 10, 11, 12, 13, 14, 15, 16, 17, 18, 19, 20, 21, 22, 23, 24, 25, 26, 27, 28, 29, 30, 31, 32, 33, 34, 35, 36, 37, 38, 39, 40, 41, 42, 43, 44, 45, 46, 47, 48, 49, 50]
  | 3 => [10]
  | 4 => [4, 6, 7, 8, 9, 11, 12, 13, 14, 15, 16, 17, 18, 19, 20, 21, 22, 23, 24, 25, 26, 27, 28, 29, 30, 31, 32, 33, 34, 35, 36, 37, 38, 39, 40, 41, 42, 43]
  | 6 => [11, 12, 43]
  | 8 => [13, 14, 15, 16]
  | 10 => [6, 17, 18, 19, 20, 21, 22, 23, 24, 25, 26, 27, 28, 29, 30, 31, 32, 33, 34, 35, 36, 37, 38, 39, 40, 41, 42]
  | 12 => [0, 1, 5, 43]
  | 14 => [0, 1, 5, 10, 44, 45, 46, 47, 48, 49, 50]
  | _ => []
def laws_hasInt.kl : Nat → List Nat := fun n => match n with
  | 0 => [2, 3, 4, 5, 6, 7, 8, 9, 10, 11, 12, 13, 14, 15, 16, 17]
  | 3 => [9]
  | 4 => [4, 6, 7, 8, 10, 11, 12, 13, 14, 15, 16, 17]
  | 6 => [10, 11, 17]
  | 8 => [12, 13, 14, 15, 16]
  | 10 => [0, 1, 5, 17]
  | 12 => [0, 1, 5, 9]
  | _ => []
def laws_ascend.kl : Nat → List Nat := fun n => match n with
  | 0 => [1, 2, 3, 4, 5, 6, 7, 8, 9, 10, 11, 12, 13, 14, 15, 16, 17, 18, 19]
  | 3 => [7]
  | 4 => [2, 4, 5, 6, 8, 9, 10, 11, 12, 13, 14, 15, 16, 17, 18, 19]
  | 6 => [8, 9, 19]
  | 8 => [10, 11, 12, 13, 14, 15, 16, 17, 18]
  | 10 => [0, 3, 19]
  | 12 => [0, 3, 7]
  | _ => []
def spec_DrawTreePair.kl : Nat → List Nat := fun n => match n with
  | 0 => [1, 2, 3, 4, 5, 6, 7, 8]
  | 2 => [0, 4, 5, 6, 7, 8]
  | _ => []
def impl_TreePair.kl : Nat → List Nat := fun n => match n with
  | 0 => [2, 3, 4, 5, 6, 7, 8, 9, 10, 11, 12, 13]
  | 2 => [0, 1, 7, 8, 9, 10, 11, 12, 13]
  | _ => []
def spec_TreePair.kl : Nat → List Nat := fun n => match n with
  | 0 => [2, 3, 4, 5, 6, 7, 8, 9, 10, 11, 12, 13, 14, 15, 16, 17, 18]
  | 2 => [7, 8, 9]
  | 4 => [0, 1, 10]
  | 6 => [0, 1, 10, 11, 12, 13, 14, 15, 16, 17, 18]
  | _ => []
def impl_WiresWinner.kl : Nat → List Nat := fun n => match n with
  | 0 => [4, 5, 6, 7, 8, 9, 10, 11, 12, 13, 14, 15, 16, 17, 18, 19, 20, 21, 22, 23, 24]
  | 2 => [0, 9, 10, 11, 12, 13, 14, 15, 16, 17]
  | 4 => [1, 2, 3, 18]
  | 6 => [1, 2, 3, 18, 19, 20, 21, 22, 23, 24]
  | _ => []
def spec_DrawPairOn.kl : Nat → List Nat := fun n => match n with
  | 0 => [1, 2, 3, 4, 5, 6, 7, 8, 9, 10, 11, 12, 13, 14, 15, 16, 17, 18, 19, 20, 21, 22, 23, 24, 25, 26, 27, 28, 29, 30, 31, 32, 33]
  | 2 => [0, 8, 9]
  | 4 => [10, 11, 12, 13, 14]
  | 6 => [5, 6, 7, 15, 16, 17, 18, 19, 20, 21, 22, 23, 24, 25, 26, 27, 28, 29, 30, 31, 32, 33]
  | _ => []
def impl_PairOn.kl : Nat → List Nat := fun n => match n with
  | 0 => [3, 4, 5, 6, 7, 8, 9, 10, 11, 12, 13, 14, 15, 16, 17, 18, 19, 20, 21, 22, 23, 24, 25, 26, 27, 28, 29, 30, 31, 32, 33, 34, 35, 36, 37]
  | 2 => [0, 10, 11, 12, 13, 14, 15, 16, 17, 18, 19, 20, 21, 22, 23, 24, 25, 26, 27]
  | 4 => [1, 2, 28]
  | 6 => [1, 2, 7, 8, 28, 29, 30, 31, 32, 33, 34, 35, 36]
  | 8 => [9, 37]
  | _ => []
def spec_PairOn.kl : Nat → List Nat := fun n => match n with
  | 0 => [3, 4, 5, 6, 7, 8, 9, 10, 11, 12, 13, 14, 15, 16, 17, 18, 19, 20, 21, 22, 23, 24, 25, 26, 27, 28, 29, 30, 31, 32, 33, 34]
  | 2 => [0, 10, 11, 12, 13, 14, 15, 16, 17, 18, 19, 20, 21, 22, 23, 24, 25]
  | 4 => [1, 2, 26]
  | 6 => [1, 2, 7, 8, 26, 27, 28, 29, 30, 31, 32, 33]
  | 8 => [9, 34]
  | _ => []
def spec_DrawPairSomewhere.kl : Nat → List Nat := fun n => match n with
  | 0 => [1, 2, 3, 4, 5, 6, 7, 8]
  | 2 => [0, 4, 5, 6, 7, 8]
  | _ => []
def impl_PairSomewhere.kl : Nat → List Nat := fun n => match n with
  | 0 => [2, 3, 4, 5, 6, 7, 8, 9, 10, 11, 12, 13, 14, 15, 16, 17, 18, 19, 20, 21, 22, 23, 24]
  | 2 => [7, 8, 9]
  | 3 => [16]
  | 4 => [0, 1, 10]
  | 6 => [10, 11, 12]
  | 8 => [4, 6, 17, 18, 19, 20, 21, 22, 23, 24]
  | 10 => [17, 18]
  | 12 => [19, 20, 21]
  | 14 => [0, 1, 6, 13, 14, 15, 22, 23]
  | 16 => [6, 22, 24]
  | 18 => [0, 1, 13, 14, 15, 16]
  | _ => []
def spec_PairSomewhere.kl : Nat → List Nat := fun n => match n with
  | 0 => [2, 3, 4, 5, 6, 7, 8, 9, 10, 11, 12, 13, 14, 15, 16, 17, 18, 19, 20, 21]
  | 3 => [14]
  | 4 => [4, 6, 7, 8, 9, 10, 11, 12, 13, 15, 16, 17, 18, 19, 20, 21]
  | 6 => [15, 16, 20]
  | 8 => [17, 18, 19]
  | 10 => [0, 1, 5, 20, 21]
  | 12 => [0, 1, 5, 14]
  | _ => []
def spec_l20Open.kl : Nat → List Nat := fun n => match n with
  | 0 => [1, 2, 3, 4, 5, 6, 7, 8, 9, 10]
  | 2 => [3, 4]
  | 4 => [5, 6, 7]
  | 6 => [0, 5, 8, 9, 10]
  | _ => []
def spec_l20Rich.kl : Nat → List Nat := fun n => match n with
  | 0 => [1, 2, 3, 4, 5, 6, 7, 8, 9, 10, 11, 12, 13, 14, 15, 16, 17, 18, 19, 20, 21, 22, 23, 24, 25, 26, 27, 28, 29, 30, 31, 32, 33, 34, 35, 36, 37, 38, 39, 40, 41, 42, 43]
  | 2 => [8, 9, 10, 11, 12]
  | 3 => [21]
  | 4 => [13, 14]
  | 6 => [5, 15, 16, 17, 18]
  | 7 => [26]
  | 8 => [19]
  | 12 => [7, 20, 22, 23, 24, 25, 26, 27, 28, 29, 30, 31, 32, 33, 34, 35, 36]
  | 14 => [7, 22, 23, 26]
  | 18 => [24, 25, 27, 28, 29, 30, 31, 32, 33, 34, 35, 36]
  | 20 => [27, 28]
  | 22 => [29, 30, 31, 32, 33, 34, 35, 36]
  | 24 => [0, 6, 21, 37, 38]
  | 26 => [39, 40, 41]
  | 28 => [0, 4, 5, 15, 39, 42, 43]
  | _ => []
def spec_l20Rd_pick.kl : Nat → List Nat := fun n => match n with
  | 0 => [2, 3, 4, 5, 6, 7, 8, 9, 10, 11, 12, 13, 14, 15, 16, 17, 18, 19, 20, 21, 22, 23, 24, 25, 26, 27, 28, 29, 30, 31, 32, 33, 34, 35, 36, 37, 38, 39, 40, 41, 42, 43, 44, 45, 46, 47, 48, 49, 50, 51, 52, 53, 54, 55, 56, 57, 58, 59, 60, 61, 62, 63, 64, 65, 66, 67, 68, 69, 70, 71, 72, 73, 74, 75, 76, 77, 78, 79, 80, 81, 82, 83, 84, 85, 86, 87, 88, 89, 90, 91, 92, 93, 94, 95, 96, 97, 98]
  | 2 => [7, 8, 9, 10, 11, 12, 13, 14]
  | 4 => [15, 16, 17, 18, 19, 20, 21, 22, 23]
  | 6 => [0, 1, 24]
  | 8 => [24, 25, 26, 27, 28, 29]
  | 10 => [30, 31, 32, 33, 34, 35]
  | 12 => [0, 1, 5, 36, 37, 38, 39, 40, 41, 42, 43, 44, 45, 46]
  | 14 => [0, 5, 36, 47, 48, 49, 50, 51, 52, 53, 54, 55, 56, 57, 58, 59, 60, 61, 62, 63, 64, 65, 66, 67, 68, 69, 70, 71, 72, 73, 74, 75, 76, 77, 78, 79, 80, 81, 82, 83, 84, 85, 86, 87, 88, 89, 90, 91]
  | 16 => [92, 93, 94, 95]
  | 18 => [1, 6, 96, 97, 98]
  | _ => []
def impl_WiresOk.kl : Nat → List Nat := fun n => match n with
  | 0 => [2, 3, 4, 5, 6, 7, 8, 9, 10, 11, 12, 13, 14, 15, 16, 17, 18, 19, 20, 21, 22, 23, 24, 25, 26, 27, 28, 29, 30, 31, 32, 33, 34, 35, 36, 37, 38, 39, 40, 41, 42, 43]
  | 2 => [7, 8, 9, 10, 11, 12, 13, 14, 15, 16]
  | 3 => [21]
  | 4 => [0, 1, 17]
  | 6 => [1, 17]
  | 8 => [4, 6, 22, 23, 24, 25, 26, 27, 28, 29, 30, 31, 32, 33, 34, 35, 36, 37, 38, 39, 40, 41, 42, 43]
  | 10 => [22, 23]
  | 12 => [6, 24, 25, 26, 27, 28, 29, 30, 31, 32, 33, 34, 35, 36, 37, 38, 39, 40, 41]
  | 14 => [0, 18, 19, 20, 42]
  | 16 => [42, 43]
  | 18 => [0, 18, 19, 20, 21]
  | _ => []
def impl_wireSetOk.kl : Nat → List Nat := fun n => match n with
  | 0 => [2, 3, 4, 5, 6, 7, 8, 9, 10, 11, 12]
  | 2 => [0, 1, 5, 6, 7, 8, 9, 10, 11, 12]
  | _ => []
def impl_treeOn.kl : Nat → List Nat := fun n => match n with
  | 0 => [3, 4, 5, 6, 7, 8, 9, 10, 11, 12, 13, 14, 15, 16, 17, 18, 19]
  | 2 => [0, 1, 2, 7, 8, 9, 10, 11, 12, 13, 14, 15, 16, 17, 18, 19]
  | _ => []
def impl_allNodes.kl : Nat → List Nat := fun n => match n with
  | 0 => [1, 2, 3, 4, 5]
  | 2 => [0, 3, 4, 5]
  | _ => []
def spec_l1In.kl : Nat → List Nat := fun n => match n with
  | 0 => [3, 4, 5, 6, 7, 8, 9, 10, 11, 12, 13, 14]
  | 2 => [0, 1, 2, 7, 8, 9, 10, 11, 12, 13, 14]
  | _ => []
def spec_l10Tree.kl : Nat → List Nat := fun n => match n with
  | 0 => [3, 4, 5, 6, 7, 8, 9, 10, 11, 12, 13, 14, 15, 16, 17, 18, 19, 20, 21, 22, 23, 24, 25, 26, 27, 28, 29, 30, 31, 32, 33, 34, 35, 36, 37, 38, 39, 40, 41, 42, 43, 44, 45, 46, 47, 48, 49, 50, 51, 52, 53]
  | 3 => [11]
  | 4 => [6, 8, 9, 10, 12, 13, 14, 15, 16, 17, 18, 19, 20, 21, 22, 23, 24, 25, 26, 27, 28, 29, 30, 31, 32, 33, 34, 35, 36, 37, 38, 39, 40]
  | 6 => [12, 13, 40]
  | 8 => [14, 15, 16, 17, 18, 19, 20, 21, 22, 23, 24, 25, 26, 27, 28, 29, 30, 31, 32, 33, 34, 35, 36, 37, 38, 39]
  | 10 => [0, 1, 2, 7, 40]
  | 12 => [0, 1, 2, 7, 11, 41, 42, 43, 44, 45, 46, 47, 48, 49, 50, 51, 52, 53]
  | _ => []
def impl_BoardOk.kl : Nat → List Nat := fun n => match n with
  | 0 => [2, 3, 4, 5, 6, 7, 8, 9, 10, 11, 12, 13, 14, 15, 16]
  | 2 => [0, 1, 5, 6, 7, 8, 9, 10, 11, 12, 13, 14, 15, 16]
  | _ => []
def impl_linked.kl : Nat → List Nat := fun n => match n with
  | 0 => [2, 3, 4, 5, 6, 7, 8, 9]
  | 2 => [0, 1, 5, 6, 7, 8, 9]
  | _ => []
def impl_treesOn.kl : Nat → List Nat := fun n => match n with
  | 0 => [2, 3, 4, 5, 6, 7, 8, 9, 10, 11, 12, 13, 14, 15, 16, 17, 18, 19, 20, 21, 22, 23, 24, 25]
  | 3 => [13]
  | 4 => [8, 9]
  | 6 => [7, 14, 15, 16, 17, 18, 19, 20, 21, 22, 23, 24]
  | 8 => [14, 15]
  | 10 => [16, 17, 18]
  | 12 => [7, 19, 20, 21, 22, 23]
  | 14 => [7, 19, 24]
  | 16 => [0, 1, 5, 10, 11, 12, 13, 25]
  | _ => []
def impl_pairAmong.kl : Nat → List Nat := fun n => match n with
  | 0 => [1, 2, 3, 4, 5, 6, 7, 8, 9, 10, 11, 12, 13, 14, 15, 16, 17, 18, 19, 20, 21, 22, 23, 24, 25, 26, 27, 28]
  | 3 => [12]
  | 4 => [2, 3, 4, 6, 8, 13, 14, 15, 16, 17, 18, 19, 20, 21, 22, 23, 24, 25, 26, 27, 28]
  | 6 => [13, 14]
  | 7 => [18]
  | 10 => [2, 3, 4, 8, 19, 20, 21, 22, 23, 24, 25, 26, 27]
  | 12 => [19, 20]
  | 14 => [21, 22, 23]
  | 16 => [0, 6, 8, 9, 10, 11, 15, 16, 17, 24, 25, 26]
  | 18 => [8, 24, 27]
  | 20 => [6, 15, 16, 17, 18, 28]
  | 22 => [0, 9, 10, 11, 12]
  | _ => []
def spec_l10Pair.kl : Nat → List Nat := fun n => match n with
  | 0 => [2, 3, 4, 5, 6, 7, 8, 9, 10, 11, 12, 13, 14, 15, 16, 17, 18, 19, 20, 21, 22, 23, 24, 25, 26, 27, 28, 29, 30, 31, 32, 33, 34, 35, 36, 37, 38, 39, 40, 41]
  | 3 => [13]
  | 4 => [4, 5, 6, 8, 9, 10, 11, 12, 14, 15, 16, 17, 18, 19, 20, 21, 22, 23, 24, 25, 26, 27, 28, 29, 30, 31, 32, 33, 34, 35, 36, 37, 38, 39, 40, 41]
  | 6 => [8, 14, 15, 20, 27]
  | 7 => [27]
  | 8 => [16, 17, 18, 19]
  | 10 => [20, 21, 22]
  | 12 => [4, 5, 6, 23, 24, 25, 26, 28, 29, 30, 31, 32, 33, 34, 35, 36, 37, 38, 39, 40, 41]
  | 14 => [28, 29, 39]
  | 16 => [30, 31, 32, 33, 34, 35, 36, 37, 38]
  | 18 => [0, 1, 7, 8, 39, 40, 41]
  | 20 => [0, 1, 7, 13]
  | _ => []
def impl_OwnersOk.kl : Nat → List Nat := fun n => match n with
  | 0 => [3, 4, 5, 6, 7, 8, 9, 10, 11, 12, 13, 14, 15, 16, 17, 18, 19, 20, 21, 22, 23, 24, 25, 26, 27, 28, 29]
  | 2 => [0, 1, 9, 10, 11, 12, 13, 14, 15, 16, 17, 18]
  | 3 => [23]
  | 4 => [2, 19]
  | 6 => [2, 19]
  | 8 => [6, 8, 24, 25, 26, 27, 28, 29]
  | 10 => [24, 25]
  | 12 => [8, 26, 27]
  | 14 => [20, 21, 22, 28]
  | 16 => [28, 29]
  | 18 => [20, 21, 22, 23]
  | _ => []
def impl_playerOk.kl : Nat → List Nat := fun n => match n with
  | 0 => [1, 2, 3, 4, 5, 6, 7, 8]
  | 2 => [0, 3, 4, 5, 6, 7, 8]
  | _ => []
def impl_newNetGame.kl : Nat → List Nat := fun n => match n with
  | 0 => [1, 3, 4, 5]
  | 2 => [0, 3, 4, 5]
  | _ => []
def impl_netGame_winner.kl : Nat → List Nat := fun n => match n with
  | 0 => [0, 1, 4, 5, 6, 7, 8, 9, 10, 11, 12, 13, 14, 15, 16, 17, 18, 19, 20, 21, 22, 23]
  | 2 => [7, 8, 9, 10, 11, 12, 13]
  | 4 => [6, 14]
  | 6 => [15, 16, 17, 18]
  | 8 => [2, 3, 19, 20, 21, 22]
  | 10 => [2, 3, 5, 15, 23]
  | _ => []
def impl_standingOf.kl : Nat → List Nat := fun n => match n with
  | 0 => [2, 3, 5, 6, 7, 8, 9, 10, 11, 12, 13, 14, 15, 16, 17, 18, 19]
  | 2 => [1, 7, 8]
  | 3 => [10]
  | 6 => [6, 11, 12, 13, 14, 15, 16, 17, 18]
  | 8 => [11]
  | 10 => [6, 12, 13, 14, 15, 16, 17]
  | 12 => [18]
  | 14 => [0, 5, 9, 10, 19]
  | _ => []
def impl_partsOf.kl : Nat → List Nat := fun n => match n with
  | 0 => [1, 2, 3, 4, 5, 6, 7, 8, 9, 10, 11, 12, 13, 14, 15, 16, 17, 18, 19, 20]
  | 2 => [5]
  | 3 => [8]
  | 6 => [6, 7, 9, 10, 11, 12, 13, 14, 15, 16, 17, 18, 19]
  | 8 => [9, 10, 11, 12, 13, 14, 15]
  | 10 => [16, 17, 18, 19]
  | 12 => [0, 3, 4, 8, 20]
  | _ => []
def spec_l20Wires.kl : Nat → List Nat := fun n => match n with
  | 0 => [2, 3, 4, 5, 6, 7, 8, 9, 10, 11, 12, 13, 14, 15, 16, 17, 18, 19, 20, 21, 22, 23, 24, 25, 26, 27, 28, 29, 30, 31, 32, 33, 34, 35, 36, 37, 38, 39, 40, 41, 42, 43, 44, 45, 46, 47, 48, 49, 50, 51, 52, 53, 54, 55, 56, 57, 58, 59, 60, 61, 62, 63, 64, 65]
  | 2 => [11, 12, 13]
  | 3 => [19]
  | 4 => [14]
  | 6 => [15, 16, 17]
  | 8 => [9, 10, 18, 20, 21, 22, 23, 24, 25, 26, 27, 28, 29, 30, 31, 32, 33, 34, 35, 36, 37, 38, 39]
  | 10 => [20, 21]
  | 12 => [22, 23, 24]
  | 14 => [25, 26, 27, 28, 29, 30, 31, 32, 33]
  | 16 => [9, 10, 34, 35, 36, 37, 38, 39]
  | 18 => [1, 8, 19, 40, 41]
  | 20 => [42, 43]
  | 22 => [0, 6, 7, 45, 46, 47, 48, 49, 50, 57]
  | 24 => [52]
  | 26 => [0, 44, 51, 53, 54, 55, 56]
  | 28 => [44, 51, 58]
  | 30 => [0, 57, 59, 60, 61, 62, 63]
  | 32 => [0, 6, 7, 42, 64, 65]
  | _ => []
def impl_nodeOk.kl : Nat → List Nat := fun n => match n with
  | 0 => [2, 3, 4, 5, 6, 7, 8, 9, 10, 11]
  | 2 => [0, 1, 5, 6, 7, 8, 9, 10, 11]
  | _ => []
def impl_allWires.kl : Nat → List Nat := fun n => match n with
  | 0 => [1, 2, 3, 4, 5, 6]
  | 2 => [0, 3, 4, 5, 6]
  | _ => []
def impl_countIn.kl : Nat → List Nat := fun n => match n with
  | 0 => [1, 2, 3, 4, 5]
  | 2 => [0, 3, 4, 5]
  | _ => []
def impl_nodesReached.kl : Nat → List Nat := fun n => match n with
  | 0 => [3, 4, 5, 6, 7, 8, 9, 10, 11, 12, 13, 14, 15, 16, 17, 18, 19, 20]
  | 2 => [8]
  | 3 => [10]
  | 4 => [9, 11, 12, 13, 14, 15, 16, 17, 18, 19]
  | 6 => [11, 12, 13, 14, 15, 16]
  | 8 => [17, 18, 19]
  | 10 => [0, 1, 2, 7, 10, 20]
  | _ => []
def spec_l6Size.kl : Nat → List Nat := fun n => match n with
  | 0 => [1, 2, 3, 4, 5]
  | 2 => [0, 3, 4, 5]
  | _ => []
def spec_l9Reach.kl : Nat → List Nat := fun n => match n with
  | 0 => [3, 4, 5, 6, 7, 8, 9, 10, 11, 12, 13, 14, 15, 16, 17, 18, 19, 20, 21, 22, 23, 24, 25, 26, 27, 28, 29, 30, 31, 32, 33, 34, 35, 36, 37, 38, 39, 40, 41, 42, 43, 44, 45, 46, 47, 48, 49, 50, 51, 52, 53, 54, 55, 56, 57, 58]
  | 2 => [2, 10, 11]
  | 3 => [12]
  | 6 => [8, 9, 13, 14, 15, 16, 17, 18, 19, 20, 21, 22, 23, 24, 25, 26, 27, 28, 29, 30, 31, 32, 33, 34, 35, 36, 37, 38, 39, 40, 41, 42, 43, 44, 45, 46, 47, 48, 49, 50, 51, 52, 53, 54, 55, 56, 57]
  | 7 => [16]
  | 12 => [13, 14, 15, 17, 18, 19, 20, 21, 22, 23, 24, 25, 26, 27, 28, 29, 30, 31, 32, 33, 34, 35, 36, 37, 38, 39, 40, 41, 42, 43, 44, 45, 46, 47, 48, 49, 50, 51, 52, 53, 54, 55, 56, 57]
  | 14 => [17, 18, 42]
  | 16 => [19, 20, 21, 22, 23, 24, 25, 26, 27, 28, 29, 30, 31, 32, 33, 34, 35, 36, 37, 38, 39, 40, 41]
  | 18 => [8, 42, 43, 44, 45, 46, 47, 48, 49, 50, 51, 52, 53, 54, 55, 56, 57]
  | 22 => [0, 1, 7, 12, 58]
  | _ => []
def impl_sizeOk.kl : Nat → List Nat := fun n => match n with
  | 0 => [1, 2, 3, 4, 5, 6, 7, 8]
  | 2 => [0, 3, 4, 5, 6, 7, 8]
  | _ => []
def impl_contentOk.kl : Nat → List Nat := fun n => match n with
  | 0 => [1, 2, 3, 4, 5, 6, 7, 8, 9, 10, 11, 12]
  | 2 => [0, 3, 4, 5, 6, 7, 8, 9, 10, 11, 12]
  | _ => []
def impl_netGame_solved.kl : Nat → List Nat := fun n => match n with
  | 0 => [0, 1, 4, 5, 6, 7, 8, 9, 10, 11, 12, 13, 14, 15, 16, 17, 18, 19, 20, 21, 22, 23, 24, 25, 26, 27, 28, 29, 30, 31]
  | 2 => [7, 8, 9]
  | 3 => [17]
  | 4 => [10]
  | 6 => [2, 3, 5, 11, 12]
  | 8 => [5, 11, 13, 14, 15]
  | 10 => [4, 16, 18, 19, 20, 21, 22, 23, 24, 25, 26, 27, 28]
  | 12 => [18, 19, 20, 21, 26]
  | 14 => [22, 23, 24, 25]
  | 16 => [2, 3, 6, 26, 27, 28]
  | 18 => [2, 3, 6, 17, 29, 30, 31]
  | _ => []
def impl_setOf.kl : Nat → List Nat := fun n => match n with
  | 0 => [2, 3, 4, 5, 6, 7, 8, 9, 10, 11, 12, 13, 14, 15, 16, 17, 18, 19, 20, 21, 22, 23]
  | 3 => [11]
  | 4 => [0]
  | 6 => [6, 7, 12, 13, 14, 15, 16, 17, 18, 19, 20, 21, 22]
  | 8 => [12, 13, 14]
  | 10 => [7, 15, 16]
  | 12 => [6, 17, 18, 19, 20, 21]
  | 14 => [6, 17, 22]
  | 16 => [1, 5, 8, 9, 10, 11, 23]
  | _ => []
def spec_l20Rd_odd.kl : Nat → List Nat := fun n => match n with
  | 0 => [2, 3, 4, 5, 6, 7, 8, 9, 10, 11, 12, 13, 14]
  | 2 => [0, 1, 5, 6, 7, 8, 9, 10, 11, 12, 13, 14]
  | _ => []
def bits_OnesCount.kl : Nat → List Nat := fun n => match n with
  | 0 => [1, 2, 3, 4, 5, 6, 7]
  | 2 => [0, 3, 4, 5]
  | 4 => [0, 6, 7]
  | _ => []
def impl_nodesBeside.kl : Nat → List Nat := fun n => match n with
  | 0 => [3, 4, 5, 6, 7, 8, 9, 10, 11, 12, 13, 14, 15, 16, 17, 18, 19, 20, 21, 22, 23, 24, 25, 26, 27, 28, 29, 30, 31, 32, 33, 34, 35, 36, 37]
  | 3 => [13]
  | 4 => [1, 11]
  | 6 => [9, 10, 12, 14, 15, 16, 17, 18, 19, 20, 21, 22, 23, 24, 25, 26, 27, 28, 29, 30, 31, 32, 33, 34, 35, 36]
  | 8 => [10, 14, 15, 16, 17, 33]
  | 10 => [18, 19, 20, 21, 22]
  | 12 => [9, 23, 24, 25, 26, 27, 28, 29]
  | 14 => [30, 31, 32]
  | 16 => [10, 33, 34, 35, 36]
  | 18 => [0, 2, 7, 8, 13, 37]
  | _ => []
def spec_l2List.kl : Nat → List Nat := fun n => match n with
  | 0 => [1, 2, 3, 4, 5, 6, 7, 8, 9, 10, 11, 12, 13, 14, 15, 16, 17, 18, 19, 20, 21]
  | 2 => [5]
  | 3 => [9]
  | 6 => [6, 7, 8, 10, 11, 12, 13, 14, 15, 16, 17, 18, 19, 20]
  | 8 => [10, 11, 16]
  | 10 => [12, 13, 14, 15]
  | 12 => [16, 17, 18, 19, 20]
  | 14 => [0, 3, 4, 9, 21]
  | _ => []
def impl_netGame_won.kl : Nat → List Nat := fun n => match n with
  | 0 => [0, 1, 4, 5, 6, 7, 8, 9, 10, 11, 12, 13]
  | 2 => [2, 3, 5, 6, 7, 8, 9, 10, 11, 12, 13]
  | _ => []
def impl_netGame_wins.kl : Nat → List Nat := fun n => match n with
  | 0 => [0, 1, 5, 6, 7, 8, 9, 10, 11, 12, 13, 14]
  | 2 => [2, 3, 4, 7, 8, 9, 10, 11, 12, 13, 14]
  | _ => []
def impl_leastIn.kl : Nat → List Nat := fun n => match n with
  | 0 => [1, 2, 3, 4, 5]
  | 2 => [0, 3, 4, 5]
  | _ => []
def impl_exchanged.kl : Nat → List Nat := fun n => match n with
  | 0 => [1, 2, 3, 4, 5, 6, 7, 8]
  | 4 => [5]
  | 6 => [0, 3, 4]
  | 8 => [3, 4, 7]
  | 10 => [0, 6]
  | 12 => [0, 6, 8]
  | _ => []
def bits_OnesCount64.kl : Nat → List Nat := fun n => match n with
  | 0 => [1, 2, 3, 4, 5, 6, 7, 8, 9, 10, 11, 12, 13, 14, 15, 16, 17, 18, 19, 20, 21, 22, 23, 24, 25, 26, 27, 28, 29, 30, 31, 32, 33, 34]
  | 2 => [3, 4, 5, 6, 7, 8]
  | 4 => [9, 10, 11, 12, 13, 14]
  | 6 => [15, 16, 17, 18, 19]
  | 8 => [20, 21, 22, 23]
  | 10 => [24, 25, 26, 27]
  | 12 => [28, 29, 30, 31]
  | 14 => [0, 32, 33, 34]
  | _ => []
def impl_wonBy.kl : Nat → List Nat := fun n => match n with
  | 0 => [3, 4, 5, 6, 7, 8, 9, 10, 11, 12, 13, 14, 15, 16, 17]
  | 2 => [8, 9, 10]
  | 4 => [0, 1, 2, 7]
  | 6 => [0, 1, 2, 7, 12, 13, 14, 15, 16, 17]
  | 8 => [11]
  | 10 => [11]
  | _ => []
def impl_standing_after.kl : Nat → List Nat := fun n => match n with
  | 0 => [0, 3, 5, 6, 7, 8, 9, 10, 11, 12, 13, 14, 15, 16, 17, 18, 19, 20, 21, 22, 23, 24, 25, 26, 27]
  | 2 => [5, 6, 7, 8, 9, 10, 11, 12]
  | 4 => [1, 13, 14, 15, 16, 17, 18, 19, 20, 21, 22]
  | 6 => [23, 24, 25, 26]
  | 8 => [2, 27]
  | _ => []
def bits_TrailingZeros.kl : Nat → List Nat := fun n => match n with
  | 0 => [1, 2, 3, 4, 5, 6, 7]
  | 2 => [0, 3, 4, 5]
  | 4 => [0, 6, 7]
  | _ => []
def bits_TrailingZeros32.kl : Nat → List Nat := fun n => match n with
  | 0 => [1, 2, 3, 4, 5, 6, 7, 8, 9, 10, 11, 12, 13]
  | 2 => [3]
  | 4 => [0, 4]
  | 6 => [0, 4, 5, 6, 7, 8, 9, 10, 11, 12, 13]
  | _ => []
def bits_TrailingZeros64.kl : Nat → List Nat := fun n => match n with
  | 0 => [1, 2, 3, 4, 5, 6, 7, 8, 9, 10, 11, 12, 13]
  | 2 => [3]
  | 4 => [0, 4]
  | 6 => [0, 4, 5, 6, 7, 8, 9, 10, 11, 12, 13]
  | _ => []
def KL : FuncId → Nat → List Nat := fun f => match f with
  | 3 => laws_FnTreeOk.kl
  | 4 => laws_FnTreesOf.kl
  | 5 => laws_FnTreePair.kl
  | 6 => laws_FnPairOn.kl
  | 7 => laws_FnPairSomewhere.kl
  | 8 => spec_DrawTreeOk.kl
  | 9 => impl_TreeOk.kl
  | 10 => spec_TreeOk.kl
  | 11 => laws_alive.kl
  | 12 => impl_LinksEnds.kl
  | 13 => spec_DrawTreesOf.kl
  | 14 => impl_TreesOf.kl
  | 15 => laws_sameInts.kl
  | 16 => spec_TreesOf.kl
  | 17 => spec_WiresOk.kl
  | 18 => laws_hasInt.kl
  | 19 => laws_ascend.kl
  | 20 => spec_DrawTreePair.kl
  | 21 => impl_TreePair.kl
  | 22 => spec_TreePair.kl
  | 23 => impl_WiresWinner.kl
  | 24 => spec_DrawPairOn.kl
  | 25 => impl_PairOn.kl
  | 26 => spec_PairOn.kl
  | 27 => spec_DrawPairSomewhere.kl
  | 28 => impl_PairSomewhere.kl
  | 29 => spec_PairSomewhere.kl
  | 30 => spec_l20Open.kl
  | 31 => spec_l20Rich.kl
  | 32 => spec_l20Rd_pick.kl
  | 33 => impl_WiresOk.kl
  | 34 => impl_wireSetOk.kl
  | 35 => impl_treeOn.kl
  | 36 => impl_allNodes.kl
  | 37 => spec_l1In.kl
  | 38 => spec_l10Tree.kl
  | 39 => impl_BoardOk.kl
  | 40 => impl_linked.kl
  | 41 => impl_treesOn.kl
  | 42 => impl_pairAmong.kl
  | 43 => spec_l10Pair.kl
  | 44 => impl_OwnersOk.kl
  | 45 => impl_playerOk.kl
  | 46 => impl_newNetGame.kl
  | 47 => impl_netGame_winner.kl
  | 48 => impl_standingOf.kl
  | 49 => impl_partsOf.kl
  | 50 => spec_l20Wires.kl
  | 51 => impl_nodeOk.kl
  | 52 => impl_allWires.kl
  | 53 => impl_countIn.kl
  | 54 => impl_nodesReached.kl
  | 55 => spec_l6Size.kl
  | 56 => spec_l9Reach.kl
  | 57 => impl_sizeOk.kl
  | 58 => impl_contentOk.kl
  | 59 => impl_netGame_solved.kl
  | 60 => impl_setOf.kl
  | 61 => spec_l20Rd_odd.kl
  | 62 => bits_OnesCount.kl
  | 63 => impl_nodesBeside.kl
  | 64 => spec_l2List.kl
  | 65 => impl_netGame_won.kl
  | 66 => impl_netGame_wins.kl
  | 67 => impl_leastIn.kl
  | 68 => impl_exchanged.kl
  | 70 => bits_OnesCount64.kl
  | 71 => impl_wonBy.kl
  | 72 => impl_standing_after.kl
  | 73 => bits_TrailingZeros.kl
  | 74 => bits_TrailingZeros32.kl
  | 75 => bits_TrailingZeros64.kl
  | _ => fun _ => []
noncomputable def CL (g : Nat → PV) (lf n : Nat) : FuncId → List PV → PHeap → Res := call Tryd.prog g KL lf n
noncomputable def YL (g : Nat → PV) (lf n : Nat) : Nat → List PV → PHeap → Res := yields Tryd.prog g KL lf n
noncomputable def env (g : Nat → PV) (lf n : Nat) : Env := ⟨g, lf, CL g lf n, std Tryd.prog, YL g lf n⟩
@[simp] theorem env_C (g : Nat → PV) (lf n : Nat) : (env g lf n).C = CL g lf n := rfl
@[simp] theorem env_Y (g : Nat → PV) (lf n : Nat) : (env g lf n).Y = YL g lf n := rfl
@[simp] theorem env_g (g : Nat → PV) (lf n : Nat) : (env g lf n).g = g := rfl
@[simp] theorem env_lf (g : Nat → PV) (lf n : Nat) : (env g lf n).lf = lf := rfl
@[simp] theorem env_pick (g : Nat → PV) (lf n : Nat) : (env g lf n).p.pick = pickP := rfl
@[simp] theorem env_alloc (g : Nat → PV) (lf n : Nat) : (env g lf n).p.alloc = allocP Tryd.prog := rfl
@[simp] theorem env_box (g : Nat → PV) (lf n : Nat) : (env g lf n).p.box = boxP := rfl
@[simp] theorem env_build (g : Nat → PV) (lf n : Nat) : (env g lf n).p.build = buildP Tryd.prog := rfl
@[simp] theorem env_buildSlice (g : Nat → PV) (lf n : Nat) : (env g lf n).p.buildSlice = buildSliceP Tryd.prog := rfl
@[simp] theorem env_load (g : Nat → PV) (lf n : Nat) : (env g lf n).p.load = loadP Tryd.prog := rfl
@[simp] theorem env_store (g : Nat → PV) (lf n : Nat) : (env g lf n).p.store = storeP Tryd.prog := rfl
@[simp] theorem env_ptr (g : Nat → PV) (lf n : Nat) : (env g lf n).p.ptr = ptrP := rfl
@[simp] theorem env_bin (g : Nat → PV) (lf n : Nat) : (env g lf n).p.bin = binP Tryd.prog := rfl
@[simp] theorem env_un (g : Nat → PV) (lf n : Nat) : (env g lf n).p.un = unP := rfl
@[simp] theorem env_conv (g : Nat → PV) (lf n : Nat) : (env g lf n).p.conv = convP Tryd.prog := rfl
@[simp] theorem env_make (g : Nat → PV) (lf n : Nat) : (env g lf n).p.make = makeP Tryd.prog := rfl
@[simp] theorem env_slice (g : Nat → PV) (lf n : Nat) : (env g lf n).p.slice = sliceP Tryd.prog := rfl
@[simp] theorem env_fieldAddr (g : Nat → PV) (lf n : Nat) : (env g lf n).p.fieldAddr = fieldAddrP Tryd.prog := rfl
@[simp] theorem env_field (g : Nat → PV) (lf n : Nat) : (env g lf n).p.field = fieldP Tryd.prog := rfl
@[simp] theorem env_indexAddr (g : Nat → PV) (lf n : Nat) : (env g lf n).p.indexAddr = indexAddrP Tryd.prog := rfl
@[simp] theorem env_index (g : Nat → PV) (lf n : Nat) : (env g lf n).p.index = indexP Tryd.prog := rfl
@[simp] theorem env_extract (g : Nat → PV) (lf n : Nat) : (env g lf n).p.extract = extractP := rfl
@[simp] theorem env_len (g : Nat → PV) (lf n : Nat) : (env g lf n).p.len = lenP Tryd.prog := rfl
@[simp] theorem env_append (g : Nat → PV) (lf n : Nat) : (env g lf n).p.append = appendP Tryd.prog := rfl
@[simp] theorem env_max (g : Nat → PV) (lf n : Nat) : (env g lf n).p.max = foldP maxP2 := rfl
@[simp] theorem env_min (g : Nat → PV) (lf n : Nat) : (env g lf n).p.min = foldP minP2 := rfl
@[simp] theorem env_makeMap (g : Nat → PV) (lf n : Nat) : (env g lf n).p.makeMap = makeMapP := rfl
@[simp] theorem env_lookup (g : Nat → PV) (lf n : Nat) : (env g lf n).p.lookup = lookupP Tryd.prog := rfl
@[simp] theorem env_update (g : Nat → PV) (lf n : Nat) : (env g lf n).p.update = updateP Tryd.prog := rfl
@[simp] theorem env_clos (g : Nat → PV) (lf n : Nat) : (env g lf n).p.clos = closP := rfl
@[simp] theorem env_bstr (g : Nat → PV) (lf n : Nat) : (env g lf n).p.bstr = bstrP Tryd.prog := rfl
end Go.Proofs.YtbmmcldbllhhhaaDoor.G

/- From what the interpreter computes for a law to what the machine's call of it does. -/
set_option maxRecDepth 20000
namespace Go.Proofs.YtbmmcldbllhhhaaDoor
open Go Go.Ip Go.RowKit G

def g0 : Nat → PV := fun _ => .junk
def LF : Nat := 4294967296

theorem prog_mixed : Tryd.prog.follows .mixedOrders = true := by kernel_rfl
theorem prog_ok : progOk Tryd.prog = true := by kernel_rfl

/-- A slice of integers, nil or not, as the interpreter's heap holds it. -/
def IntSl (k : IntKind) (h : PHeap) (p : PV) (xs : List Int) : Prop :=
  (p = .nilsl ∧ xs = []) ∨ ∃ id off, p = .sl id off xs.length ∧ ∀ (i : Nat) x, xs[i]? = some x → (cellsAt h id)[off + i]? = some (.int k x)

/-- A slice of integers that came in. -/
theorem row_arg {k : IntKind} {w : World} {a : Option Addr} {len cap : Nat} {zs : List Int}
    (h : (a = none ∧ len = 0 ∧ cap = 0 ∧ zs = []) ∨ ∃ x, a = some x ∧ len ≤ cap ∧ cap ≤ maxLen ∧ zs.length = cap ∧ (∀ i, i < zs.length → w.cell? (x.add i) = some (.int k (zs.getD i 0))) ∧ ∀ n ∈ zs, (Lit.int k n).wf = true) :
    ∃ μ o p, Sim w.heap.size w μ [o] w ∧ rep μ p (.slice a len cap) ∧ IntSl k [o] p (zs.take len) ∧ len = (zs.take len).length ∧ len ≤ maxLen ∧ (∀ n ∈ zs.take len, (Lit.int k n).wf = true) ∧ (o = .dead ∨ ∃ c, o = .ro 1 c) := by
  have simD : ∀ l : Ip.Loc, Sim w.heap.size w [l] [.dead] w := fun l =>
    ⟨rfl, Below.refl _ _, Nat.le_refl _, fun id o l h _ => by
      match id, h with
      | 0, h => simp at h; subst h; trivial
      | id + 1, h => simp at h, fun i j li lj ei ci ej cj _ h => by
      match i, h with
      | 0, h => simp at h
      | i + 1, h => simp at h, fun i j li lj ei ej _ h => by
      match i, h with
      | 0, h => simp at h
      | i + 1, h => simp at h, fun i j li lj oi oj _ h ho => by
      match i, h with
      | 0, h => simp at h; subst h; cases ho
      | i + 1, h => simp at h, fun _ h => h, fun _ _ h => False.elim h, fun _ h => False.elim h, fun _ _ _ _ _ _ h => h⟩
  rcases h with ⟨rfl, rfl, rfl, rfl⟩ | ⟨x, rfl, hlc, hcm, hz, hcell, hwf⟩
  · exact ⟨[⟨0, 0, 0, 0⟩], .dead, .nilsl, simD _, rfl, .inl ⟨rfl, by simp⟩, by simp, Nat.zero_le _, by simp, .inl rfl⟩
  · have hlen : len = (zs.take len).length := by simp; omega
    by_cases hc : cap = 0
    · have hl0 : len = 0 := by omega
      subst hc hl0
      exact ⟨[oddLoc x], .dead, .sl 0 0 0, simD _, ⟨_, 0, x, rfl, rfl, Nat.le_refl _, odd_ok x⟩, .inr ⟨0, 0, by simp, fun i n hn => by simp at hn⟩, by simp, Nat.zero_le _, by simp, .inl rfl⟩
    refine ⟨[⟨x.block, x.off, x.off + cap, 1⟩], .ro 1 ((zs.take len).map (.int k)), .sl 0 0 (zs.take len).length, ?_, ?_, ?_, hlen, by omega, fun n hn => hwf n (List.mem_of_mem_take hn), .inr ⟨_, rfl⟩⟩
    · have h0 := hcell 0 (by omega)
      have hblk : x.block < w.heap.size := by
        have := World.block_lt_of_cell? w _ h0
        simpa [Addr.add] using this
      have hspot : x.spot = none := by
        have h1 : w.cell? x = some (.int k (zs.getD 0 0)) := by simpa [Addr.add] using h0
        unfold World.cell? at h1
        split at h1
        · split at h1
          · cases h1
          · rename_i hs; simpa using hs
        · cases h1
      refine ⟨rfl, Below.refl _ _, Nat.le_refl _, ?_, ?_, fun i j li lj ei ej _ h => by
        match i, h with
        | 0, h => simp at h
        | i + 1, h => simp at h, fun i j li lj oi oj _ h ho => by
        match i, h with
        | 0, h => simp at h; subst h; cases ho
        | i + 1, h => simp at h, fun _ h => h, fun _ _ h => False.elim h, fun _ h => False.elim h, fun _ _ _ _ _ _ h => h⟩
      · intro id o l ho hl
        match id, ho, hl with
        | 0, ho, hl =>
          obtain rfl := Option.some.inj ho
          obtain rfl := Option.some.inj hl
          refine ⟨rfl, hblk, ?_⟩
          intro j p hp
          simp only [List.getElem?_map, Option.map_eq_some_iff] at hp
          obtain ⟨n, hn, rfl⟩ := hp
          have hj : j < (zs.take len).length := (List.getElem?_eq_some_iff.1 hn).1
          have hj2 : j < zs.length := by simp at hj; omega
          refine ⟨_, ?_, rfl⟩
          have := hcell j hj2
          have hadd : x.add j = ⟨x.block, x.off + j, none⟩ := by
            cases x
            simp only at hspot
            subst hspot
            exact Addr.add_lit _ _ _
          rw [hadd] at this
          refine this.trans ?_
          rw [List.getElem?_take] at hn
          split at hn
          · simp [List.getD, hn]
          · cases hn
        | id + 1, ho, _ => simp at ho
      · intro i j li lj ei ci ej cj _ h
        match i, h with
        | 0, h => simp at h
        | i + 1, h => simp at h
    · refine ⟨_, cap, x, rfl, by rw [← hlen], by omega, .inl ⟨?_, by simp, Nat.zero_lt_one⟩⟩
      have h0 := hcell 0 (by omega)
      have hspot : x.spot = none := by
        have h1 : w.cell? x = some (.int k (zs.getD 0 0)) := by simpa [Addr.add] using h0
        unfold World.cell? at h1
        split at h1
        · split at h1
          · cases h1
          · rename_i hs; simpa using hs
        · cases h1
      cases x
      simp only at hspot
      subst hspot
      rfl
    · right
      refine ⟨0, 0, rfl, fun i n hn => ?_⟩
      have : cellsAt [PObj.ro 1 ((zs.take len).map (.int k))] 0 = (zs.take len).map (.int k) := rfl
      rw [this, List.getElem?_map, Nat.zero_add, hn]
      rfl

end Go.Proofs.YtbmmcldbllhhhaaDoor

