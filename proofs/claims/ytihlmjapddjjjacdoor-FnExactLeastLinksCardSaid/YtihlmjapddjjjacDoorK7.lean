/- Texts of this seat, in their order, put together by program. -/
import Derived.Test.YtihlmjapddjjjacDoorK6
import Derived.Test.YtihlmjapddjjjacDoorProg
import Derived.KernelRfl
set_option linter.unusedSimpArgs false
set_option linter.unusedVariables false
set_option linter.unusedSectionVars false
/- Of each function of this seat's program its plain form over the interpreter, written by program; each equation is the kernel's. -/
set_option linter.unusedVariables false
set_option maxRecDepth 100000
namespace Go.Proofs.YtihlmjapddjjjacDoor.G
open Go Go.Ip Go.Proofs

def fn_laws_FnExactWiresWon : Nat := 3
def fn_laws_FnExactWiresWinner : Nat := 4
def fn_laws_FnExactWinningWires : Nat := 5
def fn_laws_FnExactLeastLinks : Nat := 6
def fn_laws_FnExactLeastCuts : Nat := 7
def fn_laws_szWireS : Nat := 8
def fn_spec_WiresWon : Nat := 9
def fn_laws_toWireS : Nat := 10
def fn_laws_toIntS : Nat := 11
def fn_impl_WiresWon : Nat := 12
def fn_laws_eqWireS : Nat := 13
def fn_laws_eqIntS : Nat := 14
def fn_spec_WiresWinner : Nat := 15
def fn_impl_WiresWinner : Nat := 16
def fn_spec_WinningWires : Nat := 17
def fn_impl_WinningWires : Nat := 18
def fn_laws_markWireS : Nat := 19
def fn_laws_markIntS : Nat := 20
def fn_laws_heldIntS : Nat := 21
def fn_spec_LeastLinks : Nat := 22
def fn_impl_LeastLinks : Nat := 23
def fn_spec_LeastCuts : Nat := 24
def fn_impl_LeastCuts : Nat := 25
def fn_spec_OwnersOk : Nat := 26
def fn_spec_l9Done : Nat := 27
def fn_spec_l2Set : Nat := 28
def fn_laws_toWire : Nat := 29
def fn_impl_OwnersOk : Nat := 30
def fn_impl_wonBy : Nat := 31
def fn_impl_setOf : Nat := 32
def fn_laws_eqWire : Nat := 33
def fn_spec_l1In : Nat := 34
def fn_spec_l9Winner : Nat := 35
def fn_impl_playerOk : Nat := 36
def fn_impl_newNetGame : Nat := 37
def fn_impl_netGame_winner : Nat := 38
def fn_impl_standingOf : Nat := 39
def fn_spec_l1Other : Nat := 40
def fn_impl_netGame_won : Nat := 41
def fn_impl_netGame_wins : Nat := 42
def fn_spec_WiresOk : Nat := 43
def fn_spec_l9Reach : Nat := 44
def fn_impl_WiresOk : Nat := 45
def fn_impl_leastSets : Nat := 46
def fn_impl_LeastLinks_1 : Nat := 47
def fn_impl_linked : Nat := 48
def fn_impl_LeastCuts_1 : Nat := 49
def fn_impl_allWires : Nat := 50
def fn_impl_contentOk : Nat := 51
def fn_spec_l9Solve : Nat := 52
def fn_spec_l3Table : Nat := 53
def fn_impl_netGame_solved : Nat := 54
def fn_impl_standing_after : Nat := 55
def fn_impl_nodeOk : Nat := 56
def fn_impl_partsOf : Nat := 57
def fn_impl_sparesOne : Nat := 58
def fn_impl_nodesReached : Nat := 59
def fn_impl_leastIn : Nat := 60
def fn_impl_exchanged : Nat := 61
def fn_impl_nodesBeside : Nat := 62
def fn_bits_TrailingZeros : Nat := 63
def fn_bits_TrailingZeros32 : Nat := 64
def fn_bits_TrailingZeros64 : Nat := 65
def laws_FnExactWiresWon.kl : Nat → List Nat := fun n => match n with
  | 0 => [3, 4, 5, 6, 7, 8, 9, 10, 11, 12, 13, 14, 15, 16, 17, 18, 19, 20, 21, 22, 23, 24, 25, 26, 27, 28, 29, 30, 31, 32, 33, 34, 35, 36, 37, 38, 39, 40, 41, 42, 43, 44, 45, 46]
  | 2 => [12, 13]
  | 4 => [0, 1, 2, 14]
  | 6 => [14]
  | 8 => [15, 16, 17]
  | 10 => [7, 18]
  | 12 => [0, 1, 2, 19]
  | 14 => [19, 20, 21, 22, 23, 24, 25]
  | 16 => [26, 27]
  | 18 => [28, 29]
  | 20 => [0, 30, 31, 32, 33]
  | 22 => [8, 11, 34, 35]
  | 24 => [1, 2, 9, 10, 36]
  | 26 => [1, 9, 36, 37, 38, 39, 40]
  | 28 => [2, 10, 41]
  | 30 => [2, 10, 41, 42, 43, 44, 45]
  | 32 => [46]
  | 34 => [46]
  | _ => []
def laws_FnExactWiresWinner.kl : Nat → List Nat := fun n => match n with
  | 0 => [4, 5, 6, 7, 8, 9, 10, 11, 12, 13, 14, 15, 16, 17, 18, 19, 20, 21, 22, 23, 24, 25, 26, 27, 28, 29, 30, 31, 32, 33, 34, 35, 36, 37, 38, 39, 40, 41, 42, 43, 44, 45, 46, 47, 48, 49, 50]
  | 2 => [14, 15]
  | 4 => [0, 1, 2, 3, 16]
  | 6 => [16]
  | 8 => [17, 18, 19]
  | 10 => [9, 20]
  | 12 => [0, 1, 2, 3, 21]
  | 14 => [21, 22, 23, 24, 25, 26, 27, 28]
  | 16 => [29, 30]
  | 18 => [31, 32]
  | 20 => [0, 3, 33, 34, 35, 36, 37]
  | 22 => [10, 13, 38, 39]
  | 24 => [1, 2, 11, 12, 40]
  | 26 => [1, 11, 40, 41, 42, 43, 44]
  | 28 => [2, 12, 45]
  | 30 => [2, 12, 45, 46, 47, 48, 49]
  | 32 => [50]
  | 34 => [50]
  | _ => []
def laws_FnExactWinningWires.kl : Nat → List Nat := fun n => match n with
  | 0 => [4, 5, 6, 7, 8, 9, 10, 11, 12, 13, 14, 15, 16, 17, 18, 19, 20, 21, 22, 23, 24, 25, 26, 27, 28, 29, 30, 31, 32, 33, 34, 35, 36, 37, 38, 39, 40, 41, 42, 43, 44, 45, 46, 47, 48, 49, 50, 51, 52, 53, 54, 55, 56, 57, 58, 59, 60, 61, 62, 63, 64, 65, 66, 67, 68, 69, 70, 71, 72, 73, 74, 75, 76, 77, 78, 79, 80, 81, 82, 83, 84, 85, 86, 87, 88, 89, 90, 91, 92, 93, 94, 95, 96, 97, 98, 99]
  | 2 => [18, 19]
  | 4 => [0, 1, 2, 3, 20]
  | 6 => [20]
  | 8 => [21, 22, 23]
  | 10 => [9, 24]
  | 12 => [0, 1, 2, 3, 25]
  | 14 => [25, 26, 27, 28, 29, 30, 31, 32]
  | 16 => [33, 34]
  | 18 => [35, 36]
  | 20 => [37, 38, 39, 40, 41]
  | 22 => [42, 43, 44]
  | 24 => [0, 1, 2, 3, 10, 11, 12, 13, 45]
  | 26 => [45, 46, 47, 48, 49]
  | 28 => [0, 1, 2, 3, 10, 11, 12, 13, 50]
  | 30 => [50, 51, 52, 53, 54]
  | 32 => [0, 1, 2, 3, 10, 11, 12, 13, 55]
  | 34 => [55]
  | 36 => [11, 56, 57, 58]
  | 38 => [12, 59, 60, 61]
  | 40 => [14, 62, 63, 64, 65, 66, 67, 68]
  | 42 => [0, 1, 2, 3, 10, 13, 69]
  | 44 => [69]
  | 46 => [70, 71, 72]
  | 50 => [73, 74, 75]
  | 52 => [76]
  | 54 => [0, 1, 2, 3, 10, 13, 15, 16, 77]
  | 56 => [16, 77, 78, 79]
  | 58 => [0, 1, 2, 3, 10, 13, 15, 80]
  | 60 => [0, 1, 2, 3, 80, 81, 82, 83, 84, 85, 86, 87]
  | 62 => [10, 17, 88, 89, 90]
  | 64 => [13, 15, 91]
  | 66 => [91]
  | 68 => [13, 92, 93, 94]
  | 70 => [95]
  | 72 => [15, 16, 96]
  | 74 => [15, 16, 96, 97, 98]
  | 76 => [99]
  | 78 => [99]
  | _ => []
def laws_FnExactLeastLinks.kl : Nat → List Nat := fun n => match n with
  | 0 => [2, 3, 4, 5, 6, 7, 8, 9, 10, 11, 12, 13, 14, 15, 16, 17, 18, 19, 20, 21, 22, 23, 24, 25, 26, 27, 28, 29, 30, 31, 32, 33, 34, 35, 36, 37, 38, 39, 40, 41, 42, 43, 44, 45, 46, 47, 48, 49, 50, 51, 52, 53, 54, 55, 56, 57, 58, 59, 60, 61, 62, 63, 64, 65, 66, 67, 68, 69, 70, 71, 72, 73]
  | 4 => [13, 14, 15]
  | 6 => [5, 16]
  | 8 => [0, 1, 17]
  | 10 => [17, 18, 19, 20, 21]
  | 12 => [22, 23]
  | 14 => [24, 25, 26]
  | 16 => [27, 28, 29]
  | 18 => [0, 1, 6, 7, 8, 30]
  | 20 => [30, 31, 32, 33, 34]
  | 22 => [0, 1, 6, 7, 8, 35]
  | 24 => [35]
  | 26 => [7, 36, 37, 38]
  | 28 => [9, 39, 40, 41, 42, 43, 44, 45]
  | 30 => [0, 1, 6, 8, 46]
  | 32 => [46]
  | 34 => [47, 48, 49]
  | 38 => [50, 51, 52]
  | 40 => [53]
  | 42 => [0, 1, 6, 8, 10, 11, 54]
  | 44 => [11, 54, 55, 56]
  | 46 => [0, 1, 6, 8, 10, 57]
  | 48 => [0, 1, 57, 58, 59, 60, 61]
  | 50 => [6, 12, 62, 63, 64]
  | 52 => [8, 10, 65]
  | 54 => [65]
  | 56 => [8, 66, 67, 68]
  | 58 => [69]
  | 60 => [10, 11, 70]
  | 62 => [10, 11, 70, 71, 72]
  | 64 => [73]
  | 66 => [73]
  | _ => []
def laws_FnExactLeastCuts.kl : Nat → List Nat := fun n => match n with
  | 0 => [2, 3, 4, 5, 6, 7, 8, 9, 10, 11, 12, 13, 14, 15, 16, 17, 18, 19, 20, 21, 22, 23, 24, 25, 26, 27, 28, 29, 30, 31, 32, 33, 34, 35, 36, 37, 38, 39, 40, 41, 42, 43, 44, 45, 46, 47, 48, 49, 50, 51, 52, 53, 54, 55, 56, 57, 58, 59, 60, 61, 62, 63, 64, 65, 66, 67, 68, 69, 70, 71, 72, 73]
  | 4 => [13, 14, 15]
  | 6 => [5, 16]
  | 8 => [0, 1, 17]
  | 10 => [17, 18, 19, 20, 21]
  | 12 => [22, 23]
  | 14 => [24, 25, 26]
  | 16 => [27, 28, 29]
  | 18 => [0, 1, 6, 7, 8, 30]
  | 20 => [30, 31, 32, 33, 34]
  | 22 => [0, 1, 6, 7, 8, 35]
  | 24 => [35]
  | 26 => [7, 36, 37, 38]
  | 28 => [9, 39, 40, 41, 42, 43, 44, 45]
  | 30 => [0, 1, 6, 8, 46]
  | 32 => [46]
  | 34 => [47, 48, 49]
  | 38 => [50, 51, 52]
  | 40 => [53]
  | 42 => [0, 1, 6, 8, 10, 11, 54]
  | 44 => [11, 54, 55, 56]
  | 46 => [0, 1, 6, 8, 10, 57]
  | 48 => [0, 1, 57, 58, 59, 60, 61]
  | 50 => [6, 12, 62, 63, 64]
  | 52 => [8, 10, 65]
  | 54 => [65]
  | 56 => [8, 66, 67, 68]
  | 58 => [69]
  | 60 => [10, 11, 70]
  | 62 => [10, 11, 70, 71, 72]
  | 64 => [73]
  | 66 => [73]
  | _ => []
def laws_szWireS.kl : Nat → List Nat := fun n => match n with
  | 0 => [2, 3, 4, 5, 6, 7, 8, 9, 10, 11]
  | 2 => [0, 5, 6, 7, 8]
  | 4 => [9]
  | 6 => [1, 10]
  | 8 => [1, 10, 11]
  | _ => []
def spec_WiresWon.kl : Nat → List Nat := fun n => match n with
  | 0 => [3, 4, 5, 6, 7, 8, 9, 10, 11, 12, 13, 14, 15, 16, 17]
  | 2 => [0, 7, 8, 9, 10]
  | 4 => [1, 2, 11]
  | 6 => [1, 2, 11, 12, 13, 14, 15, 16, 17]
  | _ => []
def laws_toWireS.kl : Nat → List Nat := fun n => match n with
  | 0 => [1, 2, 3, 4, 5, 6, 7, 8, 9, 10, 11, 12, 13, 14, 15, 16, 17, 18, 19, 20, 21, 22]
  | 2 => [5, 6, 7]
  | 3 => [11]
  | 6 => [8, 9, 10, 12, 13, 14, 15, 16, 17, 18, 19, 20, 21]
  | 8 => [12, 13]
  | 10 => [14, 15, 16, 17, 18, 19, 20, 21]
  | 12 => [0, 3, 4, 11, 22]
  | _ => []
def laws_toIntS.kl : Nat → List Nat := fun n => match n with
  | 0 => [1, 2, 3, 4, 5, 6, 7, 8, 9, 10, 11, 12, 13, 14, 15, 16, 17, 18, 19, 20, 21]
  | 2 => [5, 6, 7]
  | 3 => [11]
  | 6 => [8, 9, 10, 12, 13, 14, 15, 16, 17, 18, 19, 20]
  | 8 => [12, 13]
  | 10 => [14, 15, 16, 17, 18, 19, 20]
  | 12 => [0, 3, 4, 11, 21]
  | _ => []
def impl_WiresWon.kl : Nat → List Nat := fun n => match n with
  | 0 => [3, 4, 5, 6, 7, 8, 9, 10, 11, 12, 13, 14, 15, 16, 17]
  | 2 => [0, 7, 8, 9, 10]
  | 4 => [1, 2, 11]
  | 6 => [1, 2, 11, 12, 13, 14, 15, 16, 17]
  | _ => []
def laws_eqWireS.kl : Nat → List Nat := fun n => match n with
  | 0 => [2, 3, 4, 5, 6, 7, 8, 9, 10, 11, 12, 13, 14, 15, 16, 17, 18, 19, 20, 21, 22, 23, 24, 25, 26]
  | 2 => [6, 7, 8, 9]
  | 3 => [14]
  | 4 => [0, 1, 10]
  | 6 => [10]
  | 8 => [4, 11, 12, 13, 15, 16, 17, 18, 19, 20, 21, 22, 23, 24, 25, 26]
  | 10 => [15, 16, 26]
  | 12 => [17, 18, 19, 20, 21, 22, 23, 24, 25]
  | 14 => [0, 1, 5, 26]
  | 16 => [0, 1, 5, 14]
  | _ => []
def laws_eqIntS.kl : Nat → List Nat := fun n => match n with
  | 0 => [2, 3, 4, 5, 6, 7, 8, 9, 10, 11, 12, 13, 14, 15, 16, 17, 18, 19, 20, 21, 22, 23, 24, 25]
  | 2 => [6, 7, 8, 9]
  | 3 => [14]
  | 4 => [0, 1, 10]
  | 6 => [10]
  | 8 => [4, 11, 12, 13, 15, 16, 17, 18, 19, 20, 21, 22, 23, 24, 25]
  | 10 => [15, 16, 25]
  | 12 => [17, 18, 19, 20, 21, 22, 23, 24]
  | 14 => [0, 1, 5, 25]
  | 16 => [0, 1, 5, 14]
  | _ => []
def spec_WiresWinner.kl : Nat → List Nat := fun n => match n with
  | 0 => [4, 5, 6, 7, 8, 9, 10, 11, 12, 13, 14, 15, 16, 17, 18, 19, 20, 21, 22]
  | 2 => [0, 9, 10, 11, 12, 13, 14, 15, 16, 17]
  | 4 => [1, 2, 3, 18]
  | 6 => [1, 2, 3, 18, 19, 20, 21, 22]
  | _ => []
def impl_WiresWinner.kl : Nat → List Nat := fun n => match n with
  | 0 => [4, 5, 6, 7, 8, 9, 10, 11, 12, 13, 14, 15, 16, 17, 18, 19, 20, 21, 22, 23, 24]
  | 2 => [0, 9, 10, 11, 12, 13, 14, 15, 16, 17]
  | 4 => [1, 2, 3, 18]
  | 6 => [1, 2, 3, 18, 19, 20, 21, 22, 23, 24]
  | _ => []
def spec_WinningWires.kl : Nat → List Nat := fun n => match n with
  | 0 => [4, 5, 6, 7, 8, 9, 10, 11, 12, 13, 14, 15, 16, 17, 18, 19, 20, 21, 22, 23, 24, 25, 26, 27, 28, 29, 30, 31, 32, 33, 34, 35, 36, 37, 38, 39, 40, 41, 42, 43, 44, 45, 46, 47, 48, 49, 50, 51, 52, 53, 54, 55, 56, 57, 58, 59, 60]
  | 2 => [12]
  | 3 => [34]
  | 4 => [0, 13, 14, 15, 16, 17, 18, 19, 20, 21, 22, 23, 24, 25, 26, 27, 28]
  | 6 => [1, 2, 3, 9, 29, 30]
  | 8 => [29]
  | 10 => [11, 31, 32, 33, 35, 36, 37, 38, 39, 40, 41, 42, 43, 44, 45, 46, 47, 48, 49, 50, 51, 52, 53, 54, 55, 56, 57, 58, 59]
  | 12 => [35, 36, 41, 55]
  | 14 => [37, 38, 39, 40]
  | 16 => [41, 42, 43, 44]
  | 18 => [45, 46, 47, 48]
  | 20 => [11, 49, 50, 51, 52, 53, 54]
  | 22 => [55, 56, 57, 58, 59]
  | 24 => [1, 2, 3, 9, 10, 34, 60]
  | _ => []
def impl_WinningWires.kl : Nat → List Nat := fun n => match n with
  | 0 => [4, 5, 6, 7, 8, 9, 10, 11, 12, 13, 14, 15, 16, 17, 18, 19, 20, 21, 22, 23, 24, 25, 26, 27, 28, 29, 30, 31, 32, 33, 34, 35, 36, 37, 38, 39, 40, 41, 42, 43, 44, 45, 46, 47, 48, 49, 50, 51, 52, 53]
  | 2 => [0, 14, 15, 16, 17, 18, 19, 20, 21, 22]
  | 3 => [36]
  | 4 => [1, 2, 3, 23]
  | 6 => [1, 3, 23, 24, 25, 26, 27, 28]
  | 8 => [29, 30, 31]
  | 10 => [2, 9, 10, 32]
  | 12 => [32]
  | 14 => [2]
  | 16 => [12, 13, 37, 38, 39, 40, 41, 42, 43, 44, 45, 46, 47, 48, 49, 50, 51, 52]
  | 18 => [37, 38, 39]
  | 20 => [13, 40, 41, 42, 43, 44, 45, 46]
  | 22 => [12, 47, 48, 49, 50, 51]
  | 24 => [12, 47, 52]
  | 26 => [9, 10, 11, 33, 34, 35, 36, 53]
  | _ => []
def laws_markWireS.kl : Nat → List Nat := fun n => match n with
  | 0 => [2, 3, 4, 5, 6, 7, 8, 9, 10, 11, 12, 13, 14, 15, 16, 17, 18, 19, 20, 21, 22, 23, 24, 25, 26]
  | 3 => [9]
  | 4 => [6, 7, 8, 10, 11, 12, 13, 14, 15, 16, 17, 18, 19, 20, 21, 22, 23, 24, 25]
  | 6 => [10, 11]
  | 8 => [12, 13, 14, 15, 16]
  | 10 => [17, 18]
  | 12 => [19, 20, 21, 22, 23]
  | 14 => [24, 25]
  | 16 => [0, 1, 5, 9, 26]
  | _ => []
def laws_markIntS.kl : Nat → List Nat := fun n => match n with
  | 0 => [2, 3, 4, 5, 6, 7, 8, 9, 10, 11, 12, 13, 14, 15, 16, 17, 18]
  | 3 => [9]
  | 4 => [6, 7, 8, 10, 11, 12, 13, 14, 15, 16, 17]
  | 6 => [10, 11]
  | 8 => [12, 13, 14, 15]
  | 10 => [16, 17]
  | 12 => [0, 1, 5, 9, 18]
  | _ => []
def laws_heldIntS.kl : Nat → List Nat := fun n => match n with
  | 0 => [2, 3, 4, 5, 6, 7, 8, 9, 10, 11, 12, 13, 14, 15, 16, 17, 18, 19, 20]
  | 3 => [9]
  | 4 => [4, 6, 7, 8, 10, 11, 12, 13, 14, 15, 16, 17, 18, 19]
  | 6 => [10, 11]
  | 8 => [12, 13, 14, 15, 16]
  | 10 => [0, 1, 5, 17]
  | 12 => [17, 18, 19]
  | 14 => [0, 1, 5, 9, 20]
  | _ => []
def spec_LeastLinks.kl : Nat → List Nat := fun n => match n with
  | 0 => [2, 3, 4, 5, 6, 7, 8, 9, 10, 11, 12, 13, 14, 15, 16, 17, 18, 19, 20, 21, 22, 23, 24, 25, 26, 27, 28, 29, 30, 31, 32, 33, 34, 35, 36, 37, 38, 39, 40, 41, 42, 43, 44, 45, 46, 47, 48, 49, 50, 51, 52, 53, 54, 55, 56, 57, 58]
  | 2 => [9]
  | 3 => [19]
  | 6 => [7, 8, 10, 11, 12, 13, 14, 15, 16, 17, 18, 20, 21, 22, 23, 24, 25, 26, 27, 28, 29, 30, 31, 32, 33, 34, 35, 36, 37, 38, 39, 40, 41, 42, 43, 44, 45, 46, 47, 48, 49, 50, 51, 52, 53, 54, 55, 56, 57]
  | 7 => [7, 34]
  | 8 => [20, 21, 53]
  | 10 => [22, 23, 24, 25, 26, 27]
  | 14 => [28, 29, 30, 31, 32, 33, 35, 36, 37, 38, 39, 40, 41, 42, 43, 44, 45, 46, 47, 48, 49, 50, 51, 52]
  | 16 => [35, 36]
  | 18 => [37, 38, 39, 40, 41, 42, 43, 44, 45, 46, 47, 48, 49, 50, 51, 52]
  | 20 => [7, 8, 34]
  | 22 => [53, 54, 55, 56, 57]
  | 24 => [0, 1, 5, 6, 19, 58]
  | _ => []
def impl_LeastLinks.kl : Nat → List Nat := fun n => match n with
  | 0 => [1, 2, 4, 5, 6, 7, 8, 9, 10, 11]
  | 2 => [0, 5, 6, 7]
  | 4 => [3, 8]
  | 6 => [3, 8, 9, 10, 11]
  | _ => []
def spec_LeastCuts.kl : Nat → List Nat := fun n => match n with
  | 0 => [2, 3, 4, 5, 6, 7, 8, 9, 10, 11, 12, 13, 14, 15, 16, 17, 18, 19, 20, 21, 22, 23, 24, 25, 26, 27, 28, 29, 30, 31, 32, 33, 34, 35, 36, 37, 38, 39, 40, 41, 42, 43, 44, 45, 46, 47, 48, 49, 50, 51, 52, 53, 54, 55, 56, 57, 58, 59, 60, 61, 62, 63, 64, 65, 66, 67]
  | 2 => [10]
  | 3 => [24]
  | 4 => [11, 12, 13, 14]
  | 7 => [8, 41]
  | 8 => [8, 9, 15, 16, 17, 18, 19, 20, 21, 22, 23, 25, 26, 27, 28, 29, 30, 31, 32, 33, 34, 35, 36, 37, 38, 39, 40, 41, 42, 43, 44, 45, 46, 47, 48, 49, 50, 51, 52, 53, 54, 55, 56, 57, 58, 59, 60, 61, 62, 63, 64, 65, 66]
  | 10 => [25, 26, 62]
  | 12 => [27, 28, 29, 30, 31, 32, 33, 34]
  | 16 => [35, 36, 37, 38, 39, 40, 42, 43, 44, 45, 46, 47, 48, 49, 50, 51, 52, 53, 54, 55, 56, 57, 58, 59, 60, 61]
  | 18 => [42, 43]
  | 20 => [44, 45, 46, 47, 48, 49, 50, 51, 52, 53, 54, 55, 56, 57, 58, 59, 60, 61]
  | 22 => [8, 9, 41]
  | 24 => [62, 63, 64, 65, 66]
  | 26 => [0, 1, 5, 6, 7, 24, 67]
  | _ => []
def impl_LeastCuts.kl : Nat → List Nat := fun n => match n with
  | 0 => [1, 2, 4, 5, 6, 7, 8, 9, 10, 11]
  | 2 => [0, 5, 6, 7]
  | 4 => [3, 8]
  | 6 => [3, 8, 9, 10, 11]
  | _ => []
def spec_OwnersOk.kl : Nat → List Nat := fun n => match n with
  | 0 => [3, 4, 5, 6, 7, 8, 9, 10, 11, 12, 13, 14, 15, 16, 17, 18, 19, 20, 21, 22, 23, 24, 25, 26, 27, 28, 29]
  | 3 => [11]
  | 4 => [6, 8, 9, 10, 12, 13, 14, 15, 16, 17, 18, 19]
  | 6 => [12, 13, 19]
  | 8 => [14, 15, 16, 17, 18]
  | 10 => [0, 1, 2, 7, 19]
  | 12 => [0, 1, 2, 7, 11, 20, 21, 22, 23, 24, 25, 26, 27, 28, 29]
  | _ => []
def spec_l9Done.kl : Nat → List Nat := fun n => match n with
  | 0 => [3, 4, 5, 6, 7, 8, 9, 10, 11, 12, 13, 14, 15, 16, 17, 18, 19, 20, 21, 22, 23]
  | 2 => [1, 7, 8, 9, 10, 11]
  | 4 => [0, 2, 12]
  | 6 => [0, 2, 12, 13, 14, 15, 16, 17, 18, 19, 20, 21, 22]
  | 8 => [23]
  | 10 => [23]
  | _ => []
def spec_l2Set.kl : Nat → List Nat := fun n => match n with
  | 0 => [2, 3, 4, 5, 6, 7, 8, 9, 10, 11, 12, 13, 14, 15, 16, 17, 18, 19, 20, 21, 22, 23]
  | 3 => [10]
  | 6 => [7, 8, 9, 11, 12, 13, 14, 15, 16, 17, 18, 19, 20, 21, 22]
  | 8 => [11, 12, 18]
  | 10 => [13, 14, 15, 16, 17]
  | 12 => [18, 19, 20, 21, 22]
  | 14 => [0, 1, 5, 6, 10, 23]
  | _ => []
def laws_toWire.kl : Nat → List Nat := fun n => match n with
  | 0 => [0, 3, 4, 5, 6, 7, 8, 9, 10]
  | 4 => [4, 5, 6]
  | 6 => [1, 7, 8, 9]
  | 8 => [3, 10]
  | _ => []
def impl_OwnersOk.kl : Nat → List Nat := fun n => match n with
  | 0 => [3, 4, 5, 6, 7, 8, 9, 10, 11, 12, 13, 14, 15, 16, 17, 18, 19, 20, 21, 22, 23, 24, 25, 26, 27, 28, 29]
  | 2 => [0, 1, 9, 10, 11, 12, 13, 14, 15, 16, 17, 18]
  | 3 => [23]
  | 4 => [2, 19]
  | 6 => [2, 19]
  | 8 => [6, 8, 24, 25, 26, 27, 28, 29]
  | 10 => [24, 25]
  | 12 => [8, 26, 27]
  | 14 => [20, 21, 22, 28]
  | 16 => [28, 29]
  | 18 => [20, 21, 22, 23]
  | _ => []
def impl_wonBy.kl : Nat → List Nat := fun n => match n with
  | 0 => [3, 4, 5, 6, 7, 8, 9, 10, 11, 12, 13, 14, 15, 16, 17]
  | 2 => [8, 9, 10]
  | 4 => [0, 1, 2, 7]
  | 6 => [0, 1, 2, 7, 12, 13, 14, 15, 16, 17]
  | 8 => [11]
  | 10 => [11]
  | _ => []
def impl_setOf.kl : Nat → List Nat := fun n => match n with
  | 0 => [2, 3, 4, 5, 6, 7, 8, 9, 10, 11, 12, 13, 14, 15, 16, 17, 18, 19, 20, 21, 22, 23]
  | 3 => [11]
  | 4 => [0]
  | 6 => [6, 7, 12, 13, 14, 15, 16, 17, 18, 19, 20, 21, 22]
  | 8 => [12, 13, 14]
  | 10 => [7, 15, 16]
  | 12 => [6, 17, 18, 19, 20, 21]
  | 14 => [6, 17, 22]
  | 16 => [1, 5, 8, 9, 10, 11, 23]
  | _ => []
def laws_eqWire.kl : Nat → List Nat := fun n => match n with
  | 0 => [0, 1, 4, 5, 6, 7, 8, 9, 10, 11, 12, 13, 14]
  | 2 => [5, 6, 7, 8]
  | 4 => [2, 3, 9]
  | 6 => [2, 3, 9, 10, 11, 12, 13]
  | 8 => [14]
  | 10 => [14]
  | _ => []
def spec_l1In.kl : Nat → List Nat := fun n => match n with
  | 0 => [3, 4, 5, 6, 7, 8, 9, 10, 11, 12, 13, 14]
  | 2 => [0, 1, 2, 7, 8, 9, 10, 11, 12, 13, 14]
  | _ => []
def spec_l9Winner.kl : Nat → List Nat := fun n => match n with
  | 0 => [3, 4, 5, 6, 7, 8, 9, 10, 11, 12, 13, 14, 15, 16]
  | 2 => [0, 1, 2, 7, 8, 9, 10, 11, 12, 13, 14, 15, 16]
  | _ => []
def impl_playerOk.kl : Nat → List Nat := fun n => match n with
  | 0 => [1, 2, 3, 4, 5, 6, 7, 8]
  | 2 => [0, 3, 4, 5, 6, 7, 8]
  | _ => []
def impl_newNetGame.kl : Nat → List Nat := fun n => match n with
  | 0 => [1, 3, 4, 5]
  | 2 => [0, 3, 4, 5]
  | _ => []
def impl_netGame_winner.kl : Nat → List Nat := fun n => match n with
  | 0 => [0, 1, 4, 5, 6, 7, 8, 9, 10, 11, 12, 13, 14, 15, 16, 17, 18, 19, 20, 21, 22, 23]
  | 2 => [7, 8, 9, 10, 11, 12, 13]
  | 4 => [6, 14]
  | 6 => [15, 16, 17, 18]
  | 8 => [2, 3, 19, 20, 21, 22]
  | 10 => [2, 3, 5, 15, 23]
  | _ => []
def impl_standingOf.kl : Nat → List Nat := fun n => match n with
  | 0 => [2, 3, 5, 6, 7, 8, 9, 10, 11, 12, 13, 14, 15, 16, 17, 18, 19]
  | 2 => [1, 7, 8]
  | 3 => [10]
  | 6 => [6, 11, 12, 13, 14, 15, 16, 17, 18]
  | 8 => [11]
  | 10 => [6, 12, 13, 14, 15, 16, 17]
  | 12 => [18]
  | 14 => [0, 5, 9, 10, 19]
  | _ => []
def spec_l1Other.kl : Nat → List Nat := fun n => match n with
  | 0 => [1, 2, 3, 4, 5, 6]
  | 2 => [3]
  | 4 => [0, 4]
  | 6 => [0, 4, 5, 6]
  | _ => []
def impl_netGame_won.kl : Nat → List Nat := fun n => match n with
  | 0 => [0, 1, 4, 5, 6, 7, 8, 9, 10, 11, 12, 13]
  | 2 => [2, 3, 5, 6, 7, 8, 9, 10, 11, 12, 13]
  | _ => []
def impl_netGame_wins.kl : Nat → List Nat := fun n => match n with
  | 0 => [0, 1, 5, 6, 7, 8, 9, 10, 11, 12, 13, 14]
  | 2 => [2, 3, 4, 7, 8, 9, 10, 11, 12, 13, 14]
  | _ => []
def spec_WiresOk.kl : Nat → List Nat := fun n => match n with
  | 0 => [2, 3, 4, 5, 6, 7, 8, 9, 10, 11, 12, 13, 14, 15, 16, 17, 18, 19, 20, 21, 22, 23, 24, 25, 26, 27, 28, 29, 30, 31, 32, 33, 34, 35, 36, 37, 38, 39, 40, 41, 42, 43, 44, 45, 46, 47, 48, 49, 50]
  | 3 => [10]
  | 4 => [4, 6, 7, 8, 9, 11, 12, 13, 14, 15, 16, 17, 18, 19, 20, 21, 22, 23, 24, 25, 26, 27, 28, 29, 30, 31, 32, 33, 34, 35, 36, 37, 38, 39, 40, 41, 42, 43]
  | 6 => [11, 12, 43]
  | 8 => [13, 14, 15, 16]
  | 10 => [6, 17, 18, 19, 20, 21, 22, 23, 24, 25, 26, 27, 28, 29, 30, 31, 32, 33, 34, 35, 36, 37, 38, 39, 40, 41, 42]
  | 12 => [0, 1, 5, 43]
  | 14 => [0, 1, 5, 10, 44, 45, 46, 47, 48, 49, 50]
  | _ => []
def spec_l9Reach.kl : Nat → List Nat := fun n => match n with
  | 0 => [3, 4, 5, 6, 7, 8, 9, 10, 11, 12, 13, 14, 15, 16, 17, 18, 19, 20, 21, 22, 23, 24, 25, 26, 27, 28, 29, 30, 31, 32, 33, 34, 35, 36, 37, 38, 39, 40, 41, 42, 43, 44, 45, 46, 47, 48, 49, 50, 51, 52, 53, 54, 55, 56, 57, 58]
  | 2 => [2, 10, 11]
  | 3 => [12]
  | 6 => [8, 9, 13, 14, 15, 16, 17, 18, 19, 20, 21, 22, 23, 24, 25, 26, 27, 28, 29, 30, 31, 32, 33, 34, 35, 36, 37, 38, 39, 40, 41, 42, 43, 44, 45, 46, 47, 48, 49, 50, 51, 52, 53, 54, 55, 56, 57]
  | 7 => [16]
  | 12 => [13, 14, 15, 17, 18, 19, 20, 21, 22, 23, 24, 25, 26, 27, 28, 29, 30, 31, 32, 33, 34, 35, 36, 37, 38, 39, 40, 41, 42, 43, 44, 45, 46, 47, 48, 49, 50, 51, 52, 53, 54, 55, 56, 57]
  | 14 => [17, 18, 42]
  | 16 => [19, 20, 21, 22, 23, 24, 25, 26, 27, 28, 29, 30, 31, 32, 33, 34, 35, 36, 37, 38, 39, 40, 41]
  | 18 => [8, 42, 43, 44, 45, 46, 47, 48, 49, 50, 51, 52, 53, 54, 55, 56, 57]
  | 22 => [0, 1, 7, 12, 58]
  | _ => []
def impl_WiresOk.kl : Nat → List Nat := fun n => match n with
  | 0 => [2, 3, 4, 5, 6, 7, 8, 9, 10, 11, 12, 13, 14, 15, 16, 17, 18, 19, 20, 21, 22, 23, 24, 25, 26, 27, 28, 29, 30, 31, 32, 33, 34, 35, 36, 37, 38, 39, 40, 41, 42, 43]
  | 2 => [7, 8, 9, 10, 11, 12, 13, 14, 15, 16]
  | 3 => [21]
  | 4 => [0, 1, 17]
  | 6 => [1, 17]
  | 8 => [4, 6, 22, 23, 24, 25, 26, 27, 28, 29, 30, 31, 32, 33, 34, 35, 36, 37, 38, 39, 40, 41, 42, 43]
  | 10 => [22, 23]
  | 12 => [6, 24, 25, 26, 27, 28, 29, 30, 31, 32, 33, 34, 35, 36, 37, 38, 39, 40, 41]
  | 14 => [0, 18, 19, 20, 42]
  | 16 => [42, 43]
  | 18 => [0, 18, 19, 20, 21]
  | _ => []
def impl_leastSets.kl : Nat → List Nat := fun n => match n with
  | 0 => [2, 3, 4, 5, 6, 7, 8, 9, 10, 11, 12, 13, 14, 15, 16, 17, 18, 19, 20, 21, 22, 23, 24, 25, 26, 27, 28, 29, 30]
  | 3 => [13]
  | 4 => [0, 8, 9]
  | 6 => [7, 14, 15, 16, 17, 18, 19, 20, 21, 22, 23, 24, 25, 26, 27, 28, 29]
  | 8 => [14, 15]
  | 10 => [16, 17, 18, 19, 20, 21, 22, 23]
  | 12 => [7, 24, 25, 26, 27, 28]
  | 14 => [7, 24, 29]
  | 16 => [1, 5, 10, 11, 12, 13, 30]
  | _ => []
def impl_LeastLinks_1.kl : Nat → List Nat := fun n => match n with
  | 0 => [2, 3, 4, 5, 6]
  | 2 => [0, 1, 4, 5, 6]
  | _ => []
def impl_linked.kl : Nat → List Nat := fun n => match n with
  | 0 => [2, 3, 4, 5, 6, 7, 8, 9]
  | 2 => [0, 1, 5, 6, 7, 8, 9]
  | _ => []
def impl_LeastCuts_1.kl : Nat → List Nat := fun n => match n with
  | 0 => [2, 3, 4, 5, 6, 7, 8, 9, 10]
  | 2 => [0, 1, 4, 5, 6, 7, 8, 9, 10]
  | _ => []
def impl_allWires.kl : Nat → List Nat := fun n => match n with
  | 0 => [1, 2, 3, 4, 5, 6]
  | 2 => [0, 3, 4, 5, 6]
  | _ => []
def impl_contentOk.kl : Nat → List Nat := fun n => match n with
  | 0 => [1, 2, 3, 4, 5, 6, 7, 8, 9, 10, 11, 12]
  | 2 => [0, 3, 4, 5, 6, 7, 8, 9, 10, 11, 12]
  | _ => []
def spec_l9Solve.kl : Nat → List Nat := fun n => match n with
  | 0 => [5, 6, 7, 8, 9, 10, 11, 12, 13, 14, 15, 16, 17, 18, 19, 20, 21, 22, 23, 24, 25, 26, 27, 28, 29, 30, 31, 32, 33, 34, 35, 36, 37, 38, 39, 40, 41, 42, 43, 44, 45, 46, 47, 48, 49, 50, 51, 52, 53, 54, 55, 56, 57, 58, 59, 60, 61, 62, 63, 64, 65, 66, 67, 68, 69, 70, 71, 72, 73, 74, 75, 76, 77, 78, 79, 80, 81, 82, 83, 84, 85, 86, 87, 88, 89, 90, 91, 92, 93, 94, 95, 96, 97, 98, 99, 100, 101, 102, 103]
  | 2 => [17, 18, 19, 20]
  | 3 => [27]
  | 4 => [21]
  | 6 => [0, 1, 2, 3, 4, 11, 22, 23]
  | 7 => [67]
  | 8 => [11, 22]
  | 12 => [24, 25, 26, 28, 29, 30, 31, 32, 33, 34, 35, 36, 37, 38, 39, 40, 41, 42]
  | 14 => [28, 29]
  | 16 => [30, 31, 32, 33, 34, 35, 36, 37, 38, 39, 40, 41, 42]
  | 18 => [13, 27, 43, 44, 45, 46, 47]
  | 20 => [48, 49, 50, 51]
  | 22 => [0, 1, 2, 3, 4, 12, 52, 53, 54, 55, 56]
  | 24 => [52, 57, 58]
  | 28 => [16, 59, 60, 61, 62, 63, 64, 65, 66, 68, 69, 70, 71, 72, 73, 74, 75, 76, 77, 78, 79, 80, 81, 82, 83, 84, 85, 86, 87, 88, 89, 90, 91, 92, 93, 94, 95, 96, 97, 98]
  | 30 => [68, 69, 76, 97]
  | 32 => [70, 71, 72, 73, 74, 75]
  | 34 => [16, 76]
  | 36 => [77]
  | 38 => [78, 79, 80, 81, 82, 83, 84, 85, 86]
  | 40 => [78, 87, 88, 89, 90, 91, 92, 93, 94]
  | 42 => [16, 95, 96]
  | 44 => [97, 98]
  | 46 => [0, 1, 2, 3, 4, 12, 15, 67, 99, 100, 101, 102]
  | 48 => [14, 103]
  | _ => []
def spec_l3Table.kl : Nat → List Nat := fun n => match n with
  | 0 => [1, 2, 3, 4, 5, 6, 7, 8, 9, 10, 11, 12, 13]
  | 3 => [7]
  | 6 => [5, 6, 8, 9, 10, 11]
  | 8 => [8, 9]
  | 10 => [10, 11]
  | 12 => [0, 3, 4, 7, 12, 13]
  | _ => []
def impl_netGame_solved.kl : Nat → List Nat := fun n => match n with
  | 0 => [0, 1, 4, 5, 6, 7, 8, 9, 10, 11, 12, 13, 14, 15, 16, 17, 18, 19, 20, 21, 22, 23, 24, 25, 26, 27, 28, 29, 30, 31]
  | 2 => [7, 8, 9]
  | 3 => [17]
  | 4 => [10]
  | 6 => [2, 3, 5, 11, 12]
  | 8 => [5, 11, 13, 14, 15]
  | 10 => [4, 16, 18, 19, 20, 21, 22, 23, 24, 25, 26, 27, 28]
  | 12 => [18, 19, 20, 21, 26]
  | 14 => [22, 23, 24, 25]
  | 16 => [2, 3, 6, 26, 27, 28]
  | 18 => [2, 3, 6, 17, 29, 30, 31]
  | _ => []
def impl_standing_after.kl : Nat → List Nat := fun n => match n with
  | 0 => [0, 3, 5, 6, 7, 8, 9, 10, 11, 12, 13, 14, 15, 16, 17, 18, 19, 20, 21, 22, 23, 24, 25, 26, 27]
  | 2 => [5, 6, 7, 8, 9, 10, 11, 12]
  | 4 => [1, 13, 14, 15, 16, 17, 18, 19, 20, 21, 22]
  | 6 => [23, 24, 25, 26]
  | 8 => [2, 27]
  | _ => []
def impl_nodeOk.kl : Nat → List Nat := fun n => match n with
  | 0 => [2, 3, 4, 5, 6, 7, 8, 9, 10, 11]
  | 2 => [0, 1, 5, 6, 7, 8, 9, 10, 11]
  | _ => []
def impl_partsOf.kl : Nat → List Nat := fun n => match n with
  | 0 => [1, 2, 3, 4, 5, 6, 7, 8, 9, 10, 11, 12, 13, 14, 15, 16, 17, 18, 19, 20]
  | 2 => [5]
  | 3 => [8]
  | 6 => [6, 7, 9, 10, 11, 12, 13, 14, 15, 16, 17, 18, 19]
  | 8 => [9, 10, 11, 12, 13, 14, 15]
  | 10 => [16, 17, 18, 19]
  | 12 => [0, 3, 4, 8, 20]
  | _ => []
def impl_sparesOne.kl : Nat → List Nat := fun n => match n with
  | 0 => [2, 3, 4, 5, 6, 7, 8, 9, 10, 11, 12, 13, 14, 15, 16, 17, 18, 19]
  | 2 => [6]
  | 3 => [8]
  | 4 => [4, 7, 9, 10, 11, 12, 13, 14, 15, 16, 17, 18, 19]
  | 6 => [9, 10, 11, 12, 19]
  | 8 => [13, 14, 15, 16, 17, 18]
  | 10 => [0, 1, 5, 19]
  | 12 => [0, 1, 5, 8]
  | _ => []
def impl_nodesReached.kl : Nat → List Nat := fun n => match n with
  | 0 => [3, 4, 5, 6, 7, 8, 9, 10, 11, 12, 13, 14, 15, 16, 17, 18, 19, 20]
  | 2 => [8]
  | 3 => [10]
  | 4 => [9, 11, 12, 13, 14, 15, 16, 17, 18, 19]
  | 6 => [11, 12, 13, 14, 15, 16]
  | 8 => [17, 18, 19]
  | 10 => [0, 1, 2, 7, 10, 20]
  | _ => []
def impl_leastIn.kl : Nat → List Nat := fun n => match n with
  | 0 => [1, 2, 3, 4, 5]
  | 2 => [0, 3, 4, 5]
  | _ => []
def impl_exchanged.kl : Nat → List Nat := fun n => match n with
  | 0 => [1, 2, 3, 4, 5, 6, 7, 8]
  | 4 => [5]
  | 6 => [0, 3, 4]
  | 8 => [3, 4, 7]
  | 10 => [0, 6]
  | 12 => [0, 6, 8]
  | _ => []
def impl_nodesBeside.kl : Nat → List Nat := fun n => match n with
  | 0 => [3, 4, 5, 6, 7, 8, 9, 10, 11, 12, 13, 14, 15, 16, 17, 18, 19, 20, 21, 22, 23, 24, 25, 26, 27, 28, 29, 30, 31, 32, 33, 34, 35, 36, 37]
  | 3 => [13]
  | 4 => [1, 11]
  | 6 => [9, 10, 12, 14, 15, 16, 17, 18, 19, 20, 21, 22, 23, 24, 25, 26, 27, 28, 29, 30, 31, 32, 33, 34, 35, 36]
  | 8 => [10, 14, 15, 16, 17, 33]
  | 10 => [18, 19, 20, 21, 22]
  | 12 => [9, 23, 24, 25, 26, 27, 28, 29]
  | 14 => [30, 31, 32]
  | 16 => [10, 33, 34, 35, 36]
  | 18 => [0, 2, 7, 8, 13, 37]
  | _ => []
def bits_TrailingZeros.kl : Nat → List Nat := fun n => match n with
  | 0 => [1, 2, 3, 4, 5, 6, 7]
  | 2 => [0, 3, 4, 5]
  | 4 => [0, 6, 7]
  | _ => []
def bits_TrailingZeros32.kl : Nat → List Nat := fun n => match n with
  | 0 => [1, 2, 3, 4, 5, 6, 7, 8, 9, 10, 11, 12, 13]
  | 2 => [3]
  | 4 => [0, 4]
  | 6 => [0, 4, 5, 6, 7, 8, 9, 10, 11, 12, 13]
  | _ => []
def bits_TrailingZeros64.kl : Nat → List Nat := fun n => match n with
  | 0 => [1, 2, 3, 4, 5, 6, 7, 8, 9, 10, 11, 12, 13]
  | 2 => [3]
  | 4 => [0, 4]
  | 6 => [0, 4, 5, 6, 7, 8, 9, 10, 11, 12, 13]
  | _ => []
def KL : FuncId → Nat → List Nat := fun f => match f with
  | 3 => laws_FnExactWiresWon.kl
  | 4 => laws_FnExactWiresWinner.kl
  | 5 => laws_FnExactWinningWires.kl
  | 6 => laws_FnExactLeastLinks.kl
  | 7 => laws_FnExactLeastCuts.kl
  | 8 => laws_szWireS.kl
  | 9 => spec_WiresWon.kl
  | 10 => laws_toWireS.kl
  | 11 => laws_toIntS.kl
  | 12 => impl_WiresWon.kl
  | 13 => laws_eqWireS.kl
  | 14 => laws_eqIntS.kl
  | 15 => spec_WiresWinner.kl
  | 16 => impl_WiresWinner.kl
  | 17 => spec_WinningWires.kl
  | 18 => impl_WinningWires.kl
  | 19 => laws_markWireS.kl
  | 20 => laws_markIntS.kl
  | 21 => laws_heldIntS.kl
  | 22 => spec_LeastLinks.kl
  | 23 => impl_LeastLinks.kl
  | 24 => spec_LeastCuts.kl
  | 25 => impl_LeastCuts.kl
  | 26 => spec_OwnersOk.kl
  | 27 => spec_l9Done.kl
  | 28 => spec_l2Set.kl
  | 29 => laws_toWire.kl
  | 30 => impl_OwnersOk.kl
  | 31 => impl_wonBy.kl
  | 32 => impl_setOf.kl
  | 33 => laws_eqWire.kl
  | 34 => spec_l1In.kl
  | 35 => spec_l9Winner.kl
  | 36 => impl_playerOk.kl
  | 37 => impl_newNetGame.kl
  | 38 => impl_netGame_winner.kl
  | 39 => impl_standingOf.kl
  | 40 => spec_l1Other.kl
  | 41 => impl_netGame_won.kl
  | 42 => impl_netGame_wins.kl
  | 43 => spec_WiresOk.kl
  | 44 => spec_l9Reach.kl
  | 45 => impl_WiresOk.kl
  | 46 => impl_leastSets.kl
  | 47 => impl_LeastLinks_1.kl
  | 48 => impl_linked.kl
  | 49 => impl_LeastCuts_1.kl
  | 50 => impl_allWires.kl
  | 51 => impl_contentOk.kl
  | 52 => spec_l9Solve.kl
  | 53 => spec_l3Table.kl
  | 54 => impl_netGame_solved.kl
  | 55 => impl_standing_after.kl
  | 56 => impl_nodeOk.kl
  | 57 => impl_partsOf.kl
  | 58 => impl_sparesOne.kl
  | 59 => impl_nodesReached.kl
  | 60 => impl_leastIn.kl
  | 61 => impl_exchanged.kl
  | 62 => impl_nodesBeside.kl
  | 63 => bits_TrailingZeros.kl
  | 64 => bits_TrailingZeros32.kl
  | 65 => bits_TrailingZeros64.kl
  | _ => fun _ => []
noncomputable def CL (g : Nat → PV) (lf n : Nat) : FuncId → List PV → PHeap → Res := call Tryd.prog g KL lf n
noncomputable def YL (g : Nat → PV) (lf n : Nat) : Nat → List PV → PHeap → Res := yields Tryd.prog g KL lf n
noncomputable def env (g : Nat → PV) (lf n : Nat) : Env := ⟨g, lf, CL g lf n, std Tryd.prog, YL g lf n⟩
@[simp] theorem env_C (g : Nat → PV) (lf n : Nat) : (env g lf n).C = CL g lf n := rfl
@[simp] theorem env_Y (g : Nat → PV) (lf n : Nat) : (env g lf n).Y = YL g lf n := rfl
@[simp] theorem env_g (g : Nat → PV) (lf n : Nat) : (env g lf n).g = g := rfl
@[simp] theorem env_lf (g : Nat → PV) (lf n : Nat) : (env g lf n).lf = lf := rfl
@[simp] theorem env_pick (g : Nat → PV) (lf n : Nat) : (env g lf n).p.pick = pickP := rfl
@[simp] theorem env_alloc (g : Nat → PV) (lf n : Nat) : (env g lf n).p.alloc = allocP Tryd.prog := rfl
@[simp] theorem env_box (g : Nat → PV) (lf n : Nat) : (env g lf n).p.box = boxP := rfl
@[simp] theorem env_build (g : Nat → PV) (lf n : Nat) : (env g lf n).p.build = buildP Tryd.prog := rfl
@[simp] theorem env_buildSlice (g : Nat → PV) (lf n : Nat) : (env g lf n).p.buildSlice = buildSliceP Tryd.prog := rfl
@[simp] theorem env_load (g : Nat → PV) (lf n : Nat) : (env g lf n).p.load = loadP Tryd.prog := rfl
@[simp] theorem env_store (g : Nat → PV) (lf n : Nat) : (env g lf n).p.store = storeP Tryd.prog := rfl
@[simp] theorem env_ptr (g : Nat → PV) (lf n : Nat) : (env g lf n).p.ptr = ptrP := rfl
@[simp] theorem env_bin (g : Nat → PV) (lf n : Nat) : (env g lf n).p.bin = binP Tryd.prog := rfl
@[simp] theorem env_un (g : Nat → PV) (lf n : Nat) : (env g lf n).p.un = unP := rfl
@[simp] theorem env_conv (g : Nat → PV) (lf n : Nat) : (env g lf n).p.conv = convP Tryd.prog := rfl
@[simp] theorem env_make (g : Nat → PV) (lf n : Nat) : (env g lf n).p.make = makeP Tryd.prog := rfl
@[simp] theorem env_slice (g : Nat → PV) (lf n : Nat) : (env g lf n).p.slice = sliceP Tryd.prog := rfl
@[simp] theorem env_fieldAddr (g : Nat → PV) (lf n : Nat) : (env g lf n).p.fieldAddr = fieldAddrP Tryd.prog := rfl
@[simp] theorem env_field (g : Nat → PV) (lf n : Nat) : (env g lf n).p.field = fieldP Tryd.prog := rfl
@[simp] theorem env_indexAddr (g : Nat → PV) (lf n : Nat) : (env g lf n).p.indexAddr = indexAddrP Tryd.prog := rfl
@[simp] theorem env_index (g : Nat → PV) (lf n : Nat) : (env g lf n).p.index = indexP Tryd.prog := rfl
@[simp] theorem env_extract (g : Nat → PV) (lf n : Nat) : (env g lf n).p.extract = extractP := rfl
@[simp] theorem env_len (g : Nat → PV) (lf n : Nat) : (env g lf n).p.len = lenP Tryd.prog := rfl
@[simp] theorem env_append (g : Nat → PV) (lf n : Nat) : (env g lf n).p.append = appendP Tryd.prog := rfl
@[simp] theorem env_max (g : Nat → PV) (lf n : Nat) : (env g lf n).p.max = foldP maxP2 := rfl
@[simp] theorem env_min (g : Nat → PV) (lf n : Nat) : (env g lf n).p.min = foldP minP2 := rfl
@[simp] theorem env_makeMap (g : Nat → PV) (lf n : Nat) : (env g lf n).p.makeMap = makeMapP := rfl
@[simp] theorem env_lookup (g : Nat → PV) (lf n : Nat) : (env g lf n).p.lookup = lookupP Tryd.prog := rfl
@[simp] theorem env_update (g : Nat → PV) (lf n : Nat) : (env g lf n).p.update = updateP Tryd.prog := rfl
@[simp] theorem env_clos (g : Nat → PV) (lf n : Nat) : (env g lf n).p.clos = closP := rfl
@[simp] theorem env_bstr (g : Nat → PV) (lf n : Nat) : (env g lf n).p.bstr = bstrP Tryd.prog := rfl
end Go.Proofs.YtihlmjapddjjjacDoor.G

/- From what the interpreter computes for a law to what the machine's call of it does. -/
set_option maxRecDepth 20000
namespace Go.Proofs.YtihlmjapddjjjacDoor
open Go Go.Ip Go.RowKit G

def g0 : Nat → PV := fun _ => .junk
def LF : Nat := 4294967296

theorem prog_mixed : Tryd.prog.follows .mixedOrders = true := by kernel_rfl
theorem prog_ok : progOk Tryd.prog = true := by kernel_rfl

theorem sim_none (w : World) : Sim w.heap.size w [] [] w :=
  ⟨rfl, Below.refl _ _, Nat.le_refl _, fun id o l h _ => by simp at h, fun i j li lj ei ci ej cj _ h => by simp at h, fun i j li lj ei ej _ h => by simp at h, fun i j li lj oi oj _ h => by simp at h, fun _ h => h, fun _ _ h => False.elim h, fun _ h => False.elim h, fun _ _ _ _ _ _ h => h⟩

/-- A slice of integers, nil or not, as the interpreter's heap holds it. -/
def IntSl (k : IntKind) (h : PHeap) (p : PV) (xs : List Int) : Prop :=
  (p = .nilsl ∧ xs = []) ∨ ∃ id off, p = .sl id off xs.length ∧ ∀ (i : Nat) x, xs[i]? = some x → (cellsAt h id)[off + i]? = some (.int k x)

end Go.Proofs.YtihlmjapddjjjacDoor

