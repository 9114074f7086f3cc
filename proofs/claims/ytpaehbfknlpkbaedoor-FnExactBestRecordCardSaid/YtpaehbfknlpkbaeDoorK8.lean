/- Texts of this seat, in their order, put together by program. -/
import Derived.Test.YtpaehbfknlpkbaeDoorK7
import Derived.Test.YtpaehbfknlpkbaeDoorProg
import Derived.KernelRfl
set_option linter.unusedSimpArgs false
set_option linter.unusedVariables false
set_option linter.unusedSectionVars false
/- Of each function of this seat's program its plain form over the interpreter, written by program; each equation is the kernel's. -/
set_option linter.unusedVariables false
set_option maxRecDepth 100000
namespace Go.Proofs.YtpaehbfknlpkbaeDoor.G
open Go Go.Ip Go.Proofs

def fn_laws_FnExactBestRecord : Nat := 3
def fn_spec_BestRecord : Nat := 4
def fn_impl_BestRecord : Nat := 5
def fn_laws_eqIntS : Nat := 6
def fn_laws_markIntS : Nat := 7
def fn_laws_heldIntS : Nat := 8
def fn_spec_BoardOk : Nat := 9
def fn_spec_LinePlayed : Nat := 10
def fn_impl_smallOk : Nat := 11
def fn_impl_LinePlayed : Nat := 12
def fn_impl_freeBoard : Nat := 13
def fn_spec_l1In : Nat := 14
def fn_spec_PositionOk : Nat := 15
def fn_spec_l2Set : Nat := 16
def fn_spec_Joins : Nat := 17
def fn_spec_l2List : Nat := 18
def fn_spec_WinningCells : Nat := 19
def fn_spec_l1Other : Nat := 20
def fn_impl_BoardOk : Nat := 21
def fn_impl_PositionOk : Nat := 22
def fn_impl_playerOk : Nat := 23
def fn_impl_newSearch : Nat := 24
def fn_impl_standingOf : Nat := 25
def fn_impl_search_joined : Nat := 26
def fn_impl_search_winning : Nat := 27
def fn_impl_leastIn : Nat := 28
def fn_impl_standing_after : Nat := 29
def fn_spec_l2Joins : Nat := 30
def fn_spec_l2Masks : Nat := 31
def fn_spec_Played : Nat := 32
def fn_spec_l3Winner : Nat := 33
def fn_impl_sizeOk : Nat := 34
def fn_impl_contentOk : Nat := 35
def fn_impl_withNear : Nat := 36
def fn_impl_sidesOf : Nat := 37
def fn_impl_setOf : Nat := 38
def fn_impl_search_joins : Nat := 39
def fn_impl_search_winner : Nat := 40
def fn_bits_TrailingZeros : Nat := 41
def fn_impl_exchanged : Nat := 42
def fn_spec_l2Grow : Nat := 43
def fn_spec_l2Side : Nat := 44
def fn_spec_l1Near : Nat := 45
def fn_spec_MoveOk : Nat := 46
def fn_spec_l3Solve : Nat := 47
def fn_spec_l3Table : Nat := 48
def fn_impl_NearCells : Nat := 49
def fn_impl_search_solved : Nat := 50
def fn_bits_TrailingZeros32 : Nat := 51
def fn_bits_TrailingZeros64 : Nat := 52
def fn_impl_cellOk : Nat := 53
def laws_FnExactBestRecord.kl : Nat → List Nat := fun n => match n with
  | 0 => [2, 3, 4, 5, 6, 7, 8, 9, 10, 11, 12, 13, 14, 15, 16, 17, 18, 19, 20, 21, 22, 23, 24, 25, 26, 27, 28, 29, 30, 31, 32, 33, 34, 35, 36, 37, 38, 39, 40, 41, 42, 43, 44, 45]
  | 2 => [10, 11, 12]
  | 4 => [13, 14, 15]
  | 6 => [16, 17, 18]
  | 8 => [0, 1, 5, 6, 19]
  | 10 => [19]
  | 12 => [20, 21, 22]
  | 16 => [23, 24, 25]
  | 18 => [26]
  | 20 => [0, 1, 5, 6, 7, 8, 27]
  | 22 => [8, 27, 28, 29]
  | 24 => [0, 1, 5, 6, 7, 30]
  | 26 => [0, 1, 30, 31, 32, 33]
  | 28 => [5, 9, 34, 35, 36]
  | 30 => [6, 7, 37]
  | 32 => [37]
  | 34 => [6, 38, 39, 40]
  | 36 => [41]
  | 38 => [7, 8, 42]
  | 40 => [7, 8, 42, 43, 44]
  | 42 => [45]
  | 44 => [45]
  | _ => []
def spec_BestRecord.kl : Nat → List Nat := fun n => match n with
  | 0 => [2, 3, 4, 5, 6, 7, 8, 9, 10, 11, 12, 13, 14, 15, 16, 17, 18, 19, 20, 21, 22]
  | 2 => [5, 6, 7, 8, 9, 10, 11, 12, 13]
  | 4 => [0, 1, 14, 15]
  | 6 => [0, 1, 14, 16, 17, 18, 19, 20, 21, 22]
  | _ => []
def impl_BestRecord.kl : Nat → List Nat := fun n => match n with
  | 0 => [2, 3, 4, 5, 6, 7, 8, 9, 10, 11, 12, 13, 14]
  | 2 => [5, 6, 7]
  | 4 => [0, 1, 8]
  | 6 => [0, 1, 8, 9, 10, 11, 12, 13, 14]
  | _ => []
def laws_eqIntS.kl : Nat → List Nat := fun n => match n with
  | 0 => [2, 3, 4, 5, 6, 7, 8, 9, 10, 11, 12, 13, 14, 15, 16, 17, 18, 19, 20, 21, 22, 23, 24, 25]
  | 2 => [6, 7, 8, 9]
  | 3 => [14]
  | 4 => [0, 1, 10]
  | 6 => [10]
  | 8 => [4, 11, 12, 13, 15, 16, 17, 18, 19, 20, 21, 22, 23, 24, 25]
  | 10 => [15, 16, 25]
  | 12 => [17, 18, 19, 20, 21, 22, 23, 24]
  | 14 => [0, 1, 5, 25]
  | 16 => [0, 1, 5, 14]
  | _ => []
def laws_markIntS.kl : Nat → List Nat := fun n => match n with
  | 0 => [2, 3, 4, 5, 6, 7, 8, 9, 10, 11, 12, 13, 14, 15, 16, 17, 18]
  | 3 => [9]
  | 4 => [6, 7, 8, 10, 11, 12, 13, 14, 15, 16, 17]
  | 6 => [10, 11]
  | 8 => [12, 13, 14, 15]
  | 10 => [16, 17]
  | 12 => [0, 1, 5, 9, 18]
  | _ => []
def laws_heldIntS.kl : Nat → List Nat := fun n => match n with
  | 0 => [2, 3, 4, 5, 6, 7, 8, 9, 10, 11, 12, 13, 14, 15, 16, 17, 18, 19, 20]
  | 3 => [9]
  | 4 => [4, 6, 7, 8, 10, 11, 12, 13, 14, 15, 16, 17, 18, 19]
  | 6 => [10, 11]
  | 8 => [12, 13, 14, 15, 16]
  | 10 => [0, 1, 5, 17]
  | 12 => [17, 18, 19]
  | 14 => [0, 1, 5, 9, 20]
  | _ => []
def spec_BoardOk.kl : Nat → List Nat := fun n => match n with
  | 0 => [2, 3, 4, 5, 6, 7, 8, 9, 10, 11, 12, 13, 14, 15, 16]
  | 2 => [0, 1, 5, 6, 7, 8, 9, 10, 11, 12, 13, 14, 15, 16]
  | _ => []
def spec_LinePlayed.kl : Nat → List Nat := fun n => match n with
  | 0 => [4, 5, 6, 7, 8, 9, 10, 11, 12, 13, 14, 15, 16, 17, 18, 19, 20, 21, 22, 23, 24, 25, 26, 27, 28, 29, 30, 31, 32, 33, 34, 35, 36, 37, 38, 39, 40, 41, 42, 43, 44, 45, 46, 47, 48, 49, 50, 51, 52, 53, 54, 55, 56, 57, 58, 59, 60, 61, 62, 63, 64, 65, 66, 67, 68, 69, 70, 71]
  | 2 => [13]
  | 3 => [44]
  | 4 => [14, 15, 16, 17, 18, 19, 20, 21, 22]
  | 6 => [0, 1, 2, 3, 9, 23, 24]
  | 8 => [2, 23, 25, 26, 27]
  | 10 => [11, 12, 28, 29, 30, 31, 32, 33, 34, 35, 36, 37, 38, 39, 40, 41, 42, 43, 45, 46, 47, 48, 49, 50, 51, 52, 53, 54, 55, 56, 57, 58, 59, 60, 61, 62, 63, 64, 65, 66, 67, 68, 69, 70]
  | 12 => [45, 46, 47, 48, 49]
  | 14 => [50, 51, 52, 53, 54]
  | 16 => [55, 56]
  | 18 => [12, 57, 58, 59, 60]
  | 20 => [12, 57, 61, 62, 63, 64]
  | 22 => [11, 65, 66, 67, 68]
  | 24 => [69, 70]
  | 26 => [0, 1, 3, 9, 10, 44, 71]
  | _ => []
def impl_smallOk.kl : Nat → List Nat := fun n => match n with
  | 0 => [2, 3, 4, 5, 6, 7, 8, 9, 10, 11, 12, 13]
  | 2 => [0, 1, 5, 6, 7, 8, 9, 10, 11, 12, 13]
  | _ => []
def impl_LinePlayed.kl : Nat → List Nat := fun n => match n with
  | 0 => [4, 5, 6, 7, 8, 9, 10, 11, 12, 13, 14, 15, 16, 17, 18, 19, 20, 21, 22, 23, 24, 25, 26, 27, 28, 29, 30, 31, 32, 33, 34, 35, 36, 37, 38, 39, 40, 41, 42, 43, 44, 45, 46, 47, 48, 49, 50, 51, 52, 53, 54, 55, 56, 57, 58]
  | 2 => [14, 15, 16, 17, 18, 19, 20, 21, 22]
  | 3 => [39]
  | 4 => [0, 1, 2, 3, 23]
  | 6 => [0, 1, 23, 24, 25, 26]
  | 10 => [2, 3, 27, 28, 29]
  | 12 => [12, 13, 30, 31, 32, 33, 34, 35, 36, 37, 38, 40, 41, 42, 43, 44, 45, 46, 47, 48, 49, 50, 51, 52, 53, 54, 55, 56, 57]
  | 14 => [40, 41, 42]
  | 16 => [43]
  | 18 => [44, 45, 46, 47]
  | 20 => [12, 44, 48, 49]
  | 22 => [50, 51, 52, 53]
  | 24 => [13, 54, 55, 56]
  | 26 => [11]
  | 28 => [57]
  | 30 => [9, 10, 11, 39, 58]
  | _ => []
def impl_freeBoard.kl : Nat → List Nat := fun n => match n with
  | 0 => [2, 3, 4, 5, 6, 7, 8, 9, 10, 11, 12]
  | 2 => [5, 6, 7]
  | 4 => [0, 1, 8]
  | 6 => [0, 1, 8, 9, 10, 11, 12]
  | _ => []
def spec_l1In.kl : Nat → List Nat := fun n => match n with
  | 0 => [3, 4, 5, 6, 7, 8, 9, 10, 11, 12, 13, 14]
  | 2 => [0, 1, 2, 7, 8, 9, 10, 11, 12, 13, 14]
  | _ => []
def spec_PositionOk.kl : Nat → List Nat := fun n => match n with
  | 0 => [3, 4, 5, 6, 7, 8, 9, 10, 11, 12, 13, 14, 15, 16, 17, 18, 19, 20, 21, 22, 23, 24, 25, 26, 27, 28, 29, 30]
  | 3 => [11]
  | 4 => [6, 8, 9, 10, 12, 13, 14, 15, 16, 17, 18, 19]
  | 6 => [12, 13, 19]
  | 8 => [14, 15, 16, 17, 18]
  | 10 => [0, 1, 2, 7, 19]
  | 12 => [0, 1, 2, 7, 11, 20, 21, 22, 23, 24, 25, 26, 27, 28, 29, 30]
  | _ => []
def spec_l2Set.kl : Nat → List Nat := fun n => match n with
  | 0 => [2, 3, 4, 5, 6, 7, 8, 9, 10, 11, 12, 13, 14, 15, 16, 17, 18, 19, 20, 21, 22, 23]
  | 3 => [10]
  | 6 => [7, 8, 9, 11, 12, 13, 14, 15, 16, 17, 18, 19, 20, 21, 22]
  | 8 => [11, 12, 18]
  | 10 => [13, 14, 15, 16, 17]
  | 12 => [18, 19, 20, 21, 22]
  | 14 => [0, 1, 5, 6, 10, 23]
  | _ => []
def spec_Joins.kl : Nat → List Nat := fun n => match n with
  | 0 => [4, 5, 6, 7, 8, 9, 10, 11, 12, 13, 14, 15, 16, 17, 18, 19, 20, 21, 22, 23, 24, 25, 26, 27, 28]
  | 2 => [9, 10, 11, 12, 13, 14, 15, 16, 17]
  | 4 => [0, 1, 2, 3, 18]
  | 6 => [0, 1, 2, 3, 18, 19, 20, 21, 22, 23, 24, 25, 26, 27, 28]
  | _ => []
def spec_l2List.kl : Nat → List Nat := fun n => match n with
  | 0 => [1, 2, 3, 4, 5, 6, 7, 8, 9, 10, 11, 12, 13, 14, 15, 16, 17, 18, 19, 20, 21]
  | 2 => [5]
  | 3 => [9]
  | 6 => [6, 7, 8, 10, 11, 12, 13, 14, 15, 16, 17, 18, 19, 20]
  | 8 => [10, 11, 16]
  | 10 => [12, 13, 14, 15]
  | 12 => [16, 17, 18, 19, 20]
  | 14 => [0, 3, 4, 9, 21]
  | _ => []
def spec_WinningCells.kl : Nat → List Nat := fun n => match n with
  | 0 => [4, 5, 6, 7, 8, 9, 10, 11, 12, 13, 14, 15, 16, 17, 18, 19, 20, 21, 22, 23, 24, 25, 26, 27, 28, 29, 30, 31, 32, 33, 34, 35, 36, 37, 38, 39, 40, 41, 42, 43, 44]
  | 2 => [13]
  | 3 => [17]
  | 6 => [11, 12, 14, 15, 16, 18, 19, 20, 21, 22, 23, 24, 25, 26, 27, 28, 29, 30, 31, 32, 33, 34, 35, 36, 37, 38, 39, 40, 41, 42, 43]
  | 8 => [18, 19, 39]
  | 10 => [20, 21, 22, 23, 24, 25, 26, 27, 28]
  | 12 => [11, 12, 29, 30, 31, 32, 33, 34, 35, 36, 37, 38]
  | 14 => [39, 40, 41, 42, 43]
  | 16 => [0, 1, 2, 3, 9, 10, 17, 44]
  | _ => []
def spec_l1Other.kl : Nat → List Nat := fun n => match n with
  | 0 => [1, 2, 3, 4, 5, 6]
  | 2 => [3]
  | 4 => [0, 4]
  | 6 => [0, 4, 5, 6]
  | _ => []
def impl_BoardOk.kl : Nat → List Nat := fun n => match n with
  | 0 => [2, 3, 4, 5, 6, 7, 8, 9, 10, 11, 12, 13, 14, 15, 16]
  | 2 => [0, 1, 5, 6, 7, 8, 9, 10, 11, 12, 13, 14, 15, 16]
  | _ => []
def impl_PositionOk.kl : Nat → List Nat := fun n => match n with
  | 0 => [3, 4, 5, 6, 7, 8, 9, 10, 11, 12, 13, 14, 15, 16, 17, 18, 19, 20, 21, 22, 23, 24, 25, 26, 27, 28, 29, 30]
  | 2 => [0, 1, 9, 10, 11, 12, 13, 14, 15, 16, 17, 18, 19]
  | 3 => [24]
  | 4 => [2, 20]
  | 6 => [2, 20]
  | 8 => [6, 8, 25, 26, 27, 28, 29, 30]
  | 10 => [25, 26]
  | 12 => [8, 27, 28]
  | 14 => [21, 22, 23, 29]
  | 16 => [29, 30]
  | 18 => [21, 22, 23, 24]
  | _ => []
def impl_playerOk.kl : Nat → List Nat := fun n => match n with
  | 0 => [1, 2, 3, 4, 5, 6, 7, 8]
  | 2 => [0, 3, 4, 5, 6, 7, 8]
  | _ => []
def impl_newSearch.kl : Nat → List Nat := fun n => match n with
  | 0 => [2, 3, 4, 5, 6, 7, 8, 9, 10, 11, 12, 13, 14, 15, 16, 17, 18, 19, 20, 21, 22, 23, 24, 25, 26, 27, 28, 29, 30, 31, 32, 33, 34, 35, 36, 37, 38, 39, 40, 41, 42, 43, 44, 45, 46, 47, 48, 49]
  | 2 => [8, 9, 10]
  | 3 => [15]
  | 4 => [11, 12]
  | 6 => [6, 16, 17, 18, 19, 20, 21, 22, 23, 24, 25, 26, 27]
  | 7 => [29]
  | 8 => [16]
  | 10 => [6, 17, 18, 19, 20, 21, 22, 23, 24, 25, 26]
  | 12 => [27]
  | 14 => [13, 14, 15]
  | 16 => [28, 30, 31, 32, 33, 34, 35, 36, 37, 38, 39, 40, 41, 42, 43, 44, 45, 46, 47, 48]
  | 18 => [30, 31]
  | 20 => [32, 33, 34, 35, 36, 37, 38, 39, 40, 41, 42, 43, 44, 45, 46, 47, 48]
  | 22 => [0, 1, 5, 7, 29, 49]
  | _ => []
def impl_standingOf.kl : Nat → List Nat := fun n => match n with
  | 0 => [2, 3, 5, 6, 7, 8, 9, 10, 11, 12, 13, 14, 15, 16, 17, 18, 19]
  | 2 => [1, 7, 8]
  | 3 => [10]
  | 6 => [6, 11, 12, 13, 14, 15, 16, 17, 18]
  | 8 => [11]
  | 10 => [6, 12, 13, 14, 15, 16, 17]
  | 12 => [18]
  | 14 => [0, 5, 9, 10, 19]
  | _ => []
def impl_search_joined.kl : Nat → List Nat := fun n => match n with
  | 0 => [1, 2, 4, 5, 6, 7, 8, 9, 10, 11, 12, 13, 14, 15, 16, 17]
  | 3 => [7]
  | 4 => [4, 6, 8, 9, 10, 11, 12, 13, 14, 15, 16, 17]
  | 6 => [8, 9, 16]
  | 8 => [10, 11, 12, 13, 14, 15]
  | 10 => [0, 3, 5, 16, 17]
  | 12 => [0, 3, 5, 7]
  | _ => []
def impl_search_winning.kl : Nat → List Nat := fun n => match n with
  | 0 => [1, 2, 4, 5, 6, 7, 8, 9, 10, 11, 12, 13, 14, 15, 16, 17, 18, 19, 20, 21, 22, 23, 24, 25, 26, 27, 28, 29, 30, 31, 32, 33, 34, 35]
  | 2 => [8, 9, 10]
  | 3 => [16]
  | 4 => [0, 3, 11]
  | 6 => [11]
  | 8 => [12, 13, 14]
  | 10 => [7, 15, 17, 18, 19, 20, 21, 22, 23, 24, 25, 26, 27, 28, 29, 30, 31, 32, 33, 34]
  | 12 => [7, 17, 18, 19, 20, 30]
  | 14 => [21, 22]
  | 16 => [23, 24, 25, 26, 27, 28, 29]
  | 18 => [7, 30, 31, 32, 33, 34]
  | 20 => [0, 3, 5, 6, 16, 35]
  | _ => []
def impl_leastIn.kl : Nat → List Nat := fun n => match n with
  | 0 => [1, 2, 3, 4, 5]
  | 2 => [0, 3, 4, 5]
  | _ => []
def impl_standing_after.kl : Nat → List Nat := fun n => match n with
  | 0 => [0, 3, 5, 6, 7, 8, 9, 10, 11, 12, 13, 14, 15, 16, 17, 18, 19, 20, 21, 22, 23, 24, 25, 26, 27]
  | 2 => [5, 6, 7, 8, 9, 10, 11, 12]
  | 4 => [1, 13, 14, 15, 16, 17, 18, 19, 20, 21, 22]
  | 6 => [23, 24, 25, 26]
  | 8 => [2, 27]
  | _ => []
def spec_l2Joins.kl : Nat → List Nat := fun n => match n with
  | 0 => [5, 6, 7, 8, 9, 10, 11, 12, 13, 14, 15, 16, 17, 18, 19, 20, 21, 22, 23]
  | 2 => [0, 1, 2, 3, 4, 11, 12, 13, 14, 15, 16, 17, 18, 19, 20, 21, 22, 23]
  | _ => []
def spec_l2Masks.kl : Nat → List Nat := fun n => match n with
  | 0 => [2, 3, 4, 5, 6, 7, 8, 9, 10, 11, 12, 13, 14, 15, 16, 17, 18, 19, 20, 21, 22, 23, 24, 25, 26, 27, 28, 29, 30, 31, 32, 33, 34, 35, 36, 37, 38, 39]
  | 2 => [10]
  | 3 => [15]
  | 6 => [7, 8, 9, 11, 12, 13, 14, 16, 17, 18, 19, 20, 21, 22, 23, 24, 25, 26, 27, 28, 29, 30, 31, 32, 33, 34, 35, 36, 37, 38]
  | 7 => [25]
  | 8 => [16, 17]
  | 12 => [18, 19, 20, 21]
  | 16 => [22, 23, 24, 26, 27, 28, 29, 30, 31, 32, 33, 34]
  | 18 => [26, 27]
  | 20 => [28, 29, 30, 31, 32, 33, 34]
  | 22 => [7, 8, 9, 25, 35, 36, 37, 38]
  | 24 => [0, 1, 5, 6, 15, 39]
  | _ => []
def spec_Played.kl : Nat → List Nat := fun n => match n with
  | 0 => [5, 6, 7, 8, 9, 10, 11, 12, 13, 14, 15, 16, 17, 18, 19, 20, 21, 22, 23, 24, 25, 26, 27, 28]
  | 2 => [0, 1, 13, 14, 15, 16, 17, 18]
  | 4 => [2, 3, 4, 19, 20]
  | 6 => [2, 19, 21, 22, 23]
  | 8 => [3, 4, 24, 25, 26, 27]
  | 10 => [12, 28]
  | _ => []
def spec_l3Winner.kl : Nat → List Nat := fun n => match n with
  | 0 => [4, 5, 6, 7, 8, 9, 10, 11, 12, 13, 14, 15, 16, 17, 18, 19, 20, 21, 22, 23, 24]
  | 2 => [10, 11, 12]
  | 4 => [0, 1, 2, 3, 9, 13, 14, 15, 16, 17, 18, 19, 20, 21, 22, 23, 24]
  | _ => []
def impl_sizeOk.kl : Nat → List Nat := fun n => match n with
  | 0 => [1, 2, 3, 4, 5, 6, 7, 8]
  | 2 => [0, 3, 4, 5, 6, 7, 8]
  | _ => []
def impl_contentOk.kl : Nat → List Nat := fun n => match n with
  | 0 => [1, 2, 3, 4, 5, 6, 7, 8, 9, 10, 11, 12]
  | 2 => [0, 3, 4, 5, 6, 7, 8, 9, 10, 11, 12]
  | _ => []
def impl_withNear.kl : Nat → List Nat := fun n => match n with
  | 0 => [3, 4, 5, 6, 7, 8, 9, 10, 11, 12, 13, 14, 15, 16, 17, 18, 19, 20, 21, 22, 23, 24, 25, 26, 27, 28, 29, 30, 31, 32, 33, 34, 35, 36, 37, 38]
  | 2 => [11]
  | 3 => [16]
  | 4 => [12, 13]
  | 6 => [8, 10, 17, 18, 19, 20, 21, 22, 23, 24, 25, 26, 27, 28, 29, 30, 31, 32, 33, 34, 35, 36, 37]
  | 7 => [29]
  | 8 => [17]
  | 10 => [18, 19, 20, 21]
  | 12 => [8, 22, 23, 24, 25]
  | 14 => [10, 30, 31, 32, 33, 34, 35, 36]
  | 16 => [30, 31]
  | 18 => [10, 32, 33, 34, 35]
  | 20 => [36]
  | 22 => [8, 22, 26, 27, 28, 29, 37]
  | 24 => [0, 1, 2, 7, 14, 15, 16, 38]
  | _ => []
def impl_sidesOf.kl : Nat → List Nat := fun n => match n with
  | 0 => [3, 4, 5, 6, 7, 8, 9, 10, 11, 12, 13, 14, 15, 16, 17, 18, 19, 20, 21, 22, 23, 24, 25, 26, 27, 28, 29, 30, 31, 32, 33, 34, 35, 36, 37, 38, 39, 40, 41, 42, 43, 44, 45, 46]
  | 3 => [17]
  | 4 => [13, 14]
  | 6 => [10, 11, 12, 18, 19, 20, 21, 22, 23, 24, 25, 26, 27, 28, 29, 30, 31, 32, 33, 34, 35, 36, 37, 38, 39, 40, 41, 42, 43, 44]
  | 8 => [18]
  | 10 => [19, 20, 21, 22, 23]
  | 12 => [24]
  | 14 => [25, 26, 27, 28, 29, 30]
  | 16 => [25, 31]
  | 18 => [32, 33, 34, 35, 36]
  | 20 => [11, 12, 32, 37, 38]
  | 22 => [10, 39, 40, 41, 42, 43]
  | 24 => [10, 39, 44]
  | 26 => [0, 1, 2, 8, 9, 15, 16, 17, 45, 46]
  | _ => []
def impl_setOf.kl : Nat → List Nat := fun n => match n with
  | 0 => [2, 3, 4, 5, 6, 7, 8, 9, 10, 11, 12, 13, 14, 15, 16, 17, 18, 19, 20, 21, 22, 23]
  | 3 => [11]
  | 4 => [0]
  | 6 => [6, 7, 12, 13, 14, 15, 16, 17, 18, 19, 20, 21, 22]
  | 8 => [12, 13, 14]
  | 10 => [7, 15, 16]
  | 12 => [6, 17, 18, 19, 20, 21]
  | 14 => [6, 17, 22]
  | 16 => [1, 5, 8, 9, 10, 11, 23]
  | _ => []
def impl_search_joins.kl : Nat → List Nat := fun n => match n with
  | 0 => [3, 4, 5, 6, 7, 8, 9, 10, 11, 12, 13, 14, 15, 16, 17, 18, 19, 20, 21, 22, 23, 24, 25, 26, 27, 28, 29, 30, 31, 32, 33, 34, 35, 36, 37, 38, 39, 40, 41, 42, 43, 44, 45, 46, 47, 48, 49, 50, 51, 52, 53, 54]
  | 2 => [11, 12, 13, 14, 15, 16, 17, 18]
  | 3 => [21]
  | 4 => [19]
  | 6 => [9, 10, 20, 22, 23, 24, 25, 26, 27, 28, 29, 30, 31, 32, 33, 34, 35, 36, 37, 38, 39, 40, 41, 42, 43, 44, 45]
  | 7 => [24]
  | 10 => [8, 22]
  | 12 => [23, 25, 26, 27, 28, 29, 30, 31, 32, 33, 34, 35, 36, 37]
  | 14 => [25, 26, 27, 28]
  | 16 => [29, 30, 31, 32, 33, 34, 35, 36, 37]
  | 18 => [9, 10, 24, 38, 39, 40, 41, 42]
  | 20 => [43, 44, 45]
  | 22 => [0, 1, 2, 7, 8, 21, 46, 47, 48, 49, 50, 51, 52, 53, 54]
  | _ => []
def impl_search_winner.kl : Nat → List Nat := fun n => match n with
  | 0 => [1, 2, 4, 5, 6, 7, 8, 9, 10, 11, 12, 13, 14, 15, 16, 17, 18, 19, 20, 21, 22, 23, 24, 25, 26, 27]
  | 2 => [7, 8, 9, 10, 11, 12, 13, 14, 15]
  | 4 => [6, 16]
  | 6 => [17, 18, 19, 20]
  | 8 => [0, 3, 21, 22, 23, 24, 25, 26]
  | 10 => [0, 3, 5, 17, 27]
  | _ => []
def bits_TrailingZeros.kl : Nat → List Nat := fun n => match n with
  | 0 => [1, 2, 3, 4, 5, 6, 7]
  | 2 => [0, 3, 4, 5]
  | 4 => [0, 6, 7]
  | _ => []
def impl_exchanged.kl : Nat → List Nat := fun n => match n with
  | 0 => [1, 2, 3, 4, 5, 6, 7, 8]
  | 4 => [5]
  | 6 => [0, 3, 4]
  | 8 => [3, 4, 7]
  | 10 => [0, 6]
  | 12 => [0, 6, 8]
  | _ => []
def spec_l2Grow.kl : Nat → List Nat := fun n => match n with
  | 0 => [3, 4, 5, 6, 7, 8, 9, 10, 11, 12, 13, 14, 15, 16, 17, 18, 19, 20, 21, 22, 23, 24, 25, 26, 27, 28, 29, 30, 31, 32, 33, 34, 35, 36, 37, 38, 39]
  | 2 => [2, 11, 12, 13]
  | 3 => [14]
  | 6 => [8, 9, 10, 15, 16, 17, 18, 19, 20, 21, 22, 23, 24, 25, 26, 27, 28, 29, 30, 31, 32, 33, 34, 35, 36, 37, 38]
  | 7 => [19]
  | 8 => [15]
  | 12 => [16, 17, 18, 20, 21, 22, 23, 24, 25, 26, 27, 28, 29, 30, 31, 32, 33, 34]
  | 14 => [20, 21, 26]
  | 16 => [22, 23, 24, 25]
  | 18 => [26, 27, 28, 29, 30, 31, 32, 33, 34]
  | 20 => [7, 10, 19, 35, 36, 37]
  | 22 => [9, 38]
  | 24 => [0, 1, 7, 14, 39]
  | _ => []
def spec_l2Side.kl : Nat → List Nat := fun n => match n with
  | 0 => [4, 5, 6, 7, 8, 9, 10, 11, 12, 13, 14, 15, 16, 17, 18, 19, 20, 21, 22, 23, 24, 25, 26, 27, 28, 29, 30, 31, 32, 33, 34, 35, 36, 37, 38, 39, 40, 41, 42, 43, 44, 45, 46, 47, 48, 49, 50]
  | 3 => [17]
  | 6 => [11, 12, 13, 14, 15, 16, 18, 19, 20, 21, 22, 23, 24, 25, 26, 27, 28, 29, 30, 31, 32, 33, 34, 35, 36, 37, 38, 39, 40, 41, 42, 43, 44, 45, 46, 47, 48, 49]
  | 8 => [18, 19, 45]
  | 10 => [20, 21, 22]
  | 12 => [23, 24]
  | 14 => [25]
  | 16 => [12, 26, 27, 28, 29]
  | 18 => [30, 31]
  | 20 => [11, 12, 26, 32, 33, 34, 35, 36, 37, 38, 39, 40, 41, 42, 43, 44]
  | 22 => [45, 46, 47, 48, 49]
  | 24 => [0, 1, 2, 3, 9, 10, 17, 50]
  | _ => []
def spec_l1Near.kl : Nat → List Nat := fun n => match n with
  | 0 => [3, 4, 5, 6, 7, 8, 9, 10, 11, 12, 13, 14, 15, 16, 17, 18, 19, 20, 21, 22, 23, 24, 25, 26, 27, 28, 29, 30, 31, 32, 33, 34, 35, 36, 37, 38, 39, 40, 41, 42, 43, 44, 45, 46, 47, 48, 49, 50, 51, 52, 53, 54, 55, 56, 57, 58, 59, 60, 61, 62]
  | 2 => [12]
  | 3 => [24]
  | 4 => [13, 14, 15]
  | 6 => [2, 16, 17, 18]
  | 7 => [32]
  | 8 => [19, 20]
  | 10 => [11, 21, 22, 23, 25, 26, 27, 28, 29, 30, 31, 32, 33, 34, 35, 36, 37, 38, 39, 40, 41, 42, 43, 44, 45, 46, 47, 48, 49, 50, 51, 52, 53, 54, 55, 56, 57, 58, 59, 60, 61]
  | 12 => [11, 25, 26, 32]
  | 14 => [27, 28]
  | 16 => [29, 30, 31, 33, 34, 35, 36, 37, 38, 39, 40, 41, 42, 43, 44, 45, 46, 47, 48, 49, 50, 51, 52, 53, 54, 55, 56, 57, 58, 59, 60, 61]
  | 18 => [33, 34, 53]
  | 20 => [35, 36, 37, 38, 39, 40, 41, 42, 43, 44, 45, 46, 47, 48, 49, 50, 51, 52]
  | 22 => [53, 54, 55, 56, 57, 58, 59, 60, 61]
  | 24 => [0, 1, 7, 8, 9, 10, 24, 62]
  | _ => []
def spec_MoveOk.kl : Nat → List Nat := fun n => match n with
  | 0 => [5, 6, 7, 8, 9, 10, 11, 12, 13, 14, 15, 16, 17, 18, 19, 20, 21, 22, 23, 24, 25, 26, 27, 28, 29, 30, 31, 32, 33, 34, 35, 36, 37, 38, 39, 40, 41, 42, 43, 44, 45, 46, 47]
  | 2 => [4, 11, 12, 13, 14, 15, 16, 17, 18, 19, 20, 21, 22, 23, 24, 25, 26, 27]
  | 4 => [0, 1, 2, 3, 28]
  | 6 => [0, 1, 2, 3, 28, 29, 30, 31, 32, 33, 34, 35, 36, 37, 38, 39, 40, 41, 42, 43, 44, 45, 46, 47]
  | _ => []
def spec_l3Solve.kl : Nat → List Nat := fun n => match n with
  | 0 => [7, 8, 9, 10, 11, 12, 13, 14, 15, 16, 17, 18, 19, 20, 21, 22, 23, 24, 25, 26, 27, 28, 29, 30, 31, 32, 33, 34, 35, 36, 37, 38, 39, 40, 41, 42, 43, 44, 45, 46, 47, 48, 49, 50, 51, 52, 53, 54, 55, 56, 57, 58, 59, 60, 61, 62, 63, 64, 65, 66, 67, 68, 69, 70, 71, 72, 73, 74, 75, 76, 77, 78, 79, 80, 81, 82, 83, 84, 85, 86, 87, 88, 89, 90, 91, 92, 93, 94, 95, 96, 97, 98, 99, 100, 101, 102, 103, 104, 105, 106, 107, 108, 109, 110, 111, 112, 113]
  | 2 => [20, 21, 22, 23]
  | 3 => [33]
  | 4 => [0, 1, 2, 3, 4, 5, 6, 24]
  | 6 => [24, 25, 26, 27, 28]
  | 7 => [73]
  | 8 => [0, 1, 2, 3, 4, 5, 6, 29]
  | 10 => [29]
  | 14 => [30, 31, 32, 34, 35, 36, 37, 38, 39, 40, 41, 42, 43, 44, 45, 46, 47, 48]
  | 16 => [34, 35]
  | 18 => [36, 37, 38, 39, 40, 41, 42, 43, 44, 45, 46, 47, 48]
  | 20 => [16, 33, 49, 50, 51, 52, 53]
  | 22 => [54, 55, 56, 57]
  | 24 => [0, 1, 2, 3, 4, 5, 6, 15, 58, 59, 60, 61, 62]
  | 26 => [58, 63, 64]
  | 30 => [19, 65, 66, 67, 68, 69, 70, 71, 72, 74, 75, 76, 77, 78, 79, 80, 81, 82, 83, 84, 85, 86, 87, 88, 89, 90, 91, 92, 93, 94, 95, 96, 97, 98, 99, 100, 101, 102, 103, 104, 105, 106, 107, 108]
  | 32 => [74, 75, 82, 107]
  | 34 => [76, 77, 78, 79, 80, 81]
  | 36 => [19, 82]
  | 38 => [83]
  | 40 => [84, 85, 86, 87, 88, 89, 90, 91, 92, 93, 94]
  | 42 => [84, 95, 96, 97, 98, 99, 100, 101, 102, 103, 104]
  | 44 => [19, 105, 106]
  | 46 => [107, 108]
  | 48 => [0, 1, 2, 3, 4, 5, 6, 15, 18, 73, 109, 110, 111, 112]
  | 50 => [17, 113]
  | _ => []
def spec_l3Table.kl : Nat → List Nat := fun n => match n with
  | 0 => [1, 2, 3, 4, 5, 6, 7, 8, 9, 10, 11, 12, 13]
  | 3 => [7]
  | 6 => [5, 6, 8, 9, 10, 11]
  | 8 => [8, 9]
  | 10 => [10, 11]
  | 12 => [0, 3, 4, 7, 12, 13]
  | _ => []
def impl_NearCells.kl : Nat → List Nat := fun n => match n with
  | 0 => [3, 4, 5, 6, 7, 8, 9, 10, 11, 12, 13, 14, 15, 16, 17, 18, 19, 20, 21, 22, 23, 24, 25, 26, 27, 28, 29, 30, 31, 32, 33, 34, 35, 36, 37, 38, 39, 40, 41, 42, 43, 44, 45, 46, 47, 48, 49, 50, 51, 52, 53, 54, 55, 56, 57, 58]
  | 2 => [12, 13, 14, 15]
  | 3 => [19]
  | 4 => [0, 1, 2, 16]
  | 6 => [16]
  | 10 => [9, 10, 11, 20, 21, 22, 23, 24, 25, 26, 27, 28, 29, 30, 31, 32, 33, 34, 35, 36, 37, 38, 39, 40, 41, 42, 43, 44, 45, 46, 47, 48, 49, 50, 51, 52, 53, 54, 55, 56, 57]
  | 12 => [20]
  | 14 => [21, 22, 23, 24, 25, 26]
  | 16 => [9, 27, 28, 29, 30, 31, 32]
  | 18 => [33, 34, 35, 36, 37, 38, 39, 40, 41, 42, 43, 44, 45, 46, 47]
  | 20 => [10, 11, 48, 49, 50, 51, 52, 53, 54, 55, 56]
  | 22 => [10, 11, 48, 57]
  | 24 => [0, 1, 2, 7, 17, 18, 19, 58]
  | _ => []
def impl_search_solved.kl : Nat → List Nat := fun n => match n with
  | 0 => [1, 2, 4, 5, 6, 7, 8, 9, 10, 11, 12, 13, 14, 15, 16, 17, 18, 19, 20, 21, 22, 23, 24, 25, 26, 27, 28, 29, 30, 31, 32, 33, 34, 35]
  | 2 => [7, 8, 9]
  | 3 => [17]
  | 4 => [10]
  | 6 => [0, 3, 5, 11, 12]
  | 8 => [5, 11, 13, 14, 15]
  | 10 => [4, 16, 18, 19, 20, 21, 22, 23, 24, 25, 26, 27, 28, 29, 30, 31, 32]
  | 12 => [18, 19, 20, 21, 30]
  | 14 => [22, 23, 24, 25, 26, 27, 28, 29]
  | 16 => [0, 3, 6, 30, 31, 32]
  | 18 => [0, 3, 6, 17, 33, 34, 35]
  | _ => []
def bits_TrailingZeros32.kl : Nat → List Nat := fun n => match n with
  | 0 => [1, 2, 3, 4, 5, 6, 7, 8, 9, 10, 11, 12, 13]
  | 2 => [3]
  | 4 => [0, 4]
  | 6 => [0, 4, 5, 6, 7, 8, 9, 10, 11, 12, 13]
  | _ => []
def bits_TrailingZeros64.kl : Nat → List Nat := fun n => match n with
  | 0 => [1, 2, 3, 4, 5, 6, 7, 8, 9, 10, 11, 12, 13]
  | 2 => [3]
  | 4 => [0, 4]
  | 6 => [0, 4, 5, 6, 7, 8, 9, 10, 11, 12, 13]
  | _ => []
def impl_cellOk.kl : Nat → List Nat := fun n => match n with
  | 0 => [3, 4, 5, 6, 7, 8, 9, 10, 11, 12, 13, 14, 15, 16, 17, 18, 19, 20]
  | 2 => [0, 1, 2, 7, 8, 9, 10, 11, 12, 13, 14, 15, 16, 17, 18, 19, 20]
  | _ => []
def KL : FuncId → Nat → List Nat := fun f => match f with
  | 3 => laws_FnExactBestRecord.kl
  | 4 => spec_BestRecord.kl
  | 5 => impl_BestRecord.kl
  | 6 => laws_eqIntS.kl
  | 7 => laws_markIntS.kl
  | 8 => laws_heldIntS.kl
  | 9 => spec_BoardOk.kl
  | 10 => spec_LinePlayed.kl
  | 11 => impl_smallOk.kl
  | 12 => impl_LinePlayed.kl
  | 13 => impl_freeBoard.kl
  | 14 => spec_l1In.kl
  | 15 => spec_PositionOk.kl
  | 16 => spec_l2Set.kl
  | 17 => spec_Joins.kl
  | 18 => spec_l2List.kl
  | 19 => spec_WinningCells.kl
  | 20 => spec_l1Other.kl
  | 21 => impl_BoardOk.kl
  | 22 => impl_PositionOk.kl
  | 23 => impl_playerOk.kl
  | 24 => impl_newSearch.kl
  | 25 => impl_standingOf.kl
  | 26 => impl_search_joined.kl
  | 27 => impl_search_winning.kl
  | 28 => impl_leastIn.kl
  | 29 => impl_standing_after.kl
  | 30 => spec_l2Joins.kl
  | 31 => spec_l2Masks.kl
  | 32 => spec_Played.kl
  | 33 => spec_l3Winner.kl
  | 34 => impl_sizeOk.kl
  | 35 => impl_contentOk.kl
  | 36 => impl_withNear.kl
  | 37 => impl_sidesOf.kl
  | 38 => impl_setOf.kl
  | 39 => impl_search_joins.kl
  | 40 => impl_search_winner.kl
  | 41 => bits_TrailingZeros.kl
  | 42 => impl_exchanged.kl
  | 43 => spec_l2Grow.kl
  | 44 => spec_l2Side.kl
  | 45 => spec_l1Near.kl
  | 46 => spec_MoveOk.kl
  | 47 => spec_l3Solve.kl
  | 48 => spec_l3Table.kl
  | 49 => impl_NearCells.kl
  | 50 => impl_search_solved.kl
  | 51 => bits_TrailingZeros32.kl
  | 52 => bits_TrailingZeros64.kl
  | 53 => impl_cellOk.kl
  | _ => fun _ => []
noncomputable def CL (g : Nat → PV) (lf n : Nat) : FuncId → List PV → PHeap → Res := call Tryd.prog g KL lf n
noncomputable def YL (g : Nat → PV) (lf n : Nat) : Nat → List PV → PHeap → Res := yields Tryd.prog g KL lf n
noncomputable def env (g : Nat → PV) (lf n : Nat) : Env := ⟨g, lf, CL g lf n, std Tryd.prog, YL g lf n⟩
@[simp] theorem env_C (g : Nat → PV) (lf n : Nat) : (env g lf n).C = CL g lf n := rfl
@[simp] theorem env_Y (g : Nat → PV) (lf n : Nat) : (env g lf n).Y = YL g lf n := rfl
@[simp] theorem env_g (g : Nat → PV) (lf n : Nat) : (env g lf n).g = g := rfl
@[simp] theorem env_lf (g : Nat → PV) (lf n : Nat) : (env g lf n).lf = lf := rfl
@[simp] theorem env_pick (g : Nat → PV) (lf n : Nat) : (env g lf n).p.pick = pickP := rfl
@[simp] theorem env_alloc (g : Nat → PV) (lf n : Nat) : (env g lf n).p.alloc = allocP Tryd.prog := rfl
@[simp] theorem env_box (g : Nat → PV) (lf n : Nat) : (env g lf n).p.box = boxP := rfl
@[simp] theorem env_build (g : Nat → PV) (lf n : Nat) : (env g lf n).p.build = buildP Tryd.prog := rfl
@[simp] theorem env_buildSlice (g : Nat → PV) (lf n : Nat) : (env g lf n).p.buildSlice = buildSliceP Tryd.prog := rfl
@[simp] theorem env_load (g : Nat → PV) (lf n : Nat) : (env g lf n).p.load = loadP Tryd.prog := rfl
@[simp] theorem env_store (g : Nat → PV) (lf n : Nat) : (env g lf n).p.store = storeP Tryd.prog := rfl
@[simp] theorem env_ptr (g : Nat → PV) (lf n : Nat) : (env g lf n).p.ptr = ptrP := rfl
@[simp] theorem env_bin (g : Nat → PV) (lf n : Nat) : (env g lf n).p.bin = binP Tryd.prog := rfl
@[simp] theorem env_un (g : Nat → PV) (lf n : Nat) : (env g lf n).p.un = unP := rfl
@[simp] theorem env_conv (g : Nat → PV) (lf n : Nat) : (env g lf n).p.conv = convP Tryd.prog := rfl
@[simp] theorem env_make (g : Nat → PV) (lf n : Nat) : (env g lf n).p.make = makeP Tryd.prog := rfl
@[simp] theorem env_slice (g : Nat → PV) (lf n : Nat) : (env g lf n).p.slice = sliceP Tryd.prog := rfl
@[simp] theorem env_fieldAddr (g : Nat → PV) (lf n : Nat) : (env g lf n).p.fieldAddr = fieldAddrP Tryd.prog := rfl
@[simp] theorem env_field (g : Nat → PV) (lf n : Nat) : (env g lf n).p.field = fieldP Tryd.prog := rfl
@[simp] theorem env_indexAddr (g : Nat → PV) (lf n : Nat) : (env g lf n).p.indexAddr = indexAddrP Tryd.prog := rfl
@[simp] theorem env_index (g : Nat → PV) (lf n : Nat) : (env g lf n).p.index = indexP Tryd.prog := rfl
@[simp] theorem env_extract (g : Nat → PV) (lf n : Nat) : (env g lf n).p.extract = extractP := rfl
@[simp] theorem env_len (g : Nat → PV) (lf n : Nat) : (env g lf n).p.len = lenP Tryd.prog := rfl
@[simp] theorem env_append (g : Nat → PV) (lf n : Nat) : (env g lf n).p.append = appendP Tryd.prog := rfl
@[simp] theorem env_max (g : Nat → PV) (lf n : Nat) : (env g lf n).p.max = foldP maxP2 := rfl
@[simp] theorem env_min (g : Nat → PV) (lf n : Nat) : (env g lf n).p.min = foldP minP2 := rfl
@[simp] theorem env_makeMap (g : Nat → PV) (lf n : Nat) : (env g lf n).p.makeMap = makeMapP := rfl
@[simp] theorem env_lookup (g : Nat → PV) (lf n : Nat) : (env g lf n).p.lookup = lookupP Tryd.prog := rfl
@[simp] theorem env_update (g : Nat → PV) (lf n : Nat) : (env g lf n).p.update = updateP Tryd.prog := rfl
@[simp] theorem env_clos (g : Nat → PV) (lf n : Nat) : (env g lf n).p.clos = closP := rfl
@[simp] theorem env_bstr (g : Nat → PV) (lf n : Nat) : (env g lf n).p.bstr = bstrP Tryd.prog := rfl
@[simp] theorem env_ext (g : Nat → PV) (lf n : Nat) : (env g lf n).p.ext = extP Tryd.prog := rfl
end Go.Proofs.YtpaehbfknlpkbaeDoor.G

/- From what the interpreter computes for a law to what the machine's call of it does. -/
set_option maxRecDepth 20000
namespace Go.Proofs.YtpaehbfknlpkbaeDoor
open Go Go.Ip Go.RowKit G

def g0 : Nat → PV := fun _ => .junk
def LF : Nat := 4294967296

theorem prog_mixed : Tryd.prog.follows .mixedOrders = true := by kernel_rfl
theorem prog_ok : progOk Tryd.prog = true := by kernel_rfl

/-- A slice of integers, nil or not, as the interpreter's heap holds it. -/
def IntSl (k : IntKind) (h : PHeap) (p : PV) (xs : List Int) : Prop :=
  (p = .nilsl ∧ xs = []) ∨ ∃ id off, p = .sl id off xs.length ∧ ∀ (i : Nat) x, xs[i]? = some x → (cellsAt h id)[off + i]? = some (.int k x)

end Go.Proofs.YtpaehbfknlpkbaeDoor

