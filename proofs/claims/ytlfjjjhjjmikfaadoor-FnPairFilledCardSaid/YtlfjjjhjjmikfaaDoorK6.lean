/- Texts of this seat, in their order, put together by program. -/
import Derived.Test.YtlfjjjhjjmikfaaDoorK5
import Derived.Test.YtlfjjjhjjmikfaaDoorProg
import Derived.KernelRfl
set_option linter.unusedSimpArgs false
set_option linter.unusedVariables false
/- Of each function of this seat's program its plain form over the interpreter, written by program; each equation is the kernel's. -/
set_option linter.unusedVariables false
set_option maxRecDepth 100000
namespace Go.Proofs.YtlfjjjhjjmikfaaDoor.G
open Go Go.Ip Go.Proofs

def fn_laws_FnOpenings : Nat := 3
def fn_laws_FnPairFilled : Nat := 4
def fn_laws_FnWideWins : Nat := 5
def fn_laws_FnExactOpenings : Nat := 6
def fn_spec_DrawOpenings : Nat := 7
def fn_impl_Openings : Nat := 8
def fn_laws_sameInts : Nat := 9
def fn_spec_Openings : Nat := 10
def fn_spec_BoardOk : Nat := 11
def fn_laws_alive : Nat := 12
def fn_laws_hasInt : Nat := 13
def fn_spec_DrawPairFilled : Nat := 14
def fn_impl_PairFilled : Nat := 15
def fn_spec_PairFilled : Nat := 16
def fn_impl_PositionOk : Nat := 17
def fn_impl_CellsOf : Nat := 18
def fn_impl_Joins : Nat := 19
def fn_impl_WinnerOf : Nat := 20
def fn_spec_DrawPairCell : Nat := 21
def fn_impl_PairCell : Nat := 22
def fn_laws_eqIntS : Nat := 23
def fn_laws_markIntS : Nat := 24
def fn_laws_heldIntS : Nat := 25
def fn_spec_l20Open : Nat := 26
def fn_spec_l20Small : Nat := 27
def fn_spec_l20Rd_odd : Nat := 28
def fn_spec_l20Rd_pick : Nat := 29
def fn_impl_WinningCells : Nat := 30
def fn_impl_freeBoard : Nat := 31
def fn_spec_l1In : Nat := 32
def fn_spec_WinningCells : Nat := 33
def fn_impl_BoardOk : Nat := 34
def fn_spec_l20Wide : Nat := 35
def fn_impl_widerOk : Nat := 36
def fn_impl_Filled : Nat := 37
def fn_spec_l4Pair : Nat := 38
def fn_impl_contentOk : Nat := 39
def fn_impl_playerOk : Nat := 40
def fn_impl_sidesOf : Nat := 41
def fn_impl_setOf : Nat := 42
def fn_impl_grown : Nat := 43
def fn_impl_newSearch : Nat := 44
def fn_impl_search_winner : Nat := 45
def fn_impl_standingOf : Nat := 46
def fn_impl_cellOk : Nat := 47
def fn_impl_cellsIn : Nat := 48
def fn_impl_search_winning : Nat := 49
def fn_spec_Played : Nat := 50
def fn_spec_l3Winner : Nat := 51
def fn_spec_l1Other : Nat := 52
def fn_impl_sizeOk : Nat := 53
def fn_impl_withNear : Nat := 54
def fn_impl_search_solved : Nat := 55
def fn_impl_search_joined : Nat := 56
def fn_impl_leastIn : Nat := 57
def fn_impl_standing_after : Nat := 58
def fn_spec_MoveOk : Nat := 59
def fn_spec_l2Masks : Nat := 60
def fn_spec_l3Solve : Nat := 61
def fn_spec_l2Set : Nat := 62
def fn_spec_l3Table : Nat := 63
def fn_impl_NearCells : Nat := 64
def fn_impl_exchanged : Nat := 65
def fn_impl_search_joins : Nat := 66
def fn_bits_TrailingZeros : Nat := 67
def fn_spec_PositionOk : Nat := 68
def fn_spec_Joins : Nat := 69
def fn_spec_l1Near : Nat := 70
def fn_spec_l2Joins : Nat := 71
def fn_bits_TrailingZeros32 : Nat := 72
def fn_bits_TrailingZeros64 : Nat := 73
def fn_spec_l2Grow : Nat := 74
def fn_spec_l2Side : Nat := 75
def laws_FnOpenings.kl : Nat → List Nat := fun n => match n with
  | 0 => [1, 2, 3, 4, 5, 6, 7, 8, 9, 10, 11, 12, 13, 14, 15, 16, 17, 18, 19, 20, 21, 22, 23, 24, 25, 26, 27, 28, 29, 30, 31, 32, 33, 34, 35, 36, 37, 38, 39, 40, 41, 42, 43, 44, 45, 46, 47, 48, 49, 50, 51, 52, 53, 54, 55, 56, 57, 58, 59, 60, 61, 62, 63, 64, 65, 66, 67, 68, 69, 70, 71, 72, 73, 74, 75, 76, 77, 78, 79, 80, 81, 82, 83, 84, 85, 86, 87, 88, 89, 90, 91, 92, 93, 94, 95, 96, 97, 98, 99, 100, 101, 102, 103]
  | 2 => [9, 10]
  | 3 => [51]
  | 4 => [0, 11]
  | 6 => [0, 11, 12, 13, 14, 15, 16, 17]
  | 8 => [18, 19, 20, 21]
  | 10 => [22, 23, 24, 25, 26, 27]
  | 12 => [3, 4, 5, 6, 28]
  | 14 => [28, 29, 30, 31, 32, 33, 34, 35]
  | 16 => [3, 4, 5, 6, 36, 37, 38, 39, 40, 41, 42]
  | 18 => [5, 36, 43, 44, 45, 46, 47]
  | 22 => [48, 49, 50]
  | 24 => [52, 53, 85]
  | 26 => [54, 55, 56, 57, 58, 59, 60, 61, 62, 63, 64, 65, 66, 67, 68, 69, 70, 71, 72, 73, 74, 75, 76, 77, 78, 79, 80, 81, 82, 83, 84]
  | 28 => [3, 4, 6, 7, 8, 85]
  | 30 => [3, 4, 6, 7, 8, 51, 86, 87, 88, 89, 90, 91, 92, 93, 94, 95, 96, 97, 98, 99, 100, 101, 102, 103]
  | _ => []
def laws_FnPairFilled.kl : Nat → List Nat := fun n => match n with
  | 0 => [1, 2, 3, 4, 5, 6, 7, 8, 9, 10, 11, 12, 13, 14, 15, 16, 17, 18, 19, 20, 21, 22, 23, 24, 25, 26, 27, 28, 29, 30, 31, 32, 33, 34, 35, 36, 37, 38, 39, 40, 41, 42, 43, 44, 45, 46, 47, 48, 49, 50, 51, 52, 53, 54, 55, 56, 57, 58, 59, 60, 61, 62, 63, 64, 65, 66, 67, 68, 69, 70, 71, 72, 73, 74, 75, 76, 77, 78, 79]
  | 2 => [8, 9]
  | 4 => [0, 10]
  | 6 => [0, 10, 11, 12, 13, 14, 15, 16]
  | 8 => [17, 18, 19, 20]
  | 10 => [5, 21, 22, 23, 24, 25, 26]
  | 12 => [3, 4, 6, 27]
  | 14 => [27, 28, 29]
  | 16 => [3, 4, 6, 30, 31]
  | 18 => [30, 32, 33, 34, 35]
  | 20 => [3, 4, 6, 7, 36, 37, 38, 39, 40, 41, 42, 43, 44, 45, 46, 47, 48, 49, 50, 51, 52, 53, 54, 55, 56, 57, 58, 59, 60, 61, 62, 63, 64, 65, 66, 67, 68, 69, 70, 71, 72, 73, 74, 75, 76, 77, 78, 79]
  | _ => []
def laws_FnWideWins.kl : Nat → List Nat := fun n => match n with
  | 0 => [1, 2, 3, 4, 5, 6, 7, 8, 9, 10, 11, 12, 13, 14, 15, 16, 17, 18, 19, 20, 21, 22, 23, 24, 25, 26, 27, 28, 29, 30, 31, 32, 33, 34, 35, 36, 37, 38, 39, 40, 41, 42, 43, 44, 45, 46, 47, 48, 49, 50, 51, 52, 53, 54, 55, 56, 57]
  | 2 => [7, 8]
  | 4 => [0, 9]
  | 6 => [0, 5, 9, 10, 11, 12, 13, 14, 15]
  | 8 => [16, 17, 18, 19, 20, 21, 22, 23]
  | 10 => [3, 4, 24, 25, 26, 27, 28, 29, 30, 31]
  | 12 => [24, 32, 33, 34, 35]
  | 14 => [3, 4, 6, 36, 37, 38, 39, 40, 41, 42, 43, 44, 45, 46, 47, 48, 49, 50, 51, 52, 53, 54, 55, 56, 57]
  | _ => []
def laws_FnExactOpenings.kl : Nat → List Nat := fun n => match n with
  | 0 => [3, 4, 5, 6, 7, 8, 9, 10, 11, 12, 13, 14, 15, 16, 17, 18, 19, 20, 21, 22, 23, 24, 25, 26, 27, 28, 29, 30, 31, 32, 33, 34, 35, 36, 37, 38, 39, 40, 41, 42, 43, 44, 45, 46, 47, 48, 49, 50]
  | 2 => [12, 13, 14, 15]
  | 4 => [16, 17, 18, 19]
  | 6 => [20, 21, 22]
  | 8 => [0, 1, 2, 7, 8, 23]
  | 10 => [23]
  | 12 => [24, 25, 26]
  | 16 => [27, 28, 29]
  | 18 => [30]
  | 20 => [0, 1, 2, 7, 8, 9, 10, 31]
  | 22 => [10, 31, 32, 33]
  | 24 => [0, 1, 2, 7, 8, 9, 34]
  | 26 => [0, 1, 2, 34, 35, 36, 37, 38]
  | 28 => [7, 11, 39, 40, 41]
  | 30 => [8, 9, 42]
  | 32 => [42]
  | 34 => [8, 43, 44, 45]
  | 36 => [46]
  | 38 => [9, 10, 47]
  | 40 => [9, 10, 47, 48, 49]
  | 42 => [50]
  | 44 => [50]
  | _ => []
def spec_DrawOpenings.kl : Nat → List Nat := fun n => match n with
  | 0 => [1, 2, 3, 4, 5, 6, 7, 8, 9, 10, 11, 12, 13, 14, 15, 16, 17, 18, 19, 20, 21, 22, 23, 24, 25, 26]
  | 2 => [0, 8, 9]
  | 4 => [10, 11, 12, 13, 14]
  | 6 => [15]
  | 8 => [16]
  | 10 => [5, 6, 7, 16, 17, 18, 19, 20, 21, 22, 23, 24, 25, 26]
  | _ => []
def impl_Openings.kl : Nat → List Nat := fun n => match n with
  | 0 => [3, 4, 5, 6, 7, 8, 9, 10, 11, 12, 13]
  | 2 => [0, 1, 2, 7, 8, 9, 10, 11, 12, 13]
  | _ => []
def laws_sameInts.kl : Nat → List Nat := fun n => match n with
  | 0 => [2, 3, 4, 5, 6, 7, 8, 9, 10, 11, 12, 13, 14, 15, 16, 17, 18, 19, 20, 21, 22, 23, 24, 25]
  | 2 => [6, 7, 8, 9]
  | 3 => [14]
  | 4 => [0, 1, 10]
  | 6 => [10]
  | 8 => [11, 12, 13]
  | 10 => [15, 16, 25]
  | 12 => [17, 18, 19, 20, 21, 22, 23, 24]
  | 14 => [0, 1, 5, 25]
  | 16 => [0, 1, 5, 14]
  | _ => []
def spec_Openings.kl : Nat → List Nat := fun n => match n with
  | 0 => [3, 4, 5, 6, 7, 8, 9, 10, 11, 12, 13, 14, 15, 16, 17, 18, 19, 20, 21, 22, 23, 24]
  | 2 => [7, 8, 9, 10, 11, 12, 13, 14]
  | 4 => [0, 1, 2, 15, 16]
  | 6 => [0, 1, 2, 15, 17, 18, 19, 20, 21, 22, 23, 24]
  | _ => []
def spec_BoardOk.kl : Nat → List Nat := fun n => match n with
  | 0 => [2, 3, 4, 5, 6, 7, 8, 9, 10, 11, 12, 13, 14, 15, 16]
  | 2 => [0, 1, 5, 6, 7, 8, 9, 10, 11, 12, 13, 14, 15, 16]
  | _ => []
def laws_alive.kl : Nat → List Nat := fun n => match n with
  | 0 => [0, 1, 2, 3, 4, 5]
  | 2 => [1, 2, 3, 4, 5]
  | _ => []
def laws_hasInt.kl : Nat → List Nat := fun n => match n with
  | 0 => [2, 3, 4, 5, 6, 7, 8, 9, 10, 11, 12, 13, 14, 15, 16, 17]
  | 3 => [9]
  | 4 => [6, 7, 8]
  | 6 => [10, 11, 17]
  | 8 => [12, 13, 14, 15, 16]
  | 10 => [0, 1, 5, 17]
  | 12 => [0, 1, 5, 9]
  | _ => []
def spec_DrawPairFilled.kl : Nat → List Nat := fun n => match n with
  | 0 => [1, 2, 3, 4, 5, 6, 7, 8, 9, 10, 11, 12, 13, 14, 15, 16, 17, 18, 19, 20, 21, 22, 23]
  | 2 => [0, 8, 9]
  | 4 => [10, 11, 12, 13, 14]
  | 6 => [5, 6, 7, 15, 16, 17, 18, 19, 20, 21, 22, 23]
  | _ => []
def impl_PairFilled.kl : Nat → List Nat := fun n => match n with
  | 0 => [3, 4, 5, 6, 7, 8, 9, 10, 11, 12, 13, 14, 15, 16, 17, 18, 19, 20, 21, 22, 23, 24, 25, 26, 27, 28, 29, 30, 31, 32, 33, 34, 35, 36, 37, 38, 39, 40, 41, 42, 43, 44, 45, 46, 47, 48]
  | 2 => [10, 11, 12, 13, 14, 15, 16]
  | 3 => [27]
  | 4 => [0, 1, 2, 17]
  | 6 => [17, 18, 19, 20, 21, 22, 23]
  | 8 => [24]
  | 12 => [28]
  | 14 => [29, 30, 31, 32]
  | 16 => [33, 34]
  | 18 => [35, 36, 37]
  | 20 => [8, 9, 38, 39, 40, 41]
  | 22 => [8, 9, 38, 42, 43, 44]
  | 24 => [45, 46]
  | 26 => [8, 9, 35, 47]
  | 28 => [0, 1, 2, 7, 25, 26, 27, 48]
  | _ => []
def spec_PairFilled.kl : Nat → List Nat := fun n => match n with
  | 0 => [3, 4, 5, 6, 7, 8, 9, 10, 11, 12, 13, 14, 15, 16, 17, 18, 19, 20, 21, 22, 23, 24, 25, 26, 27, 28, 29, 30, 31, 32, 33, 34, 35, 36, 37, 38, 39, 40, 41, 42, 43, 44, 45, 46, 47, 48, 49, 50, 51, 52, 53, 54, 55, 56, 57, 58, 59, 60, 61, 62, 63, 64, 65, 66, 67, 68, 69, 70, 71, 72, 73, 74]
  | 2 => [10, 11, 12, 13, 14, 15, 16, 17, 18, 19, 20, 21]
  | 3 => [31]
  | 4 => [0, 1, 2, 22, 23]
  | 6 => [22, 24, 25, 26, 27]
  | 10 => [28, 29, 30]
  | 12 => [32, 33, 71]
  | 14 => [34, 35, 36, 37]
  | 16 => [39, 40]
  | 18 => [38, 41, 42, 43]
  | 20 => [38, 45, 46, 47, 48, 49, 50, 51, 52]
  | 22 => [44, 53, 54, 55]
  | 24 => [56, 57, 58]
  | 26 => [44, 60, 61, 62]
  | 28 => [59, 63, 64, 65]
  | 30 => [66, 67, 68]
  | 32 => [9, 59, 69, 70]
  | 34 => [71, 72, 73]
  | 36 => [0, 1, 2, 7, 8, 31, 74]
  | _ => []
def impl_PositionOk.kl : Nat → List Nat := fun n => match n with
  | 0 => [3, 4, 5, 6, 7, 8, 9, 10, 11, 12, 13, 14, 15, 16, 17, 18, 19, 20, 21, 22, 23, 24, 25, 26, 27, 28, 29, 30]
  | 2 => [0, 1, 9, 10, 11, 12, 13, 14, 15, 16, 17, 18, 19]
  | 3 => [24]
  | 4 => [2, 20]
  | 6 => [2, 20]
  | 10 => [25, 26]
  | 12 => [8, 27, 28]
  | 14 => [21, 22, 23, 29]
  | 16 => [29, 30]
  | 18 => [21, 22, 23, 24]
  | _ => []
def impl_CellsOf.kl : Nat → List Nat := fun n => match n with
  | 0 => [4, 5, 6, 7, 8, 9, 10, 11, 12, 13, 14, 15, 16, 17, 18, 19, 20, 21, 22, 23, 24, 25, 26, 27, 28, 29, 30, 31, 32, 33, 34, 35, 36, 37]
  | 2 => [0, 1, 12, 13, 14, 15, 16, 17, 18, 19, 20]
  | 3 => [25]
  | 4 => [2, 3, 21]
  | 6 => [21]
  | 8 => [2]
  | 12 => [26, 27, 28]
  | 14 => [11, 29, 30]
  | 16 => [10, 31, 32, 33, 34, 35]
  | 18 => [10, 31, 36]
  | 20 => [3, 9, 22, 23, 24, 25, 37]
  | _ => []
def impl_Joins.kl : Nat → List Nat := fun n => match n with
  | 0 => [4, 5, 6, 7, 8, 9, 10, 11, 12, 13, 14, 15, 16, 17, 18, 19, 20, 21, 22, 23, 24, 25, 26, 27, 28, 29, 30, 31, 32, 33, 34, 35, 36, 37, 38, 39, 40, 41]
  | 2 => [12, 13, 14, 15, 16, 17, 18, 19, 20]
  | 4 => [0, 1, 2, 3, 21]
  | 6 => [21, 22, 23, 24, 25, 26, 27, 28]
  | 8 => [2, 3, 29, 30, 31]
  | 10 => [0, 1, 9, 10, 11, 32, 33, 34, 35, 36, 37, 38, 39, 40, 41]
  | _ => []
def impl_WinnerOf.kl : Nat → List Nat := fun n => match n with
  | 0 => [4, 5, 6, 7, 8, 9, 10, 11, 12, 13, 14, 15, 16, 17, 18, 19, 20, 21, 22, 23, 24, 25]
  | 2 => [9, 10, 11, 12, 13, 14, 15, 16, 17]
  | 4 => [0, 1, 2, 3, 18]
  | 6 => [0, 1, 2, 3, 18, 19, 20, 21, 22, 23, 24, 25]
  | _ => []
def spec_DrawPairCell.kl : Nat → List Nat := fun n => match n with
  | 0 => [1, 2, 3, 4, 5, 6, 7, 8, 9, 10, 11, 12, 13, 14, 15, 16, 17, 18, 19, 20, 21, 22, 23, 24, 25, 26]
  | 2 => [0, 8, 9]
  | 4 => [10, 11, 12, 13, 14]
  | 6 => [5, 6, 7, 15, 16, 17, 18, 19, 20, 21, 22, 23, 24, 25, 26]
  | _ => []
def impl_PairCell.kl : Nat → List Nat := fun n => match n with
  | 0 => [3, 4, 5, 6, 7, 8, 9, 10, 11, 12, 13, 14, 15, 16, 17, 18, 19, 20, 21, 22, 23, 24, 25, 26, 27, 28, 29, 30, 31, 32, 33, 34, 35, 36, 37, 38, 39, 40, 41, 42, 43, 44, 45]
  | 2 => [9, 10, 11, 12, 13, 14, 15, 16, 17, 18]
  | 4 => [0, 1, 2, 19]
  | 6 => [2, 19, 20, 21, 22, 23, 24, 25]
  | 8 => [0, 27, 28, 29]
  | 10 => [1, 7, 8, 26]
  | 12 => [26, 31, 32, 33]
  | 14 => [1, 7, 8, 30, 34, 35, 36, 37, 38, 39]
  | 16 => [1, 7, 8, 30, 40, 41, 42, 43, 44, 45]
  | _ => []
def laws_eqIntS.kl : Nat → List Nat := fun n => match n with
  | 0 => [2, 3, 4, 5, 6, 7, 8, 9, 10, 11, 12, 13, 14, 15, 16, 17, 18, 19, 20, 21, 22, 23, 24, 25]
  | 2 => [6, 7, 8, 9]
  | 3 => [14]
  | 4 => [0, 1, 10]
  | 6 => [10]
  | 8 => [11, 12, 13]
  | 10 => [15, 16, 25]
  | 12 => [17, 18, 19, 20, 21, 22, 23, 24]
  | 14 => [0, 1, 5, 25]
  | 16 => [0, 1, 5, 14]
  | _ => []
def laws_markIntS.kl : Nat → List Nat := fun n => match n with
  | 0 => [2, 3, 4, 5, 6, 7, 8, 9, 10, 11, 12, 13, 14, 15, 16, 17, 18]
  | 3 => [9]
  | 4 => [6, 7, 8]
  | 6 => [10, 11]
  | 8 => [12, 13, 14, 15]
  | 10 => [16, 17]
  | 12 => [0, 1, 5, 9, 18]
  | _ => []
def laws_heldIntS.kl : Nat → List Nat := fun n => match n with
  | 0 => [2, 3, 4, 5, 6, 7, 8, 9, 10, 11, 12, 13, 14, 15, 16, 17, 18, 19, 20]
  | 3 => [9]
  | 4 => [6, 7, 8]
  | 6 => [10, 11]
  | 8 => [12, 13, 14, 15, 16]
  | 10 => [0, 1, 5, 17]
  | 12 => [17, 18, 19]
  | 14 => [0, 1, 5, 9, 20]
  | _ => []
def spec_l20Open.kl : Nat → List Nat := fun n => match n with
  | 0 => [1, 2, 3, 4, 5, 6, 7, 8, 9, 10]
  | 2 => [3, 4]
  | 4 => [5, 6, 7]
  | 6 => [0, 5, 8, 9, 10]
  | _ => []
def spec_l20Small.kl : Nat → List Nat := fun n => match n with
  | 0 => [1, 2, 3, 4, 5, 6, 7, 8, 9, 10, 11, 12, 13, 14, 15, 16, 17, 18, 19, 20, 21, 22, 23, 24, 25, 26, 27]
  | 2 => [0, 5, 6, 7, 8, 9, 10, 11, 12, 13, 14, 15, 16, 17, 18, 19, 20, 21]
  | 4 => [4, 22, 23, 24, 25, 26, 27]
  | _ => []
def spec_l20Rd_odd.kl : Nat → List Nat := fun n => match n with
  | 0 => [2, 3, 4, 5, 6, 7, 8, 9, 10, 11, 12, 13, 14]
  | 2 => [0, 1, 5, 6, 7, 8, 9, 10, 11, 12, 13, 14]
  | _ => []
def spec_l20Rd_pick.kl : Nat → List Nat := fun n => match n with
  | 0 => [2, 3, 4, 5, 6, 7, 8, 9, 10, 11, 12, 13, 14, 15, 16, 17, 18, 19, 20, 21, 22, 23, 24, 25, 26, 27, 28, 29, 30, 31, 32, 33, 34, 35, 36, 37, 38, 39, 40, 41, 42, 43, 44, 45, 46, 47, 48, 49, 50, 51, 52, 53, 54, 55, 56, 57, 58, 59, 60, 61, 62, 63, 64, 65, 66, 67, 68, 69, 70, 71, 72, 73, 74, 75, 76, 77, 78, 79, 80, 81, 82, 83, 84, 85, 86, 87, 88, 89, 90, 91, 92, 93, 94, 95, 96, 97, 98]
  | 2 => [7, 8, 9, 10, 11, 12, 13, 14]
  | 4 => [15, 16, 17, 18, 19, 20, 21, 22, 23]
  | 6 => [0, 1, 24]
  | 8 => [24, 25, 26, 27, 28, 29]
  | 10 => [30, 31, 32, 33, 34, 35]
  | 12 => [0, 1, 5, 36, 37, 38, 39, 40, 41, 42, 43, 44, 45, 46]
  | 14 => [0, 5, 36, 47, 48, 49, 50, 51, 52, 53, 54, 55, 56, 57, 58, 59, 60, 61, 62, 63, 64, 65, 66, 67, 68, 69, 70, 71, 72, 73, 74, 75, 76, 77, 78, 79, 80, 81, 82, 83, 84, 85, 86, 87, 88, 89, 90, 91]
  | 16 => [92, 93, 94, 95]
  | 18 => [1, 6, 96, 97, 98]
  | _ => []
def impl_WinningCells.kl : Nat → List Nat := fun n => match n with
  | 0 => [4, 5, 6, 7, 8, 9, 10, 11, 12, 13, 14, 15, 16, 17, 18, 19, 20, 21, 22, 23, 24, 25, 26]
  | 2 => [9, 10, 11, 12, 13, 14, 15, 16, 17]
  | 4 => [0, 1, 2, 3, 18]
  | 6 => [0, 1, 2, 3, 18, 19, 20, 21, 22, 23, 24, 25, 26]
  | _ => []
def impl_freeBoard.kl : Nat → List Nat := fun n => match n with
  | 0 => [2, 3, 4, 5, 6, 7, 8, 9, 10, 11, 12]
  | 2 => [5, 6, 7]
  | 4 => [0, 1, 8]
  | 6 => [0, 1, 8, 9, 10, 11, 12]
  | _ => []
def spec_l1In.kl : Nat → List Nat := fun n => match n with
  | 0 => [3, 4, 5, 6, 7, 8, 9, 10, 11, 12, 13, 14]
  | 2 => [0, 1, 2, 7, 8, 9, 10, 11, 12, 13, 14]
  | _ => []
def spec_WinningCells.kl : Nat → List Nat := fun n => match n with
  | 0 => [4, 5, 6, 7, 8, 9, 10, 11, 12, 13, 14, 15, 16, 17, 18, 19, 20, 21, 22, 23, 24, 25, 26, 27, 28, 29, 30, 31, 32, 33, 34, 35, 36, 37, 38, 39, 40, 41, 42, 43, 44]
  | 2 => [13]
  | 3 => [17]
  | 6 => [14, 15, 16]
  | 8 => [18, 19, 39]
  | 10 => [20, 21, 22, 23, 24, 25, 26, 27, 28]
  | 12 => [11, 12, 29, 30, 31, 32, 33, 34, 35, 36, 37, 38]
  | 14 => [39, 40, 41, 42, 43]
  | 16 => [0, 1, 2, 3, 9, 10, 17, 44]
  | _ => []
def impl_BoardOk.kl : Nat → List Nat := fun n => match n with
  | 0 => [2, 3, 4, 5, 6, 7, 8, 9, 10, 11, 12, 13, 14, 15, 16]
  | 2 => [0, 1, 5, 6, 7, 8, 9, 10, 11, 12, 13, 14, 15, 16]
  | _ => []
def spec_l20Wide.kl : Nat → List Nat := fun n => match n with
  | 0 => [1, 2, 3, 4, 5, 6, 7, 8, 9, 10, 11, 12, 13, 14, 15, 16, 17, 18, 19, 20, 21, 22, 23, 24, 25]
  | 2 => [0, 5, 6, 7, 8, 9, 10, 11, 12, 13, 14, 15, 16, 17, 18, 19]
  | 4 => [4, 20, 21, 22, 23, 24, 25]
  | _ => []
def impl_widerOk.kl : Nat → List Nat := fun n => match n with
  | 0 => [2, 3, 4, 5, 6, 7, 8, 9, 10, 11, 12]
  | 2 => [0, 1, 5, 6, 7, 8, 9, 10, 11, 12]
  | _ => []
def impl_Filled.kl : Nat → List Nat := fun n => match n with
  | 0 => [4, 5, 6, 7, 8, 9, 10, 11, 12, 13, 14, 15, 16, 17, 18, 19, 20, 21, 22, 23, 24, 25, 26, 27, 28, 29, 30, 31, 32, 33, 34, 35, 36, 37, 38, 39, 40]
  | 2 => [0, 1, 12, 13, 14, 15, 16, 17, 18, 19, 20]
  | 3 => [28]
  | 4 => [2, 3, 21]
  | 6 => [21, 22, 23, 24]
  | 8 => [2]
  | 12 => [29, 30, 31]
  | 14 => [32]
  | 16 => [33, 34]
  | 18 => [10, 11, 33, 35, 36, 37, 38]
  | 20 => [39]
  | 22 => [3, 9, 25, 26, 27, 28, 40]
  | _ => []
def spec_l4Pair.kl : Nat → List Nat := fun n => match n with
  | 0 => [3, 4, 5, 6, 7, 8, 9, 10, 11, 12, 13, 14, 15, 16, 17, 18, 19, 20, 21, 22, 23, 24, 25, 26, 27, 28, 29, 30, 31, 32, 33, 34]
  | 2 => [9, 10, 11]
  | 4 => [2, 12, 13, 14]
  | 6 => [0, 16, 17, 18]
  | 8 => [1, 7, 8, 15]
  | 10 => [15, 20, 21, 22]
  | 12 => [1, 7, 8, 19, 23, 24, 25, 26, 27, 28]
  | 14 => [1, 7, 8, 19, 29, 30, 31, 32, 33, 34]
  | _ => []
def impl_contentOk.kl : Nat → List Nat := fun n => match n with
  | 0 => [1, 2, 3, 4, 5, 6, 7, 8, 9, 10, 11, 12]
  | 2 => [0, 3, 4, 5, 6, 7, 8, 9, 10, 11, 12]
  | _ => []
def impl_playerOk.kl : Nat → List Nat := fun n => match n with
  | 0 => [1, 2, 3, 4, 5, 6, 7, 8]
  | 2 => [0, 3, 4, 5, 6, 7, 8]
  | _ => []
def impl_sidesOf.kl : Nat → List Nat := fun n => match n with
  | 0 => [3, 4, 5, 6, 7, 8, 9, 10, 11, 12, 13, 14, 15, 16, 17, 18, 19, 20, 21, 22, 23, 24, 25, 26, 27, 28, 29, 30, 31, 32, 33, 34, 35, 36, 37, 38, 39, 40, 41, 42, 43, 44, 45, 46]
  | 3 => [17]
  | 4 => [13, 14]
  | 8 => [18]
  | 10 => [19, 20, 21, 22, 23]
  | 12 => [24]
  | 14 => [25, 26, 27, 28, 29, 30]
  | 16 => [25, 31]
  | 18 => [32, 33, 34, 35, 36]
  | 20 => [11, 12, 32, 37, 38]
  | 22 => [10, 39, 40, 41, 42, 43]
  | 24 => [10, 39, 44]
  | 26 => [0, 1, 2, 8, 9, 15, 16, 17, 45, 46]
  | _ => []
def impl_setOf.kl : Nat → List Nat := fun n => match n with
  | 0 => [2, 3, 4, 5, 6, 7, 8, 9, 10, 11, 12, 13, 14, 15, 16, 17, 18, 19, 20, 21, 22, 23]
  | 3 => [11]
  | 4 => [0]
  | 8 => [12, 13, 14]
  | 10 => [7, 15, 16]
  | 12 => [6, 17, 18, 19, 20, 21]
  | 14 => [6, 17, 22]
  | 16 => [1, 5, 8, 9, 10, 11, 23]
  | _ => []
def impl_grown.kl : Nat → List Nat := fun n => match n with
  | 0 => [4, 5, 6, 7, 8, 9, 10, 11, 12, 13, 14, 15, 16, 17, 18, 19, 20, 21, 22, 23, 24]
  | 2 => [10]
  | 3 => [12]
  | 4 => [11]
  | 6 => [13, 14, 15, 16, 17, 18, 19, 20]
  | 8 => [21, 22, 23]
  | 10 => [0, 1, 2, 3, 9, 12, 24]
  | _ => []
def impl_newSearch.kl : Nat → List Nat := fun n => match n with
  | 0 => [2, 3, 4, 5, 6, 7, 8, 9, 10, 11, 12, 13, 14, 15, 16, 17, 18, 19, 20, 21, 22, 23, 24, 25, 26, 27, 28, 29, 30, 31, 32, 33, 34, 35, 36, 37, 38, 39, 40, 41, 42, 43, 44, 45, 46, 47, 48, 49]
  | 2 => [8, 9, 10]
  | 3 => [15]
  | 4 => [11, 12]
  | 7 => [29]
  | 8 => [16]
  | 10 => [6, 17, 18, 19, 20, 21, 22, 23, 24, 25, 26]
  | 12 => [27]
  | 14 => [13, 14, 15]
  | 16 => [28]
  | 18 => [30, 31]
  | 20 => [32, 33, 34, 35, 36, 37, 38, 39, 40, 41, 42, 43, 44, 45, 46, 47, 48]
  | 22 => [0, 1, 5, 7, 29, 49]
  | _ => []
def impl_search_winner.kl : Nat → List Nat := fun n => match n with
  | 0 => [1, 2, 4, 5, 6, 7, 8, 9, 10, 11, 12, 13, 14, 15, 16, 17, 18, 19, 20, 21, 22, 23, 24, 25, 26, 27]
  | 2 => [7, 8, 9, 10, 11, 12, 13, 14, 15]
  | 4 => [6, 16]
  | 6 => [17, 18, 19, 20]
  | 8 => [0, 3, 21, 22, 23, 24, 25, 26]
  | 10 => [0, 3, 5, 17, 27]
  | _ => []
def impl_standingOf.kl : Nat → List Nat := fun n => match n with
  | 0 => [2, 3, 5, 6, 7, 8, 9, 10, 11, 12, 13, 14, 15, 16, 17, 18, 19]
  | 2 => [1, 7, 8]
  | 3 => [10]
  | 8 => [11]
  | 10 => [6, 12, 13, 14, 15, 16, 17]
  | 12 => [18]
  | 14 => [0, 5, 9, 10, 19]
  | _ => []
def impl_cellOk.kl : Nat → List Nat := fun n => match n with
  | 0 => [3, 4, 5, 6, 7, 8, 9, 10, 11, 12, 13, 14, 15, 16, 17, 18, 19, 20]
  | 2 => [0, 1, 2, 7, 8, 9, 10, 11, 12, 13, 14, 15, 16, 17, 18, 19, 20]
  | _ => []
def impl_cellsIn.kl : Nat → List Nat := fun n => match n with
  | 0 => [1, 2, 3, 4, 5, 6, 7, 8, 9, 10, 11, 12, 13, 14, 15, 16, 17, 18]
  | 3 => [6]
  | 8 => [7]
  | 10 => [8, 9, 10, 11]
  | 12 => [4, 12, 13, 14, 15, 16]
  | 14 => [4, 12, 17]
  | 16 => [0, 3, 5, 6, 18]
  | _ => []
def impl_search_winning.kl : Nat → List Nat := fun n => match n with
  | 0 => [1, 2, 4, 5, 6, 7, 8, 9, 10, 11, 12, 13, 14, 15, 16, 17, 18, 19, 20, 21, 22, 23, 24, 25, 26, 27, 28, 29, 30, 31, 32, 33, 34, 35]
  | 2 => [8, 9, 10]
  | 3 => [16]
  | 4 => [0, 3, 11]
  | 6 => [11]
  | 8 => [12, 13, 14]
  | 10 => [15]
  | 12 => [7, 17, 18, 19, 20, 30]
  | 14 => [21, 22]
  | 16 => [23, 24, 25, 26, 27, 28, 29]
  | 18 => [7, 30, 31, 32, 33, 34]
  | 20 => [0, 3, 5, 6, 16, 35]
  | _ => []
def spec_Played.kl : Nat → List Nat := fun n => match n with
  | 0 => [5, 6, 7, 8, 9, 10, 11, 12, 13, 14, 15, 16, 17, 18, 19, 20, 21, 22, 23, 24, 25, 26, 27, 28]
  | 2 => [0, 1, 13, 14, 15, 16, 17, 18]
  | 4 => [2, 3, 4, 19, 20]
  | 6 => [2, 19, 21, 22, 23]
  | 8 => [3, 4, 24, 25, 26, 27]
  | 10 => [12, 28]
  | _ => []
def spec_l3Winner.kl : Nat → List Nat := fun n => match n with
  | 0 => [4, 5, 6, 7, 8, 9, 10, 11, 12, 13, 14, 15, 16, 17, 18, 19, 20, 21, 22, 23, 24]
  | 2 => [10, 11, 12]
  | 4 => [0, 1, 2, 3, 9, 13, 14, 15, 16, 17, 18, 19, 20, 21, 22, 23, 24]
  | _ => []
def spec_l1Other.kl : Nat → List Nat := fun n => match n with
  | 0 => [1, 2, 3, 4, 5, 6]
  | 2 => [3]
  | 4 => [0, 4]
  | 6 => [0, 4, 5, 6]
  | _ => []
def impl_sizeOk.kl : Nat → List Nat := fun n => match n with
  | 0 => [1, 2, 3, 4, 5, 6, 7, 8]
  | 2 => [0, 3, 4, 5, 6, 7, 8]
  | _ => []
def impl_withNear.kl : Nat → List Nat := fun n => match n with
  | 0 => [3, 4, 5, 6, 7, 8, 9, 10, 11, 12, 13, 14, 15, 16, 17, 18, 19, 20, 21, 22, 23, 24, 25, 26, 27, 28, 29, 30, 31, 32, 33, 34, 35, 36, 37, 38]
  | 2 => [11]
  | 3 => [16]
  | 4 => [12, 13]
  | 7 => [29]
  | 8 => [17]
  | 10 => [18, 19, 20, 21]
  | 12 => [8, 22, 23, 24, 25]
  | 16 => [30, 31]
  | 18 => [10, 32, 33, 34, 35]
  | 20 => [36]
  | 22 => [8, 22, 26, 27, 28, 29, 37]
  | 24 => [0, 1, 2, 7, 14, 15, 16, 38]
  | _ => []
def impl_search_solved.kl : Nat → List Nat := fun n => match n with
  | 0 => [1, 2, 4, 5, 6, 7, 8, 9, 10, 11, 12, 13, 14, 15, 16, 17, 18, 19, 20, 21, 22, 23, 24, 25, 26, 27, 28, 29, 30, 31, 32, 33, 34, 35]
  | 2 => [7, 8, 9]
  | 3 => [17]
  | 4 => [10]
  | 6 => [0, 3, 5, 11, 12]
  | 8 => [5, 11, 13, 14, 15]
  | 10 => [16]
  | 12 => [18, 19, 20, 21, 30]
  | 14 => [22, 23, 24, 25, 26, 27, 28, 29]
  | 16 => [0, 3, 6, 30, 31, 32]
  | 18 => [0, 3, 6, 17, 33, 34, 35]
  | _ => []
def impl_search_joined.kl : Nat → List Nat := fun n => match n with
  | 0 => [1, 2, 4, 5, 6, 7, 8, 9, 10, 11, 12, 13, 14, 15, 16, 17]
  | 3 => [7]
  | 4 => [6]
  | 6 => [8, 9, 16]
  | 8 => [10, 11, 12, 13, 14, 15]
  | 10 => [0, 3, 5, 16, 17]
  | 12 => [0, 3, 5, 7]
  | _ => []
def impl_leastIn.kl : Nat → List Nat := fun n => match n with
  | 0 => [1, 2, 3, 4, 5]
  | 2 => [0, 3, 4, 5]
  | _ => []
def impl_standing_after.kl : Nat → List Nat := fun n => match n with
  | 0 => [0, 3, 5, 6, 7, 8, 9, 10, 11, 12, 13, 14, 15, 16, 17, 18, 19, 20, 21, 22, 23, 24, 25, 26, 27]
  | 2 => [5, 6, 7, 8, 9, 10, 11, 12]
  | 4 => [1, 13, 14, 15, 16, 17, 18, 19, 20, 21, 22]
  | 6 => [23, 24, 25, 26]
  | 8 => [2, 27]
  | _ => []
def spec_MoveOk.kl : Nat → List Nat := fun n => match n with
  | 0 => [5, 6, 7, 8, 9, 10, 11, 12, 13, 14, 15, 16, 17, 18, 19, 20, 21, 22, 23, 24, 25, 26, 27, 28, 29, 30, 31, 32, 33, 34, 35, 36, 37, 38, 39, 40, 41, 42, 43, 44, 45, 46, 47]
  | 2 => [4, 11, 12, 13, 14, 15, 16, 17, 18, 19, 20, 21, 22, 23, 24, 25, 26, 27]
  | 4 => [0, 1, 2, 3, 28]
  | 6 => [0, 1, 2, 3, 28, 29, 30, 31, 32, 33, 34, 35, 36, 37, 38, 39, 40, 41, 42, 43, 44, 45, 46, 47]
  | _ => []
def spec_l2Masks.kl : Nat → List Nat := fun n => match n with
  | 0 => [2, 3, 4, 5, 6, 7, 8, 9, 10, 11, 12, 13, 14, 15, 16, 17, 18, 19, 20, 21, 22, 23, 24, 25, 26, 27, 28, 29, 30, 31, 32, 33, 34, 35, 36, 37, 38, 39]
  | 2 => [10]
  | 3 => [15]
  | 6 => [11, 12, 13, 14]
  | 7 => [25]
  | 8 => [16, 17]
  | 12 => [18, 19, 20, 21]
  | 16 => [22, 23, 24]
  | 18 => [26, 27]
  | 20 => [28, 29, 30, 31, 32, 33, 34]
  | 22 => [7, 8, 9, 25, 35, 36, 37, 38]
  | 24 => [0, 1, 5, 6, 15, 39]
  | _ => []
def spec_l3Solve.kl : Nat → List Nat := fun n => match n with
  | 0 => [7, 8, 9, 10, 11, 12, 13, 14, 15, 16, 17, 18, 19, 20, 21, 22, 23, 24, 25, 26, 27, 28, 29, 30, 31, 32, 33, 34, 35, 36, 37, 38, 39, 40, 41, 42, 43, 44, 45, 46, 47, 48, 49, 50, 51, 52, 53, 54, 55, 56, 57, 58, 59, 60, 61, 62, 63, 64, 65, 66, 67, 68, 69, 70, 71, 72, 73, 74, 75, 76, 77, 78, 79, 80, 81, 82, 83, 84, 85, 86, 87, 88, 89, 90, 91, 92, 93, 94, 95, 96, 97, 98, 99, 100, 101, 102, 103, 104, 105, 106, 107, 108, 109, 110, 111, 112, 113]
  | 2 => [20, 21, 22, 23]
  | 3 => [33]
  | 4 => [0, 1, 2, 3, 4, 5, 6, 24]
  | 6 => [24, 25, 26, 27, 28]
  | 7 => [73]
  | 8 => [0, 1, 2, 3, 4, 5, 6, 29]
  | 10 => [29]
  | 14 => [30, 31, 32]
  | 16 => [34, 35]
  | 18 => [36, 37, 38, 39, 40, 41, 42, 43, 44, 45, 46, 47, 48]
  | 20 => [16, 33, 49, 50, 51, 52, 53]
  | 22 => [54, 55, 56, 57]
  | 24 => [0, 1, 2, 3, 4, 5, 6, 15, 58, 59, 60, 61, 62]
  | 26 => [58, 63, 64]
  | 30 => [65, 66, 67, 68, 69, 70, 71, 72]
  | 32 => [74, 75, 82, 107]
  | 34 => [76, 77, 78, 79, 80, 81]
  | 36 => [19, 82]
  | 38 => [83]
  | 40 => [84, 85, 86, 87, 88, 89, 90, 91, 92, 93, 94]
  | 42 => [84, 95, 96, 97, 98, 99, 100, 101, 102, 103, 104]
  | 44 => [19, 105, 106]
  | 46 => [107, 108]
  | 48 => [0, 1, 2, 3, 4, 5, 6, 15, 18, 73, 109, 110, 111, 112]
  | 50 => [17, 113]
  | _ => []
def spec_l2Set.kl : Nat → List Nat := fun n => match n with
  | 0 => [2, 3, 4, 5, 6, 7, 8, 9, 10, 11, 12, 13, 14, 15, 16, 17, 18, 19, 20, 21, 22, 23]
  | 3 => [10]
  | 6 => [7, 8, 9]
  | 8 => [11, 12, 18]
  | 10 => [13, 14, 15, 16, 17]
  | 12 => [18, 19, 20, 21, 22]
  | 14 => [0, 1, 5, 6, 10, 23]
  | _ => []
def spec_l3Table.kl : Nat → List Nat := fun n => match n with
  | 0 => [1, 2, 3, 4, 5, 6, 7, 8, 9, 10, 11, 12, 13]
  | 3 => [7]
  | 6 => [5, 6]
  | 8 => [8, 9]
  | 10 => [10, 11]
  | 12 => [0, 3, 4, 7, 12, 13]
  | _ => []
def impl_NearCells.kl : Nat → List Nat := fun n => match n with
  | 0 => [3, 4, 5, 6, 7, 8, 9, 10, 11, 12, 13, 14, 15, 16, 17, 18, 19, 20, 21, 22, 23, 24, 25, 26, 27, 28, 29, 30, 31, 32, 33, 34, 35, 36, 37, 38, 39, 40, 41, 42, 43, 44, 45, 46, 47, 48, 49, 50, 51, 52, 53, 54, 55, 56, 57, 58]
  | 2 => [12, 13, 14, 15]
  | 3 => [19]
  | 4 => [0, 1, 2, 16]
  | 6 => [16]
  | 12 => [20]
  | 14 => [21, 22, 23, 24, 25, 26]
  | 16 => [9, 27, 28, 29, 30, 31, 32]
  | 18 => [33, 34, 35, 36, 37, 38, 39, 40, 41, 42, 43, 44, 45, 46, 47]
  | 20 => [10, 11, 48, 49, 50, 51, 52, 53, 54, 55, 56]
  | 22 => [10, 11, 48, 57]
  | 24 => [0, 1, 2, 7, 17, 18, 19, 58]
  | _ => []
def impl_exchanged.kl : Nat → List Nat := fun n => match n with
  | 0 => [1, 2, 3, 4, 5, 6, 7, 8]
  | 4 => [5]
  | 6 => [0, 3, 4]
  | 8 => [3, 4, 7]
  | 10 => [0, 6]
  | 12 => [0, 6, 8]
  | _ => []
def impl_search_joins.kl : Nat → List Nat := fun n => match n with
  | 0 => [3, 4, 5, 6, 7, 8, 9, 10, 11, 12, 13, 14, 15, 16, 17, 18, 19, 20, 21, 22, 23, 24, 25, 26, 27, 28, 29, 30, 31, 32, 33, 34, 35, 36, 37, 38, 39, 40, 41, 42, 43, 44, 45, 46, 47, 48, 49, 50, 51, 52, 53, 54]
  | 2 => [11, 12, 13, 14, 15, 16, 17, 18]
  | 3 => [21]
  | 4 => [19]
  | 6 => [20]
  | 7 => [24]
  | 10 => [8, 22]
  | 12 => [23]
  | 14 => [25, 26, 27, 28]
  | 16 => [29, 30, 31, 32, 33, 34, 35, 36, 37]
  | 18 => [9, 10, 24, 38, 39, 40, 41, 42]
  | 20 => [43, 44, 45]
  | 22 => [0, 1, 2, 7, 8, 21, 46, 47, 48, 49, 50, 51, 52, 53, 54]
  | _ => []
def bits_TrailingZeros.kl : Nat → List Nat := fun n => match n with
  | 0 => [1, 2, 3, 4, 5, 6, 7]
  | 2 => [0, 3, 4, 5]
  | 4 => [0, 6, 7]
  | _ => []
def spec_PositionOk.kl : Nat → List Nat := fun n => match n with
  | 0 => [3, 4, 5, 6, 7, 8, 9, 10, 11, 12, 13, 14, 15, 16, 17, 18, 19, 20, 21, 22, 23, 24, 25, 26, 27, 28, 29, 30]
  | 3 => [11]
  | 4 => [8, 9, 10]
  | 6 => [12, 13, 19]
  | 8 => [14, 15, 16, 17, 18]
  | 10 => [0, 1, 2, 7, 19]
  | 12 => [0, 1, 2, 7, 11, 20, 21, 22, 23, 24, 25, 26, 27, 28, 29, 30]
  | _ => []
def spec_Joins.kl : Nat → List Nat := fun n => match n with
  | 0 => [4, 5, 6, 7, 8, 9, 10, 11, 12, 13, 14, 15, 16, 17, 18, 19, 20, 21, 22, 23, 24, 25, 26, 27, 28]
  | 2 => [9, 10, 11, 12, 13, 14, 15, 16, 17]
  | 4 => [0, 1, 2, 3, 18]
  | 6 => [0, 1, 2, 3, 18, 19, 20, 21, 22, 23, 24, 25, 26, 27, 28]
  | _ => []
def spec_l1Near.kl : Nat → List Nat := fun n => match n with
  | 0 => [3, 4, 5, 6, 7, 8, 9, 10, 11, 12, 13, 14, 15, 16, 17, 18, 19, 20, 21, 22, 23, 24, 25, 26, 27, 28, 29, 30, 31, 32, 33, 34, 35, 36, 37, 38, 39, 40, 41, 42, 43, 44, 45, 46, 47, 48, 49, 50, 51, 52, 53, 54, 55, 56, 57, 58, 59, 60, 61, 62]
  | 2 => [12]
  | 3 => [24]
  | 4 => [13, 14, 15]
  | 6 => [2, 16, 17, 18]
  | 7 => [32]
  | 8 => [19, 20]
  | 10 => [21, 22, 23]
  | 12 => [11, 25, 26, 32]
  | 14 => [27, 28]
  | 16 => [29, 30, 31]
  | 18 => [33, 34, 53]
  | 20 => [35, 36, 37, 38, 39, 40, 41, 42, 43, 44, 45, 46, 47, 48, 49, 50, 51, 52]
  | 22 => [53, 54, 55, 56, 57, 58, 59, 60, 61]
  | 24 => [0, 1, 7, 8, 9, 10, 24, 62]
  | _ => []
def spec_l2Joins.kl : Nat → List Nat := fun n => match n with
  | 0 => [5, 6, 7, 8, 9, 10, 11, 12, 13, 14, 15, 16, 17, 18, 19, 20, 21, 22, 23]
  | 2 => [0, 1, 2, 3, 4, 11, 12, 13, 14, 15, 16, 17, 18, 19, 20, 21, 22, 23]
  | _ => []
def bits_TrailingZeros32.kl : Nat → List Nat := fun n => match n with
  | 0 => [1, 2, 3, 4, 5, 6, 7, 8, 9, 10, 11, 12, 13]
  | 2 => [3]
  | 4 => [0, 4]
  | 6 => [0, 4, 5, 6, 7, 8, 9, 10, 11, 12, 13]
  | _ => []
def bits_TrailingZeros64.kl : Nat → List Nat := fun n => match n with
  | 0 => [1, 2, 3, 4, 5, 6, 7, 8, 9, 10, 11, 12, 13]
  | 2 => [3]
  | 4 => [0, 4]
  | 6 => [0, 4, 5, 6, 7, 8, 9, 10, 11, 12, 13]
  | _ => []
def spec_l2Grow.kl : Nat → List Nat := fun n => match n with
  | 0 => [3, 4, 5, 6, 7, 8, 9, 10, 11, 12, 13, 14, 15, 16, 17, 18, 19, 20, 21, 22, 23, 24, 25, 26, 27, 28, 29, 30, 31, 32, 33, 34, 35, 36, 37, 38, 39]
  | 2 => [2, 11, 12, 13]
  | 3 => [14]
  | 6 => [8]
  | 7 => [19]
  | 8 => [15]
  | 12 => [16, 17, 18]
  | 14 => [20, 21, 26]
  | 16 => [22, 23, 24, 25]
  | 18 => [26, 27, 28, 29, 30, 31, 32, 33, 34]
  | 20 => [7, 10, 19, 35, 36, 37]
  | 22 => [9, 38]
  | 24 => [0, 1, 7, 14, 39]
  | _ => []
def spec_l2Side.kl : Nat → List Nat := fun n => match n with
  | 0 => [4, 5, 6, 7, 8, 9, 10, 11, 12, 13, 14, 15, 16, 17, 18, 19, 20, 21, 22, 23, 24, 25, 26, 27, 28, 29, 30, 31, 32, 33, 34, 35, 36, 37, 38, 39, 40, 41, 42, 43, 44, 45, 46, 47, 48, 49, 50]
  | 3 => [17]
  | 6 => [13, 14, 15, 16]
  | 8 => [18, 19, 45]
  | 10 => [20, 21, 22]
  | 12 => [23, 24]
  | 14 => [25]
  | 16 => [12, 26, 27, 28, 29]
  | 18 => [30, 31]
  | 20 => [11, 12, 26, 32, 33, 34, 35, 36, 37, 38, 39, 40, 41, 42, 43, 44]
  | 22 => [45, 46, 47, 48, 49]
  | 24 => [0, 1, 2, 3, 9, 10, 17, 50]
  | _ => []
def KL : FuncId → Nat → List Nat := fun f => match f with
  | 3 => laws_FnOpenings.kl
  | 4 => laws_FnPairFilled.kl
  | 5 => laws_FnWideWins.kl
  | 6 => laws_FnExactOpenings.kl
  | 7 => spec_DrawOpenings.kl
  | 8 => impl_Openings.kl
  | 9 => laws_sameInts.kl
  | 10 => spec_Openings.kl
  | 11 => spec_BoardOk.kl
  | 12 => laws_alive.kl
  | 13 => laws_hasInt.kl
  | 14 => spec_DrawPairFilled.kl
  | 15 => impl_PairFilled.kl
  | 16 => spec_PairFilled.kl
  | 17 => impl_PositionOk.kl
  | 18 => impl_CellsOf.kl
  | 19 => impl_Joins.kl
  | 20 => impl_WinnerOf.kl
  | 21 => spec_DrawPairCell.kl
  | 22 => impl_PairCell.kl
  | 23 => laws_eqIntS.kl
  | 24 => laws_markIntS.kl
  | 25 => laws_heldIntS.kl
  | 26 => spec_l20Open.kl
  | 27 => spec_l20Small.kl
  | 28 => spec_l20Rd_odd.kl
  | 29 => spec_l20Rd_pick.kl
  | 30 => impl_WinningCells.kl
  | 31 => impl_freeBoard.kl
  | 32 => spec_l1In.kl
  | 33 => spec_WinningCells.kl
  | 34 => impl_BoardOk.kl
  | 35 => spec_l20Wide.kl
  | 36 => impl_widerOk.kl
  | 37 => impl_Filled.kl
  | 38 => spec_l4Pair.kl
  | 39 => impl_contentOk.kl
  | 40 => impl_playerOk.kl
  | 41 => impl_sidesOf.kl
  | 42 => impl_setOf.kl
  | 43 => impl_grown.kl
  | 44 => impl_newSearch.kl
  | 45 => impl_search_winner.kl
  | 46 => impl_standingOf.kl
  | 47 => impl_cellOk.kl
  | 48 => impl_cellsIn.kl
  | 49 => impl_search_winning.kl
  | 50 => spec_Played.kl
  | 51 => spec_l3Winner.kl
  | 52 => spec_l1Other.kl
  | 53 => impl_sizeOk.kl
  | 54 => impl_withNear.kl
  | 55 => impl_search_solved.kl
  | 56 => impl_search_joined.kl
  | 57 => impl_leastIn.kl
  | 58 => impl_standing_after.kl
  | 59 => spec_MoveOk.kl
  | 60 => spec_l2Masks.kl
  | 61 => spec_l3Solve.kl
  | 62 => spec_l2Set.kl
  | 63 => spec_l3Table.kl
  | 64 => impl_NearCells.kl
  | 65 => impl_exchanged.kl
  | 66 => impl_search_joins.kl
  | 67 => bits_TrailingZeros.kl
  | 68 => spec_PositionOk.kl
  | 69 => spec_Joins.kl
  | 70 => spec_l1Near.kl
  | 71 => spec_l2Joins.kl
  | 72 => bits_TrailingZeros32.kl
  | 73 => bits_TrailingZeros64.kl
  | 74 => spec_l2Grow.kl
  | 75 => spec_l2Side.kl
  | _ => fun _ => []
noncomputable def CL (g : Nat → PV) (lf n : Nat) : FuncId → List PV → PHeap → Res := call Tryd.prog g KL lf n
noncomputable def env (g : Nat → PV) (lf n : Nat) : Env := ⟨g, lf, CL g lf n, std Tryd.prog⟩
@[simp] theorem env_C (g : Nat → PV) (lf n : Nat) : (env g lf n).C = CL g lf n := rfl
@[simp] theorem env_g (g : Nat → PV) (lf n : Nat) : (env g lf n).g = g := rfl
@[simp] theorem env_lf (g : Nat → PV) (lf n : Nat) : (env g lf n).lf = lf := rfl
@[simp] theorem env_pick (g : Nat → PV) (lf n : Nat) : (env g lf n).p.pick = pickP := rfl
@[simp] theorem env_alloc (g : Nat → PV) (lf n : Nat) : (env g lf n).p.alloc = allocP Tryd.prog := rfl
@[simp] theorem env_box (g : Nat → PV) (lf n : Nat) : (env g lf n).p.box = boxP := rfl
@[simp] theorem env_build (g : Nat → PV) (lf n : Nat) : (env g lf n).p.build = buildP Tryd.prog := rfl
@[simp] theorem env_buildSlice (g : Nat → PV) (lf n : Nat) : (env g lf n).p.buildSlice = buildSliceP Tryd.prog := rfl
@[simp] theorem env_load (g : Nat → PV) (lf n : Nat) : (env g lf n).p.load = loadP Tryd.prog := rfl
@[simp] theorem env_store (g : Nat → PV) (lf n : Nat) : (env g lf n).p.store = storeP Tryd.prog := rfl
@[simp] theorem env_ptr (g : Nat → PV) (lf n : Nat) : (env g lf n).p.ptr = ptrP := rfl
@[simp] theorem env_bin (g : Nat → PV) (lf n : Nat) : (env g lf n).p.bin = binP Tryd.prog := rfl
@[simp] theorem env_un (g : Nat → PV) (lf n : Nat) : (env g lf n).p.un = unP := rfl
@[simp] theorem env_conv (g : Nat → PV) (lf n : Nat) : (env g lf n).p.conv = convP Tryd.prog := rfl
@[simp] theorem env_make (g : Nat → PV) (lf n : Nat) : (env g lf n).p.make = makeP Tryd.prog := rfl
@[simp] theorem env_slice (g : Nat → PV) (lf n : Nat) : (env g lf n).p.slice = sliceP Tryd.prog := rfl
@[simp] theorem env_fieldAddr (g : Nat → PV) (lf n : Nat) : (env g lf n).p.fieldAddr = fieldAddrP Tryd.prog := rfl
@[simp] theorem env_field (g : Nat → PV) (lf n : Nat) : (env g lf n).p.field = fieldP Tryd.prog := rfl
@[simp] theorem env_indexAddr (g : Nat → PV) (lf n : Nat) : (env g lf n).p.indexAddr = indexAddrP Tryd.prog := rfl
@[simp] theorem env_index (g : Nat → PV) (lf n : Nat) : (env g lf n).p.index = indexP Tryd.prog := rfl
@[simp] theorem env_extract (g : Nat → PV) (lf n : Nat) : (env g lf n).p.extract = extractP := rfl
@[simp] theorem env_len (g : Nat → PV) (lf n : Nat) : (env g lf n).p.len = lenP Tryd.prog := rfl
@[simp] theorem env_append (g : Nat → PV) (lf n : Nat) : (env g lf n).p.append = appendP Tryd.prog := rfl
@[simp] theorem env_max (g : Nat → PV) (lf n : Nat) : (env g lf n).p.max = foldP maxP2 := rfl
@[simp] theorem env_min (g : Nat → PV) (lf n : Nat) : (env g lf n).p.min = foldP minP2 := rfl
@[simp] theorem env_makeMap (g : Nat → PV) (lf n : Nat) : (env g lf n).p.makeMap = makeMapP := rfl
@[simp] theorem env_lookup (g : Nat → PV) (lf n : Nat) : (env g lf n).p.lookup = lookupP Tryd.prog := rfl
@[simp] theorem env_update (g : Nat → PV) (lf n : Nat) : (env g lf n).p.update = updateP Tryd.prog := rfl
end Go.Proofs.YtlfjjjhjjmikfaaDoor.G

/- From what the interpreter computes for a law to what the machine's call of it does. -/
namespace Go.Proofs.YtlfjjjhjjmikfaaDoor
open Go Go.Ip Go.RowKit G

def g0 : Nat → PV := fun _ => .junk
def LF : Nat := 4294967296

theorem prog_mixed : Tryd.prog.follows .mixedOrders = true := by kernel_rfl
theorem prog_ok : progOk Tryd.prog = true := by kernel_rfl

theorem law_walk {n : Nat} {f : FuncId} {args : List PV} {h h' : PHeap} {μ : List Ip.Loc} {w : World} {xs : Array Value} (hc : CL g0 LF n f args h = some (.bool true, h'))
    (sim : Sim w.heap.size w μ h w) (ha : All2 (rep μ) args xs.toList) : Calls Tryd.prog f xs w fun e w' => e = .returned (.bool true) ∧ Below w.heap.size w w' := by
  obtain ⟨_, hcall⟩ := call_sound Tryd.prog g0 KL LF prog_mixed prog_ok n f f args h _ hc
  refine (hcall w.heap.size w μ w xs sim (fun _ => trivial) ha).mono ?_
  rintro e w' ⟨v, rfl, μ', hpre, hr, hs⟩
  refine ⟨?_, hs.below⟩
  rw [rep_bool.1 hr]

theorem sim_none (w : World) : Sim w.heap.size w [] [] w :=
  ⟨rfl, Below.refl _ _, Nat.le_refl _, fun id o l h _ => by simp at h, fun i j li lj ei ci ej cj _ h => by simp at h, fun i j li lj ei ej _ h => by simp at h⟩

/-- A slice of integers, nil or not, as the interpreter's heap holds it. -/
def IntSl (k : IntKind) (h : PHeap) (p : PV) (xs : List Int) : Prop :=
  (p = .nilsl ∧ xs = []) ∨ ∃ id off, p = .sl id off xs.length ∧ ∀ (i : Nat) x, xs[i]? = some x → (cellsAt h id)[off + i]? = some (.int k x)

/-- A slice of integers that came in. -/
theorem row_arg {k : IntKind} {w : World} {a : Option Addr} {len cap : Nat} {zs : List Int}
    (h : (a = none ∧ len = 0 ∧ cap = 0 ∧ zs = []) ∨ ∃ x, a = some x ∧ len ≤ cap ∧ cap ≤ maxLen ∧ zs.length = cap ∧ (∀ i, i < zs.length → w.cell? (x.add i) = some (.int k (zs.getD i 0))) ∧ ∀ n ∈ zs, (Lit.int k n).wf = true) :
    ∃ μ o p, Sim w.heap.size w μ [o] w ∧ rep μ p (.slice a len cap) ∧ IntSl k [o] p (zs.take len) ∧ len = (zs.take len).length ∧ len ≤ maxLen ∧ (∀ n ∈ zs.take len, (Lit.int k n).wf = true) ∧ (o = .dead ∨ ∃ c, o = .ro 1 c) := by
  have simD : ∀ l : Ip.Loc, Sim w.heap.size w [l] [.dead] w := fun l =>
    ⟨rfl, Below.refl _ _, Nat.le_refl _, fun id o l h _ => by
      match id, h with
      | 0, h => simp at h; subst h; trivial
      | id + 1, h => simp at h, fun i j li lj ei ci ej cj _ h => by
      match i, h with
      | 0, h => simp at h
      | i + 1, h => simp at h, fun i j li lj ei ej _ h => by
      match i, h with
      | 0, h => simp at h
      | i + 1, h => simp at h⟩
  rcases h with ⟨rfl, rfl, rfl, rfl⟩ | ⟨x, rfl, hlc, hcm, hz, hcell, hwf⟩
  · exact ⟨[⟨0, 0, 0, 0⟩], .dead, .nilsl, simD _, rfl, .inl ⟨rfl, by simp⟩, by simp, Nat.zero_le _, by simp, .inl rfl⟩
  · have hlen : len = (zs.take len).length := by simp; omega
    refine ⟨[⟨x.block, x.off, x.off + cap, 1⟩], if cap = 0 then .dead else .ro 1 ((zs.take len).map (.int k)), .sl 0 0 (zs.take len).length, ?_, ?_, ?_, hlen, by omega, fun n hn => hwf n (List.mem_of_mem_take hn), ?_⟩
    · by_cases hc : cap = 0
      · rw [if_pos hc]; exact simD _
      · rw [if_neg hc]
        have h0 := hcell 0 (by omega)
        have hblk : x.block < w.heap.size := by
          have := World.block_lt_of_cell? w _ h0
          simpa [Addr.add] using this
        have hspot : x.spot = none := by
          have h1 : w.cell? x = some (.int k (zs.getD 0 0)) := by simpa [Addr.add] using h0
          unfold World.cell? at h1
          split at h1
          · split at h1
            · cases h1
            · rename_i hs; simpa using hs
          · cases h1
        refine ⟨rfl, Below.refl _ _, Nat.le_refl _, ?_, ?_, fun i j li lj ei ej _ h => by
          match i, h with
          | 0, h => simp at h
          | i + 1, h => simp at h⟩
        · intro id o l ho hl
          match id, ho, hl with
          | 0, ho, hl =>
            obtain rfl := Option.some.inj ho
            obtain rfl := Option.some.inj hl
            refine ⟨rfl, hblk, ?_⟩
            intro j p hp
            simp only [List.getElem?_map, Option.map_eq_some_iff] at hp
            obtain ⟨n, hn, rfl⟩ := hp
            have hj : j < (zs.take len).length := (List.getElem?_eq_some_iff.1 hn).1
            have hj2 : j < zs.length := by simp at hj; omega
            refine ⟨_, ?_, rfl⟩
            have := hcell j hj2
            have hadd : x.add j = ⟨x.block, x.off + j, none⟩ := by
              cases x
              simp only at hspot
              subst hspot
              exact Addr.add_lit _ _ _
            rw [hadd] at this
            refine this.trans ?_
            rw [List.getElem?_take] at hn
            split at hn
            · simp [List.getD, hn]
            · cases hn
          | id + 1, ho, _ => simp at ho
        · intro i j li lj ei ci ej cj _ h
          match i, h with
          | 0, h => simp at h
          | i + 1, h => simp at h
    · refine ⟨_, cap, x, rfl, by rw [← hlen], by omega, ?_⟩
      by_cases hc : cap = 0
      · exact .inl hc
      · right
        have h0 := hcell 0 (by omega)
        have hspot : x.spot = none := by
          have h1 : w.cell? x = some (.int k (zs.getD 0 0)) := by simpa [Addr.add] using h0
          unfold World.cell? at h1
          split at h1
          · split at h1
            · cases h1
            · rename_i hs; simpa using hs
          · cases h1
        refine ⟨?_, by simp⟩
        cases x
        simp only at hspot
        subst hspot
        rfl
    · right
      refine ⟨0, 0, rfl, fun i n hn => ?_⟩
      have hi : i < (zs.take len).length := (List.getElem?_eq_some_iff.1 hn).1
      have hc : cap ≠ 0 := by omega
      rw [if_neg hc]
      have : cellsAt [PObj.ro 1 ((zs.take len).map (.int k))] 0 = (zs.take len).map (.int k) := rfl
      rw [this, List.getElem?_map, Nat.zero_add, hn]
      rfl
    · by_cases hc : cap = 0
      · rw [if_pos hc]; exact .inl rfl
      · rw [if_neg hc]; exact .inr ⟨_, rfl⟩

end Go.Proofs.YtlfjjjhjjmikfaaDoor

