/- Texts of this seat, in their order, put together by program. -/
import Derived.Test.YtpaehbfknlpkbaaDoorK7
import Derived.Test.YtpaehbfknlpkbaaDoorProg
import Derived.KernelRfl
set_option linter.unusedSimpArgs false
set_option linter.unusedVariables false
set_option linter.unusedSectionVars false
/- Of each function of this seat's program its plain form over the interpreter, written by program; each equation is the kernel's. -/
set_option linter.unusedVariables false
set_option maxRecDepth 100000
namespace Go.Proofs.YtpaehbfknlpkbaaDoor.G
open Go Go.Ip Go.Proofs

def fn_laws_FnCellText : Nat := 3
def fn_laws_FnReadCell : Nat := 4
def fn_laws_FnRecordOk : Nat := 5
def fn_laws_FnEndOf : Nat := 6
def fn_spec_DrawCellText : Nat := 7
def fn_impl_CellText : Nat := 8
def fn_spec_CellText : Nat := 9
def fn_impl_BoardOk : Nat := 10
def fn_laws_alive : Nat := 11
def fn_impl_ReadCell : Nat := 12
def fn_spec_DrawReadCell : Nat := 13
def fn_spec_ReadCell : Nat := 14
def fn_spec_DrawRecordOk : Nat := 15
def fn_impl_RecordOk : Nat := 16
def fn_spec_RecordOk : Nat := 17
def fn_spec_BoardOk : Nat := 18
def fn_spec_DrawEndOf : Nat := 19
def fn_impl_EndOf : Nat := 20
def fn_spec_EndOf : Nat := 21
def fn_laws_sameInts : Nat := 22
def fn_impl_CellsOf : Nat := 23
def fn_impl_PositionOk : Nat := 24
def fn_impl_Joins : Nat := 25
def fn_spec_DrawNearCells : Nat := 26
def fn_impl_cellOk : Nat := 27
def fn_strconv_Itoa : Nat := 28
def fn_spec_l1In : Nat := 29
def fn_spec_l1Number : Nat := 30
def fn_impl_sizeOk : Nat := 31
def fn_impl_freeBoard : Nat := 32
def fn_spec_l20Open : Nat := 33
def fn_spec_l20Board : Nat := 34
def fn_spec_l20Rd_pick : Nat := 35
def fn_spec_l20Record : Nat := 36
def fn_spec_l11Play : Nat := 37
def fn_impl_Played : Nat := 38
def fn_impl_exchanged : Nat := 39
def fn_impl_contentOk : Nat := 40
def fn_impl_playerOk : Nat := 41
def fn_impl_sidesOf : Nat := 42
def fn_impl_setOf : Nat := 43
def fn_impl_grown : Nat := 44
def fn_internal_strconv_Itoa : Nat := 45
def fn_spec_l20Rd_odd : Nat := 46
def fn_spec_Played : Nat := 47
def fn_spec_l1Other : Nat := 48
def fn_impl_MoveOk : Nat := 49
def fn_slices_Clone___int_int_ : Nat := 50
def fn_impl_withNear : Nat := 51
def fn_internal_strconv_FormatInt : Nat := 52
def fn_spec_MoveOk : Nat := 53
def fn_impl_NearCells : Nat := 54
def fn_internal_strconv_small : Nat := 55
def fn_spec_PositionOk : Nat := 59
def fn_spec_Joins : Nat := 60
def fn_bits_Len64 : Nat := 62
def fn_bits_TrailingZeros : Nat := 65
def fn_spec_l2Joins : Nat := 66
def fn_spec_l2Masks : Nat := 67
def fn_spec_l2Set : Nat := 68
def fn_bits_TrailingZeros32 : Nat := 69
def fn_bits_TrailingZeros64 : Nat := 70
def fn_spec_l2Grow : Nat := 71
def fn_spec_l2Side : Nat := 72
def fn_spec_l1Near : Nat := 73
def laws_FnCellText.kl : Nat → List Nat := fun n => match n with
  | 0 => [1, 2, 3, 4, 5, 6, 7, 8, 9, 10, 11, 12, 13, 14, 15, 16, 17, 18, 19, 20, 21, 22, 23, 24, 25, 26, 27, 28, 29, 30, 31, 32, 33, 34, 35, 36, 37, 38, 39, 40, 41, 42, 43, 44, 45, 46, 47, 48, 49, 50, 51, 52, 53, 54, 55, 56, 57, 58, 59, 60, 61, 62, 63, 64, 65]
  | 2 => [9, 10]
  | 4 => [0, 11]
  | 6 => [0, 11, 12, 13, 14, 15, 16, 17]
  | 8 => [18, 19, 20, 21]
  | 10 => [22, 23, 24, 25, 26]
  | 12 => [3, 4, 5, 6, 27]
  | 14 => [27, 28]
  | 16 => [3, 4, 5, 6, 29, 30, 31, 32, 33, 34, 35, 36, 37, 38, 39, 40, 41, 42, 43, 44, 45, 46, 47]
  | 18 => [3, 4, 29, 48, 49, 50, 51, 52, 53, 54]
  | 20 => [5, 6, 7, 8, 55, 56, 57, 58, 59, 60, 61, 62, 63, 64, 65]
  | _ => []
def laws_FnReadCell.kl : Nat → List Nat := fun n => match n with
  | 0 => [1, 2, 3, 4, 5, 6, 7, 8, 9, 10, 11, 12, 13, 14, 15, 16, 17, 18, 19, 20, 21, 22, 23, 24, 25, 26, 27, 28, 29, 30, 31, 32, 33, 34, 35, 36, 37, 38, 39, 40, 41, 42, 43, 44, 45, 46, 47, 48, 49, 50, 51, 52, 53, 54, 55, 56, 57, 58, 59, 60, 61, 62, 63, 64, 65, 66, 67]
  | 2 => [12, 13]
  | 4 => [0, 14]
  | 6 => [0, 14, 15, 16, 17, 18, 19, 20]
  | 8 => [21, 22, 23, 24, 25, 26, 27]
  | 10 => [28, 29, 30, 31, 32, 33, 34]
  | 12 => [8, 9, 35, 36, 37, 38, 39, 40, 41]
  | 14 => [3, 4, 5, 6, 7, 42]
  | 16 => [7, 42, 43]
  | 18 => [3, 4, 5, 6, 44, 45, 46, 47, 48, 49]
  | 20 => [10, 44, 50, 51, 52, 53, 54, 55, 56, 57]
  | 22 => [3, 4, 5, 6, 11, 58, 59, 60, 61, 62, 63, 64, 65, 66, 67]
  | _ => []
def laws_FnRecordOk.kl : Nat → List Nat := fun n => match n with
  | 0 => [1, 2, 3, 4, 5, 6, 7, 8, 9, 10, 11, 12, 13, 14, 15, 16, 17, 18, 19, 20, 21, 22, 23, 24, 25, 26, 27, 28, 29, 30, 31, 32, 33, 34, 35, 36, 37, 38, 39, 40, 41, 42, 43, 44, 45, 46, 47, 48, 49, 50, 51, 52, 53, 54, 55, 56, 57, 58, 59, 60, 61, 62, 63, 64, 65, 66, 67, 68, 69, 70, 71, 72, 73, 74, 75, 76, 77, 78, 79, 80, 81, 82, 83, 84, 85, 86, 87, 88, 89, 90]
  | 2 => [10, 11]
  | 3 => [57]
  | 4 => [0, 12]
  | 6 => [0, 12, 13, 14, 15, 16, 17, 18]
  | 7 => [62]
  | 8 => [19, 20, 21, 22]
  | 10 => [23, 24, 25, 26, 27]
  | 12 => [3, 4, 5, 6, 28]
  | 14 => [28, 29, 30, 31]
  | 16 => [3, 4, 5, 6, 32, 33, 34, 35, 36, 37]
  | 18 => [32, 38, 39, 40]
  | 20 => [41, 42]
  | 22 => [43, 44, 45, 46, 47, 48, 49, 50]
  | 24 => [43]
  | 26 => [2, 9, 51, 52, 53, 54, 55, 56, 58, 59, 60, 61, 62, 63, 64, 65, 66, 67, 68, 69, 70, 71, 72, 73]
  | 28 => [9, 58, 59, 62]
  | 32 => [2, 60, 61, 63, 64, 65, 66, 67, 68, 69, 70, 71, 72, 73]
  | 34 => [63, 64, 73]
  | 36 => [65, 66, 67, 68, 69, 70, 71, 72]
  | 38 => [3, 4, 5, 6, 7, 8, 9, 73]
  | 40 => [3, 4, 5, 6, 7, 8, 57, 74, 75, 76, 77, 78, 79, 80, 81, 82, 83, 84, 85, 86, 87, 88, 89, 90]
  | _ => []
def laws_FnEndOf.kl : Nat → List Nat := fun n => match n with
  | 0 => [1, 2, 3, 4, 5, 6, 7, 8, 9, 10, 11, 12, 13, 14, 15, 16, 17, 18, 19, 20, 21, 22, 23, 24, 25, 26, 27, 28, 29, 30, 31, 32, 33, 34, 35, 36, 37, 38, 39, 40, 41, 42, 43, 44, 45, 46, 47, 48, 49, 50, 51, 52, 53, 54, 55, 56, 57, 58, 59, 60, 61, 62, 63, 64, 65, 66, 67, 68, 69, 70, 71, 72, 73, 74, 75, 76, 77, 78, 79, 80, 81, 82, 83, 84, 85, 86, 87, 88, 89, 90, 91, 92, 93, 94, 95, 96, 97, 98, 99, 100, 101, 102, 103, 104, 105, 106, 107]
  | 2 => [12, 13]
  | 4 => [0, 14]
  | 6 => [0, 14, 15, 16, 17, 18, 19, 20]
  | 8 => [21, 22, 23, 24, 25, 26, 27]
  | 10 => [28, 29, 30, 31, 32, 33, 34]
  | 12 => [8, 9, 35, 36, 37, 38, 39, 40, 41, 42]
  | 14 => [3, 4, 5, 6, 7, 43]
  | 16 => [43, 44]
  | 18 => [3, 4, 5, 6, 7, 45, 46, 47, 48, 49, 50, 51, 52, 53, 54, 55, 56, 57, 58]
  | 20 => [45, 59, 60, 61, 62, 63]
  | 22 => [64, 65, 66, 67, 68]
  | 24 => [3, 4, 5, 6, 7, 10, 11, 69, 70, 71, 72, 73, 74, 75, 76, 77, 78, 79, 80, 81, 82, 83, 84, 85, 86, 87, 88, 89, 90, 91, 92, 93, 94, 95, 96, 97, 98, 99, 100, 101, 102, 103, 104, 105, 106, 107]
  | _ => []
def spec_DrawCellText.kl : Nat → List Nat := fun n => match n with
  | 0 => [1, 2, 3, 4, 5, 6, 7, 8, 9]
  | 2 => [0, 5, 6, 7, 8, 9]
  | _ => []
def impl_CellText.kl : Nat → List Nat := fun n => match n with
  | 0 => [3, 4, 5, 6, 7, 8, 9, 10, 11, 12, 13, 14, 15, 16, 17, 18, 19, 20, 21, 22, 23]
  | 2 => [0, 7, 8, 9, 10]
  | 4 => [1, 2, 11]
  | 6 => [1, 2, 11, 12, 13, 14, 15, 16, 17, 18, 19, 20, 21, 22, 23]
  | _ => []
def spec_CellText.kl : Nat → List Nat := fun n => match n with
  | 0 => [3, 4, 5, 6, 7, 8, 9, 10, 11, 12, 13, 14, 15, 16, 17, 18, 19, 20, 21, 22, 23, 24, 25, 26, 27, 28, 29, 30, 31, 32, 33]
  | 2 => [0, 7, 8, 9, 10, 11, 12, 13, 14, 15, 16, 17, 18]
  | 4 => [1, 2, 19]
  | 6 => [1, 2, 19, 20, 21, 22, 23, 24, 25, 26, 27, 28, 29, 30, 31, 32, 33]
  | _ => []
def impl_BoardOk.kl : Nat → List Nat := fun n => match n with
  | 0 => [2, 3, 4, 5, 6, 7, 8, 9, 10, 11, 12, 13, 14, 15, 16]
  | 2 => [0, 1, 5, 6, 7, 8, 9, 10, 11, 12, 13, 14, 15, 16]
  | _ => []
def laws_alive.kl : Nat → List Nat := fun n => match n with
  | 0 => [0, 1, 2, 3, 4, 5]
  | 2 => [1, 2, 3, 4, 5]
  | _ => []
def impl_ReadCell.kl : Nat → List Nat := fun n => match n with
  | 0 => [3, 4, 5, 6, 7, 8, 9, 10, 11, 12, 13, 14, 15, 16, 17, 18, 19, 20, 21, 22, 23]
  | 2 => [9, 10, 11]
  | 3 => [14]
  | 4 => [6, 7, 8, 15, 16, 17, 18, 19, 20, 21, 22, 23]
  | 6 => [15]
  | 8 => [16, 17, 18, 19, 20]
  | 10 => [0, 1, 2, 8, 12, 13, 21, 22]
  | 12 => [8, 21, 23]
  | 14 => [0, 1, 2, 12, 13, 14]
  | _ => []
def spec_DrawReadCell.kl : Nat → List Nat := fun n => match n with
  | 0 => [1, 2, 3, 4, 5, 6, 7, 8, 9, 10, 11, 12, 13, 14, 15, 16, 17, 18, 19, 20, 21, 22, 23, 24, 25, 26, 27, 28, 29, 30, 31]
  | 2 => [0, 8, 9]
  | 4 => [10, 11, 12, 13, 14]
  | 6 => [15, 16]
  | 8 => [5, 6, 7, 17, 18, 19, 20, 21, 22, 23, 24]
  | 10 => [5, 6, 7, 17, 25, 26, 27, 28, 29, 30, 31]
  | _ => []
def spec_ReadCell.kl : Nat → List Nat := fun n => match n with
  | 0 => [3, 4, 5, 6, 7, 8, 9, 10, 11, 12, 13, 14, 15, 16, 17, 18, 19, 20, 21, 22, 23, 24, 25, 26, 27]
  | 3 => [18]
  | 4 => [6, 7, 9, 10, 11, 12, 13, 14, 15, 16, 17, 19, 20, 21, 22, 23, 24, 25, 26, 27]
  | 6 => [19, 20, 26]
  | 8 => [21, 22, 23, 24, 25]
  | 10 => [0, 1, 2, 8, 26, 27]
  | 12 => [0, 1, 2, 8, 18]
  | _ => []
def spec_DrawRecordOk.kl : Nat → List Nat := fun n => match n with
  | 0 => [1, 2, 3, 4, 5, 6, 7, 8, 9, 10]
  | 2 => [0, 5, 6, 7, 8, 9, 10]
  | _ => []
def impl_RecordOk.kl : Nat → List Nat := fun n => match n with
  | 0 => [3, 4, 5, 6, 7, 8, 9, 10, 11, 12, 13, 14, 15, 16, 17]
  | 2 => [0, 1, 2, 7, 9, 10, 11, 12, 13, 14, 15]
  | 4 => [8, 16, 17]
  | _ => []
def spec_RecordOk.kl : Nat → List Nat := fun n => match n with
  | 0 => [3, 4, 5, 6, 7, 8, 9, 10, 11, 12, 13, 14, 15, 16, 17, 18, 19, 20]
  | 2 => [9, 10, 11]
  | 4 => [0, 1, 2, 12]
  | 6 => [0, 1, 2, 7, 12, 13, 14, 15, 16, 17, 18, 19]
  | 8 => [8, 20]
  | _ => []
def spec_BoardOk.kl : Nat → List Nat := fun n => match n with
  | 0 => [2, 3, 4, 5, 6, 7, 8, 9, 10, 11, 12, 13, 14, 15, 16]
  | 2 => [0, 1, 5, 6, 7, 8, 9, 10, 11, 12, 13, 14, 15, 16]
  | _ => []
def spec_DrawEndOf.kl : Nat → List Nat := fun n => match n with
  | 0 => [1, 2, 3, 4, 5, 6, 7, 8, 9, 10]
  | 2 => [0, 5, 6, 7, 8, 9, 10]
  | _ => []
def impl_EndOf.kl : Nat → List Nat := fun n => match n with
  | 0 => [3, 4, 5, 6, 7, 8, 9, 10, 11, 12, 13, 14, 15, 16, 17, 18, 19, 20, 21, 22, 23, 24, 25, 26, 27, 28, 29, 30, 31, 32, 33, 34, 35, 36, 37, 38, 39, 40, 41, 42, 43]
  | 2 => [14, 15, 16]
  | 3 => [24]
  | 4 => [0, 1, 2, 17]
  | 6 => [17, 18, 19, 20]
  | 8 => [2]
  | 10 => [6, 7, 11, 12, 13, 25, 26, 27, 28, 29, 30, 31, 32, 33, 34, 35, 36, 37, 38, 39, 40, 41]
  | 12 => [25, 26]
  | 14 => [8, 11, 27, 28, 29, 30, 31, 32, 33, 34, 35]
  | 16 => [13, 36]
  | 18 => [0, 1, 9, 12, 21, 22, 23, 37]
  | 20 => [12, 37, 38, 39, 40]
  | 22 => [41]
  | 24 => [0, 1, 8, 9, 21, 22, 23, 24, 42, 43]
  | _ => []
def spec_EndOf.kl : Nat → List Nat := fun n => match n with
  | 0 => [3, 4, 5, 6, 7, 8, 9, 10, 11, 12, 13, 14, 15, 16, 17, 18, 19, 20, 21, 22, 23, 24, 25, 26, 27, 28]
  | 2 => [10, 11, 12, 13]
  | 4 => [0, 1, 2, 14, 15]
  | 6 => [0, 1, 9, 14, 16, 17, 18, 19, 20, 21, 22]
  | 8 => [2, 23, 24, 25]
  | 10 => [8, 26, 27]
  | 12 => [8, 26, 28]
  | _ => []
def laws_sameInts.kl : Nat → List Nat := fun n => match n with
  | 0 => [2, 3, 4, 5, 6, 7, 8, 9, 10, 11, 12, 13, 14, 15, 16, 17, 18, 19, 20, 21, 22, 23, 24, 25]
  | 2 => [6, 7, 8, 9]
  | 3 => [14]
  | 4 => [0, 1, 10]
  | 6 => [10]
  | 8 => [4, 11, 12, 13, 15, 16, 17, 18, 19, 20, 21, 22, 23, 24, 25]
  | 10 => [15, 16, 25]
  | 12 => [17, 18, 19, 20, 21, 22, 23, 24]
  | 14 => [0, 1, 5, 25]
  | 16 => [0, 1, 5, 14]
  | _ => []
def impl_CellsOf.kl : Nat → List Nat := fun n => match n with
  | 0 => [4, 5, 6, 7, 8, 9, 10, 11, 12, 13, 14, 15, 16, 17, 18, 19, 20, 21, 22, 23, 24, 25, 26, 27, 28, 29, 30, 31, 32, 33, 34, 35, 36, 37]
  | 2 => [0, 1, 12, 13, 14, 15, 16, 17, 18, 19, 20]
  | 3 => [25]
  | 4 => [2, 3, 21]
  | 6 => [21]
  | 8 => [2]
  | 10 => [10, 11, 26, 27, 28, 29, 30, 31, 32, 33, 34, 35, 36]
  | 12 => [26, 27, 28]
  | 14 => [11, 29, 30]
  | 16 => [10, 31, 32, 33, 34, 35]
  | 18 => [10, 31, 36]
  | 20 => [3, 9, 22, 23, 24, 25, 37]
  | _ => []
def impl_PositionOk.kl : Nat → List Nat := fun n => match n with
  | 0 => [3, 4, 5, 6, 7, 8, 9, 10, 11, 12, 13, 14, 15, 16, 17, 18, 19, 20, 21, 22, 23, 24, 25, 26, 27, 28, 29, 30]
  | 2 => [0, 1, 9, 10, 11, 12, 13, 14, 15, 16, 17, 18, 19]
  | 3 => [24]
  | 4 => [2, 20]
  | 6 => [2, 20]
  | 8 => [6, 8, 25, 26, 27, 28, 29, 30]
  | 10 => [25, 26]
  | 12 => [8, 27, 28]
  | 14 => [21, 22, 23, 29]
  | 16 => [29, 30]
  | 18 => [21, 22, 23, 24]
  | _ => []
def impl_Joins.kl : Nat → List Nat := fun n => match n with
  | 0 => [4, 5, 6, 7, 8, 9, 10, 11, 12, 13, 14, 15, 16, 17, 18, 19, 20, 21, 22, 23, 24, 25, 26, 27, 28, 29, 30, 31, 32, 33, 34, 35, 36, 37, 38, 39, 40, 41]
  | 2 => [12, 13, 14, 15, 16, 17, 18, 19, 20]
  | 4 => [0, 1, 2, 3, 21]
  | 6 => [21, 22, 23, 24, 25, 26, 27, 28]
  | 8 => [2, 3, 29, 30, 31]
  | 10 => [0, 1, 9, 10, 11, 32, 33, 34, 35, 36, 37, 38, 39, 40, 41]
  | _ => []
def spec_DrawNearCells.kl : Nat → List Nat := fun n => match n with
  | 0 => [1, 2, 3, 4, 5, 6, 7, 8, 9, 10, 11, 12, 13, 14, 15, 16, 17, 18, 19, 20, 21, 22, 23, 24, 25, 26, 27, 28, 29, 30, 31, 32]
  | 2 => [0, 8, 9]
  | 4 => [10, 11, 12, 13, 14]
  | 6 => [5, 6, 7, 15, 16, 17, 18, 19, 20, 21, 22, 23, 24, 25, 26, 27, 28, 29, 30, 31, 32]
  | _ => []
def impl_cellOk.kl : Nat → List Nat := fun n => match n with
  | 0 => [3, 4, 5, 6, 7, 8, 9, 10, 11, 12, 13, 14, 15, 16, 17, 18, 19, 20]
  | 2 => [0, 1, 2, 7, 8, 9, 10, 11, 12, 13, 14, 15, 16, 17, 18, 19, 20]
  | _ => []
def strconv_Itoa.kl : Nat → List Nat := fun n => match n with
  | 0 => [1, 2, 3, 4]
  | 2 => [0, 3, 4]
  | _ => []
def spec_l1In.kl : Nat → List Nat := fun n => match n with
  | 0 => [3, 4, 5, 6, 7, 8, 9, 10, 11, 12, 13, 14]
  | 2 => [0, 1, 2, 7, 8, 9, 10, 11, 12, 13, 14]
  | _ => []
def spec_l1Number.kl : Nat → List Nat := fun n => match n with
  | 0 => [1, 2, 3, 4, 5, 6, 7, 8, 9, 10, 11, 12, 13, 14, 15, 16, 17, 18, 19, 20]
  | 2 => [3]
  | 4 => [0, 4, 5, 6, 7, 8, 9, 10]
  | 6 => [0, 4, 11, 12, 13, 14, 15, 16, 17, 18, 19, 20]
  | _ => []
def impl_sizeOk.kl : Nat → List Nat := fun n => match n with
  | 0 => [1, 2, 3, 4, 5, 6, 7, 8]
  | 2 => [0, 3, 4, 5, 6, 7, 8]
  | _ => []
def impl_freeBoard.kl : Nat → List Nat := fun n => match n with
  | 0 => [2, 3, 4, 5, 6, 7, 8, 9, 10, 11, 12]
  | 2 => [5, 6, 7]
  | 4 => [0, 1, 8]
  | 6 => [0, 1, 8, 9, 10, 11, 12]
  | _ => []
def spec_l20Open.kl : Nat → List Nat := fun n => match n with
  | 0 => [1, 2, 3, 4, 5, 6, 7, 8, 9, 10]
  | 2 => [3, 4]
  | 4 => [5, 6, 7]
  | 6 => [0, 5, 8, 9, 10]
  | _ => []
def spec_l20Board.kl : Nat → List Nat := fun n => match n with
  | 0 => [2, 3, 4, 5, 6, 7, 8, 9, 10, 11, 12, 13, 14, 15, 16, 17, 18, 19, 20, 21, 22, 23, 24, 25, 26, 27, 28, 29, 30, 31, 32, 33, 34, 35, 36, 37, 38, 39, 40, 41, 42, 43]
  | 2 => [7, 8, 9, 10, 11, 12, 13, 14, 15, 16, 17, 18, 19, 20, 21, 22, 23, 24]
  | 4 => [1, 25, 26]
  | 6 => [0, 27, 28, 29, 30, 31, 32, 33, 34, 35, 36, 37]
  | 8 => [0, 6, 27, 38, 39, 40, 41, 42, 43]
  | _ => []
def spec_l20Rd_pick.kl : Nat → List Nat := fun n => match n with
  | 0 => [2, 3, 4, 5, 6, 7, 8, 9, 10, 11, 12, 13, 14, 15, 16, 17, 18, 19, 20, 21, 22, 23, 24, 25, 26, 27, 28, 29, 30, 31, 32, 33, 34, 35, 36, 37, 38, 39, 40, 41, 42, 43, 44, 45, 46, 47, 48, 49, 50, 51, 52, 53, 54, 55, 56, 57, 58, 59, 60, 61, 62, 63, 64, 65, 66, 67, 68, 69, 70, 71, 72, 73, 74, 75, 76, 77, 78, 79, 80, 81, 82, 83, 84, 85, 86, 87, 88, 89, 90, 91, 92, 93, 94, 95, 96, 97, 98]
  | 2 => [7, 8, 9, 10, 11, 12, 13, 14]
  | 4 => [15, 16, 17, 18, 19, 20, 21, 22, 23]
  | 6 => [0, 1, 24]
  | 8 => [24, 25, 26, 27, 28, 29]
  | 10 => [30, 31, 32, 33, 34, 35]
  | 12 => [0, 1, 5, 36, 37, 38, 39, 40, 41, 42, 43, 44, 45, 46]
  | 14 => [0, 5, 36, 47, 48, 49, 50, 51, 52, 53, 54, 55, 56, 57, 58, 59, 60, 61, 62, 63, 64, 65, 66, 67, 68, 69, 70, 71, 72, 73, 74, 75, 76, 77, 78, 79, 80, 81, 82, 83, 84, 85, 86, 87, 88, 89, 90, 91]
  | 16 => [92, 93, 94, 95]
  | 18 => [1, 6, 96, 97, 98]
  | _ => []
def spec_l20Record.kl : Nat → List Nat := fun n => match n with
  | 0 => [2, 3, 4, 5, 6, 7, 8, 9, 10, 11, 12, 13, 14, 15, 16, 17, 18, 19, 20, 21, 22, 23, 24, 25, 26, 27, 28, 29, 30, 31, 32, 33, 34, 35, 36, 37, 38, 39, 40, 41, 42, 43, 44, 45, 46, 47, 48, 49, 50, 51, 52, 53, 54, 55, 56, 57, 58, 59, 60, 61, 62, 63, 64, 65, 66, 67, 68, 69, 70, 71, 72, 73, 74, 75, 76, 77, 78, 79]
  | 2 => [16, 17, 18, 19, 20, 21, 22]
  | 3 => [38]
  | 4 => [23]
  | 6 => [24, 25, 26, 27, 28, 29]
  | 10 => [30, 31]
  | 12 => [13, 14, 15, 32, 33, 34, 35, 36, 37, 39, 40, 41, 42, 43, 44, 45, 46, 47, 48, 49, 50, 51, 52, 53, 54, 55, 56, 57, 58, 59, 60, 61, 62]
  | 14 => [13, 14, 39, 40, 55]
  | 16 => [41, 42, 43, 44, 45]
  | 18 => [46, 47, 48, 49, 50, 51, 52, 53, 54]
  | 20 => [15]
  | 22 => [14, 55, 56]
  | 24 => [13, 57, 58, 59, 60]
  | 26 => [61, 62]
  | 28 => [1, 10, 11, 12, 38, 63, 64, 65]
  | 30 => [0, 7, 8, 9, 66, 67, 68, 69, 70, 71, 72, 73, 74, 75, 76]
  | 32 => [0, 7, 8, 9, 66, 77, 78, 79]
  | _ => []
def spec_l11Play.kl : Nat → List Nat := fun n => match n with
  | 0 => [3, 4, 5, 6, 7, 8, 9, 10, 11, 12, 13, 14, 15, 16, 17, 18, 19, 20, 21, 22, 23, 24, 25, 26, 27, 28, 29, 30, 31, 32, 33, 34, 35, 36, 37, 38, 39, 40, 41]
  | 2 => [13, 14, 15, 16]
  | 3 => [20]
  | 8 => [6, 7, 11, 12, 17, 18, 19, 21, 22, 23, 24, 25, 26, 27, 28, 29, 30, 31, 32, 33, 34, 35, 36, 37, 38, 39, 40]
  | 10 => [21, 22]
  | 12 => [8, 23, 24, 25, 26, 27, 28, 29, 30, 31, 32, 33, 34]
  | 14 => [12, 35]
  | 16 => [0, 1, 2, 9, 10, 11, 36, 37]
  | 18 => [11, 36, 38]
  | 20 => [39, 40]
  | 22 => [0, 1, 2, 8, 9, 10, 20, 41]
  | _ => []
def impl_Played.kl : Nat → List Nat := fun n => match n with
  | 0 => [5, 6, 7, 8, 9, 10, 11, 12, 13, 14, 15, 16, 17, 18, 19, 20, 21, 22, 23, 24, 25, 26]
  | 2 => [0, 1, 13, 14, 15, 16, 17, 18]
  | 4 => [2, 3, 4, 19]
  | 6 => [2, 19, 20, 21]
  | 8 => [3, 4, 22, 23, 24, 25]
  | 10 => [12, 26]
  | _ => []
def impl_exchanged.kl : Nat → List Nat := fun n => match n with
  | 0 => [1, 2, 3, 4, 5, 6, 7, 8]
  | 4 => [5]
  | 6 => [0, 3, 4]
  | 8 => [3, 4, 7]
  | 10 => [0, 6]
  | 12 => [0, 6, 8]
  | _ => []
def impl_contentOk.kl : Nat → List Nat := fun n => match n with
  | 0 => [1, 2, 3, 4, 5, 6, 7, 8, 9, 10, 11, 12]
  | 2 => [0, 3, 4, 5, 6, 7, 8, 9, 10, 11, 12]
  | _ => []
def impl_playerOk.kl : Nat → List Nat := fun n => match n with
  | 0 => [1, 2, 3, 4, 5, 6, 7, 8]
  | 2 => [0, 3, 4, 5, 6, 7, 8]
  | _ => []
def impl_sidesOf.kl : Nat → List Nat := fun n => match n with
  | 0 => [3, 4, 5, 6, 7, 8, 9, 10, 11, 12, 13, 14, 15, 16, 17, 18, 19, 20, 21, 22, 23, 24, 25, 26, 27, 28, 29, 30, 31, 32, 33, 34, 35, 36, 37, 38, 39, 40, 41, 42, 43, 44, 45, 46]
  | 3 => [17]
  | 4 => [13, 14]
  | 6 => [10, 11, 12, 18, 19, 20, 21, 22, 23, 24, 25, 26, 27, 28, 29, 30, 31, 32, 33, 34, 35, 36, 37, 38, 39, 40, 41, 42, 43, 44]
  | 8 => [18]
  | 10 => [19, 20, 21, 22, 23]
  | 12 => [24]
  | 14 => [25, 26, 27, 28, 29, 30]
  | 16 => [25, 31]
  | 18 => [32, 33, 34, 35, 36]
  | 20 => [11, 12, 32, 37, 38]
  | 22 => [10, 39, 40, 41, 42, 43]
  | 24 => [10, 39, 44]
  | 26 => [0, 1, 2, 8, 9, 15, 16, 17, 45, 46]
  | _ => []
def impl_setOf.kl : Nat → List Nat := fun n => match n with
  | 0 => [2, 3, 4, 5, 6, 7, 8, 9, 10, 11, 12, 13, 14, 15, 16, 17, 18, 19, 20, 21, 22, 23]
  | 3 => [11]
  | 4 => [0]
  | 6 => [6, 7, 12, 13, 14, 15, 16, 17, 18, 19, 20, 21, 22]
  | 8 => [12, 13, 14]
  | 10 => [7, 15, 16]
  | 12 => [6, 17, 18, 19, 20, 21]
  | 14 => [6, 17, 22]
  | 16 => [1, 5, 8, 9, 10, 11, 23]
  | _ => []
def impl_grown.kl : Nat → List Nat := fun n => match n with
  | 0 => [4, 5, 6, 7, 8, 9, 10, 11, 12, 13, 14, 15, 16, 17, 18, 19, 20, 21, 22, 23, 24]
  | 2 => [10]
  | 3 => [12]
  | 4 => [11, 13, 14, 15, 16, 17, 18, 19, 20, 21, 22, 23]
  | 6 => [13, 14, 15, 16, 17, 18, 19, 20]
  | 8 => [21, 22, 23]
  | 10 => [0, 1, 2, 3, 9, 12, 24]
  | _ => []
def internal_strconv_Itoa.kl : Nat → List Nat := fun n => match n with
  | 0 => [1, 2, 3, 4]
  | 2 => [0, 3, 4]
  | _ => []
def spec_l20Rd_odd.kl : Nat → List Nat := fun n => match n with
  | 0 => [2, 3, 4, 5, 6, 7, 8, 9, 10, 11, 12, 13, 14]
  | 2 => [0, 1, 5, 6, 7, 8, 9, 10, 11, 12, 13, 14]
  | _ => []
def spec_Played.kl : Nat → List Nat := fun n => match n with
  | 0 => [5, 6, 7, 8, 9, 10, 11, 12, 13, 14, 15, 16, 17, 18, 19, 20, 21, 22, 23, 24, 25, 26, 27, 28]
  | 2 => [0, 1, 13, 14, 15, 16, 17, 18]
  | 4 => [2, 3, 4, 19, 20]
  | 6 => [2, 19, 21, 22, 23]
  | 8 => [3, 4, 24, 25, 26, 27]
  | 10 => [12, 28]
  | _ => []
def spec_l1Other.kl : Nat → List Nat := fun n => match n with
  | 0 => [1, 2, 3, 4, 5, 6]
  | 2 => [3]
  | 4 => [0, 4]
  | 6 => [0, 4, 5, 6]
  | _ => []
def impl_MoveOk.kl : Nat → List Nat := fun n => match n with
  | 0 => [5, 6, 7, 8, 9, 10, 11, 12, 13, 14, 15, 16, 17, 18, 19, 20, 21, 22, 23, 24, 25, 26, 27, 28, 29, 30, 31, 32, 33, 34, 35, 36, 37, 38, 39, 40, 41, 42, 43, 44, 45, 46]
  | 2 => [4, 11, 12, 13, 14, 15, 16, 17, 18, 19, 20, 21, 22, 23, 24, 25, 26]
  | 4 => [0, 1, 2, 3, 27]
  | 6 => [0, 1, 2, 3, 27, 28, 29, 30, 31, 32, 33, 34, 35, 36, 37, 38, 39, 40, 41, 42, 43, 44, 45, 46]
  | _ => []
def slices_Clone___int_int_.kl : Nat → List Nat := fun n => match n with
  | 0 => [1, 2, 3, 4, 5, 6, 7]
  | 2 => [3]
  | 4 => [0, 4]
  | 6 => [0, 4, 5, 6, 7]
  | _ => []
def impl_withNear.kl : Nat → List Nat := fun n => match n with
  | 0 => [3, 4, 5, 6, 7, 8, 9, 10, 11, 12, 13, 14, 15, 16, 17, 18, 19, 20, 21, 22, 23, 24, 25, 26, 27, 28, 29, 30, 31, 32, 33, 34, 35, 36, 37, 38]
  | 2 => [11]
  | 3 => [16]
  | 4 => [12, 13]
  | 6 => [8, 10, 17, 18, 19, 20, 21, 22, 23, 24, 25, 26, 27, 28, 29, 30, 31, 32, 33, 34, 35, 36, 37]
  | 7 => [29]
  | 8 => [17]
  | 10 => [18, 19, 20, 21]
  | 12 => [8, 22, 23, 24, 25]
  | 14 => [10, 30, 31, 32, 33, 34, 35, 36]
  | 16 => [30, 31]
  | 18 => [10, 32, 33, 34, 35]
  | 20 => [36]
  | 22 => [8, 22, 26, 27, 28, 29, 37]
  | 24 => [0, 1, 2, 7, 14, 15, 16, 38]
  | _ => []
def internal_strconv_FormatInt.kl : Nat → List Nat := fun n => match n with
  | 0 => [2, 3, 4, 5, 6, 7, 8, 9, 10, 11, 12, 13, 14, 15, 16, 17, 18, 19, 20, 21, 22, 23, 24, 25, 26, 27, 28, 29, 30, 31, 32, 33, 34, 35, 36, 37, 38, 39, 40, 41, 42, 43, 44, 45, 46, 47, 48, 49, 50, 51, 52, 53]
  | 2 => [10]
  | 4 => [1, 11, 12, 13, 14, 15, 16]
  | 6 => [0, 17, 18, 19]
  | 8 => [17]
  | 10 => [20, 21]
  | 12 => [22]
  | 14 => [23, 24, 25]
  | 16 => [23, 26, 27]
  | 18 => [6, 28, 29, 30, 31, 32]
  | 20 => [0, 33]
  | 22 => [34, 35]
  | 24 => [5, 7, 36, 37, 38, 39]
  | 26 => [5, 7, 34, 40, 41, 42, 43]
  | 28 => [0, 1, 8, 11, 44, 45, 46, 47, 48, 49, 50, 51, 52]
  | 30 => [9, 53]
  | _ => []
def spec_MoveOk.kl : Nat → List Nat := fun n => match n with
  | 0 => [5, 6, 7, 8, 9, 10, 11, 12, 13, 14, 15, 16, 17, 18, 19, 20, 21, 22, 23, 24, 25, 26, 27, 28, 29, 30, 31, 32, 33, 34, 35, 36, 37, 38, 39, 40, 41, 42, 43, 44, 45, 46, 47]
  | 2 => [4, 11, 12, 13, 14, 15, 16, 17, 18, 19, 20, 21, 22, 23, 24, 25, 26, 27]
  | 4 => [0, 1, 2, 3, 28]
  | 6 => [0, 1, 2, 3, 28, 29, 30, 31, 32, 33, 34, 35, 36, 37, 38, 39, 40, 41, 42, 43, 44, 45, 46, 47]
  | _ => []
def impl_NearCells.kl : Nat → List Nat := fun n => match n with
  | 0 => [3, 4, 5, 6, 7, 8, 9, 10, 11, 12, 13, 14, 15, 16, 17, 18, 19, 20, 21, 22, 23, 24, 25, 26, 27, 28, 29, 30, 31, 32, 33, 34, 35, 36, 37, 38, 39, 40, 41, 42, 43, 44, 45, 46, 47, 48, 49, 50, 51, 52, 53, 54, 55, 56, 57, 58]
  | 2 => [12, 13, 14, 15]
  | 3 => [19]
  | 4 => [0, 1, 2, 16]
  | 6 => [16]
  | 10 => [9, 10, 11, 20, 21, 22, 23, 24, 25, 26, 27, 28, 29, 30, 31, 32, 33, 34, 35, 36, 37, 38, 39, 40, 41, 42, 43, 44, 45, 46, 47, 48, 49, 50, 51, 52, 53, 54, 55, 56, 57]
  | 12 => [20]
  | 14 => [21, 22, 23, 24, 25, 26]
  | 16 => [9, 27, 28, 29, 30, 31, 32]
  | 18 => [33, 34, 35, 36, 37, 38, 39, 40, 41, 42, 43, 44, 45, 46, 47]
  | 20 => [10, 11, 48, 49, 50, 51, 52, 53, 54, 55, 56]
  | 22 => [10, 11, 48, 57]
  | 24 => [0, 1, 2, 7, 17, 18, 19, 58]
  | _ => []
def internal_strconv_small.kl : Nat → List Nat := fun n => match n with
  | 0 => [1, 2, 3, 4, 5, 6, 7, 8, 9, 10, 11, 12, 13, 14]
  | 2 => [3]
  | 4 => [0, 4, 5, 6, 7, 8]
  | 6 => [0, 4, 9, 10, 11, 12, 13, 14]
  | _ => []
def spec_PositionOk.kl : Nat → List Nat := fun n => match n with
  | 0 => [3, 4, 5, 6, 7, 8, 9, 10, 11, 12, 13, 14, 15, 16, 17, 18, 19, 20, 21, 22, 23, 24, 25, 26, 27, 28, 29, 30]
  | 3 => [11]
  | 4 => [6, 8, 9, 10, 12, 13, 14, 15, 16, 17, 18, 19]
  | 6 => [12, 13, 19]
  | 8 => [14, 15, 16, 17, 18]
  | 10 => [0, 1, 2, 7, 19]
  | 12 => [0, 1, 2, 7, 11, 20, 21, 22, 23, 24, 25, 26, 27, 28, 29, 30]
  | _ => []
def spec_Joins.kl : Nat → List Nat := fun n => match n with
  | 0 => [4, 5, 6, 7, 8, 9, 10, 11, 12, 13, 14, 15, 16, 17, 18, 19, 20, 21, 22, 23, 24, 25, 26, 27, 28]
  | 2 => [9, 10, 11, 12, 13, 14, 15, 16, 17]
  | 4 => [0, 1, 2, 3, 18]
  | 6 => [0, 1, 2, 3, 18, 19, 20, 21, 22, 23, 24, 25, 26, 27, 28]
  | _ => []
def bits_Len64.kl : Nat → List Nat := fun n => match n with
  | 0 => [1, 3, 4, 5, 6, 7, 8, 9, 10, 11, 12, 13, 14, 15, 16, 17, 18, 19, 20, 21, 22, 23, 24]
  | 2 => [3]
  | 4 => [2, 4, 5, 6]
  | 8 => [4, 7]
  | 10 => [8, 9, 10]
  | 12 => [11, 12]
  | 14 => [8, 13]
  | 16 => [14, 15, 16]
  | 18 => [17, 18]
  | 20 => [0, 14, 19, 20, 21, 22, 23, 24]
  | _ => []
def bits_TrailingZeros.kl : Nat → List Nat := fun n => match n with
  | 0 => [1, 2, 3, 4, 5, 6, 7]
  | 2 => [0, 3, 4, 5]
  | 4 => [0, 6, 7]
  | _ => []
def spec_l2Joins.kl : Nat → List Nat := fun n => match n with
  | 0 => [5, 6, 7, 8, 9, 10, 11, 12, 13, 14, 15, 16, 17, 18, 19, 20, 21, 22, 23]
  | 2 => [0, 1, 2, 3, 4, 11, 12, 13, 14, 15, 16, 17, 18, 19, 20, 21, 22, 23]
  | _ => []
def spec_l2Masks.kl : Nat → List Nat := fun n => match n with
  | 0 => [2, 3, 4, 5, 6, 7, 8, 9, 10, 11, 12, 13, 14, 15, 16, 17, 18, 19, 20, 21, 22, 23, 24, 25, 26, 27, 28, 29, 30, 31, 32, 33, 34, 35, 36, 37, 38, 39]
  | 2 => [10]
  | 3 => [15]
  | 6 => [7, 8, 9, 11, 12, 13, 14, 16, 17, 18, 19, 20, 21, 22, 23, 24, 25, 26, 27, 28, 29, 30, 31, 32, 33, 34, 35, 36, 37, 38]
  | 7 => [25]
  | 8 => [16, 17]
  | 12 => [18, 19, 20, 21]
  | 16 => [22, 23, 24, 26, 27, 28, 29, 30, 31, 32, 33, 34]
  | 18 => [26, 27]
  | 20 => [28, 29, 30, 31, 32, 33, 34]
  | 22 => [7, 8, 9, 25, 35, 36, 37, 38]
  | 24 => [0, 1, 5, 6, 15, 39]
  | _ => []
def spec_l2Set.kl : Nat → List Nat := fun n => match n with
  | 0 => [2, 3, 4, 5, 6, 7, 8, 9, 10, 11, 12, 13, 14, 15, 16, 17, 18, 19, 20, 21, 22, 23]
  | 3 => [10]
  | 6 => [7, 8, 9, 11, 12, 13, 14, 15, 16, 17, 18, 19, 20, 21, 22]
  | 8 => [11, 12, 18]
  | 10 => [13, 14, 15, 16, 17]
  | 12 => [18, 19, 20, 21, 22]
  | 14 => [0, 1, 5, 6, 10, 23]
  | _ => []
def bits_TrailingZeros32.kl : Nat → List Nat := fun n => match n with
  | 0 => [1, 2, 3, 4, 5, 6, 7, 8, 9, 10, 11, 12, 13]
  | 2 => [3]
  | 4 => [0, 4]
  | 6 => [0, 4, 5, 6, 7, 8, 9, 10, 11, 12, 13]
  | _ => []
def bits_TrailingZeros64.kl : Nat → List Nat := fun n => match n with
  | 0 => [1, 2, 3, 4, 5, 6, 7, 8, 9, 10, 11, 12, 13]
  | 2 => [3]
  | 4 => [0, 4]
  | 6 => [0, 4, 5, 6, 7, 8, 9, 10, 11, 12, 13]
  | _ => []
def spec_l2Grow.kl : Nat → List Nat := fun n => match n with
  | 0 => [3, 4, 5, 6, 7, 8, 9, 10, 11, 12, 13, 14, 15, 16, 17, 18, 19, 20, 21, 22, 23, 24, 25, 26, 27, 28, 29, 30, 31, 32, 33, 34, 35, 36, 37, 38, 39]
  | 2 => [2, 11, 12, 13]
  | 3 => [14]
  | 6 => [8, 9, 10, 15, 16, 17, 18, 19, 20, 21, 22, 23, 24, 25, 26, 27, 28, 29, 30, 31, 32, 33, 34, 35, 36, 37, 38]
  | 7 => [19]
  | 8 => [15]
  | 12 => [16, 17, 18, 20, 21, 22, 23, 24, 25, 26, 27, 28, 29, 30, 31, 32, 33, 34]
  | 14 => [20, 21, 26]
  | 16 => [22, 23, 24, 25]
  | 18 => [26, 27, 28, 29, 30, 31, 32, 33, 34]
  | 20 => [7, 10, 19, 35, 36, 37]
  | 22 => [9, 38]
  | 24 => [0, 1, 7, 14, 39]
  | _ => []
def spec_l2Side.kl : Nat → List Nat := fun n => match n with
  | 0 => [4, 5, 6, 7, 8, 9, 10, 11, 12, 13, 14, 15, 16, 17, 18, 19, 20, 21, 22, 23, 24, 25, 26, 27, 28, 29, 30, 31, 32, 33, 34, 35, 36, 37, 38, 39, 40, 41, 42, 43, 44, 45, 46, 47, 48, 49, 50]
  | 3 => [17]
  | 6 => [11, 12, 13, 14, 15, 16, 18, 19, 20, 21, 22, 23, 24, 25, 26, 27, 28, 29, 30, 31, 32, 33, 34, 35, 36, 37, 38, 39, 40, 41, 42, 43, 44, 45, 46, 47, 48, 49]
  | 8 => [18, 19, 45]
  | 10 => [20, 21, 22]
  | 12 => [23, 24]
  | 14 => [25]
  | 16 => [12, 26, 27, 28, 29]
  | 18 => [30, 31]
  | 20 => [11, 12, 26, 32, 33, 34, 35, 36, 37, 38, 39, 40, 41, 42, 43, 44]
  | 22 => [45, 46, 47, 48, 49]
  | 24 => [0, 1, 2, 3, 9, 10, 17, 50]
  | _ => []
def spec_l1Near.kl : Nat → List Nat := fun n => match n with
  | 0 => [3, 4, 5, 6, 7, 8, 9, 10, 11, 12, 13, 14, 15, 16, 17, 18, 19, 20, 21, 22, 23, 24, 25, 26, 27, 28, 29, 30, 31, 32, 33, 34, 35, 36, 37, 38, 39, 40, 41, 42, 43, 44, 45, 46, 47, 48, 49, 50, 51, 52, 53, 54, 55, 56, 57, 58, 59, 60, 61, 62]
  | 2 => [12]
  | 3 => [24]
  | 4 => [13, 14, 15]
  | 6 => [2, 16, 17, 18]
  | 7 => [32]
  | 8 => [19, 20]
  | 10 => [11, 21, 22, 23, 25, 26, 27, 28, 29, 30, 31, 32, 33, 34, 35, 36, 37, 38, 39, 40, 41, 42, 43, 44, 45, 46, 47, 48, 49, 50, 51, 52, 53, 54, 55, 56, 57, 58, 59, 60, 61]
  | 12 => [11, 25, 26, 32]
  | 14 => [27, 28]
  | 16 => [29, 30, 31, 33, 34, 35, 36, 37, 38, 39, 40, 41, 42, 43, 44, 45, 46, 47, 48, 49, 50, 51, 52, 53, 54, 55, 56, 57, 58, 59, 60, 61]
  | 18 => [33, 34, 53]
  | 20 => [35, 36, 37, 38, 39, 40, 41, 42, 43, 44, 45, 46, 47, 48, 49, 50, 51, 52]
  | 22 => [53, 54, 55, 56, 57, 58, 59, 60, 61]
  | 24 => [0, 1, 7, 8, 9, 10, 24, 62]
  | _ => []
def KL : FuncId → Nat → List Nat := fun f => match f with
  | 3 => laws_FnCellText.kl
  | 4 => laws_FnReadCell.kl
  | 5 => laws_FnRecordOk.kl
  | 6 => laws_FnEndOf.kl
  | 7 => spec_DrawCellText.kl
  | 8 => impl_CellText.kl
  | 9 => spec_CellText.kl
  | 10 => impl_BoardOk.kl
  | 11 => laws_alive.kl
  | 12 => impl_ReadCell.kl
  | 13 => spec_DrawReadCell.kl
  | 14 => spec_ReadCell.kl
  | 15 => spec_DrawRecordOk.kl
  | 16 => impl_RecordOk.kl
  | 17 => spec_RecordOk.kl
  | 18 => spec_BoardOk.kl
  | 19 => spec_DrawEndOf.kl
  | 20 => impl_EndOf.kl
  | 21 => spec_EndOf.kl
  | 22 => laws_sameInts.kl
  | 23 => impl_CellsOf.kl
  | 24 => impl_PositionOk.kl
  | 25 => impl_Joins.kl
  | 26 => spec_DrawNearCells.kl
  | 27 => impl_cellOk.kl
  | 28 => strconv_Itoa.kl
  | 29 => spec_l1In.kl
  | 30 => spec_l1Number.kl
  | 31 => impl_sizeOk.kl
  | 32 => impl_freeBoard.kl
  | 33 => spec_l20Open.kl
  | 34 => spec_l20Board.kl
  | 35 => spec_l20Rd_pick.kl
  | 36 => spec_l20Record.kl
  | 37 => spec_l11Play.kl
  | 38 => impl_Played.kl
  | 39 => impl_exchanged.kl
  | 40 => impl_contentOk.kl
  | 41 => impl_playerOk.kl
  | 42 => impl_sidesOf.kl
  | 43 => impl_setOf.kl
  | 44 => impl_grown.kl
  | 45 => internal_strconv_Itoa.kl
  | 46 => spec_l20Rd_odd.kl
  | 47 => spec_Played.kl
  | 48 => spec_l1Other.kl
  | 49 => impl_MoveOk.kl
  | 50 => slices_Clone___int_int_.kl
  | 51 => impl_withNear.kl
  | 52 => internal_strconv_FormatInt.kl
  | 53 => spec_MoveOk.kl
  | 54 => impl_NearCells.kl
  | 55 => internal_strconv_small.kl
  | 59 => spec_PositionOk.kl
  | 60 => spec_Joins.kl
  | 62 => bits_Len64.kl
  | 65 => bits_TrailingZeros.kl
  | 66 => spec_l2Joins.kl
  | 67 => spec_l2Masks.kl
  | 68 => spec_l2Set.kl
  | 69 => bits_TrailingZeros32.kl
  | 70 => bits_TrailingZeros64.kl
  | 71 => spec_l2Grow.kl
  | 72 => spec_l2Side.kl
  | 73 => spec_l1Near.kl
  | _ => fun _ => []
noncomputable def CL (g : Nat → PV) (lf n : Nat) : FuncId → List PV → PHeap → Res := call Tryd.prog g KL lf n
noncomputable def YL (g : Nat → PV) (lf n : Nat) : Nat → List PV → PHeap → Res := yields Tryd.prog g KL lf n
noncomputable def env (g : Nat → PV) (lf n : Nat) : Env := ⟨g, lf, CL g lf n, std Tryd.prog, YL g lf n⟩
@[simp] theorem env_C (g : Nat → PV) (lf n : Nat) : (env g lf n).C = CL g lf n := rfl
@[simp] theorem env_Y (g : Nat → PV) (lf n : Nat) : (env g lf n).Y = YL g lf n := rfl
@[simp] theorem env_g (g : Nat → PV) (lf n : Nat) : (env g lf n).g = g := rfl
@[simp] theorem env_lf (g : Nat → PV) (lf n : Nat) : (env g lf n).lf = lf := rfl
@[simp] theorem env_pick (g : Nat → PV) (lf n : Nat) : (env g lf n).p.pick = pickP := rfl
@[simp] theorem env_alloc (g : Nat → PV) (lf n : Nat) : (env g lf n).p.alloc = allocP Tryd.prog := rfl
@[simp] theorem env_box (g : Nat → PV) (lf n : Nat) : (env g lf n).p.box = boxP := rfl
@[simp] theorem env_build (g : Nat → PV) (lf n : Nat) : (env g lf n).p.build = buildP Tryd.prog := rfl
@[simp] theorem env_buildSlice (g : Nat → PV) (lf n : Nat) : (env g lf n).p.buildSlice = buildSliceP Tryd.prog := rfl
@[simp] theorem env_load (g : Nat → PV) (lf n : Nat) : (env g lf n).p.load = loadP Tryd.prog := rfl
@[simp] theorem env_store (g : Nat → PV) (lf n : Nat) : (env g lf n).p.store = storeP Tryd.prog := rfl
@[simp] theorem env_ptr (g : Nat → PV) (lf n : Nat) : (env g lf n).p.ptr = ptrP := rfl
@[simp] theorem env_bin (g : Nat → PV) (lf n : Nat) : (env g lf n).p.bin = binP Tryd.prog := rfl
@[simp] theorem env_un (g : Nat → PV) (lf n : Nat) : (env g lf n).p.un = unP := rfl
@[simp] theorem env_conv (g : Nat → PV) (lf n : Nat) : (env g lf n).p.conv = convP Tryd.prog := rfl
@[simp] theorem env_make (g : Nat → PV) (lf n : Nat) : (env g lf n).p.make = makeP Tryd.prog := rfl
@[simp] theorem env_slice (g : Nat → PV) (lf n : Nat) : (env g lf n).p.slice = sliceP Tryd.prog := rfl
@[simp] theorem env_fieldAddr (g : Nat → PV) (lf n : Nat) : (env g lf n).p.fieldAddr = fieldAddrP Tryd.prog := rfl
@[simp] theorem env_field (g : Nat → PV) (lf n : Nat) : (env g lf n).p.field = fieldP Tryd.prog := rfl
@[simp] theorem env_indexAddr (g : Nat → PV) (lf n : Nat) : (env g lf n).p.indexAddr = indexAddrP Tryd.prog := rfl
@[simp] theorem env_index (g : Nat → PV) (lf n : Nat) : (env g lf n).p.index = indexP Tryd.prog := rfl
@[simp] theorem env_extract (g : Nat → PV) (lf n : Nat) : (env g lf n).p.extract = extractP := rfl
@[simp] theorem env_len (g : Nat → PV) (lf n : Nat) : (env g lf n).p.len = lenP Tryd.prog := rfl
@[simp] theorem env_append (g : Nat → PV) (lf n : Nat) : (env g lf n).p.append = appendP Tryd.prog := rfl
@[simp] theorem env_max (g : Nat → PV) (lf n : Nat) : (env g lf n).p.max = foldP maxP2 := rfl
@[simp] theorem env_min (g : Nat → PV) (lf n : Nat) : (env g lf n).p.min = foldP minP2 := rfl
@[simp] theorem env_makeMap (g : Nat → PV) (lf n : Nat) : (env g lf n).p.makeMap = makeMapP := rfl
@[simp] theorem env_lookup (g : Nat → PV) (lf n : Nat) : (env g lf n).p.lookup = lookupP Tryd.prog := rfl
@[simp] theorem env_update (g : Nat → PV) (lf n : Nat) : (env g lf n).p.update = updateP Tryd.prog := rfl
@[simp] theorem env_clos (g : Nat → PV) (lf n : Nat) : (env g lf n).p.clos = closP := rfl
@[simp] theorem env_bstr (g : Nat → PV) (lf n : Nat) : (env g lf n).p.bstr = bstrP Tryd.prog := rfl
@[simp] theorem env_ext (g : Nat → PV) (lf n : Nat) : (env g lf n).p.ext = extP Tryd.prog := rfl
end Go.Proofs.YtpaehbfknlpkbaaDoor.G

/- From what the interpreter computes for a law to what the machine's call of it does. -/
set_option maxRecDepth 20000
namespace Go.Proofs.YtpaehbfknlpkbaaDoor
open Go Go.Ip Go.RowKit G

def g0 : Nat → PV := fun _ => .junk
def LF : Nat := 4294967296

theorem prog_mixed : Tryd.prog.follows .mixedOrders = true := by kernel_rfl
theorem prog_ok : progOk Tryd.prog = true := by kernel_rfl

theorem law_walk {n : Nat} {f : FuncId} {args : List PV} {h h' : PHeap} {μ : List Ip.Loc} {w : World} {xs : Array Value} (hc : CL g0 LF n f args h = some (.bool true, h'))
    (sim : Sim w.heap.size w μ h w) (ha : All2 (rep μ) args xs.toList) : Calls Tryd.prog f xs w fun e w' => e = .returned (.bool true) ∧ Below w.heap.size w w' := by
  obtain ⟨_, hcall⟩ := (call_sound Tryd.prog g0 KL LF prog_mixed prog_ok n (KL f)).call f args h _ hc
  refine (hcall w.heap.size w μ w xs sim (fun _ => trivial) ha).mono ?_
  rintro e w' ⟨v, rfl, μ', hpre, hr, hs⟩
  refine ⟨?_, hs.below⟩
  rw [rep_bool.1 hr]

/-- A slice of integers, nil or not, as the interpreter's heap holds it. -/
def IntSl (k : IntKind) (h : PHeap) (p : PV) (xs : List Int) : Prop :=
  (p = .nilsl ∧ xs = []) ∨ ∃ id off, p = .sl id off xs.length ∧ ∀ (i : Nat) x, xs[i]? = some x → (cellsAt h id)[off + i]? = some (.int k x)

/-- A slice of integers that came in. -/
theorem row_arg {k : IntKind} {w : World} {a : Option Addr} {len cap : Nat} {zs : List Int}
    (h : (a = none ∧ len = 0 ∧ cap = 0 ∧ zs = []) ∨ ∃ x, a = some x ∧ len ≤ cap ∧ cap ≤ maxLen ∧ zs.length = cap ∧ (∀ i, i < zs.length → w.cell? (x.add i) = some (.int k (zs.getD i 0))) ∧ ∀ n ∈ zs, (Lit.int k n).wf = true) :
    ∃ μ o p, Sim w.heap.size w μ [o] w ∧ rep μ p (.slice a len cap) ∧ IntSl k [o] p (zs.take len) ∧ len = (zs.take len).length ∧ len ≤ maxLen ∧ (∀ n ∈ zs.take len, (Lit.int k n).wf = true) ∧ (o = .dead ∨ ∃ c, o = .ro 1 c) := by
  have simD : ∀ l : Ip.Loc, Sim w.heap.size w [l] [.dead] w := fun l =>
    ⟨rfl, Below.refl _ _, Nat.le_refl _, fun id o l h _ => by
      match id, h with
      | 0, h => simp at h; subst h; trivial
      | id + 1, h => simp at h, fun i j li lj ei ci ej cj _ h => by
      match i, h with
      | 0, h => simp at h
      | i + 1, h => simp at h, fun i j li lj ei ej _ h => by
      match i, h with
      | 0, h => simp at h
      | i + 1, h => simp at h, fun i j li lj oi oj _ h ho => by
      match i, h with
      | 0, h => simp at h; subst h; cases ho
      | i + 1, h => simp at h, fun _ h => h, fun _ _ h => False.elim h, fun _ h => False.elim h, fun _ _ _ _ _ _ h => h⟩
  rcases h with ⟨rfl, rfl, rfl, rfl⟩ | ⟨x, rfl, hlc, hcm, hz, hcell, hwf⟩
  · exact ⟨[⟨0, 0, 0, 0⟩], .dead, .nilsl, simD _, rfl, .inl ⟨rfl, by simp⟩, by simp, Nat.zero_le _, by simp, .inl rfl⟩
  · have hlen : len = (zs.take len).length := by simp; omega
    by_cases hc : cap = 0
    · have hl0 : len = 0 := by omega
      subst hc hl0
      exact ⟨[oddLoc x], .dead, .sl 0 0 0, simD _, ⟨_, 0, x, rfl, rfl, Nat.le_refl _, odd_ok x⟩, .inr ⟨0, 0, by simp, fun i n hn => by simp at hn⟩, by simp, Nat.zero_le _, by simp, .inl rfl⟩
    refine ⟨[⟨x.block, x.off, x.off + cap, 1⟩], .ro 1 ((zs.take len).map (.int k)), .sl 0 0 (zs.take len).length, ?_, ?_, ?_, hlen, by omega, fun n hn => hwf n (List.mem_of_mem_take hn), .inr ⟨_, rfl⟩⟩
    · have h0 := hcell 0 (by omega)
      have hblk : x.block < w.heap.size := by
        have := World.block_lt_of_cell? w _ h0
        simpa [Addr.add] using this
      have hspot : x.spot = none := by
        have h1 : w.cell? x = some (.int k (zs.getD 0 0)) := by simpa [Addr.add] using h0
        unfold World.cell? at h1
        split at h1
        · split at h1
          · cases h1
          · rename_i hs; simpa using hs
        · cases h1
      refine ⟨rfl, Below.refl _ _, Nat.le_refl _, ?_, ?_, fun i j li lj ei ej _ h => by
        match i, h with
        | 0, h => simp at h
        | i + 1, h => simp at h, fun i j li lj oi oj _ h ho => by
        match i, h with
        | 0, h => simp at h; subst h; cases ho
        | i + 1, h => simp at h, fun _ h => h, fun _ _ h => False.elim h, fun _ h => False.elim h, fun _ _ _ _ _ _ h => h⟩
      · intro id o l ho hl
        match id, ho, hl with
        | 0, ho, hl =>
          obtain rfl := Option.some.inj ho
          obtain rfl := Option.some.inj hl
          refine ⟨rfl, hblk, ?_⟩
          intro j p hp
          simp only [List.getElem?_map, Option.map_eq_some_iff] at hp
          obtain ⟨n, hn, rfl⟩ := hp
          have hj : j < (zs.take len).length := (List.getElem?_eq_some_iff.1 hn).1
          have hj2 : j < zs.length := by simp at hj; omega
          refine ⟨_, ?_, rfl⟩
          have := hcell j hj2
          have hadd : x.add j = ⟨x.block, x.off + j, none⟩ := by
            cases x
            simp only at hspot
            subst hspot
            exact Addr.add_lit _ _ _
          rw [hadd] at this
          refine this.trans ?_
          rw [List.getElem?_take] at hn
          split at hn
          · simp [List.getD, hn]
          · cases hn
        | id + 1, ho, _ => simp at ho
      · intro i j li lj ei ci ej cj _ h
        match i, h with
        | 0, h => simp at h
        | i + 1, h => simp at h
    · refine ⟨_, cap, x, rfl, by rw [← hlen], by omega, .inl ⟨?_, by simp, Nat.zero_lt_one⟩⟩
      have h0 := hcell 0 (by omega)
      have hspot : x.spot = none := by
        have h1 : w.cell? x = some (.int k (zs.getD 0 0)) := by simpa [Addr.add] using h0
        unfold World.cell? at h1
        split at h1
        · split at h1
          · cases h1
          · rename_i hs; simpa using hs
        · cases h1
      cases x
      simp only at hspot
      subst hspot
      rfl
    · right
      refine ⟨0, 0, rfl, fun i n hn => ?_⟩
      have : cellsAt [PObj.ro 1 ((zs.take len).map (.int k))] 0 = (zs.take len).map (.int k) := rfl
      rw [this, List.getElem?_map, Nat.zero_add, hn]
      rfl

end Go.Proofs.YtpaehbfknlpkbaaDoor

