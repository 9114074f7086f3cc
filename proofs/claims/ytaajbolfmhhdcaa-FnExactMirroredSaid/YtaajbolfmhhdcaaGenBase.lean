/- Of each function of this seat's program its plain form over the interpreter, written by program; each equation is the kernel's. -/
import Derived.Test.YtaajbolfmhhdcaaProg
import Derived.Test.YtaajbolfmhhdcaaIp
import Derived.KernelRfl
set_option linter.unusedVariables false
set_option maxRecDepth 100000
namespace Go.Proofs.Ytaajbolfmhhdcaa.G
open Go Go.Ip Go.Proofs

def fn_laws_FnBoardOk : Nat := 3
def fn_laws_FnPositionOk : Nat := 4
def fn_laws_FnCellsOf : Nat := 5
def fn_laws_FnHalfTurned : Nat := 6
def fn_laws_FnMirrored : Nat := 7
def fn_laws_FnExactBoardOk : Nat := 8
def fn_laws_FnExactPositionOk : Nat := 9
def fn_laws_FnExactCellsOf : Nat := 10
def fn_laws_FnExactHalfTurned : Nat := 11
def fn_laws_FnExactMirrored : Nat := 12
def fn_spec_DrawBoardOk : Nat := 13
def fn_impl_BoardOk : Nat := 14
def fn_spec_BoardOk : Nat := 15
def fn_spec_DrawPositionOk : Nat := 16
def fn_impl_PositionOk : Nat := 17
def fn_spec_PositionOk : Nat := 18
def fn_laws_alive : Nat := 19
def fn_spec_DrawCellsOf : Nat := 20
def fn_impl_CellsOf : Nat := 21
def fn_laws_sameInts : Nat := 22
def fn_spec_CellsOf : Nat := 23
def fn_laws_ascend : Nat := 24
def fn_spec_DrawHalfTurned : Nat := 25
def fn_impl_HalfTurned : Nat := 26
def fn_spec_HalfTurned : Nat := 27
def fn_spec_DrawMirrored : Nat := 28
def fn_impl_Mirrored : Nat := 29
def fn_spec_Mirrored : Nat := 30
def fn_laws_toIntS : Nat := 31
def fn_laws_eqIntS : Nat := 32
def fn_laws_markIntS : Nat := 33
def fn_laws_heldIntS : Nat := 34
def fn_spec_l20Board : Nat := 35
def fn_spec_l20Open : Nat := 36
def fn_impl_sizeOk : Nat := 37
def fn_spec_l1In : Nat := 38
def fn_spec_l20Position : Nat := 39
def fn_impl_contentOk : Nat := 40
def fn_spec_l20Rd_pick : Nat := 41
def fn_impl_exchanged : Nat := 42
def fn_impl_mirroredCell : Nat := 43
def fn_spec_l1Other : Nat := 44
def fn_spec_l20Rd_odd : Nat := 45
def laws_FnBoardOk.kl : Nat → List Nat := fun n => match n with
  | 0 => [1, 2, 3, 4, 5, 6, 7, 8, 9, 10, 11, 12, 13, 14, 15, 16, 17, 18, 19, 20, 21, 22, 23, 24, 25, 26, 27, 28, 29, 30, 31, 32, 33]
  | 2 => [6, 7]
  | 4 => [0, 8]
  | 6 => [0, 8, 9, 10, 11, 12, 13]
  | 8 => [14, 15, 16]
  | 10 => [17, 18, 19, 20]
  | 12 => [3, 4, 5, 21]
  | 14 => [3, 4, 5, 21, 22, 23, 24, 25, 26, 27, 28, 29, 30, 31, 32, 33]
  | _ => []
def laws_FnPositionOk.kl : Nat → List Nat := fun n => match n with
  | 0 => [1, 2, 3, 4, 5, 6, 7, 8, 9, 10, 11, 12, 13, 14, 15, 16, 17, 18, 19, 20, 21, 22, 23, 24, 25, 26, 27, 28, 29, 30, 31, 32, 33, 34, 35, 36, 37, 38, 39, 40, 41, 42, 43, 44, 45, 46, 47, 48, 49, 50, 51, 52, 53, 54, 55, 56, 57, 58, 59, 60, 61, 62, 63, 64, 65, 66, 67, 68, 69, 70, 71, 72, 73, 74]
  | 2 => [10, 11]
  | 3 => [42]
  | 4 => [0, 12]
  | 6 => [0, 12, 13, 14, 15, 16, 17, 18]
  | 8 => [19, 20, 21, 22]
  | 10 => [23, 24, 25, 26, 27]
  | 12 => [3, 4, 5, 6, 28]
  | 14 => [28, 29, 30, 31]
  | 16 => [3, 4, 5, 6, 32, 33, 34, 35, 36, 37]
  | 18 => [32, 38]
  | 22 => [39, 40, 41]
  | 24 => [43, 44]
  | 26 => [45, 46, 47, 48]
  | 28 => [49]
  | 30 => [50]
  | 32 => [9, 50, 51, 52, 53, 54]
  | 34 => [3, 4, 5, 6, 7, 8, 42, 55, 56, 57, 58, 59, 60, 61, 62, 63, 64, 65, 66, 67, 68, 69, 70, 71, 72, 73, 74]
  | _ => []
def laws_FnCellsOf.kl : Nat → List Nat := fun n => match n with
  | 0 => [1, 2, 3, 4, 5, 6, 7, 8, 9, 10, 11, 12, 13, 14, 15, 16, 17, 18, 19, 20, 21, 22, 23, 24, 25, 26, 27, 28, 29, 30, 31, 32, 33, 34, 35, 36, 37, 38, 39, 40, 41, 42, 43, 44, 45, 46, 47, 48, 49, 50, 51, 52, 53, 54, 55, 56, 57, 58, 59, 60, 61, 62, 63, 64, 65, 66, 67, 68, 69, 70, 71, 72, 73, 74, 75, 76, 77, 78, 79, 80, 81, 82, 83, 84, 85, 86, 87, 88, 89, 90, 91, 92, 93, 94, 95]
  | 2 => [11, 12]
  | 3 => [46]
  | 4 => [0, 13]
  | 6 => [0, 13, 14, 15, 16, 17, 18, 19, 20]
  | 7 => [60]
  | 8 => [21, 22, 23, 24, 25]
  | 10 => [26, 27, 28, 29, 30, 31, 32]
  | 12 => [3, 4, 5, 6, 7, 33]
  | 14 => [33, 34, 35, 36, 37]
  | 16 => [3, 4, 5, 6, 7, 38, 39, 40, 41, 42, 43, 44]
  | 18 => [38]
  | 22 => [45]
  | 24 => [47, 48]
  | 26 => [49, 50, 51, 52, 53, 54, 55, 56]
  | 28 => [3, 4, 9, 46]
  | 30 => [57, 58, 59]
  | 32 => [61, 62, 87]
  | 34 => [63, 64, 65, 66, 67, 68, 69, 70, 71, 72, 73, 74, 75, 76, 77, 78, 79, 80, 81, 82, 83, 84, 85, 86]
  | 36 => [5, 6, 7, 8, 10, 87]
  | 38 => [5, 6, 7, 8, 10, 60, 88, 89, 90, 91, 92, 93, 94, 95]
  | _ => []
def laws_FnHalfTurned.kl : Nat → List Nat := fun n => match n with
  | 0 => [1, 2, 3, 4, 5, 6, 7, 8, 9, 10, 11, 12, 13, 14, 15, 16, 17, 18, 19, 20, 21, 22, 23, 24, 25, 26, 27, 28, 29, 30, 31, 32, 33, 34, 35, 36, 37, 38, 39, 40, 41, 42, 43, 44, 45, 46, 47, 48, 49, 50, 51, 52, 53, 54, 55, 56, 57, 58, 59, 60, 61, 62, 63, 64, 65, 66, 67, 68, 69, 70, 71, 72, 73, 74, 75]
  | 2 => [7, 8]
  | 4 => [0, 9]
  | 6 => [0, 9, 10, 11, 12, 13, 14, 15]
  | 8 => [16, 17, 18, 19]
  | 10 => [20, 21, 22, 23, 24, 25]
  | 12 => [3, 4, 5, 6, 26]
  | 14 => [26, 27, 28]
  | 16 => [3, 4, 5, 6, 29, 30, 31, 32, 33, 34, 35, 36, 37]
  | 18 => [3, 4, 5, 6, 29, 38, 39, 40, 41, 42, 43, 44, 45, 46, 47, 48, 49, 50, 51, 52, 53, 54, 55, 56, 57, 58, 59, 60, 61, 62, 63, 64, 65, 66, 67, 68, 69, 70, 71, 72, 73, 74, 75]
  | _ => []
def laws_FnMirrored.kl : Nat → List Nat := fun n => match n with
  | 0 => [1, 2, 3, 4, 5, 6, 7, 8, 9, 10, 11, 12, 13, 14, 15, 16, 17, 18, 19, 20, 21, 22, 23, 24, 25, 26, 27, 28, 29, 30, 31, 32, 33, 34, 35, 36, 37, 38, 39, 40, 41, 42, 43, 44, 45, 46, 47, 48, 49, 50, 51, 52, 53, 54, 55, 56, 57, 58, 59, 60, 61, 62]
  | 2 => [7, 8]
  | 4 => [0, 9]
  | 6 => [0, 9, 10, 11, 12, 13, 14, 15]
  | 8 => [16, 17, 18, 19]
  | 10 => [20, 21, 22, 23, 24, 25]
  | 12 => [3, 4, 5, 6, 26]
  | 14 => [26, 27, 28]
  | 16 => [3, 4, 5, 6, 29, 30, 31, 32, 33, 34, 35, 36, 37]
  | 18 => [3, 4, 5, 6, 29, 38, 39, 40, 41, 42, 43, 44, 45, 46, 47, 48, 49, 50, 51, 52, 53, 54, 55, 56, 57, 58, 59, 60, 61, 62]
  | _ => []
def laws_FnExactBoardOk.kl : Nat → List Nat := fun n => match n with
  | 0 => [2, 3, 4, 5, 6, 7, 8, 9, 10, 11, 12, 13, 14, 15]
  | 2 => [7, 8, 9]
  | 4 => [0, 1, 10, 11, 12]
  | 6 => [5, 6, 13, 14]
  | 8 => [15]
  | 10 => [15]
  | _ => []
def laws_FnExactPositionOk.kl : Nat → List Nat := fun n => match n with
  | 0 => [3, 4, 5, 6, 7, 8, 9, 10, 11, 12, 13, 14, 15, 16, 17, 18, 19, 20, 21, 22, 23, 24, 25, 26, 27, 28, 29, 30, 31]
  | 2 => [10, 11]
  | 4 => [0, 1, 2, 12]
  | 6 => [12, 13, 14, 15, 16, 17]
  | 8 => [18, 19]
  | 10 => [0, 1, 20, 21, 22, 23]
  | 12 => [7, 9, 24, 25]
  | 14 => [2, 8, 26]
  | 16 => [2, 8, 26, 27, 28, 29, 30]
  | 18 => [31]
  | 20 => [31]
  | _ => []
def laws_FnExactCellsOf.kl : Nat → List Nat := fun n => match n with
  | 0 => [4, 5, 6, 7, 8, 9, 10, 11, 12, 13, 14, 15, 16, 17, 18, 19, 20, 21, 22, 23, 24, 25, 26, 27, 28, 29, 30, 31, 32, 33, 34, 35, 36, 37, 38, 39, 40, 41, 42, 43, 44, 45, 46, 47, 48, 49, 50, 51, 52, 53, 54, 55, 56, 57, 58, 59, 60, 61, 62, 63, 64, 65, 66, 67, 68, 69, 70, 71, 72, 73, 74, 75, 76, 77, 78, 79, 80]
  | 2 => [16, 17]
  | 4 => [0, 1, 2, 3, 18]
  | 6 => [18, 19, 20, 21, 22, 23, 24]
  | 8 => [25, 26]
  | 10 => [27, 28, 29, 30, 31]
  | 12 => [32, 33, 34]
  | 14 => [0, 1, 2, 3, 9, 10, 11, 35]
  | 16 => [35, 36, 37, 38, 39]
  | 18 => [0, 1, 2, 3, 9, 10, 11, 40]
  | 20 => [40]
  | 22 => [10, 41, 42, 43]
  | 24 => [12, 44, 45, 46, 47, 48, 49, 50]
  | 26 => [0, 1, 2, 3, 9, 11, 51]
  | 28 => [51]
  | 30 => [52, 53, 54]
  | 34 => [55, 56, 57]
  | 36 => [58]
  | 38 => [0, 1, 2, 3, 9, 11, 13, 14, 59]
  | 40 => [14, 59, 60, 61]
  | 42 => [0, 1, 2, 3, 9, 11, 13, 62]
  | 44 => [0, 1, 2, 3, 62, 63, 64, 65, 66, 67, 68]
  | 46 => [9, 15, 69, 70, 71]
  | 48 => [11, 13, 72]
  | 50 => [72]
  | 52 => [11, 73, 74, 75]
  | 54 => [76]
  | 56 => [13, 14, 77]
  | 58 => [13, 14, 77, 78, 79]
  | 60 => [80]
  | 62 => [80]
  | _ => []
def laws_FnExactHalfTurned.kl : Nat → List Nat := fun n => match n with
  | 0 => [3, 4, 5, 6, 7, 8, 9, 10, 11, 12, 13, 14, 15, 16, 17, 18, 19, 20, 21, 22, 23, 24, 25, 26, 27, 28, 29, 30, 31, 32, 33, 34, 35, 36, 37, 38, 39, 40, 41, 42, 43, 44, 45, 46, 47, 48, 49, 50, 51, 52, 53, 54, 55, 56, 57, 58, 59, 60, 61, 62, 63, 64, 65, 66, 67, 68, 69, 70, 71, 72, 73, 74, 75]
  | 2 => [14, 15]
  | 4 => [0, 1, 2, 16]
  | 6 => [16, 17, 18, 19, 20, 21]
  | 8 => [22, 23]
  | 10 => [24, 25, 26, 27]
  | 12 => [28, 29, 30]
  | 14 => [0, 1, 2, 7, 8, 9, 31]
  | 16 => [31, 32, 33, 34, 35]
  | 18 => [0, 1, 2, 7, 8, 9, 36]
  | 20 => [36]
  | 22 => [8, 37, 38, 39]
  | 24 => [10, 40, 41, 42, 43, 44, 45, 46]
  | 26 => [0, 1, 2, 7, 9, 47]
  | 28 => [47]
  | 30 => [48, 49, 50]
  | 34 => [51, 52, 53]
  | 36 => [54]
  | 38 => [0, 1, 2, 7, 9, 11, 12, 55]
  | 40 => [12, 55, 56, 57]
  | 42 => [0, 1, 2, 7, 9, 11, 58]
  | 44 => [0, 1, 2, 58, 59, 60, 61, 62, 63]
  | 46 => [7, 13, 64, 65, 66]
  | 48 => [9, 11, 67]
  | 50 => [67]
  | 52 => [9, 68, 69, 70]
  | 54 => [71]
  | 56 => [11, 12, 72]
  | 58 => [11, 12, 72, 73, 74]
  | 60 => [75]
  | 62 => [75]
  | _ => []
def laws_FnExactMirrored.kl : Nat → List Nat := fun n => match n with
  | 0 => [3, 4, 5, 6, 7, 8, 9, 10, 11, 12, 13, 14, 15, 16, 17, 18, 19, 20, 21, 22, 23, 24, 25, 26, 27, 28, 29, 30, 31, 32, 33, 34, 35, 36, 37, 38, 39, 40, 41, 42, 43, 44, 45, 46, 47, 48, 49, 50, 51, 52, 53, 54, 55, 56, 57, 58, 59, 60, 61, 62, 63, 64, 65, 66, 67, 68, 69, 70, 71, 72, 73, 74, 75]
  | 2 => [14, 15]
  | 4 => [0, 1, 2, 16]
  | 6 => [16, 17, 18, 19, 20, 21]
  | 8 => [22, 23]
  | 10 => [24, 25, 26, 27]
  | 12 => [28, 29, 30]
  | 14 => [0, 1, 2, 7, 8, 9, 31]
  | 16 => [31, 32, 33, 34, 35]
  | 18 => [0, 1, 2, 7, 8, 9, 36]
  | 20 => [36]
  | 22 => [8, 37, 38, 39]
  | 24 => [10, 40, 41, 42, 43, 44, 45, 46]
  | 26 => [0, 1, 2, 7, 9, 47]
  | 28 => [47]
  | 30 => [48, 49, 50]
  | 34 => [51, 52, 53]
  | 36 => [54]
  | 38 => [0, 1, 2, 7, 9, 11, 12, 55]
  | 40 => [12, 55, 56, 57]
  | 42 => [0, 1, 2, 7, 9, 11, 58]
  | 44 => [0, 1, 2, 58, 59, 60, 61, 62, 63]
  | 46 => [7, 13, 64, 65, 66]
  | 48 => [9, 11, 67]
  | 50 => [67]
  | 52 => [9, 68, 69, 70]
  | 54 => [71]
  | 56 => [11, 12, 72]
  | 58 => [11, 12, 72, 73, 74]
  | 60 => [75]
  | 62 => [75]
  | _ => []
def spec_DrawBoardOk.kl : Nat → List Nat := fun n => match n with
  | 0 => [1, 2, 3, 4, 5, 6, 7, 8]
  | 2 => [0, 4, 5, 6, 7, 8]
  | _ => []
def impl_BoardOk.kl : Nat → List Nat := fun n => match n with
  | 0 => [2, 3, 4, 5, 6, 7, 8, 9, 10, 11, 12, 13, 14, 15, 16]
  | 2 => [0, 1, 5, 6, 7, 8, 9, 10, 11, 12, 13, 14, 15, 16]
  | _ => []
def spec_BoardOk.kl : Nat → List Nat := fun n => match n with
  | 0 => [2, 3, 4, 5, 6, 7, 8, 9, 10, 11, 12, 13, 14, 15, 16]
  | 2 => [0, 1, 5, 6, 7, 8, 9, 10, 11, 12, 13, 14, 15, 16]
  | _ => []
def spec_DrawPositionOk.kl : Nat → List Nat := fun n => match n with
  | 0 => [1, 2, 3, 4, 5, 6, 7, 8, 9, 10]
  | 2 => [0, 5, 6, 7, 8, 9, 10]
  | _ => []
def impl_PositionOk.kl : Nat → List Nat := fun n => match n with
  | 0 => [3, 4, 5, 6, 7, 8, 9, 10, 11, 12, 13, 14, 15, 16, 17, 18, 19, 20, 21, 22, 23, 24, 25, 26, 27, 28, 29, 30]
  | 2 => [0, 1, 9, 10, 11, 12, 13, 14, 15, 16, 17, 18, 19]
  | 3 => [24]
  | 4 => [2, 20]
  | 6 => [2, 20]
  | 10 => [25, 26]
  | 12 => [8, 27, 28]
  | 14 => [21, 22, 23, 29]
  | 16 => [29, 30]
  | 18 => [21, 22, 23, 24]
  | _ => []
def spec_PositionOk.kl : Nat → List Nat := fun n => match n with
  | 0 => [3, 4, 5, 6, 7, 8, 9, 10, 11, 12, 13, 14, 15, 16, 17, 18, 19, 20, 21, 22, 23, 24, 25, 26, 27, 28, 29, 30]
  | 3 => [11]
  | 4 => [8, 9, 10]
  | 6 => [12, 13, 19]
  | 8 => [14, 15, 16, 17, 18]
  | 10 => [0, 1, 2, 7, 19]
  | 12 => [0, 1, 2, 7, 11, 20, 21, 22, 23, 24, 25, 26, 27, 28, 29, 30]
  | _ => []
def laws_alive.kl : Nat → List Nat := fun n => match n with
  | 0 => [0, 1, 2, 3, 4, 5]
  | 2 => [1, 2, 3, 4, 5]
  | _ => []
def spec_DrawCellsOf.kl : Nat → List Nat := fun n => match n with
  | 0 => [1, 2, 3, 4, 5, 6, 7, 8, 9, 10, 11, 12, 13, 14, 15, 16, 17, 18, 19, 20, 21, 22, 23, 24, 25, 26, 27]
  | 2 => [0, 10, 11]
  | 4 => [12, 13, 14, 15, 16, 17]
  | 6 => [6, 7, 8, 9, 18, 19, 20, 21, 22, 23, 24, 25, 26, 27]
  | _ => []
def impl_CellsOf.kl : Nat → List Nat := fun n => match n with
  | 0 => [4, 5, 6, 7, 8, 9, 10, 11, 12, 13, 14, 15, 16, 17, 18, 19, 20, 21, 22, 23, 24, 25, 26, 27, 28, 29, 30, 31, 32, 33, 34, 35, 36, 37]
  | 2 => [0, 1, 12, 13, 14, 15, 16, 17, 18, 19, 20]
  | 3 => [25]
  | 4 => [2, 3, 21]
  | 6 => [21]
  | 8 => [2]
  | 12 => [26, 27, 28]
  | 14 => [11, 29, 30]
  | 16 => [10, 31, 32, 33, 34, 35]
  | 18 => [10, 31, 36]
  | 20 => [3, 9, 22, 23, 24, 25, 37]
  | _ => []
def laws_sameInts.kl : Nat → List Nat := fun n => match n with
  | 0 => [2, 3, 4, 5, 6, 7, 8, 9, 10, 11, 12, 13, 14, 15, 16, 17, 18, 19, 20, 21, 22, 23, 24, 25]
  | 2 => [6, 7, 8, 9]
  | 3 => [14]
  | 4 => [0, 1, 10]
  | 6 => [10]
  | 8 => [11, 12, 13]
  | 10 => [15, 16, 25]
  | 12 => [17, 18, 19, 20, 21, 22, 23, 24]
  | 14 => [0, 1, 5, 25]
  | 16 => [0, 1, 5, 14]
  | _ => []
def spec_CellsOf.kl : Nat → List Nat := fun n => match n with
  | 0 => [4, 5, 6, 7, 8, 9, 10, 11, 12, 13, 14, 15, 16, 17, 18, 19, 20, 21, 22, 23, 24, 25, 26, 27, 28, 29, 30, 31, 32, 33, 34]
  | 2 => [11]
  | 3 => [21]
  | 6 => [12, 13, 14, 15, 16, 17, 18, 19, 20]
  | 8 => [22, 23, 29]
  | 10 => [24, 25, 26, 27, 28]
  | 12 => [29, 30, 31, 32, 33]
  | 14 => [0, 1, 2, 3, 9, 10, 21, 34]
  | _ => []
def laws_ascend.kl : Nat → List Nat := fun n => match n with
  | 0 => [1, 2, 3, 4, 5, 6, 7, 8, 9, 10, 11, 12, 13, 14, 15, 16, 17, 18, 19]
  | 3 => [7]
  | 4 => [4, 5, 6]
  | 6 => [8, 9, 19]
  | 8 => [10, 11, 12, 13, 14, 15, 16, 17, 18]
  | 10 => [0, 3, 19]
  | 12 => [0, 3, 7]
  | _ => []
def spec_DrawHalfTurned.kl : Nat → List Nat := fun n => match n with
  | 0 => [1, 2, 3, 4, 5, 6, 7, 8, 9, 10]
  | 2 => [0, 5, 6, 7, 8, 9, 10]
  | _ => []
def impl_HalfTurned.kl : Nat → List Nat := fun n => match n with
  | 0 => [3, 4, 5, 6, 7, 8, 9, 10, 11, 12, 13, 14, 15, 16, 17, 18, 19, 20, 21, 22, 23, 24, 25, 26, 27, 28, 29, 30, 31, 32, 33, 34]
  | 2 => [0, 1, 10, 11, 12, 13]
  | 3 => [21]
  | 4 => [2, 14]
  | 6 => [14, 15, 16, 17]
  | 12 => [22, 23, 24]
  | 14 => [8, 9, 25, 26, 27, 28, 29, 30, 31, 32]
  | 16 => [33]
  | 18 => [2, 7, 18, 19, 20, 21, 34]
  | _ => []
def spec_HalfTurned.kl : Nat → List Nat := fun n => match n with
  | 0 => [3, 4, 5, 6, 7, 8, 9, 10, 11, 12, 13, 14, 15, 16, 17, 18, 19, 20, 21, 22, 23, 24, 25, 26, 27, 28, 29, 30]
  | 2 => [9]
  | 3 => [20]
  | 4 => [10, 11, 12]
  | 6 => [13, 14, 15, 16, 17, 18, 19]
  | 8 => [21, 22]
  | 10 => [23, 24, 25, 26, 27, 28, 29]
  | 12 => [0, 1, 2, 7, 8, 20, 30]
  | _ => []
def spec_DrawMirrored.kl : Nat → List Nat := fun n => match n with
  | 0 => [1, 2, 3, 4, 5, 6, 7, 8, 9, 10]
  | 2 => [0, 5, 6, 7, 8, 9, 10]
  | _ => []
def impl_Mirrored.kl : Nat → List Nat := fun n => match n with
  | 0 => [3, 4, 5, 6, 7, 8, 9, 10, 11, 12, 13, 14, 15, 16, 17, 18, 19, 20, 21, 22, 23, 24, 25, 26, 27, 28, 29, 30, 31, 32, 33, 34]
  | 2 => [10, 11, 12, 13]
  | 3 => [21]
  | 4 => [0, 1, 2, 14]
  | 6 => [14, 15, 16, 17]
  | 8 => [2]
  | 12 => [22, 23, 24]
  | 14 => [8, 9, 25, 26, 27, 28, 29, 30, 31, 32]
  | 16 => [33]
  | 18 => [0, 1, 7, 18, 19, 20, 21, 34]
  | _ => []
def spec_Mirrored.kl : Nat → List Nat := fun n => match n with
  | 0 => [3, 4, 5, 6, 7, 8, 9, 10, 11, 12, 13, 14, 15, 16, 17, 18, 19, 20, 21, 22, 23, 24, 25, 26, 27, 28, 29, 30, 31, 32, 33, 34, 35, 36, 37, 38]
  | 2 => [9]
  | 3 => [19]
  | 6 => [10, 11, 12, 13, 14, 15, 16, 17, 18]
  | 8 => [20, 21]
  | 10 => [22, 23, 24, 25, 26, 27, 28, 29, 30, 31, 32, 33, 34, 35, 36, 37]
  | 12 => [0, 1, 2, 7, 8, 19, 38]
  | _ => []
def laws_toIntS.kl : Nat → List Nat := fun n => match n with
  | 0 => [1, 2, 3, 4, 5, 6, 7, 8, 9, 10, 11, 12, 13, 14, 15, 16, 17, 18, 19, 20, 21]
  | 2 => [5, 6, 7]
  | 3 => [11]
  | 6 => [8, 9, 10]
  | 8 => [12, 13]
  | 10 => [14, 15, 16, 17, 18, 19, 20]
  | 12 => [0, 3, 4, 11, 21]
  | _ => []
def laws_eqIntS.kl : Nat → List Nat := fun n => match n with
  | 0 => [2, 3, 4, 5, 6, 7, 8, 9, 10, 11, 12, 13, 14, 15, 16, 17, 18, 19, 20, 21, 22, 23, 24, 25]
  | 2 => [6, 7, 8, 9]
  | 3 => [14]
  | 4 => [0, 1, 10]
  | 6 => [10]
  | 8 => [11, 12, 13]
  | 10 => [15, 16, 25]
  | 12 => [17, 18, 19, 20, 21, 22, 23, 24]
  | 14 => [0, 1, 5, 25]
  | 16 => [0, 1, 5, 14]
  | _ => []
def laws_markIntS.kl : Nat → List Nat := fun n => match n with
  | 0 => [2, 3, 4, 5, 6, 7, 8, 9, 10, 11, 12, 13, 14, 15, 16, 17, 18]
  | 3 => [9]
  | 4 => [6, 7, 8]
  | 6 => [10, 11]
  | 8 => [12, 13, 14, 15]
  | 10 => [16, 17]
  | 12 => [0, 1, 5, 9, 18]
  | _ => []
def laws_heldIntS.kl : Nat → List Nat := fun n => match n with
  | 0 => [2, 3, 4, 5, 6, 7, 8, 9, 10, 11, 12, 13, 14, 15, 16, 17, 18, 19, 20]
  | 3 => [9]
  | 4 => [6, 7, 8]
  | 6 => [10, 11]
  | 8 => [12, 13, 14, 15, 16]
  | 10 => [0, 1, 5, 17]
  | 12 => [17, 18, 19]
  | 14 => [0, 1, 5, 9, 20]
  | _ => []
def spec_l20Board.kl : Nat → List Nat := fun n => match n with
  | 0 => [2, 3, 4, 5, 6, 7, 8, 9, 10, 11, 12, 13, 14, 15, 16, 17, 18, 19, 20, 21, 22, 23, 24, 25, 26, 27, 28, 29, 30, 31, 32, 33, 34, 35, 36, 37, 38, 39, 40, 41, 42, 43]
  | 2 => [7, 8, 9, 10, 11, 12, 13, 14, 15, 16, 17, 18, 19, 20, 21, 22, 23, 24]
  | 4 => [1, 25, 26]
  | 6 => [0, 27, 28, 29, 30, 31, 32, 33, 34, 35, 36, 37]
  | 8 => [0, 6, 27, 38, 39, 40, 41, 42, 43]
  | _ => []
def spec_l20Open.kl : Nat → List Nat := fun n => match n with
  | 0 => [1, 2, 3, 4, 5, 6, 7, 8, 9, 10]
  | 2 => [3, 4]
  | 4 => [5, 6, 7]
  | 6 => [0, 5, 8, 9, 10]
  | _ => []
def impl_sizeOk.kl : Nat → List Nat := fun n => match n with
  | 0 => [1, 2, 3, 4, 5, 6, 7, 8]
  | 2 => [0, 3, 4, 5, 6, 7, 8]
  | _ => []
def spec_l1In.kl : Nat → List Nat := fun n => match n with
  | 0 => [3, 4, 5, 6, 7, 8, 9, 10, 11, 12, 13, 14]
  | 2 => [0, 1, 2, 7, 8, 9, 10, 11, 12, 13, 14]
  | _ => []
def spec_l20Position.kl : Nat → List Nat := fun n => match n with
  | 0 => [2, 3, 4, 5, 6, 7, 8, 9, 10, 11, 12, 13, 14, 15, 16, 17, 18, 19, 20, 21, 22, 23, 24, 25, 26, 27, 28, 29, 30, 31, 32, 33, 34, 35, 36, 37, 38, 39, 40, 41, 42, 43, 44, 45, 46, 47, 48, 49, 50, 51, 52, 53, 54, 55, 56, 57, 58, 59, 60, 61, 62, 63, 64, 65, 66, 67, 68, 69, 70, 71, 72]
  | 2 => [13, 14, 15, 16, 17, 18, 19]
  | 3 => [32]
  | 4 => [20]
  | 6 => [21, 22]
  | 10 => [23, 24, 25, 26, 27, 28, 29, 30, 31]
  | 12 => [33, 34]
  | 14 => [35, 36]
  | 16 => [37, 38, 39, 40, 41, 42, 43]
  | 18 => [44]
  | 20 => [12, 44, 45, 46, 47, 48]
  | 22 => [1, 10, 11, 32, 49, 50, 51]
  | 24 => [52, 53]
  | 26 => [55, 56, 65]
  | 28 => [0, 57, 58, 59, 60, 61, 62, 63, 64]
  | 30 => [54, 66]
  | 32 => [0, 65, 67, 68, 69]
  | 34 => [0, 7, 8, 9, 52, 57, 70, 71, 72]
  | _ => []
def impl_contentOk.kl : Nat → List Nat := fun n => match n with
  | 0 => [1, 2, 3, 4, 5, 6, 7, 8, 9, 10, 11, 12]
  | 2 => [0, 3, 4, 5, 6, 7, 8, 9, 10, 11, 12]
  | _ => []
def spec_l20Rd_pick.kl : Nat → List Nat := fun n => match n with
  | 0 => [2, 3, 4, 5, 6, 7, 8, 9, 10, 11, 12, 13, 14, 15, 16, 17, 18, 19, 20, 21, 22, 23, 24, 25, 26, 27, 28, 29, 30, 31, 32, 33, 34, 35, 36, 37, 38, 39, 40, 41, 42, 43, 44, 45, 46, 47, 48, 49, 50, 51, 52, 53, 54, 55, 56, 57, 58, 59, 60, 61, 62, 63, 64, 65, 66, 67, 68, 69, 70, 71, 72, 73, 74, 75, 76, 77, 78, 79, 80, 81, 82, 83, 84, 85, 86, 87, 88, 89, 90, 91, 92, 93, 94, 95, 96, 97, 98]
  | 2 => [7, 8, 9, 10, 11, 12, 13, 14]
  | 4 => [15, 16, 17, 18, 19, 20, 21, 22, 23]
  | 6 => [0, 1, 24]
  | 8 => [24, 25, 26, 27, 28, 29]
  | 10 => [30, 31, 32, 33, 34, 35]
  | 12 => [0, 1, 5, 36, 37, 38, 39, 40, 41, 42, 43, 44, 45, 46]
  | 14 => [0, 5, 36, 47, 48, 49, 50, 51, 52, 53, 54, 55, 56, 57, 58, 59, 60, 61, 62, 63, 64, 65, 66, 67, 68, 69, 70, 71, 72, 73, 74, 75, 76, 77, 78, 79, 80, 81, 82, 83, 84, 85, 86, 87, 88, 89, 90, 91]
  | 16 => [92, 93, 94, 95]
  | 18 => [1, 6, 96, 97, 98]
  | _ => []
def impl_exchanged.kl : Nat → List Nat := fun n => match n with
  | 0 => [1, 2, 3, 4, 5, 6, 7, 8]
  | 4 => [5]
  | 6 => [0, 3, 4]
  | 8 => [3, 4, 7]
  | 10 => [0, 6]
  | 12 => [0, 6, 8]
  | _ => []
def impl_mirroredCell.kl : Nat → List Nat := fun n => match n with
  | 0 => [3, 4, 5, 6, 7, 8, 9, 10, 11, 12, 13, 14, 15]
  | 2 => [0, 1, 2, 7, 8, 9, 10, 11, 12, 13, 14, 15]
  | _ => []
def spec_l1Other.kl : Nat → List Nat := fun n => match n with
  | 0 => [1, 2, 3, 4, 5, 6]
  | 2 => [3]
  | 4 => [0, 4]
  | 6 => [0, 4, 5, 6]
  | _ => []
def spec_l20Rd_odd.kl : Nat → List Nat := fun n => match n with
  | 0 => [2, 3, 4, 5, 6, 7, 8, 9, 10, 11, 12, 13, 14]
  | 2 => [0, 1, 5, 6, 7, 8, 9, 10, 11, 12, 13, 14]
  | _ => []
def KL : FuncId → Nat → List Nat := fun f => match f with
  | 3 => laws_FnBoardOk.kl
  | 4 => laws_FnPositionOk.kl
  | 5 => laws_FnCellsOf.kl
  | 6 => laws_FnHalfTurned.kl
  | 7 => laws_FnMirrored.kl
  | 8 => laws_FnExactBoardOk.kl
  | 9 => laws_FnExactPositionOk.kl
  | 10 => laws_FnExactCellsOf.kl
  | 11 => laws_FnExactHalfTurned.kl
  | 12 => laws_FnExactMirrored.kl
  | 13 => spec_DrawBoardOk.kl
  | 14 => impl_BoardOk.kl
  | 15 => spec_BoardOk.kl
  | 16 => spec_DrawPositionOk.kl
  | 17 => impl_PositionOk.kl
  | 18 => spec_PositionOk.kl
  | 19 => laws_alive.kl
  | 20 => spec_DrawCellsOf.kl
  | 21 => impl_CellsOf.kl
  | 22 => laws_sameInts.kl
  | 23 => spec_CellsOf.kl
  | 24 => laws_ascend.kl
  | 25 => spec_DrawHalfTurned.kl
  | 26 => impl_HalfTurned.kl
  | 27 => spec_HalfTurned.kl
  | 28 => spec_DrawMirrored.kl
  | 29 => impl_Mirrored.kl
  | 30 => spec_Mirrored.kl
  | 31 => laws_toIntS.kl
  | 32 => laws_eqIntS.kl
  | 33 => laws_markIntS.kl
  | 34 => laws_heldIntS.kl
  | 35 => spec_l20Board.kl
  | 36 => spec_l20Open.kl
  | 37 => impl_sizeOk.kl
  | 38 => spec_l1In.kl
  | 39 => spec_l20Position.kl
  | 40 => impl_contentOk.kl
  | 41 => spec_l20Rd_pick.kl
  | 42 => impl_exchanged.kl
  | 43 => impl_mirroredCell.kl
  | 44 => spec_l1Other.kl
  | 45 => spec_l20Rd_odd.kl
  | _ => fun _ => []
noncomputable def CL (g : Nat → PV) (lf n : Nat) : FuncId → List PV → PHeap → Res := call Try.prog g KL lf n
noncomputable def env (g : Nat → PV) (lf n : Nat) : Env := ⟨g, lf, CL g lf n, std Try.prog⟩
@[simp] theorem env_C (g : Nat → PV) (lf n : Nat) : (env g lf n).C = CL g lf n := rfl
@[simp] theorem env_g (g : Nat → PV) (lf n : Nat) : (env g lf n).g = g := rfl
@[simp] theorem env_lf (g : Nat → PV) (lf n : Nat) : (env g lf n).lf = lf := rfl
@[simp] theorem env_pick (g : Nat → PV) (lf n : Nat) : (env g lf n).p.pick = pickP := rfl
@[simp] theorem env_alloc (g : Nat → PV) (lf n : Nat) : (env g lf n).p.alloc = allocP Try.prog := rfl
@[simp] theorem env_box (g : Nat → PV) (lf n : Nat) : (env g lf n).p.box = boxP := rfl
@[simp] theorem env_build (g : Nat → PV) (lf n : Nat) : (env g lf n).p.build = buildP Try.prog := rfl
@[simp] theorem env_buildSlice (g : Nat → PV) (lf n : Nat) : (env g lf n).p.buildSlice = buildSliceP Try.prog := rfl
@[simp] theorem env_load (g : Nat → PV) (lf n : Nat) : (env g lf n).p.load = loadP Try.prog := rfl
@[simp] theorem env_store (g : Nat → PV) (lf n : Nat) : (env g lf n).p.store = storeP Try.prog := rfl
@[simp] theorem env_ptr (g : Nat → PV) (lf n : Nat) : (env g lf n).p.ptr = ptrP := rfl
@[simp] theorem env_bin (g : Nat → PV) (lf n : Nat) : (env g lf n).p.bin = binP Try.prog := rfl
@[simp] theorem env_un (g : Nat → PV) (lf n : Nat) : (env g lf n).p.un = unP := rfl
@[simp] theorem env_conv (g : Nat → PV) (lf n : Nat) : (env g lf n).p.conv = convP Try.prog := rfl
@[simp] theorem env_make (g : Nat → PV) (lf n : Nat) : (env g lf n).p.make = makeP Try.prog := rfl
@[simp] theorem env_slice (g : Nat → PV) (lf n : Nat) : (env g lf n).p.slice = sliceP Try.prog := rfl
@[simp] theorem env_fieldAddr (g : Nat → PV) (lf n : Nat) : (env g lf n).p.fieldAddr = fieldAddrP Try.prog := rfl
@[simp] theorem env_field (g : Nat → PV) (lf n : Nat) : (env g lf n).p.field = fieldP Try.prog := rfl
@[simp] theorem env_indexAddr (g : Nat → PV) (lf n : Nat) : (env g lf n).p.indexAddr = indexAddrP Try.prog := rfl
@[simp] theorem env_index (g : Nat → PV) (lf n : Nat) : (env g lf n).p.index = indexP Try.prog := rfl
@[simp] theorem env_extract (g : Nat → PV) (lf n : Nat) : (env g lf n).p.extract = extractP := rfl
@[simp] theorem env_len (g : Nat → PV) (lf n : Nat) : (env g lf n).p.len = lenP Try.prog := rfl
@[simp] theorem env_append (g : Nat → PV) (lf n : Nat) : (env g lf n).p.append = appendP Try.prog := rfl
@[simp] theorem env_max (g : Nat → PV) (lf n : Nat) : (env g lf n).p.max = foldP maxP2 := rfl
@[simp] theorem env_min (g : Nat → PV) (lf n : Nat) : (env g lf n).p.min = foldP minP2 := rfl
end Go.Proofs.Ytaajbolfmhhdcaa.G
