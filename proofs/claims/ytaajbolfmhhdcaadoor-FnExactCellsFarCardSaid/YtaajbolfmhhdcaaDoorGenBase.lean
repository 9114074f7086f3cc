/- Of each function of this seat's program its plain form over the interpreter, written by program; each equation is the kernel's. -/
import Derived.Test.YtaajbolfmhhdcaaDoorProg
import Derived.Test.YtaajbolfmhhdcaaDoorIp
import Derived.KernelRfl
set_option linter.unusedVariables false
set_option maxRecDepth 100000
namespace Go.Proofs.YtaajbolfmhhdcaaDoor.G
open Go Go.Ip Go.Proofs

def fn_laws_FnNearCells : Nat := 3
def fn_laws_FnCellsFar : Nat := 4
def fn_laws_FnNearCount : Nat := 5
def fn_laws_FnExactNearCells : Nat := 6
def fn_laws_FnExactCellsFar : Nat := 7
def fn_spec_DrawNearCells : Nat := 8
def fn_impl_NearCells : Nat := 9
def fn_laws_sameInts : Nat := 10
def fn_spec_NearCells : Nat := 11
def fn_spec_BoardOk : Nat := 12
def fn_laws_alive : Nat := 13
def fn_laws_hasInt : Nat := 14
def fn_laws_ascend : Nat := 15
def fn_spec_DrawCellsFar : Nat := 16
def fn_impl_CellsFar : Nat := 17
def fn_spec_CellsFar : Nat := 18
def fn_spec_DrawBoardOk : Nat := 19
def fn_impl_BoardOk : Nat := 20
def fn_laws_eqIntS : Nat := 21
def fn_laws_markIntS : Nat := 22
def fn_laws_heldIntS : Nat := 23
def fn_spec_l20Open : Nat := 24
def fn_spec_l20Board : Nat := 25
def fn_spec_l20Rd_pick : Nat := 26
def fn_impl_cellOk : Nat := 27
def fn_spec_l1In : Nat := 28
def fn_spec_l1Near : Nat := 29
def fn_impl_withNear : Nat := 30
def fn_impl_sizeOk : Nat := 31
def fn_spec_l20Rd_odd : Nat := 32
def laws_FnNearCells.kl : Nat → List Nat := fun n => match n with
  | 0 => [1, 2, 3, 4, 5, 6, 7, 8, 9, 10, 11, 12, 13, 14, 15, 16, 17, 18, 19, 20, 21, 22, 23, 24, 25, 26, 27, 28, 29, 30, 31, 32, 33, 34, 35, 36, 37, 38, 39, 40, 41, 42, 43, 44, 45, 46, 47, 48, 49, 50, 51, 52, 53, 54, 55, 56, 57, 58, 59, 60, 61, 62, 63, 64, 65, 66, 67, 68, 69, 70, 71, 72, 73, 74, 75, 76, 77, 78, 79, 80, 81, 82, 83, 84, 85, 86, 87, 88, 89, 90, 91, 92, 93, 94, 95, 96, 97, 98, 99, 100, 101, 102, 103, 104, 105, 106, 107, 108, 109, 110, 111, 112]
  | 2 => [10, 11]
  | 3 => [64]
  | 4 => [0, 12]
  | 6 => [0, 12, 13, 14, 15, 16, 17, 18]
  | 8 => [19, 20, 21, 22]
  | 10 => [23, 24, 25, 26, 27, 28]
  | 12 => [3, 4, 5, 6, 29]
  | 14 => [29, 30, 31, 32, 33, 34, 35, 36, 37, 38, 39, 40, 41, 42, 43]
  | 16 => [3, 4, 5, 6, 44, 45, 46, 47, 48, 49, 50]
  | 18 => [44, 51, 52, 53, 54]
  | 20 => [55, 56, 57, 58, 59, 60]
  | 24 => [61, 62, 63]
  | 26 => [65, 66, 95]
  | 28 => [67, 68, 69, 70, 71, 72, 73, 74, 75, 76, 77, 78, 79, 80, 81, 82, 83, 84, 85, 86, 87, 88, 89, 90, 91, 92, 93, 94]
  | 30 => [3, 4, 5, 6, 7, 8, 9, 95]
  | 32 => [3, 4, 5, 6, 7, 8, 9, 64, 96, 97, 98, 99, 100, 101, 102, 103, 104, 105, 106, 107, 108, 109, 110, 111, 112]
  | _ => []
def laws_FnCellsFar.kl : Nat → List Nat := fun n => match n with
  | 0 => [1, 2, 3, 4, 5, 6, 7, 8, 9, 10, 11, 12, 13, 14, 15, 16, 17, 18, 19, 20, 21, 22, 23, 24, 25, 26, 27, 28, 29, 30, 31, 32, 33, 34, 35, 36, 37, 38, 39, 40, 41, 42, 43, 44, 45, 46, 47, 48, 49, 50, 51, 52, 53, 54, 55, 56, 57, 58, 59, 60, 61, 62, 63, 64, 65, 66, 67, 68, 69, 70, 71, 72, 73, 74, 75, 76, 77, 78, 79, 80, 81, 82, 83, 84, 85, 86, 87, 88, 89, 90, 91, 92, 93, 94, 95, 96, 97, 98, 99, 100, 101, 102, 103, 104, 105, 106, 107]
  | 2 => [12, 13]
  | 3 => [48]
  | 4 => [0, 14]
  | 6 => [0, 14, 15, 16, 17, 18, 19, 20, 21]
  | 8 => [22, 23, 24, 25, 26]
  | 10 => [27, 28, 29, 30, 31, 32]
  | 12 => [3, 4, 5, 6, 7, 33]
  | 14 => [33, 34]
  | 16 => [3, 4, 5, 6, 7, 35, 36, 37, 38, 39, 40]
  | 18 => [35, 41, 42, 43, 44]
  | 24 => [45, 46, 47]
  | 26 => [49, 50]
  | 28 => [51, 52, 53, 54, 55, 56, 57, 58]
  | 30 => [59, 60, 61, 62, 63, 64, 65, 66, 67]
  | 32 => [3, 4, 5, 6, 7, 8, 9, 10, 11, 68]
  | 34 => [11, 68, 69, 70, 71]
  | 36 => [3, 4, 5, 6, 7, 8, 9, 10, 48, 72, 73, 74, 75, 76, 77, 78, 79, 80, 81, 82, 83, 84, 85, 86, 87, 88, 89, 90, 91, 92, 93, 94, 95, 96, 97, 98, 99, 100, 101, 102, 103, 104, 105, 106, 107]
  | _ => []
def laws_FnNearCount.kl : Nat → List Nat := fun n => match n with
  | 0 => [1, 2, 3, 4, 5, 6, 7, 8, 9, 10, 11, 12, 13, 14, 15, 16, 17, 18, 19, 20, 21, 22, 23, 24, 25, 26, 27, 28, 29, 30, 31, 32, 33, 34, 35, 36, 37, 38, 39, 40, 41, 42, 43, 44, 45, 46, 47, 48, 49, 50, 51, 52, 53, 54, 55, 56, 57, 58, 59, 60]
  | 2 => [7, 8]
  | 3 => [30]
  | 4 => [0, 9]
  | 6 => [0, 9, 10, 11, 12, 13, 14]
  | 8 => [15, 16, 17]
  | 10 => [3, 4, 18, 19, 20, 21, 22, 23, 24, 25]
  | 12 => [18]
  | 16 => [26, 27, 28, 29]
  | 18 => [31, 32]
  | 20 => [33, 34, 35, 36, 37, 38, 39]
  | 22 => [3, 4, 5, 6, 30, 40, 41, 42, 43, 44, 45, 46, 47, 48, 49, 50, 51, 52, 53, 54, 55, 56, 57, 58, 59, 60]
  | _ => []
def laws_FnExactNearCells.kl : Nat → List Nat := fun n => match n with
  | 0 => [3, 4, 5, 6, 7, 8, 9, 10, 11, 12, 13, 14, 15, 16, 17, 18, 19, 20, 21, 22, 23, 24, 25, 26, 27, 28, 29, 30, 31, 32, 33, 34, 35, 36, 37, 38, 39, 40, 41, 42, 43, 44, 45, 46, 47, 48, 49, 50]
  | 2 => [12, 13, 14, 15]
  | 4 => [16, 17, 18, 19]
  | 6 => [20, 21, 22]
  | 8 => [0, 1, 2, 7, 8, 23]
  | 10 => [23]
  | 12 => [24, 25, 26]
  | 16 => [27, 28, 29]
  | 18 => [30]
  | 20 => [0, 1, 2, 7, 8, 9, 10, 31]
  | 22 => [10, 31, 32, 33]
  | 24 => [0, 1, 2, 7, 8, 9, 34]
  | 26 => [0, 1, 2, 34, 35, 36, 37, 38]
  | 28 => [7, 11, 39, 40, 41]
  | 30 => [8, 9, 42]
  | 32 => [42]
  | 34 => [8, 43, 44, 45]
  | 36 => [46]
  | 38 => [9, 10, 47]
  | 40 => [9, 10, 47, 48, 49]
  | 42 => [50]
  | 44 => [50]
  | _ => []
def laws_FnExactCellsFar.kl : Nat → List Nat := fun n => match n with
  | 0 => [4, 5, 6, 7, 8, 9, 10, 11, 12, 13, 14, 15, 16, 17, 18, 19, 20, 21, 22, 23]
  | 2 => [11, 12, 13, 14, 15]
  | 4 => [0, 1, 2, 3, 16, 17, 18, 19, 20]
  | 6 => [9, 10, 21, 22]
  | 8 => [23]
  | 10 => [23]
  | _ => []
def spec_DrawNearCells.kl : Nat → List Nat := fun n => match n with
  | 0 => [1, 2, 3, 4, 5, 6, 7, 8, 9, 10, 11, 12, 13, 14, 15, 16, 17, 18, 19, 20, 21, 22, 23, 24, 25, 26, 27, 28, 29, 30, 31, 32]
  | 2 => [0, 8, 9]
  | 4 => [10, 11, 12, 13, 14]
  | 6 => [5, 6, 7, 15, 16, 17, 18, 19, 20, 21, 22, 23, 24, 25, 26, 27, 28, 29, 30, 31, 32]
  | _ => []
def impl_NearCells.kl : Nat → List Nat := fun n => match n with
  | 0 => [3, 4, 5, 6, 7, 8, 9, 10, 11, 12, 13, 14, 15, 16, 17, 18, 19, 20, 21, 22, 23, 24, 25, 26, 27, 28, 29, 30, 31, 32, 33, 34, 35, 36, 37, 38, 39, 40, 41, 42, 43, 44, 45, 46, 47, 48, 49, 50, 51, 52, 53, 54, 55, 56, 57, 58]
  | 2 => [12, 13, 14, 15]
  | 3 => [19]
  | 4 => [0, 1, 2, 16]
  | 6 => [16]
  | 12 => [20]
  | 14 => [21, 22, 23, 24, 25, 26]
  | 16 => [9, 27, 28, 29, 30, 31, 32]
  | 18 => [33, 34, 35, 36, 37, 38, 39, 40, 41, 42, 43, 44, 45, 46, 47]
  | 20 => [10, 11, 48, 49, 50, 51, 52, 53, 54, 55, 56]
  | 22 => [10, 11, 48, 57]
  | 24 => [0, 1, 2, 7, 17, 18, 19, 58]
  | _ => []
def laws_sameInts.kl : Nat → List Nat := fun n => match n with
  | 0 => [2, 3, 4, 5, 6, 7, 8, 9, 10, 11, 12, 13, 14, 15, 16, 17, 18, 19, 20, 21, 22, 23, 24, 25]
  | 2 => [6, 7, 8, 9]
  | 3 => [14]
  | 4 => [0, 1, 10]
  | 6 => [10]
  | 8 => [11, 12, 13]
  | 10 => [15, 16, 25]
  | 12 => [17, 18, 19, 20, 21, 22, 23, 24]
  | 14 => [0, 1, 5, 25]
  | 16 => [0, 1, 5, 14]
  | _ => []
def spec_NearCells.kl : Nat → List Nat := fun n => match n with
  | 0 => [3, 4, 5, 6, 7, 8, 9, 10, 11, 12, 13, 14, 15, 16, 17, 18, 19, 20, 21, 22, 23, 24]
  | 2 => [7, 8, 9, 10, 11, 12, 13, 14, 15, 16, 17, 18]
  | 4 => [0, 1, 2, 19, 20]
  | 6 => [0, 1, 2, 19, 21, 22, 23, 24]
  | _ => []
def spec_BoardOk.kl : Nat → List Nat := fun n => match n with
  | 0 => [2, 3, 4, 5, 6, 7, 8, 9, 10, 11, 12, 13, 14, 15, 16]
  | 2 => [0, 1, 5, 6, 7, 8, 9, 10, 11, 12, 13, 14, 15, 16]
  | _ => []
def laws_alive.kl : Nat → List Nat := fun n => match n with
  | 0 => [0, 1, 2, 3, 4, 5]
  | 2 => [1, 2, 3, 4, 5]
  | _ => []
def laws_hasInt.kl : Nat → List Nat := fun n => match n with
  | 0 => [2, 3, 4, 5, 6, 7, 8, 9, 10, 11, 12, 13, 14, 15, 16, 17]
  | 3 => [9]
  | 4 => [6, 7, 8]
  | 6 => [10, 11, 17]
  | 8 => [12, 13, 14, 15, 16]
  | 10 => [0, 1, 5, 17]
  | 12 => [0, 1, 5, 9]
  | _ => []
def laws_ascend.kl : Nat → List Nat := fun n => match n with
  | 0 => [1, 2, 3, 4, 5, 6, 7, 8, 9, 10, 11, 12, 13, 14, 15, 16, 17, 18, 19]
  | 3 => [7]
  | 4 => [4, 5, 6]
  | 6 => [8, 9, 19]
  | 8 => [10, 11, 12, 13, 14, 15, 16, 17, 18]
  | 10 => [0, 3, 19]
  | 12 => [0, 3, 7]
  | _ => []
def spec_DrawCellsFar.kl : Nat → List Nat := fun n => match n with
  | 0 => [1, 2, 3, 4, 5, 6, 7, 8, 9, 10, 11, 12, 13, 14, 15, 16, 17, 18, 19, 20, 21, 22, 23, 24, 25, 26, 27, 28, 29, 30, 31, 32, 33, 34, 35, 36, 37, 38]
  | 2 => [0, 10, 11]
  | 4 => [12, 13, 14, 15, 16]
  | 6 => [17, 18, 19, 20]
  | 8 => [6, 7, 8, 9, 21, 22, 23, 24, 25, 26, 27, 28, 29, 30, 31, 32, 33, 34, 35, 36, 37, 38]
  | _ => []
def impl_CellsFar.kl : Nat → List Nat := fun n => match n with
  | 0 => [4, 5, 6, 7, 8, 9, 10, 11, 12, 13, 14, 15, 16, 17, 18, 19, 20, 21, 22, 23, 24, 25, 26, 27, 28, 29, 30, 31, 32, 33, 34, 35, 36, 37, 38, 39, 40, 41]
  | 2 => [11, 12, 13, 14, 15, 16, 17, 18, 19, 20, 21]
  | 3 => [29]
  | 4 => [0, 1, 2, 3, 22]
  | 6 => [2, 22, 23, 24]
  | 8 => [25, 26]
  | 12 => [30]
  | 14 => [31, 32, 33, 34]
  | 16 => [0, 1, 3, 9, 10, 27, 28, 35, 36]
  | 18 => [10, 35, 37, 38, 39, 40]
  | 20 => [41]
  | 22 => [0, 1, 3, 9, 27, 28, 29]
  | _ => []
def spec_CellsFar.kl : Nat → List Nat := fun n => match n with
  | 0 => [4, 5, 6, 7, 8, 9, 10, 11, 12, 13, 14, 15, 16, 17, 18, 19, 20, 21, 22, 23, 24, 25, 26, 27, 28, 29, 30, 31, 32, 33, 34, 35, 36, 37, 38, 39, 40, 41, 42, 43, 44, 45, 46, 47, 48, 49, 50, 51, 52, 53, 54, 55, 56, 57, 58, 59, 60, 61]
  | 2 => [0, 11, 12, 13, 14, 15, 16, 17, 18, 19, 20, 21, 22, 23, 24, 25, 26, 27, 28, 29, 30, 31]
  | 4 => [1, 2, 3, 32]
  | 6 => [32, 33, 34, 35, 36, 37, 38, 39]
  | 8 => [1, 2, 3, 40, 41, 42, 43, 44, 45, 46]
  | 10 => [47]
  | 12 => [48, 49, 50]
  | 14 => [51, 52]
  | 16 => [48, 53]
  | 18 => [9, 10, 54, 55, 56, 57]
  | 20 => [9, 10, 54, 58, 59, 60, 61]
  | _ => []
def spec_DrawBoardOk.kl : Nat → List Nat := fun n => match n with
  | 0 => [1, 2, 3, 4, 5, 6, 7, 8]
  | 2 => [0, 4, 5, 6, 7, 8]
  | _ => []
def impl_BoardOk.kl : Nat → List Nat := fun n => match n with
  | 0 => [2, 3, 4, 5, 6, 7, 8, 9, 10, 11, 12, 13, 14, 15, 16]
  | 2 => [0, 1, 5, 6, 7, 8, 9, 10, 11, 12, 13, 14, 15, 16]
  | _ => []
def laws_eqIntS.kl : Nat → List Nat := fun n => match n with
  | 0 => [2, 3, 4, 5, 6, 7, 8, 9, 10, 11, 12, 13, 14, 15, 16, 17, 18, 19, 20, 21, 22, 23, 24, 25]
  | 2 => [6, 7, 8, 9]
  | 3 => [14]
  | 4 => [0, 1, 10]
  | 6 => [10]
  | 8 => [11, 12, 13]
  | 10 => [15, 16, 25]
  | 12 => [17, 18, 19, 20, 21, 22, 23, 24]
  | 14 => [0, 1, 5, 25]
  | 16 => [0, 1, 5, 14]
  | _ => []
def laws_markIntS.kl : Nat → List Nat := fun n => match n with
  | 0 => [2, 3, 4, 5, 6, 7, 8, 9, 10, 11, 12, 13, 14, 15, 16, 17, 18]
  | 3 => [9]
  | 4 => [6, 7, 8]
  | 6 => [10, 11]
  | 8 => [12, 13, 14, 15]
  | 10 => [16, 17]
  | 12 => [0, 1, 5, 9, 18]
  | _ => []
def laws_heldIntS.kl : Nat → List Nat := fun n => match n with
  | 0 => [2, 3, 4, 5, 6, 7, 8, 9, 10, 11, 12, 13, 14, 15, 16, 17, 18, 19, 20]
  | 3 => [9]
  | 4 => [6, 7, 8]
  | 6 => [10, 11]
  | 8 => [12, 13, 14, 15, 16]
  | 10 => [0, 1, 5, 17]
  | 12 => [17, 18, 19]
  | 14 => [0, 1, 5, 9, 20]
  | _ => []
def spec_l20Open.kl : Nat → List Nat := fun n => match n with
  | 0 => [1, 2, 3, 4, 5, 6, 7, 8, 9, 10]
  | 2 => [3, 4]
  | 4 => [5, 6, 7]
  | 6 => [0, 5, 8, 9, 10]
  | _ => []
def spec_l20Board.kl : Nat → List Nat := fun n => match n with
  | 0 => [2, 3, 4, 5, 6, 7, 8, 9, 10, 11, 12, 13, 14, 15, 16, 17, 18, 19, 20, 21, 22, 23, 24, 25, 26, 27, 28, 29, 30, 31, 32, 33, 34, 35, 36, 37, 38, 39, 40, 41, 42, 43]
  | 2 => [7, 8, 9, 10, 11, 12, 13, 14, 15, 16, 17, 18, 19, 20, 21, 22, 23, 24]
  | 4 => [1, 25, 26]
  | 6 => [0, 27, 28, 29, 30, 31, 32, 33, 34, 35, 36, 37]
  | 8 => [0, 6, 27, 38, 39, 40, 41, 42, 43]
  | _ => []
def spec_l20Rd_pick.kl : Nat → List Nat := fun n => match n with
  | 0 => [2, 3, 4, 5, 6, 7, 8, 9, 10, 11, 12, 13, 14, 15, 16, 17, 18, 19, 20, 21, 22, 23, 24, 25, 26, 27, 28, 29, 30, 31, 32, 33, 34, 35, 36, 37, 38, 39, 40, 41, 42, 43, 44, 45, 46, 47, 48, 49, 50, 51, 52, 53, 54, 55, 56, 57, 58, 59, 60, 61, 62, 63, 64, 65, 66, 67, 68, 69, 70, 71, 72, 73, 74, 75, 76, 77, 78, 79, 80, 81, 82, 83, 84, 85, 86, 87, 88, 89, 90, 91, 92, 93, 94, 95, 96, 97, 98]
  | 2 => [7, 8, 9, 10, 11, 12, 13, 14]
  | 4 => [15, 16, 17, 18, 19, 20, 21, 22, 23]
  | 6 => [0, 1, 24]
  | 8 => [24, 25, 26, 27, 28, 29]
  | 10 => [30, 31, 32, 33, 34, 35]
  | 12 => [0, 1, 5, 36, 37, 38, 39, 40, 41, 42, 43, 44, 45, 46]
  | 14 => [0, 5, 36, 47, 48, 49, 50, 51, 52, 53, 54, 55, 56, 57, 58, 59, 60, 61, 62, 63, 64, 65, 66, 67, 68, 69, 70, 71, 72, 73, 74, 75, 76, 77, 78, 79, 80, 81, 82, 83, 84, 85, 86, 87, 88, 89, 90, 91]
  | 16 => [92, 93, 94, 95]
  | 18 => [1, 6, 96, 97, 98]
  | _ => []
def impl_cellOk.kl : Nat → List Nat := fun n => match n with
  | 0 => [3, 4, 5, 6, 7, 8, 9, 10, 11, 12, 13, 14, 15, 16, 17, 18, 19, 20]
  | 2 => [0, 1, 2, 7, 8, 9, 10, 11, 12, 13, 14, 15, 16, 17, 18, 19, 20]
  | _ => []
def spec_l1In.kl : Nat → List Nat := fun n => match n with
  | 0 => [3, 4, 5, 6, 7, 8, 9, 10, 11, 12, 13, 14]
  | 2 => [0, 1, 2, 7, 8, 9, 10, 11, 12, 13, 14]
  | _ => []
def spec_l1Near.kl : Nat → List Nat := fun n => match n with
  | 0 => [3, 4, 5, 6, 7, 8, 9, 10, 11, 12, 13, 14, 15, 16, 17, 18, 19, 20, 21, 22, 23, 24, 25, 26, 27, 28, 29, 30, 31, 32, 33, 34, 35, 36, 37, 38, 39, 40, 41, 42, 43, 44, 45, 46, 47, 48, 49, 50, 51, 52, 53, 54, 55, 56, 57, 58, 59, 60, 61, 62]
  | 2 => [12]
  | 3 => [24]
  | 4 => [13, 14, 15]
  | 6 => [2, 16, 17, 18]
  | 7 => [32]
  | 8 => [19, 20]
  | 10 => [21, 22, 23]
  | 12 => [11, 25, 26, 32]
  | 14 => [27, 28]
  | 16 => [29, 30, 31]
  | 18 => [33, 34, 53]
  | 20 => [35, 36, 37, 38, 39, 40, 41, 42, 43, 44, 45, 46, 47, 48, 49, 50, 51, 52]
  | 22 => [53, 54, 55, 56, 57, 58, 59, 60, 61]
  | 24 => [0, 1, 7, 8, 9, 10, 24, 62]
  | _ => []
def impl_withNear.kl : Nat → List Nat := fun n => match n with
  | 0 => [3, 4, 5, 6, 7, 8, 9, 10, 11, 12, 13, 14, 15, 16, 17, 18, 19, 20, 21, 22, 23, 24, 25, 26, 27, 28, 29, 30, 31, 32, 33, 34, 35, 36, 37, 38]
  | 2 => [11]
  | 3 => [16]
  | 4 => [12, 13]
  | 7 => [29]
  | 8 => [17]
  | 10 => [18, 19, 20, 21]
  | 12 => [8, 22, 23, 24, 25]
  | 16 => [30, 31]
  | 18 => [10, 32, 33, 34, 35]
  | 20 => [36]
  | 22 => [8, 22, 26, 27, 28, 29, 37]
  | 24 => [0, 1, 2, 7, 14, 15, 16, 38]
  | _ => []
def impl_sizeOk.kl : Nat → List Nat := fun n => match n with
  | 0 => [1, 2, 3, 4, 5, 6, 7, 8]
  | 2 => [0, 3, 4, 5, 6, 7, 8]
  | _ => []
def spec_l20Rd_odd.kl : Nat → List Nat := fun n => match n with
  | 0 => [2, 3, 4, 5, 6, 7, 8, 9, 10, 11, 12, 13, 14]
  | 2 => [0, 1, 5, 6, 7, 8, 9, 10, 11, 12, 13, 14]
  | _ => []
def KL : FuncId → Nat → List Nat := fun f => match f with
  | 3 => laws_FnNearCells.kl
  | 4 => laws_FnCellsFar.kl
  | 5 => laws_FnNearCount.kl
  | 6 => laws_FnExactNearCells.kl
  | 7 => laws_FnExactCellsFar.kl
  | 8 => spec_DrawNearCells.kl
  | 9 => impl_NearCells.kl
  | 10 => laws_sameInts.kl
  | 11 => spec_NearCells.kl
  | 12 => spec_BoardOk.kl
  | 13 => laws_alive.kl
  | 14 => laws_hasInt.kl
  | 15 => laws_ascend.kl
  | 16 => spec_DrawCellsFar.kl
  | 17 => impl_CellsFar.kl
  | 18 => spec_CellsFar.kl
  | 19 => spec_DrawBoardOk.kl
  | 20 => impl_BoardOk.kl
  | 21 => laws_eqIntS.kl
  | 22 => laws_markIntS.kl
  | 23 => laws_heldIntS.kl
  | 24 => spec_l20Open.kl
  | 25 => spec_l20Board.kl
  | 26 => spec_l20Rd_pick.kl
  | 27 => impl_cellOk.kl
  | 28 => spec_l1In.kl
  | 29 => spec_l1Near.kl
  | 30 => impl_withNear.kl
  | 31 => impl_sizeOk.kl
  | 32 => spec_l20Rd_odd.kl
  | _ => fun _ => []
noncomputable def CL (g : Nat → PV) (lf n : Nat) : FuncId → List PV → PHeap → Res := call Tryd.prog g KL lf n
noncomputable def env (g : Nat → PV) (lf n : Nat) : Env := ⟨g, lf, CL g lf n, std Tryd.prog⟩
@[simp] theorem env_C (g : Nat → PV) (lf n : Nat) : (env g lf n).C = CL g lf n := rfl
@[simp] theorem env_g (g : Nat → PV) (lf n : Nat) : (env g lf n).g = g := rfl
@[simp] theorem env_lf (g : Nat → PV) (lf n : Nat) : (env g lf n).lf = lf := rfl
@[simp] theorem env_pick (g : Nat → PV) (lf n : Nat) : (env g lf n).p.pick = pickP := rfl
@[simp] theorem env_alloc (g : Nat → PV) (lf n : Nat) : (env g lf n).p.alloc = allocP Tryd.prog := rfl
@[simp] theorem env_box (g : Nat → PV) (lf n : Nat) : (env g lf n).p.box = boxP := rfl
@[simp] theorem env_build (g : Nat → PV) (lf n : Nat) : (env g lf n).p.build = buildP Tryd.prog := rfl
@[simp] theorem env_buildSlice (g : Nat → PV) (lf n : Nat) : (env g lf n).p.buildSlice = buildSliceP Tryd.prog := rfl
@[simp] theorem env_load (g : Nat → PV) (lf n : Nat) : (env g lf n).p.load = loadP Tryd.prog := rfl
@[simp] theorem env_store (g : Nat → PV) (lf n : Nat) : (env g lf n).p.store = storeP Tryd.prog := rfl
@[simp] theorem env_ptr (g : Nat → PV) (lf n : Nat) : (env g lf n).p.ptr = ptrP := rfl
@[simp] theorem env_bin (g : Nat → PV) (lf n : Nat) : (env g lf n).p.bin = binP Tryd.prog := rfl
@[simp] theorem env_un (g : Nat → PV) (lf n : Nat) : (env g lf n).p.un = unP := rfl
@[simp] theorem env_conv (g : Nat → PV) (lf n : Nat) : (env g lf n).p.conv = convP Tryd.prog := rfl
@[simp] theorem env_make (g : Nat → PV) (lf n : Nat) : (env g lf n).p.make = makeP Tryd.prog := rfl
@[simp] theorem env_slice (g : Nat → PV) (lf n : Nat) : (env g lf n).p.slice = sliceP Tryd.prog := rfl
@[simp] theorem env_fieldAddr (g : Nat → PV) (lf n : Nat) : (env g lf n).p.fieldAddr = fieldAddrP Tryd.prog := rfl
@[simp] theorem env_field (g : Nat → PV) (lf n : Nat) : (env g lf n).p.field = fieldP Tryd.prog := rfl
@[simp] theorem env_indexAddr (g : Nat → PV) (lf n : Nat) : (env g lf n).p.indexAddr = indexAddrP Tryd.prog := rfl
@[simp] theorem env_index (g : Nat → PV) (lf n : Nat) : (env g lf n).p.index = indexP Tryd.prog := rfl
@[simp] theorem env_extract (g : Nat → PV) (lf n : Nat) : (env g lf n).p.extract = extractP := rfl
@[simp] theorem env_len (g : Nat → PV) (lf n : Nat) : (env g lf n).p.len = lenP Tryd.prog := rfl
@[simp] theorem env_append (g : Nat → PV) (lf n : Nat) : (env g lf n).p.append = appendP Tryd.prog := rfl
@[simp] theorem env_max (g : Nat → PV) (lf n : Nat) : (env g lf n).p.max = foldP maxP2 := rfl
@[simp] theorem env_min (g : Nat → PV) (lf n : Nat) : (env g lf n).p.min = foldP minP2 := rfl
end Go.Proofs.YtaajbolfmhhdcaaDoor.G
