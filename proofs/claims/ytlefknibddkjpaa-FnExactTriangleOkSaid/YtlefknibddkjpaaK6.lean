/- Texts of this seat, in their order, put together by program. -/
import Derived.Test.YtlefknibddkjpaaK5
import Derived.Test.YtlefknibddkjpaaProg
import Derived.KernelRfl
set_option linter.unusedSimpArgs false
set_option linter.unusedVariables false
set_option linter.unusedSectionVars false
/- Of each function of this seat's program its plain form over the interpreter, written by program; each equation is the kernel's. -/
set_option linter.unusedVariables false
set_option maxRecDepth 100000
namespace Go.Proofs.Ytlefknibddkjpaa.G
open Go Go.Ip Go.Proofs

def fn_laws_FnTriangleOk : Nat := 3
def fn_laws_FnTurnedTriangle : Nat := 4
def fn_laws_FnExactTriangleOk : Nat := 5
def fn_laws_FnExactShrunk : Nat := 6
def fn_laws_FnExactLastCell : Nat := 7
def fn_laws_FnExactTurnedTriangle : Nat := 8
def fn_spec_DrawTriangleOk : Nat := 9
def fn_impl_TriangleOk : Nat := 10
def fn_spec_TriangleOk : Nat := 11
def fn_spec_DrawTurnedTriangle : Nat := 12
def fn_impl_TurnedTriangle : Nat := 13
def fn_laws_sameInts : Nat := 14
def fn_spec_TurnedTriangle : Nat := 15
def fn_laws_alive : Nat := 16
def fn_impl_Shrunk : Nat := 17
def fn_laws_toIntS : Nat := 18
def fn_laws_eqIntS : Nat := 19
def fn_spec_Shrunk : Nat := 20
def fn_laws_markIntS : Nat := 21
def fn_laws_heldIntS : Nat := 22
def fn_spec_LastCell : Nat := 23
def fn_impl_LastCell : Nat := 24
def fn_spec_l20Triangle : Nat := 25
def fn_spec_l20Open : Nat := 26
def fn_impl_triangleSideOk : Nat := 27
def fn_impl_triangleSize : Nat := 28
def fn_impl_playerOk : Nat := 29
def fn_spec_l1In : Nat := 30
def fn_spec_l7Cells : Nat := 31
def fn_impl_trianglePlace : Nat := 32
def fn_impl_triangleCell : Nat := 33
def fn_spec_l7Place : Nat := 34
def fn_impl_BoardOk : Nat := 35
def fn_impl_mostOf : Nat := 36
def fn_spec_l20Rd_pick : Nat := 37
def fn_spec_l20Rd_odd : Nat := 38
def fn_impl_sizeOk : Nat := 39
def laws_FnTriangleOk.kl : Nat → List Nat := fun n => match n with
  | 0 => [1, 2, 3, 4, 5, 6, 7, 8, 9, 10, 11, 12, 13, 14, 15, 16, 17, 18, 19, 20, 21, 22, 23, 24, 25, 26, 27, 28, 29, 30, 31, 32, 33, 34, 35, 36, 37, 38, 39, 40, 41, 42, 43, 44, 45, 46, 47, 48, 49, 50, 51, 52, 53, 54, 55, 56]
  | 2 => [8, 9]
  | 3 => [28]
  | 4 => [0, 10]
  | 6 => [0, 10, 11, 12, 13, 14, 15]
  | 8 => [16, 17, 18]
  | 10 => [19, 20, 21, 22]
  | 12 => [3, 4, 5, 23]
  | 14 => [23, 24]
  | 18 => [25, 26, 27, 29, 30, 31, 32, 33, 34, 35, 36, 37, 38]
  | 20 => [29, 30]
  | 22 => [31, 32, 33, 34, 35, 36, 37, 38]
  | 24 => [3, 4, 5, 6, 7, 28, 39, 40, 41, 42, 43, 44, 45, 46, 47, 48, 49, 50, 51, 52, 53, 54, 55, 56]
  | _ => []
def laws_FnTurnedTriangle.kl : Nat → List Nat := fun n => match n with
  | 0 => [1, 2, 3, 4, 5, 6, 7, 8, 9, 10, 11, 12, 13, 14, 15, 16, 17, 18, 19, 20, 21, 22, 23, 24, 25, 26, 27, 28, 29, 30, 31, 32, 33, 34, 35, 36, 37, 38, 39, 40, 41, 42, 43, 44, 45, 46, 47, 48, 49, 50, 51, 52, 53, 54, 55, 56, 57, 58, 59, 60, 61, 62]
  | 2 => [7, 8]
  | 4 => [0, 9]
  | 6 => [0, 9, 10, 11, 12, 13, 14]
  | 8 => [15, 16, 17]
  | 10 => [18, 19, 20, 21, 22]
  | 12 => [3, 4, 5, 23]
  | 14 => [23, 24, 25]
  | 16 => [3, 4, 5, 26, 27, 28, 29, 30, 31, 32, 33]
  | 18 => [26, 34, 35, 36, 37, 38]
  | 20 => [3, 4, 5, 6, 39, 40, 41, 42, 43, 44, 45, 46, 47, 48, 49, 50, 51, 52, 53, 54, 55, 56, 57, 58, 59, 60, 61, 62]
  | _ => []
def laws_FnExactTriangleOk.kl : Nat → List Nat := fun n => match n with
  | 0 => [2, 3, 4, 5, 6, 7, 8, 9, 10, 11, 12, 13, 14, 15, 16, 17, 18, 19, 20, 21, 22, 23, 24, 25, 26, 27]
  | 2 => [8, 9]
  | 4 => [0, 1, 10]
  | 6 => [10, 11, 12, 13, 14]
  | 8 => [15, 16]
  | 10 => [0, 17, 18, 19]
  | 12 => [5, 7, 20, 21]
  | 14 => [1, 6, 22]
  | 16 => [1, 6, 22, 23, 24, 25, 26]
  | 18 => [27]
  | 20 => [27]
  | _ => []
def laws_FnExactShrunk.kl : Nat → List Nat := fun n => match n with
  | 0 => [2, 3, 4, 5, 6, 7, 8, 9, 10, 11, 12, 13, 14, 15, 16, 17, 18, 19, 20, 21, 22, 23, 24, 25, 26, 27, 28, 29, 30, 31, 32, 33, 34, 35, 36, 37, 38, 39, 40, 41, 42, 43, 44, 45, 46, 47, 48, 49, 50, 51, 52, 53, 54, 55, 56, 57, 58, 59, 60, 61, 62, 63, 64, 65, 66, 67, 68, 69, 70]
  | 2 => [12, 13]
  | 4 => [0, 1, 14]
  | 6 => [14, 15, 16, 17, 18]
  | 8 => [19, 20]
  | 10 => [21, 22, 23]
  | 12 => [24, 25, 26]
  | 14 => [0, 1, 5, 6, 7, 27]
  | 16 => [27, 28, 29, 30, 31]
  | 18 => [0, 1, 5, 6, 7, 32]
  | 20 => [32]
  | 22 => [6, 33, 34, 35]
  | 24 => [8, 36, 37, 38, 39, 40, 41, 42]
  | 26 => [0, 1, 5, 7, 43]
  | 28 => [43]
  | 30 => [44, 45, 46]
  | 34 => [47, 48, 49]
  | 36 => [50]
  | 38 => [0, 1, 5, 7, 9, 10, 51]
  | 40 => [10, 51, 52, 53]
  | 42 => [0, 1, 5, 7, 9, 54]
  | 44 => [0, 1, 54, 55, 56, 57, 58]
  | 46 => [5, 11, 59, 60, 61]
  | 48 => [7, 9, 62]
  | 50 => [62]
  | 52 => [7, 63, 64, 65]
  | 54 => [66]
  | 56 => [9, 10, 67]
  | 58 => [9, 10, 67, 68, 69]
  | 60 => [70]
  | 62 => [70]
  | _ => []
def laws_FnExactLastCell.kl : Nat → List Nat := fun n => match n with
  | 0 => [2, 3, 4, 5, 6, 7, 8, 9, 10, 11, 12, 13, 14, 15, 16, 17, 18, 19, 20, 21, 22, 23, 24, 25, 26, 27]
  | 2 => [8, 9]
  | 4 => [0, 1, 10]
  | 6 => [10, 11, 12, 13, 14]
  | 8 => [15, 16]
  | 10 => [0, 17, 18, 19]
  | 12 => [5, 7, 20, 21]
  | 14 => [1, 6, 22]
  | 16 => [1, 6, 22, 23, 24, 25, 26]
  | 18 => [27]
  | 20 => [27]
  | _ => []
def laws_FnExactTurnedTriangle.kl : Nat → List Nat := fun n => match n with
  | 0 => [2, 3, 4, 5, 6, 7, 8, 9, 10, 11, 12, 13, 14, 15, 16, 17, 18, 19, 20, 21, 22, 23, 24, 25, 26, 27, 28, 29, 30, 31, 32, 33, 34, 35, 36, 37, 38, 39, 40, 41, 42, 43, 44, 45, 46, 47, 48, 49, 50, 51, 52, 53, 54, 55, 56, 57, 58, 59, 60, 61, 62, 63, 64, 65, 66, 67, 68, 69, 70]
  | 2 => [12, 13]
  | 4 => [0, 1, 14]
  | 6 => [14, 15, 16, 17, 18]
  | 8 => [19, 20]
  | 10 => [21, 22, 23]
  | 12 => [24, 25, 26]
  | 14 => [0, 1, 5, 6, 7, 27]
  | 16 => [27, 28, 29, 30, 31]
  | 18 => [0, 1, 5, 6, 7, 32]
  | 20 => [32]
  | 22 => [6, 33, 34, 35]
  | 24 => [8, 36, 37, 38, 39, 40, 41, 42]
  | 26 => [0, 1, 5, 7, 43]
  | 28 => [43]
  | 30 => [44, 45, 46]
  | 34 => [47, 48, 49]
  | 36 => [50]
  | 38 => [0, 1, 5, 7, 9, 10, 51]
  | 40 => [10, 51, 52, 53]
  | 42 => [0, 1, 5, 7, 9, 54]
  | 44 => [0, 1, 54, 55, 56, 57, 58]
  | 46 => [5, 11, 59, 60, 61]
  | 48 => [7, 9, 62]
  | 50 => [62]
  | 52 => [7, 63, 64, 65]
  | 54 => [66]
  | 56 => [9, 10, 67]
  | 58 => [9, 10, 67, 68, 69]
  | 60 => [70]
  | 62 => [70]
  | _ => []
def spec_DrawTriangleOk.kl : Nat → List Nat := fun n => match n with
  | 0 => [1, 2, 3, 4, 5, 6, 7, 8]
  | 2 => [0, 4, 5, 6, 7, 8]
  | _ => []
def impl_TriangleOk.kl : Nat → List Nat := fun n => match n with
  | 0 => [2, 3, 4, 5, 6, 7, 8, 9, 10, 11, 12, 13, 14, 15, 16, 17, 18, 19, 20, 21, 22, 23, 24, 25, 26]
  | 2 => [0, 7, 8, 9, 10, 11, 12, 13, 14, 15]
  | 3 => [20]
  | 4 => [1, 16]
  | 6 => [1, 16]
  | 8 => [4, 6, 21, 22, 23, 24, 25, 26]
  | 10 => [21, 22]
  | 12 => [6, 23, 24]
  | 14 => [17, 18, 19, 25]
  | 16 => [25, 26]
  | 18 => [17, 18, 19, 20]
  | _ => []
def spec_TriangleOk.kl : Nat → List Nat := fun n => match n with
  | 0 => [2, 3, 4, 5, 6, 7, 8, 9, 10, 11, 12, 13, 14, 15, 16, 17, 18, 19, 20, 21, 22, 23, 24, 25, 26]
  | 3 => [9]
  | 4 => [4, 6, 7, 8, 10, 11, 12, 13, 14, 15, 16, 17]
  | 6 => [10, 11, 17]
  | 8 => [12, 13, 14, 15, 16]
  | 10 => [0, 1, 5, 17]
  | 12 => [0, 1, 5, 9, 18, 19, 20, 21, 22, 23, 24, 25, 26]
  | _ => []
def spec_DrawTurnedTriangle.kl : Nat → List Nat := fun n => match n with
  | 0 => [1, 2, 3, 4, 5, 6, 7, 8]
  | 2 => [0, 4, 5, 6, 7, 8]
  | _ => []
def impl_TurnedTriangle.kl : Nat → List Nat := fun n => match n with
  | 0 => [2, 3, 4, 5, 6, 7, 8, 9, 10, 11, 12, 13, 14, 15, 16, 17, 18, 19, 20, 21, 22, 23, 24, 25, 26, 27, 28, 29, 30, 31, 32, 33, 34, 35, 36, 37, 38, 39, 40, 41]
  | 2 => [9, 10, 11]
  | 3 => [19]
  | 4 => [0, 1, 12]
  | 6 => [12, 13, 14, 15]
  | 8 => [16]
  | 10 => [6, 7, 8, 20, 21, 22, 23, 24, 25, 26, 27, 28, 29, 30, 31, 32, 33, 34, 35, 36, 37, 38, 39, 40]
  | 12 => [20]
  | 14 => [21, 22, 23, 24, 25]
  | 16 => [6, 7, 8, 26, 27, 28, 29, 30, 31, 32, 33, 34, 35, 36, 37, 38, 39]
  | 18 => [40]
  | 20 => [0, 1, 5, 17, 18, 19, 41]
  | _ => []
def laws_sameInts.kl : Nat → List Nat := fun n => match n with
  | 0 => [2, 3, 4, 5, 6, 7, 8, 9, 10, 11, 12, 13, 14, 15, 16, 17, 18, 19, 20, 21, 22, 23, 24, 25]
  | 2 => [6, 7, 8, 9]
  | 3 => [14]
  | 4 => [0, 1, 10]
  | 6 => [10]
  | 8 => [4, 11, 12, 13, 15, 16, 17, 18, 19, 20, 21, 22, 23, 24, 25]
  | 10 => [15, 16, 25]
  | 12 => [17, 18, 19, 20, 21, 22, 23, 24]
  | 14 => [0, 1, 5, 25]
  | 16 => [0, 1, 5, 14]
  | _ => []
def spec_TurnedTriangle.kl : Nat → List Nat := fun n => match n with
  | 0 => [2, 3, 4, 5, 6, 7, 8, 9, 10, 11, 12, 13, 14, 15, 16, 17, 18, 19, 20, 21, 22, 23, 24, 25, 26, 27, 28, 29, 30, 31, 32, 33, 34, 35, 36, 37, 38, 39, 40, 41]
  | 2 => [9]
  | 3 => [18]
  | 6 => [7, 8, 10, 11, 12, 13, 14, 15, 16, 17, 19, 20, 21, 22, 23, 24, 25, 26, 27, 28, 29, 30, 31, 32, 33, 34, 35, 36, 37, 38, 39, 40]
  | 8 => [19, 20]
  | 10 => [21, 22, 23, 24, 25]
  | 12 => [7, 8, 26, 27, 28, 29, 30, 31, 32, 33, 34, 35, 36, 37, 38, 39, 40]
  | 14 => [0, 1, 5, 6, 18, 41]
  | _ => []
def laws_alive.kl : Nat → List Nat := fun n => match n with
  | 0 => [0, 1, 2, 3, 4, 5]
  | 2 => [1, 2, 3, 4, 5]
  | _ => []
def impl_Shrunk.kl : Nat → List Nat := fun n => match n with
  | 0 => [2, 3, 4, 5, 6, 7, 8, 9, 10, 11, 12, 13, 14, 15, 16, 17, 18, 19, 20, 21, 22, 23, 24, 25, 26, 27, 28, 29, 30, 31, 32, 33, 34, 35, 36, 37, 38, 39, 40, 41, 42, 43, 44, 45, 46, 47, 48, 49, 50, 51, 52, 53, 54]
  | 2 => [10, 11, 12, 13, 14, 15, 16]
  | 3 => [25]
  | 4 => [0, 1, 17]
  | 6 => [0, 17, 18, 19, 20, 21]
  | 8 => [22]
  | 10 => [6, 7, 8, 9, 26, 27, 28, 29, 30, 31, 32, 33, 34, 35, 36, 37, 38, 39, 40, 41, 42, 43, 44, 45, 46, 47, 48, 49, 50, 51, 52, 53]
  | 12 => [26]
  | 14 => [27, 28, 29, 30, 31]
  | 16 => [7, 8, 32, 33, 34, 35]
  | 18 => [6, 9, 36, 37, 38, 39, 40, 41, 42, 43, 44, 45, 46, 47, 48, 49, 50, 51, 52]
  | 20 => [53]
  | 22 => [1, 5, 23, 24, 25, 54]
  | _ => []
def laws_toIntS.kl : Nat → List Nat := fun n => match n with
  | 0 => [1, 2, 3, 4, 5, 6, 7, 8, 9, 10, 11, 12, 13, 14, 15, 16, 17, 18, 19, 20, 21]
  | 2 => [5, 6, 7]
  | 3 => [11]
  | 6 => [8, 9, 10, 12, 13, 14, 15, 16, 17, 18, 19, 20]
  | 8 => [12, 13]
  | 10 => [14, 15, 16, 17, 18, 19, 20]
  | 12 => [0, 3, 4, 11, 21]
  | _ => []
def laws_eqIntS.kl : Nat → List Nat := fun n => match n with
  | 0 => [2, 3, 4, 5, 6, 7, 8, 9, 10, 11, 12, 13, 14, 15, 16, 17, 18, 19, 20, 21, 22, 23, 24, 25]
  | 2 => [6, 7, 8, 9]
  | 3 => [14]
  | 4 => [0, 1, 10]
  | 6 => [10]
  | 8 => [4, 11, 12, 13, 15, 16, 17, 18, 19, 20, 21, 22, 23, 24, 25]
  | 10 => [15, 16, 25]
  | 12 => [17, 18, 19, 20, 21, 22, 23, 24]
  | 14 => [0, 1, 5, 25]
  | 16 => [0, 1, 5, 14]
  | _ => []
def spec_Shrunk.kl : Nat → List Nat := fun n => match n with
  | 0 => [2, 3, 4, 5, 6, 7, 8, 9, 10, 11, 12, 13, 14, 15, 16, 17, 18, 19, 20, 21, 22, 23, 24, 25, 26, 27, 28, 29, 30, 31, 32, 33, 34, 35, 36, 37, 38, 39, 40, 41, 42, 43, 44, 45, 46, 47, 48, 49, 50, 51, 52, 53, 54, 55, 56, 57, 58, 59, 60, 61]
  | 2 => [11]
  | 3 => [25]
  | 4 => [12, 13, 14, 15, 16, 17, 18]
  | 6 => [0, 1, 5, 19, 20]
  | 8 => [19]
  | 10 => [7, 8, 9, 10, 21, 22, 23, 24, 26, 27, 28, 29, 30, 31, 32, 33, 34, 35, 36, 37, 38, 39, 40, 41, 42, 43, 44, 45, 46, 47, 48, 49, 50, 51, 52, 53, 54, 55, 56, 57, 58, 59, 60]
  | 12 => [26, 27]
  | 14 => [28, 29, 30, 31, 32]
  | 16 => [7, 8, 33, 34, 35, 36, 37]
  | 18 => [9, 38, 39, 40, 41, 42, 43, 44, 45, 46, 47, 48, 49, 50, 51, 52]
  | 20 => [10, 53]
  | 22 => [54, 55, 56, 57]
  | 24 => [54, 58, 59, 60]
  | 26 => [0, 1, 5, 6, 25, 61]
  | _ => []
def laws_markIntS.kl : Nat → List Nat := fun n => match n with
  | 0 => [2, 3, 4, 5, 6, 7, 8, 9, 10, 11, 12, 13, 14, 15, 16, 17, 18]
  | 3 => [9]
  | 4 => [6, 7, 8, 10, 11, 12, 13, 14, 15, 16, 17]
  | 6 => [10, 11]
  | 8 => [12, 13, 14, 15]
  | 10 => [16, 17]
  | 12 => [0, 1, 5, 9, 18]
  | _ => []
def laws_heldIntS.kl : Nat → List Nat := fun n => match n with
  | 0 => [2, 3, 4, 5, 6, 7, 8, 9, 10, 11, 12, 13, 14, 15, 16, 17, 18, 19, 20]
  | 3 => [9]
  | 4 => [4, 6, 7, 8, 10, 11, 12, 13, 14, 15, 16, 17, 18, 19]
  | 6 => [10, 11]
  | 8 => [12, 13, 14, 15, 16]
  | 10 => [0, 1, 5, 17]
  | 12 => [17, 18, 19]
  | 14 => [0, 1, 5, 9, 20]
  | _ => []
def spec_LastCell.kl : Nat → List Nat := fun n => match n with
  | 0 => [2, 3, 4, 5, 6, 7, 8, 9, 10, 11, 12, 13, 14, 15, 16, 17, 18, 19, 20, 21, 22, 23, 24]
  | 2 => [7, 8, 9]
  | 3 => [16]
  | 4 => [0, 1, 10]
  | 6 => [1, 10, 11, 12, 13]
  | 8 => [0, 14]
  | 10 => [15, 17, 18, 19, 20, 21]
  | 12 => [17, 18]
  | 14 => [19, 20, 21]
  | 16 => [5, 6, 16, 22, 23, 24]
  | _ => []
def impl_LastCell.kl : Nat → List Nat := fun n => match n with
  | 0 => [2, 3, 4, 5, 6, 7, 8, 9, 10, 11, 12, 13, 14, 15, 16, 17, 18]
  | 1 => [8]
  | 2 => [5, 6, 7]
  | 3 => [10]
  | 4 => [0, 1, 8]
  | 6 => [9, 11, 12, 13, 14, 15]
  | 8 => [11, 12]
  | 10 => [13, 14, 15]
  | 12 => [0, 1, 10, 16, 17, 18]
  | _ => []
def spec_l20Triangle.kl : Nat → List Nat := fun n => match n with
  | 0 => [2, 3, 4, 5, 6, 7, 8, 9, 10, 11, 12, 13, 14, 15, 16, 17, 18, 19, 20, 21, 22, 23, 24, 25, 26, 27, 28, 29, 30, 31, 32, 33, 34, 35, 36, 37, 38, 39, 40, 41, 42, 43, 44, 45, 46, 47]
  | 2 => [9, 10, 11]
  | 3 => [16]
  | 4 => [12]
  | 8 => [13, 14, 15, 17, 18, 19, 20, 21, 22, 23, 24]
  | 10 => [17, 18]
  | 12 => [19, 20, 21, 22, 23, 24]
  | 14 => [1, 8, 16, 25, 26]
  | 16 => [27, 28]
  | 18 => [0, 6, 7, 30, 31, 32, 33, 37]
  | 20 => [35]
  | 22 => [0, 6, 7, 29, 34, 36]
  | 24 => [29, 34, 38]
  | 26 => [0, 37, 39, 40, 41, 42, 43, 44, 45]
  | 28 => [0, 6, 7, 27, 46, 47]
  | _ => []
def spec_l20Open.kl : Nat → List Nat := fun n => match n with
  | 0 => [1, 2, 3, 4, 5, 6, 7, 8, 9, 10]
  | 2 => [3, 4]
  | 4 => [5, 6, 7]
  | 6 => [0, 5, 8, 9, 10]
  | _ => []
def impl_triangleSideOk.kl : Nat → List Nat := fun n => match n with
  | 0 => [1, 2, 3, 4, 5, 6, 7, 8]
  | 2 => [0, 3, 4, 5, 6, 7, 8]
  | _ => []
def impl_triangleSize.kl : Nat → List Nat := fun n => match n with
  | 0 => [1, 2, 3, 4]
  | 2 => [0, 3, 4]
  | _ => []
def impl_playerOk.kl : Nat → List Nat := fun n => match n with
  | 0 => [1, 2, 3, 4, 5, 6, 7, 8]
  | 2 => [0, 3, 4, 5, 6, 7, 8]
  | _ => []
def spec_l1In.kl : Nat → List Nat := fun n => match n with
  | 0 => [3, 4, 5, 6, 7, 8, 9, 10, 11, 12, 13, 14]
  | 2 => [0, 1, 2, 7, 8, 9, 10, 11, 12, 13, 14]
  | _ => []
def spec_l7Cells.kl : Nat → List Nat := fun n => match n with
  | 0 => [1, 2, 3, 4, 5, 6, 7]
  | 2 => [0, 3, 4, 5, 6, 7]
  | _ => []
def impl_trianglePlace.kl : Nat → List Nat := fun n => match n with
  | 0 => [1, 2, 3, 4, 5, 6, 7, 8, 9, 10, 11, 12, 13, 14, 15, 16]
  | 3 => [9]
  | 4 => [5, 6, 7, 8, 10, 11]
  | 6 => [10, 11]
  | 8 => [0, 4, 9, 12, 13, 14, 15, 16]
  | _ => []
def impl_triangleCell.kl : Nat → List Nat := fun n => match n with
  | 0 => [2, 3, 4, 5, 6, 7, 8, 9, 10, 11]
  | 2 => [0, 1, 5, 6, 7, 8, 9, 10, 11]
  | _ => []
def spec_l7Place.kl : Nat → List Nat := fun n => match n with
  | 0 => [1, 2, 3, 4, 5, 6, 7, 8, 9, 10, 11, 12, 13, 14, 15]
  | 3 => [7]
  | 4 => [5, 6, 8, 9, 10, 11, 12, 13]
  | 6 => [8, 9, 10, 11]
  | 8 => [12, 13]
  | 10 => [0, 4, 7, 14, 15]
  | _ => []
def impl_BoardOk.kl : Nat → List Nat := fun n => match n with
  | 0 => [2, 3, 4, 5, 6, 7, 8, 9, 10, 11, 12, 13, 14, 15, 16]
  | 2 => [0, 1, 5, 6, 7, 8, 9, 10, 11, 12, 13, 14, 15, 16]
  | _ => []
def impl_mostOf.kl : Nat → List Nat := fun n => match n with
  | 0 => [3, 4, 5, 6, 7, 8, 9, 10, 11]
  | 2 => [2, 7, 8]
  | 4 => [0, 1, 9, 10]
  | 6 => [0, 1, 9, 11]
  | _ => []
def spec_l20Rd_pick.kl : Nat → List Nat := fun n => match n with
  | 0 => [2, 3, 4, 5, 6, 7, 8, 9, 10, 11, 12, 13, 14, 15, 16, 17, 18, 19, 20, 21, 22, 23, 24, 25, 26, 27, 28, 29, 30, 31, 32, 33, 34, 35, 36, 37, 38, 39, 40, 41, 42, 43, 44, 45, 46, 47, 48, 49, 50, 51, 52, 53, 54, 55, 56, 57, 58, 59, 60, 61, 62, 63, 64, 65, 66, 67, 68, 69, 70, 71, 72, 73, 74, 75, 76, 77, 78, 79, 80, 81, 82, 83, 84, 85, 86, 87, 88, 89, 90, 91, 92, 93, 94, 95, 96, 97, 98]
  | 2 => [7, 8, 9, 10, 11, 12, 13, 14]
  | 4 => [15, 16, 17, 18, 19, 20, 21, 22, 23]
  | 6 => [0, 1, 24]
  | 8 => [24, 25, 26, 27, 28, 29]
  | 10 => [30, 31, 32, 33, 34, 35]
  | 12 => [0, 1, 5, 36, 37, 38, 39, 40, 41, 42, 43, 44, 45, 46]
  | 14 => [0, 5, 36, 47, 48, 49, 50, 51, 52, 53, 54, 55, 56, 57, 58, 59, 60, 61, 62, 63, 64, 65, 66, 67, 68, 69, 70, 71, 72, 73, 74, 75, 76, 77, 78, 79, 80, 81, 82, 83, 84, 85, 86, 87, 88, 89, 90, 91]
  | 16 => [92, 93, 94, 95]
  | 18 => [1, 6, 96, 97, 98]
  | _ => []
def spec_l20Rd_odd.kl : Nat → List Nat := fun n => match n with
  | 0 => [2, 3, 4, 5, 6, 7, 8, 9, 10, 11, 12, 13, 14]
  | 2 => [0, 1, 5, 6, 7, 8, 9, 10, 11, 12, 13, 14]
  | _ => []
def impl_sizeOk.kl : Nat → List Nat := fun n => match n with
  | 0 => [1, 2, 3, 4, 5, 6, 7, 8]
  | 2 => [0, 3, 4, 5, 6, 7, 8]
  | _ => []
def KL : FuncId → Nat → List Nat := fun f => match f with
  | 3 => laws_FnTriangleOk.kl
  | 4 => laws_FnTurnedTriangle.kl
  | 5 => laws_FnExactTriangleOk.kl
  | 6 => laws_FnExactShrunk.kl
  | 7 => laws_FnExactLastCell.kl
  | 8 => laws_FnExactTurnedTriangle.kl
  | 9 => spec_DrawTriangleOk.kl
  | 10 => impl_TriangleOk.kl
  | 11 => spec_TriangleOk.kl
  | 12 => spec_DrawTurnedTriangle.kl
  | 13 => impl_TurnedTriangle.kl
  | 14 => laws_sameInts.kl
  | 15 => spec_TurnedTriangle.kl
  | 16 => laws_alive.kl
  | 17 => impl_Shrunk.kl
  | 18 => laws_toIntS.kl
  | 19 => laws_eqIntS.kl
  | 20 => spec_Shrunk.kl
  | 21 => laws_markIntS.kl
  | 22 => laws_heldIntS.kl
  | 23 => spec_LastCell.kl
  | 24 => impl_LastCell.kl
  | 25 => spec_l20Triangle.kl
  | 26 => spec_l20Open.kl
  | 27 => impl_triangleSideOk.kl
  | 28 => impl_triangleSize.kl
  | 29 => impl_playerOk.kl
  | 30 => spec_l1In.kl
  | 31 => spec_l7Cells.kl
  | 32 => impl_trianglePlace.kl
  | 33 => impl_triangleCell.kl
  | 34 => spec_l7Place.kl
  | 35 => impl_BoardOk.kl
  | 36 => impl_mostOf.kl
  | 37 => spec_l20Rd_pick.kl
  | 38 => spec_l20Rd_odd.kl
  | 39 => impl_sizeOk.kl
  | _ => fun _ => []
noncomputable def CL (g : Nat → PV) (lf n : Nat) : FuncId → List PV → PHeap → Res := call Try.prog g KL lf n
noncomputable def env (g : Nat → PV) (lf n : Nat) : Env := ⟨g, lf, CL g lf n, std Try.prog⟩
@[simp] theorem env_C (g : Nat → PV) (lf n : Nat) : (env g lf n).C = CL g lf n := rfl
@[simp] theorem env_g (g : Nat → PV) (lf n : Nat) : (env g lf n).g = g := rfl
@[simp] theorem env_lf (g : Nat → PV) (lf n : Nat) : (env g lf n).lf = lf := rfl
@[simp] theorem env_pick (g : Nat → PV) (lf n : Nat) : (env g lf n).p.pick = pickP := rfl
@[simp] theorem env_alloc (g : Nat → PV) (lf n : Nat) : (env g lf n).p.alloc = allocP Try.prog := rfl
@[simp] theorem env_box (g : Nat → PV) (lf n : Nat) : (env g lf n).p.box = boxP := rfl
@[simp] theorem env_build (g : Nat → PV) (lf n : Nat) : (env g lf n).p.build = buildP Try.prog := rfl
@[simp] theorem env_buildSlice (g : Nat → PV) (lf n : Nat) : (env g lf n).p.buildSlice = buildSliceP Try.prog := rfl
@[simp] theorem env_load (g : Nat → PV) (lf n : Nat) : (env g lf n).p.load = loadP Try.prog := rfl
@[simp] theorem env_store (g : Nat → PV) (lf n : Nat) : (env g lf n).p.store = storeP Try.prog := rfl
@[simp] theorem env_ptr (g : Nat → PV) (lf n : Nat) : (env g lf n).p.ptr = ptrP := rfl
@[simp] theorem env_bin (g : Nat → PV) (lf n : Nat) : (env g lf n).p.bin = binP Try.prog := rfl
@[simp] theorem env_un (g : Nat → PV) (lf n : Nat) : (env g lf n).p.un = unP := rfl
@[simp] theorem env_conv (g : Nat → PV) (lf n : Nat) : (env g lf n).p.conv = convP Try.prog := rfl
@[simp] theorem env_make (g : Nat → PV) (lf n : Nat) : (env g lf n).p.make = makeP Try.prog := rfl
@[simp] theorem env_slice (g : Nat → PV) (lf n : Nat) : (env g lf n).p.slice = sliceP Try.prog := rfl
@[simp] theorem env_fieldAddr (g : Nat → PV) (lf n : Nat) : (env g lf n).p.fieldAddr = fieldAddrP Try.prog := rfl
@[simp] theorem env_field (g : Nat → PV) (lf n : Nat) : (env g lf n).p.field = fieldP Try.prog := rfl
@[simp] theorem env_indexAddr (g : Nat → PV) (lf n : Nat) : (env g lf n).p.indexAddr = indexAddrP Try.prog := rfl
@[simp] theorem env_index (g : Nat → PV) (lf n : Nat) : (env g lf n).p.index = indexP Try.prog := rfl
@[simp] theorem env_extract (g : Nat → PV) (lf n : Nat) : (env g lf n).p.extract = extractP := rfl
@[simp] theorem env_len (g : Nat → PV) (lf n : Nat) : (env g lf n).p.len = lenP Try.prog := rfl
@[simp] theorem env_append (g : Nat → PV) (lf n : Nat) : (env g lf n).p.append = appendP Try.prog := rfl
@[simp] theorem env_max (g : Nat → PV) (lf n : Nat) : (env g lf n).p.max = foldP maxP2 := rfl
@[simp] theorem env_min (g : Nat → PV) (lf n : Nat) : (env g lf n).p.min = foldP minP2 := rfl
@[simp] theorem env_makeMap (g : Nat → PV) (lf n : Nat) : (env g lf n).p.makeMap = makeMapP := rfl
@[simp] theorem env_lookup (g : Nat → PV) (lf n : Nat) : (env g lf n).p.lookup = lookupP Try.prog := rfl
@[simp] theorem env_update (g : Nat → PV) (lf n : Nat) : (env g lf n).p.update = updateP Try.prog := rfl
end Go.Proofs.Ytlefknibddkjpaa.G

/- From what the interpreter computes for a law to what the machine's call of it does. -/
set_option maxRecDepth 20000
namespace Go.Proofs.Ytlefknibddkjpaa
open Go Go.Ip Go.RowKit G

def g0 : Nat → PV := fun _ => .junk
def LF : Nat := 4294967296

theorem prog_mixed : Try.prog.follows .mixedOrders = true := by kernel_rfl
theorem prog_ok : progOk Try.prog = true := by kernel_rfl

theorem law_walk {n : Nat} {f : FuncId} {args : List PV} {h h' : PHeap} {μ : List Ip.Loc} {w : World} {xs : Array Value} (hc : CL g0 LF n f args h = some (.bool true, h'))
    (sim : Sim w.heap.size w μ h w) (ha : All2 (rep μ) args xs.toList) : Calls Try.prog f xs w fun e w' => e = .returned (.bool true) ∧ Below w.heap.size w w' := by
  obtain ⟨_, hcall⟩ := call_sound Try.prog g0 KL LF prog_mixed prog_ok n f f args h _ hc
  refine (hcall w.heap.size w μ w xs sim (fun _ => trivial) ha).mono ?_
  rintro e w' ⟨v, rfl, μ', hpre, hr, hs⟩
  refine ⟨?_, hs.below⟩
  rw [rep_bool.1 hr]

/-- A slice of integers, nil or not, as the interpreter's heap holds it. -/
def IntSl (k : IntKind) (h : PHeap) (p : PV) (xs : List Int) : Prop :=
  (p = .nilsl ∧ xs = []) ∨ ∃ id off, p = .sl id off xs.length ∧ ∀ (i : Nat) x, xs[i]? = some x → (cellsAt h id)[off + i]? = some (.int k x)

/-- A slice of integers that came in. -/
theorem row_arg {k : IntKind} {w : World} {a : Option Addr} {len cap : Nat} {zs : List Int}
    (h : (a = none ∧ len = 0 ∧ cap = 0 ∧ zs = []) ∨ ∃ x, a = some x ∧ len ≤ cap ∧ cap ≤ maxLen ∧ zs.length = cap ∧ (∀ i, i < zs.length → w.cell? (x.add i) = some (.int k (zs.getD i 0))) ∧ ∀ n ∈ zs, (Lit.int k n).wf = true) :
    ∃ μ o p, Sim w.heap.size w μ [o] w ∧ rep μ p (.slice a len cap) ∧ IntSl k [o] p (zs.take len) ∧ len = (zs.take len).length ∧ len ≤ maxLen ∧ (∀ n ∈ zs.take len, (Lit.int k n).wf = true) ∧ (o = .dead ∨ ∃ c, o = .ro 1 c) := by
  have simD : ∀ l : Ip.Loc, Sim w.heap.size w [l] [.dead] w := fun l =>
    ⟨rfl, Below.refl _ _, Nat.le_refl _, fun id o l h _ => by
      match id, h with
      | 0, h => simp at h; subst h; trivial
      | id + 1, h => simp at h, fun i j li lj ei ci ej cj _ h => by
      match i, h with
      | 0, h => simp at h
      | i + 1, h => simp at h, fun i j li lj ei ej _ h => by
      match i, h with
      | 0, h => simp at h
      | i + 1, h => simp at h⟩
  rcases h with ⟨rfl, rfl, rfl, rfl⟩ | ⟨x, rfl, hlc, hcm, hz, hcell, hwf⟩
  · exact ⟨[⟨0, 0, 0, 0⟩], .dead, .nilsl, simD _, rfl, .inl ⟨rfl, by simp⟩, by simp, Nat.zero_le _, by simp, .inl rfl⟩
  · have hlen : len = (zs.take len).length := by simp; omega
    refine ⟨[⟨x.block, x.off, x.off + cap, 1⟩], if cap = 0 then .dead else .ro 1 ((zs.take len).map (.int k)), .sl 0 0 (zs.take len).length, ?_, ?_, ?_, hlen, by omega, fun n hn => hwf n (List.mem_of_mem_take hn), ?_⟩
    · by_cases hc : cap = 0
      · rw [if_pos hc]; exact simD _
      · rw [if_neg hc]
        have h0 := hcell 0 (by omega)
        have hblk : x.block < w.heap.size := by
          have := World.block_lt_of_cell? w _ h0
          simpa [Addr.add] using this
        have hspot : x.spot = none := by
          have h1 : w.cell? x = some (.int k (zs.getD 0 0)) := by simpa [Addr.add] using h0
          unfold World.cell? at h1
          split at h1
          · split at h1
            · cases h1
            · rename_i hs; simpa using hs
          · cases h1
        refine ⟨rfl, Below.refl _ _, Nat.le_refl _, ?_, ?_, fun i j li lj ei ej _ h => by
          match i, h with
          | 0, h => simp at h
          | i + 1, h => simp at h⟩
        · intro id o l ho hl
          match id, ho, hl with
          | 0, ho, hl =>
            obtain rfl := Option.some.inj ho
            obtain rfl := Option.some.inj hl
            refine ⟨rfl, hblk, ?_⟩
            intro j p hp
            simp only [List.getElem?_map, Option.map_eq_some_iff] at hp
            obtain ⟨n, hn, rfl⟩ := hp
            have hj : j < (zs.take len).length := (List.getElem?_eq_some_iff.1 hn).1
            have hj2 : j < zs.length := by simp at hj; omega
            refine ⟨_, ?_, rfl⟩
            have := hcell j hj2
            have hadd : x.add j = ⟨x.block, x.off + j, none⟩ := by
              cases x
              simp only at hspot
              subst hspot
              exact Addr.add_lit _ _ _
            rw [hadd] at this
            refine this.trans ?_
            rw [List.getElem?_take] at hn
            split at hn
            · simp [List.getD, hn]
            · cases hn
          | id + 1, ho, _ => simp at ho
        · intro i j li lj ei ci ej cj _ h
          match i, h with
          | 0, h => simp at h
          | i + 1, h => simp at h
    · refine ⟨_, cap, x, rfl, by rw [← hlen], by omega, ?_⟩
      by_cases hc : cap = 0
      · exact .inl hc
      · right
        have h0 := hcell 0 (by omega)
        have hspot : x.spot = none := by
          have h1 : w.cell? x = some (.int k (zs.getD 0 0)) := by simpa [Addr.add] using h0
          unfold World.cell? at h1
          split at h1
          · split at h1
            · cases h1
            · rename_i hs; simpa using hs
          · cases h1
        refine ⟨?_, by simp⟩
        cases x
        simp only at hspot
        subst hspot
        rfl
    · right
      refine ⟨0, 0, rfl, fun i n hn => ?_⟩
      have hi : i < (zs.take len).length := (List.getElem?_eq_some_iff.1 hn).1
      have hc : cap ≠ 0 := by omega
      rw [if_neg hc]
      have : cellsAt [PObj.ro 1 ((zs.take len).map (.int k))] 0 = (zs.take len).map (.int k) := rfl
      rw [this, List.getElem?_map, Nat.zero_add, hn]
      rfl
    · by_cases hc : cap = 0
      · rw [if_pos hc]; exact .inl rfl
      · rw [if_neg hc]; exact .inr ⟨_, rfl⟩

end Go.Proofs.Ytlefknibddkjpaa

