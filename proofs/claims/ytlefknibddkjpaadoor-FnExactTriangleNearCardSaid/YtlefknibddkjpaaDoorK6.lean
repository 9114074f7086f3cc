/- Texts of this seat, in their order, put together by program. -/
import Derived.Test.YtlefknibddkjpaaDoorK5
import Derived.Test.YtlefknibddkjpaaDoorProg
import Derived.KernelRfl
set_option linter.unusedSimpArgs false
set_option linter.unusedVariables false
set_option linter.unusedSectionVars false
/- Of each function of this seat's program its plain form over the interpreter, written by program; each equation is the kernel's. -/
set_option linter.unusedVariables false
set_option maxRecDepth 100000
namespace Go.Proofs.YtlefknibddkjpaaDoor.G
open Go Go.Ip Go.Proofs

def fn_laws_FnTriangleNear : Nat := 3
def fn_laws_FnJoinsAll : Nat := 4
def fn_laws_FnShrunk : Nat := 5
def fn_laws_FnLastCell : Nat := 6
def fn_laws_FnTriangleWins : Nat := 7
def fn_laws_FnTriangleHalf : Nat := 8
def fn_laws_FnJoinsMore : Nat := 9
def fn_laws_FnExactTriangleNear : Nat := 10
def fn_laws_FnExactJoinsAll : Nat := 11
def fn_spec_DrawTriangleNear : Nat := 12
def fn_impl_TriangleNear : Nat := 13
def fn_laws_sameInts : Nat := 14
def fn_spec_TriangleNear : Nat := 15
def fn_laws_hasInt : Nat := 16
def fn_laws_alive : Nat := 17
def fn_laws_ascend : Nat := 18
def fn_spec_DrawJoinsAll : Nat := 19
def fn_impl_JoinsAll : Nat := 20
def fn_spec_JoinsAll : Nat := 21
def fn_spec_TriangleOk : Nat := 22
def fn_impl_TurnedTriangle : Nat := 23
def fn_spec_DrawShrunk : Nat := 24
def fn_impl_Shrunk : Nat := 25
def fn_spec_Shrunk : Nat := 26
def fn_impl_TriangleOk : Nat := 27
def fn_spec_DrawLastCell : Nat := 28
def fn_impl_LastCell : Nat := 29
def fn_spec_LastCell : Nat := 30
def fn_spec_DrawTriangleWins : Nat := 31
def fn_impl_TriangleWins : Nat := 32
def fn_spec_TriangleWins : Nat := 33
def fn_laws_eqIntS : Nat := 34
def fn_laws_markIntS : Nat := 35
def fn_laws_heldIntS : Nat := 36
def fn_laws_toIntS : Nat := 37
def fn_spec_l20Open : Nat := 38
def fn_spec_l20Rd_pick : Nat := 39
def fn_impl_triangleSideOk : Nat := 40
def fn_impl_triangleSize : Nat := 41
def fn_impl_trianglePlace : Nat := 42
def fn_impl_triangleCell : Nat := 43
def fn_spec_l1In : Nat := 44
def fn_spec_l7Cells : Nat := 45
def fn_spec_l2List : Nat := 46
def fn_spec_l7Near : Nat := 47
def fn_impl_BoardOk : Nat := 48
def fn_spec_l20Triangle : Nat := 49
def fn_impl_playerOk : Nat := 50
def fn_impl_touchesAll : Nat := 51
def fn_impl_setOf : Nat := 52
def fn_spec_l2Set : Nat := 53
def fn_spec_l2Grow : Nat := 54
def fn_spec_l7Place : Nat := 55
def fn_impl_mostOf : Nat := 56
def fn_impl_countIn : Nat := 57
def fn_spec_l6Size : Nat := 58
def fn_impl_sizeOk : Nat := 59
def fn_spec_l20Rd_odd : Nat := 60
def fn_impl_triangleEdges : Nat := 61
def fn_impl_triangleWave : Nat := 62
def fn_bits_OnesCount : Nat := 63
def fn_impl_triangleAround : Nat := 64
def fn_bits_OnesCount64 : Nat := 66
def fn_impl_leastIn : Nat := 67
def fn_bits_TrailingZeros : Nat := 68
def fn_bits_TrailingZeros32 : Nat := 69
def fn_bits_TrailingZeros64 : Nat := 70
def laws_FnTriangleNear.kl : Nat → List Nat := fun n => match n with
  | 0 => [1, 2, 3, 4, 5, 6, 7, 8, 9, 10, 11, 12, 13, 14, 15, 16, 17, 18, 19, 20, 21, 22, 23, 24, 25, 26, 27, 28, 29, 30, 31, 32, 33, 34, 35, 36, 37, 38, 39, 40, 41, 42, 43, 44, 45, 46, 47, 48, 49, 50, 51, 52, 53, 54, 55, 56, 57, 58, 59, 60, 61, 62, 63, 64, 65, 66, 67, 68, 69, 70, 71, 72, 73, 74, 75, 76, 77, 78, 79, 80, 81, 82, 83, 84, 85, 86, 87, 88, 89, 90, 91, 92, 93, 94, 95, 96, 97, 98, 99, 100, 101, 102, 103, 104, 105, 106, 107, 108, 109, 110, 111, 112, 113, 114, 115, 116, 117, 118, 119, 120]
  | 2 => [9, 10]
  | 3 => [29]
  | 4 => [0, 11]
  | 6 => [0, 11, 12, 13, 14, 15, 16]
  | 8 => [17, 18, 19]
  | 10 => [20, 21, 22, 23, 24]
  | 12 => [3, 4, 5, 25]
  | 14 => [25]
  | 16 => [2, 26, 27, 28, 30, 31, 32, 33, 34, 35, 36, 37, 38, 39, 40, 41, 42, 43, 44, 45, 46, 47, 48]
  | 18 => [30, 31, 48]
  | 20 => [32, 33, 34, 35, 36, 37, 38, 39, 40, 41, 42, 43, 44, 45, 46, 47]
  | 22 => [3, 4, 5, 6, 48]
  | 24 => [6, 29, 49, 50, 51, 52, 53]
  | 26 => [54, 55, 56, 57, 58, 59, 60, 61, 62, 63, 64, 65, 66, 67]
  | 28 => [3, 4, 5, 7, 68, 69, 70, 71, 72, 73, 74]
  | 30 => [4, 7, 68, 75, 76, 77, 78, 79, 80, 81, 82, 83, 84, 85, 86, 87, 88, 89]
  | 32 => [3, 5, 8, 90, 91, 92, 93, 94, 95, 96, 97, 98, 99, 100, 101, 102, 103, 104, 105, 106, 107, 108, 109, 110, 111, 112, 113, 114, 115, 116, 117, 118, 119, 120]
  | _ => []
def laws_FnJoinsAll.kl : Nat → List Nat := fun n => match n with
  | 0 => [1, 2, 3, 4, 5, 6, 7, 8, 9, 10, 11, 12, 13, 14, 15, 16, 17, 18, 19, 20, 21, 22, 23, 24, 25, 26, 27, 28, 29, 30, 31, 32, 33, 34, 35, 36, 37, 38, 39, 40, 41, 42, 43, 44, 45, 46, 47, 48, 49, 50, 51, 52, 53, 54, 55]
  | 2 => [7, 8]
  | 4 => [0, 9]
  | 6 => [0, 9, 10, 11, 12, 13, 14, 15]
  | 8 => [16, 17, 18, 19]
  | 10 => [20, 21, 22, 23, 24]
  | 12 => [3, 4, 5, 6, 25]
  | 14 => [25, 26, 27, 28, 29, 30, 31, 32]
  | 16 => [3, 4, 5, 6, 33, 34, 35, 36, 37, 38]
  | 18 => [3, 4, 5, 6, 33, 39, 40, 41, 42, 43, 44, 45, 46, 47, 48, 49, 50, 51, 52, 53, 54, 55]
  | _ => []
def laws_FnShrunk.kl : Nat → List Nat := fun n => match n with
  | 0 => [1, 2, 3, 4, 5, 6, 7, 8, 9, 10, 11, 12, 13, 14, 15, 16, 17, 18, 19, 20, 21, 22, 23, 24, 25, 26, 27, 28, 29, 30, 31, 32, 33, 34, 35, 36, 37, 38, 39, 40, 41, 42, 43, 44, 45, 46, 47, 48, 49, 50, 51, 52, 53, 54, 55, 56, 57, 58, 59, 60, 61, 62, 63, 64, 65, 66, 67, 68, 69, 70, 71, 72, 73, 74, 75, 76, 77, 78, 79, 80, 81, 82, 83, 84, 85, 86, 87, 88, 89, 90, 91]
  | 2 => [10, 11]
  | 3 => [46]
  | 4 => [0, 12]
  | 6 => [0, 12, 13, 14, 15, 16, 17]
  | 7 => [60]
  | 8 => [18, 19, 20]
  | 10 => [21, 22, 23, 24, 25]
  | 12 => [3, 4, 5, 26]
  | 14 => [26, 27, 28]
  | 16 => [3, 4, 5, 29, 30, 31, 32, 33, 34, 35, 36, 37, 38, 39, 40]
  | 18 => [29, 41]
  | 20 => [42]
  | 24 => [43, 44, 45, 47, 48, 49, 50, 51, 52, 53, 54, 55, 56]
  | 26 => [47, 48]
  | 28 => [49, 50, 51, 52, 53, 54, 55, 56]
  | 30 => [8, 46]
  | 32 => [57, 58, 59, 61, 62, 63, 64, 65, 66, 67, 68, 69, 70]
  | 34 => [61, 62]
  | 36 => [63, 64, 65, 66, 67, 68, 69, 70]
  | 38 => [3, 4, 5, 6, 7, 9, 60, 71, 72, 73, 74, 75, 76, 77, 78, 79, 80, 81, 82, 83, 84, 85, 86, 87, 88, 89, 90, 91]
  | _ => []
def laws_FnLastCell.kl : Nat → List Nat := fun n => match n with
  | 0 => [1, 2, 3, 4, 5, 6, 7, 8, 9, 10, 11, 12, 13, 14, 15, 16, 17, 18, 19, 20, 21, 22, 23, 24, 25, 26, 27, 28, 29, 30, 31, 32, 33, 34, 35, 36, 37, 38, 39, 40, 41, 42, 43, 44, 45, 46, 47, 48, 49, 50, 51, 52, 53, 54, 55, 56, 57, 58, 59, 60, 61, 62]
  | 2 => [8, 9]
  | 3 => [39]
  | 4 => [0, 10]
  | 6 => [0, 10, 11, 12, 13, 14, 15]
  | 8 => [16, 17, 18]
  | 10 => [19, 20, 21, 22]
  | 12 => [3, 4, 5, 23]
  | 14 => [23, 24]
  | 16 => [3, 4, 5, 25, 26, 27, 28, 29, 30, 31, 32]
  | 18 => [25, 33, 34, 35]
  | 22 => [36, 37, 38, 40, 41, 42, 43, 44, 45, 46, 47, 48, 49, 50, 51]
  | 24 => [40, 41, 47]
  | 26 => [42, 43, 44, 45, 46]
  | 28 => [7, 47, 48, 49, 50, 51]
  | 30 => [3, 4, 5, 6, 7, 39, 52, 53, 54, 55, 56, 57, 58, 59, 60, 61, 62]
  | _ => []
def laws_FnTriangleWins.kl : Nat → List Nat := fun n => match n with
  | 0 => [1, 2, 3, 4, 5, 6, 7, 8, 9, 10, 11, 12, 13, 14, 15, 16, 17, 18, 19, 20, 21, 22, 23, 24, 25, 26, 27, 28, 29, 30, 31, 32, 33, 34, 35, 36, 37, 38, 39, 40, 41, 42, 43, 44, 45, 46, 47, 48, 49, 50, 51, 52, 53, 54, 55, 56, 57, 58, 59, 60, 61, 62, 63, 64, 65, 66, 67, 68]
  | 2 => [9, 10]
  | 3 => [39]
  | 4 => [0, 11]
  | 6 => [0, 11, 12, 13, 14, 15, 16]
  | 8 => [17, 18, 19]
  | 10 => [20, 21, 22, 23]
  | 12 => [3, 4, 5, 24]
  | 14 => [24, 25]
  | 16 => [3, 4, 5, 26, 27, 28, 29, 30, 31]
  | 18 => [26, 32, 33, 34, 35, 36]
  | 24 => [37, 38, 40, 41, 42, 43, 44, 45, 46, 47, 48, 49, 50]
  | 26 => [40, 41]
  | 28 => [42, 43, 44, 45, 46, 47, 48, 49, 50]
  | 30 => [3, 4, 5, 6, 7, 8, 39, 51, 52, 53, 54, 55, 56, 57, 58, 59, 60, 61, 62, 63, 64, 65, 66, 67, 68]
  | _ => []
def laws_FnTriangleHalf.kl : Nat → List Nat := fun n => match n with
  | 0 => [1, 2, 3, 4, 5, 6, 7, 8, 9, 10, 11, 12, 13, 14, 15, 16, 17, 18, 19, 20, 21, 22, 23, 24, 25, 26, 27, 28, 29, 30, 31, 32, 33, 34, 35, 36, 37, 38, 39, 40, 41, 42, 43, 44, 45, 46, 47, 48, 49, 50, 51, 52, 53, 54, 55, 56, 57, 58, 59, 60, 61]
  | 2 => [8, 9]
  | 3 => [35]
  | 4 => [0, 10]
  | 6 => [0, 4, 10, 11, 12, 13, 14, 15]
  | 8 => [16, 17, 18, 19, 20]
  | 10 => [3, 21, 22, 23, 24, 25, 26, 27]
  | 12 => [21, 28, 29, 30, 31, 32]
  | 18 => [33, 34, 36, 37, 38, 39, 40, 41, 42]
  | 20 => [36, 37]
  | 22 => [38, 39, 40, 41, 42]
  | 24 => [3, 5, 6, 7, 35, 43, 44, 45, 46, 47, 48, 49, 50, 51, 52, 53, 54, 55, 56, 57, 58, 59, 60, 61]
  | _ => []
def laws_FnJoinsMore.kl : Nat → List Nat := fun n => match n with
  | 0 => [1, 2, 3, 4, 5, 6, 7, 8, 9, 10, 11, 12, 13, 14, 15, 16, 17, 18, 19, 20, 21, 22, 23, 24, 25, 26, 27, 28, 29, 30, 31, 32, 33, 34, 35, 36, 37, 38, 39, 40, 41, 42, 43, 44, 45, 46, 47, 48, 49, 50, 51, 52, 53, 54, 55, 56, 57, 58, 59, 60, 61, 62, 63, 64, 65, 66, 67, 68, 69, 70, 71, 72, 73, 74, 75, 76, 77, 78]
  | 2 => [10, 11]
  | 3 => [42]
  | 4 => [0, 12]
  | 6 => [0, 5, 12, 13, 14, 15, 16, 17, 18]
  | 7 => [57]
  | 8 => [19, 20, 21]
  | 10 => [3, 4, 22, 23, 24, 25, 26, 27, 28, 29, 30, 31, 32]
  | 12 => [22, 33, 34, 35]
  | 14 => [36, 37, 38]
  | 18 => [39, 40, 41, 43, 44, 45, 46, 47, 48, 49, 50, 51, 52]
  | 20 => [43, 44, 49]
  | 22 => [45, 46, 47, 48]
  | 24 => [8, 49, 50, 51, 52]
  | 26 => [8, 42, 53, 54, 55]
  | 28 => [56, 58, 59, 60, 61, 62, 63, 64, 65, 66, 67]
  | 30 => [58, 59, 64]
  | 32 => [60, 61, 62, 63]
  | 34 => [4, 9, 64, 65, 66, 67]
  | 36 => [3, 4, 6, 7, 9, 57, 68, 69, 70, 71, 72, 73, 74, 75, 76, 77, 78]
  | _ => []
def laws_FnExactTriangleNear.kl : Nat → List Nat := fun n => match n with
  | 0 => [2, 3, 4, 5, 6, 7, 8, 9, 10, 11, 12, 13, 14, 15, 16, 17, 18, 19, 20, 21, 22, 23, 24, 25, 26, 27, 28, 29, 30, 31, 32, 33, 34, 35, 36, 37, 38, 39, 40, 41, 42, 43, 44, 45]
  | 2 => [10, 11, 12]
  | 4 => [13, 14, 15]
  | 6 => [16, 17, 18]
  | 8 => [0, 1, 5, 6, 19]
  | 10 => [19]
  | 12 => [20, 21, 22]
  | 16 => [23, 24, 25]
  | 18 => [26]
  | 20 => [0, 1, 5, 6, 7, 8, 27]
  | 22 => [8, 27, 28, 29]
  | 24 => [0, 1, 5, 6, 7, 30]
  | 26 => [0, 1, 30, 31, 32, 33]
  | 28 => [5, 9, 34, 35, 36]
  | 30 => [6, 7, 37]
  | 32 => [37]
  | 34 => [6, 38, 39, 40]
  | 36 => [41]
  | 38 => [7, 8, 42]
  | 40 => [7, 8, 42, 43, 44]
  | 42 => [45]
  | 44 => [45]
  | _ => []
def laws_FnExactJoinsAll.kl : Nat → List Nat := fun n => match n with
  | 0 => [3, 4, 5, 6, 7, 8, 9, 10, 11, 12, 13, 14, 15, 16, 17, 18, 19, 20, 21, 22, 23, 24, 25, 26, 27, 28, 29, 30, 31]
  | 2 => [10, 11]
  | 4 => [0, 1, 2, 12]
  | 6 => [12, 13, 14, 15, 16, 17]
  | 8 => [18, 19]
  | 10 => [0, 2, 20, 21, 22, 23]
  | 12 => [7, 9, 24, 25]
  | 14 => [1, 8, 26]
  | 16 => [1, 8, 26, 27, 28, 29, 30]
  | 18 => [31]
  | 20 => [31]
  | _ => []
def spec_DrawTriangleNear.kl : Nat → List Nat := fun n => match n with
  | 0 => [1, 2, 3, 4, 5, 6, 7, 8, 9, 10, 11, 12, 13, 14, 15, 16, 17, 18, 19, 20, 21]
  | 2 => [0, 5, 6]
  | 4 => [4, 7, 8, 9, 10, 11, 12, 13, 14, 15, 16, 17, 18, 19, 20, 21]
  | _ => []
def impl_TriangleNear.kl : Nat → List Nat := fun n => match n with
  | 0 => [2, 3, 4, 5, 6, 7, 8, 9, 10, 11, 12, 13, 14, 15, 16, 17, 18, 19, 20, 21, 22, 23, 24, 25, 26, 27, 28, 29, 30, 31, 32, 33, 34, 35, 36, 37, 38, 39, 40, 41, 42, 43, 44, 45, 46, 47, 48, 49, 50, 51, 52, 53, 54, 55, 56, 57, 58, 59, 60, 61]
  | 2 => [12, 13, 14, 15, 16, 17, 18, 19, 20, 21, 22, 23]
  | 3 => [32]
  | 4 => [0, 1, 24]
  | 6 => [1, 24, 25, 26, 27, 28, 29]
  | 12 => [9, 10, 11, 33, 34, 35, 36, 37, 38, 39, 40, 41, 42, 43, 44, 45, 46, 47, 48, 49, 50, 51, 52, 53, 54, 55, 56, 57, 58, 59, 60]
  | 14 => [33]
  | 16 => [9, 34, 35, 36, 37, 38, 39, 40, 41]
  | 18 => [42, 43, 44, 45, 46, 47, 48, 49, 50, 51, 52]
  | 20 => [10, 11, 53, 54, 55, 56, 57, 58, 59]
  | 22 => [10, 11, 53, 60]
  | 24 => [0, 5, 6, 7, 30, 31, 32, 61]
  | _ => []
def laws_sameInts.kl : Nat → List Nat := fun n => match n with
  | 0 => [2, 3, 4, 5, 6, 7, 8, 9, 10, 11, 12, 13, 14, 15, 16, 17, 18, 19, 20, 21, 22, 23, 24, 25]
  | 2 => [6, 7, 8, 9]
  | 3 => [14]
  | 4 => [0, 1, 10]
  | 6 => [10]
  | 8 => [4, 11, 12, 13, 15, 16, 17, 18, 19, 20, 21, 22, 23, 24, 25]
  | 10 => [15, 16, 25]
  | 12 => [17, 18, 19, 20, 21, 22, 23, 24]
  | 14 => [0, 1, 5, 25]
  | 16 => [0, 1, 5, 14]
  | _ => []
def spec_TriangleNear.kl : Nat → List Nat := fun n => match n with
  | 0 => [2, 3, 4, 5, 6, 7, 8, 9, 10, 11, 12, 13, 14, 15, 16, 17, 18, 19, 20, 21, 22]
  | 2 => [5, 6, 7, 8, 9, 10, 11, 12, 13, 14]
  | 4 => [0, 1, 15, 16]
  | 6 => [0, 1, 15, 17, 18, 19, 20, 21, 22]
  | _ => []
def laws_hasInt.kl : Nat → List Nat := fun n => match n with
  | 0 => [2, 3, 4, 5, 6, 7, 8, 9, 10, 11, 12, 13, 14, 15, 16, 17]
  | 3 => [9]
  | 4 => [4, 6, 7, 8, 10, 11, 12, 13, 14, 15, 16, 17]
  | 6 => [10, 11, 17]
  | 8 => [12, 13, 14, 15, 16]
  | 10 => [0, 1, 5, 17]
  | 12 => [0, 1, 5, 9]
  | _ => []
def laws_alive.kl : Nat → List Nat := fun n => match n with
  | 0 => [0, 1, 2, 3, 4, 5]
  | 2 => [1, 2, 3, 4, 5]
  | _ => []
def laws_ascend.kl : Nat → List Nat := fun n => match n with
  | 0 => [1, 2, 3, 4, 5, 6, 7, 8, 9, 10, 11, 12, 13, 14, 15, 16, 17, 18, 19]
  | 3 => [7]
  | 4 => [2, 4, 5, 6, 8, 9, 10, 11, 12, 13, 14, 15, 16, 17, 18, 19]
  | 6 => [8, 9, 19]
  | 8 => [10, 11, 12, 13, 14, 15, 16, 17, 18]
  | 10 => [0, 3, 19]
  | 12 => [0, 3, 7]
  | _ => []
def spec_DrawJoinsAll.kl : Nat → List Nat := fun n => match n with
  | 0 => [1, 2, 3, 4, 5, 6, 7, 8, 9, 10, 11, 12, 13, 14, 15, 16, 17, 18, 19, 20, 21, 22, 23, 24]
  | 2 => [0, 8, 9]
  | 4 => [10, 11, 12, 13, 14]
  | 6 => [5, 6, 7, 15, 16, 17, 18, 19, 20, 21, 22, 23, 24]
  | _ => []
def impl_JoinsAll.kl : Nat → List Nat := fun n => match n with
  | 0 => [3, 4, 5, 6, 7, 8, 9, 10, 11, 12, 13, 14, 15, 16, 17, 18, 19, 20]
  | 2 => [0, 1, 2, 7, 8, 9, 10, 11, 12, 13, 14, 15, 16, 17, 18, 19, 20]
  | _ => []
def spec_JoinsAll.kl : Nat → List Nat := fun n => match n with
  | 0 => [3, 4, 5, 6, 7, 8, 9, 10, 11, 12, 13, 14, 15, 16, 17, 18, 19, 20, 21, 22, 23, 24, 25, 26, 27, 28, 29, 30, 31, 32, 33, 34, 35, 36, 37, 38, 39, 40, 41, 42, 43, 44, 45, 46, 47, 48, 49, 50, 51, 52, 53, 54, 55, 56, 57, 58, 59, 60, 61, 62, 63, 64, 65, 66, 67, 68, 69, 70, 71, 72, 73, 74, 75, 76, 77, 78, 79, 80, 81, 82, 83, 84, 85, 86, 87, 88, 89, 90, 91, 92, 93, 94]
  | 2 => [18, 19, 20, 21, 22, 23, 24, 25]
  | 3 => [35]
  | 4 => [0, 1, 2, 26]
  | 6 => [26, 27, 28]
  | 7 => [48]
  | 8 => [2, 29, 30, 31]
  | 12 => [6, 10, 11, 12, 13, 14, 15, 16, 17, 32, 33, 34, 36, 37, 38, 39, 40, 41, 42, 43, 44, 45, 46, 47, 48, 49, 50, 51, 52, 53, 54, 55, 56, 57, 58, 59, 60, 61, 62, 63, 64, 65, 66, 67, 68, 69, 70, 71, 72, 73, 74, 75, 76, 77, 78, 79, 80, 81, 82, 83, 84, 85, 86, 87, 88, 89, 90, 91, 92, 93, 94]
  | 14 => [36, 37, 94]
  | 16 => [38, 39, 40, 41, 42, 43, 44]
  | 26 => [15, 16, 17, 45, 46, 47, 49, 50, 51, 52, 53, 54, 55, 56, 57, 58, 59, 60, 61, 62, 63, 64, 65, 66, 67, 68, 69, 70, 71, 72, 73, 74, 75, 76, 77, 78, 79, 80, 81, 82, 83, 84, 85, 86, 87]
  | 28 => [49, 50]
  | 30 => [51, 52, 53, 54, 55]
  | 32 => [56, 57, 58, 59, 60]
  | 34 => [61, 62, 63, 64, 65, 66, 67, 68]
  | 36 => [16, 69, 70, 71, 72, 73, 74, 75, 76, 77]
  | 38 => [15, 17, 78, 79, 80, 81, 82, 83, 84, 85, 86, 87]
  | 40 => [10, 11, 12, 13, 14, 48, 88, 89, 90, 91, 92, 93]
  | 42 => [0, 1, 7, 8, 9, 94]
  | 44 => [0, 1, 7, 8, 9, 35]
  | _ => []
def spec_TriangleOk.kl : Nat → List Nat := fun n => match n with
  | 0 => [2, 3, 4, 5, 6, 7, 8, 9, 10, 11, 12, 13, 14, 15, 16, 17, 18, 19, 20, 21, 22, 23, 24, 25, 26]
  | 3 => [9]
  | 4 => [4, 6, 7, 8, 10, 11, 12, 13, 14, 15, 16, 17]
  | 6 => [10, 11, 17]
  | 8 => [12, 13, 14, 15, 16]
  | 10 => [0, 1, 5, 17]
  | 12 => [0, 1, 5, 9, 18, 19, 20, 21, 22, 23, 24, 25, 26]
  | _ => []
def impl_TurnedTriangle.kl : Nat → List Nat := fun n => match n with
  | 0 => [2, 3, 4, 5, 6, 7, 8, 9, 10, 11, 12, 13, 14, 15, 16, 17, 18, 19, 20, 21, 22, 23, 24, 25, 26, 27, 28, 29, 30, 31, 32, 33, 34, 35, 36, 37, 38, 39, 40, 41]
  | 2 => [9, 10, 11]
  | 3 => [19]
  | 4 => [0, 1, 12]
  | 6 => [12, 13, 14, 15]
  | 8 => [16]
  | 10 => [6, 7, 8, 20, 21, 22, 23, 24, 25, 26, 27, 28, 29, 30, 31, 32, 33, 34, 35, 36, 37, 38, 39, 40]
  | 12 => [20]
  | 14 => [21, 22, 23, 24, 25]
  | 16 => [6, 7, 8, 26, 27, 28, 29, 30, 31, 32, 33, 34, 35, 36, 37, 38, 39]
  | 18 => [40]
  | 20 => [0, 1, 5, 17, 18, 19, 41]
  | _ => []
def spec_DrawShrunk.kl : Nat → List Nat := fun n => match n with
  | 0 => [1, 2, 3, 4, 5, 6, 7, 8]
  | 2 => [0, 4, 5, 6, 7, 8]
  | _ => []
def impl_Shrunk.kl : Nat → List Nat := fun n => match n with
  | 0 => [2, 3, 4, 5, 6, 7, 8, 9, 10, 11, 12, 13, 14, 15, 16, 17, 18, 19, 20, 21, 22, 23, 24, 25, 26, 27, 28, 29, 30, 31, 32, 33, 34, 35, 36, 37, 38, 39, 40, 41, 42, 43, 44, 45, 46, 47, 48, 49, 50, 51, 52, 53, 54]
  | 2 => [10, 11, 12, 13, 14, 15, 16]
  | 3 => [25]
  | 4 => [0, 1, 17]
  | 6 => [0, 17, 18, 19, 20, 21]
  | 8 => [22]
  | 10 => [6, 7, 8, 9, 26, 27, 28, 29, 30, 31, 32, 33, 34, 35, 36, 37, 38, 39, 40, 41, 42, 43, 44, 45, 46, 47, 48, 49, 50, 51, 52, 53]
  | 12 => [26]
  | 14 => [27, 28, 29, 30, 31]
  | 16 => [7, 8, 32, 33, 34, 35]
  | 18 => [6, 9, 36, 37, 38, 39, 40, 41, 42, 43, 44, 45, 46, 47, 48, 49, 50, 51, 52]
  | 20 => [53]
  | 22 => [1, 5, 23, 24, 25, 54]
  | _ => []
def spec_Shrunk.kl : Nat → List Nat := fun n => match n with
  | 0 => [2, 3, 4, 5, 6, 7, 8, 9, 10, 11, 12, 13, 14, 15, 16, 17, 18, 19, 20, 21, 22, 23, 24, 25, 26, 27, 28, 29, 30, 31, 32, 33, 34, 35, 36, 37, 38, 39, 40, 41, 42, 43, 44, 45, 46, 47, 48, 49, 50, 51, 52, 53, 54, 55, 56, 57, 58, 59, 60, 61]
  | 2 => [11]
  | 3 => [25]
  | 4 => [12, 13, 14, 15, 16, 17, 18]
  | 6 => [0, 1, 5, 19, 20]
  | 8 => [19]
  | 10 => [7, 8, 9, 10, 21, 22, 23, 24, 26, 27, 28, 29, 30, 31, 32, 33, 34, 35, 36, 37, 38, 39, 40, 41, 42, 43, 44, 45, 46, 47, 48, 49, 50, 51, 52, 53, 54, 55, 56, 57, 58, 59, 60]
  | 12 => [26, 27]
  | 14 => [28, 29, 30, 31, 32]
  | 16 => [7, 8, 33, 34, 35, 36, 37]
  | 18 => [9, 38, 39, 40, 41, 42, 43, 44, 45, 46, 47, 48, 49, 50, 51, 52]
  | 20 => [10, 53]
  | 22 => [54, 55, 56, 57]
  | 24 => [54, 58, 59, 60]
  | 26 => [0, 1, 5, 6, 25, 61]
  | _ => []
def impl_TriangleOk.kl : Nat → List Nat := fun n => match n with
  | 0 => [2, 3, 4, 5, 6, 7, 8, 9, 10, 11, 12, 13, 14, 15, 16, 17, 18, 19, 20, 21, 22, 23, 24, 25, 26]
  | 2 => [0, 7, 8, 9, 10, 11, 12, 13, 14, 15]
  | 3 => [20]
  | 4 => [1, 16]
  | 6 => [1, 16]
  | 8 => [4, 6, 21, 22, 23, 24, 25, 26]
  | 10 => [21, 22]
  | 12 => [6, 23, 24]
  | 14 => [17, 18, 19, 25]
  | 16 => [25, 26]
  | 18 => [17, 18, 19, 20]
  | _ => []
def spec_DrawLastCell.kl : Nat → List Nat := fun n => match n with
  | 0 => [1, 2, 3, 4, 5, 6, 7, 8]
  | 2 => [0, 4, 5, 6, 7, 8]
  | _ => []
def impl_LastCell.kl : Nat → List Nat := fun n => match n with
  | 0 => [2, 3, 4, 5, 6, 7, 8, 9, 10, 11, 12, 13, 14, 15, 16, 17, 18]
  | 1 => [8]
  | 2 => [5, 6, 7]
  | 3 => [10]
  | 4 => [0, 1, 8]
  | 6 => [9, 11, 12, 13, 14, 15]
  | 8 => [11, 12]
  | 10 => [13, 14, 15]
  | 12 => [0, 1, 10, 16, 17, 18]
  | _ => []
def spec_LastCell.kl : Nat → List Nat := fun n => match n with
  | 0 => [2, 3, 4, 5, 6, 7, 8, 9, 10, 11, 12, 13, 14, 15, 16, 17, 18, 19, 20, 21, 22, 23, 24]
  | 2 => [7, 8, 9]
  | 3 => [16]
  | 4 => [0, 1, 10]
  | 6 => [1, 10, 11, 12, 13]
  | 8 => [0, 14]
  | 10 => [15, 17, 18, 19, 20, 21]
  | 12 => [17, 18]
  | 14 => [19, 20, 21]
  | 16 => [5, 6, 16, 22, 23, 24]
  | _ => []
def spec_DrawTriangleWins.kl : Nat → List Nat := fun n => match n with
  | 0 => [1, 2, 3, 4, 5, 6, 7, 8, 9, 10, 11, 12, 13, 14, 15, 16, 17, 18, 19, 20, 21, 22, 23, 24, 25, 26, 27, 28, 29, 30]
  | 2 => [0, 6, 7]
  | 4 => [8, 9, 10, 11, 12, 13, 14]
  | 6 => [4, 5, 15, 16, 17, 18, 19, 20, 21, 22, 23, 24, 25, 26, 27, 28, 29, 30]
  | _ => []
def impl_TriangleWins.kl : Nat → List Nat := fun n => match n with
  | 0 => [2, 3, 4, 5, 6, 7, 8, 9, 10, 11, 12, 13, 14, 15, 16, 17, 18, 19, 20, 21, 22, 23, 24, 25, 26, 27, 28, 29, 30, 31, 32, 33, 34, 35, 36, 37, 38]
  | 2 => [7, 8, 9, 10, 11, 12, 13, 14, 15, 16, 17, 18]
  | 3 => [24]
  | 4 => [0, 1, 19]
  | 6 => [19]
  | 8 => [20, 21]
  | 10 => [6, 25, 26, 27, 28, 29, 30, 31, 32, 33, 34, 35, 36, 37]
  | 12 => [25]
  | 14 => [6, 26, 27, 28, 29, 30, 31, 32, 33]
  | 16 => [34, 35, 36]
  | 18 => [34, 37]
  | 20 => [0, 1, 5, 22, 23, 24, 38]
  | _ => []
def spec_TriangleWins.kl : Nat → List Nat := fun n => match n with
  | 0 => [2, 3, 4, 5, 6, 7, 8, 9, 10, 11, 12, 13, 14, 15, 16, 17, 18, 19, 20, 21, 22, 23, 24, 25, 26, 27, 28, 29, 30, 31, 32, 33, 34, 35, 36, 37, 38, 39, 40, 41, 42, 43, 44, 45, 46, 47, 48, 49, 50, 51]
  | 2 => [9, 10, 11, 12, 13, 14, 15, 16, 17]
  | 3 => [23]
  | 4 => [0, 1, 18]
  | 6 => [18]
  | 7 => [34]
  | 10 => [7, 8, 19, 20, 21, 22, 24, 25, 26, 27, 28, 29, 30, 31, 32, 33, 34, 35, 36, 37, 38, 39, 40, 41, 42, 43, 44, 45, 46, 47, 48, 49, 50]
  | 12 => [24, 25, 29, 48]
  | 14 => [26, 27, 28]
  | 16 => [29, 30]
  | 20 => [31, 32, 33, 35, 36, 37, 38, 39, 40, 41, 42, 43, 44]
  | 22 => [35, 36]
  | 24 => [37, 38, 39, 40, 41, 42, 43, 44]
  | 26 => [7, 8, 34, 45, 46, 47]
  | 28 => [48, 49, 50]
  | 30 => [0, 1, 5, 6, 23, 51]
  | _ => []
def laws_eqIntS.kl : Nat → List Nat := fun n => match n with
  | 0 => [2, 3, 4, 5, 6, 7, 8, 9, 10, 11, 12, 13, 14, 15, 16, 17, 18, 19, 20, 21, 22, 23, 24, 25]
  | 2 => [6, 7, 8, 9]
  | 3 => [14]
  | 4 => [0, 1, 10]
  | 6 => [10]
  | 8 => [4, 11, 12, 13, 15, 16, 17, 18, 19, 20, 21, 22, 23, 24, 25]
  | 10 => [15, 16, 25]
  | 12 => [17, 18, 19, 20, 21, 22, 23, 24]
  | 14 => [0, 1, 5, 25]
  | 16 => [0, 1, 5, 14]
  | _ => []
def laws_markIntS.kl : Nat → List Nat := fun n => match n with
  | 0 => [2, 3, 4, 5, 6, 7, 8, 9, 10, 11, 12, 13, 14, 15, 16, 17, 18]
  | 3 => [9]
  | 4 => [6, 7, 8, 10, 11, 12, 13, 14, 15, 16, 17]
  | 6 => [10, 11]
  | 8 => [12, 13, 14, 15]
  | 10 => [16, 17]
  | 12 => [0, 1, 5, 9, 18]
  | _ => []
def laws_heldIntS.kl : Nat → List Nat := fun n => match n with
  | 0 => [2, 3, 4, 5, 6, 7, 8, 9, 10, 11, 12, 13, 14, 15, 16, 17, 18, 19, 20]
  | 3 => [9]
  | 4 => [4, 6, 7, 8, 10, 11, 12, 13, 14, 15, 16, 17, 18, 19]
  | 6 => [10, 11]
  | 8 => [12, 13, 14, 15, 16]
  | 10 => [0, 1, 5, 17]
  | 12 => [17, 18, 19]
  | 14 => [0, 1, 5, 9, 20]
  | _ => []
def laws_toIntS.kl : Nat → List Nat := fun n => match n with
  | 0 => [1, 2, 3, 4, 5, 6, 7, 8, 9, 10, 11, 12, 13, 14, 15, 16, 17, 18, 19, 20, 21]
  | 2 => [5, 6, 7]
  | 3 => [11]
  | 6 => [8, 9, 10, 12, 13, 14, 15, 16, 17, 18, 19, 20]
  | 8 => [12, 13]
  | 10 => [14, 15, 16, 17, 18, 19, 20]
  | 12 => [0, 3, 4, 11, 21]
  | _ => []
def spec_l20Open.kl : Nat → List Nat := fun n => match n with
  | 0 => [1, 2, 3, 4, 5, 6, 7, 8, 9, 10]
  | 2 => [3, 4]
  | 4 => [5, 6, 7]
  | 6 => [0, 5, 8, 9, 10]
  | _ => []
def spec_l20Rd_pick.kl : Nat → List Nat := fun n => match n with
  | 0 => [2, 3, 4, 5, 6, 7, 8, 9, 10, 11, 12, 13, 14, 15, 16, 17, 18, 19, 20, 21, 22, 23, 24, 25, 26, 27, 28, 29, 30, 31, 32, 33, 34, 35, 36, 37, 38, 39, 40, 41, 42, 43, 44, 45, 46, 47, 48, 49, 50, 51, 52, 53, 54, 55, 56, 57, 58, 59, 60, 61, 62, 63, 64, 65, 66, 67, 68, 69, 70, 71, 72, 73, 74, 75, 76, 77, 78, 79, 80, 81, 82, 83, 84, 85, 86, 87, 88, 89, 90, 91, 92, 93, 94, 95, 96, 97, 98]
  | 2 => [7, 8, 9, 10, 11, 12, 13, 14]
  | 4 => [15, 16, 17, 18, 19, 20, 21, 22, 23]
  | 6 => [0, 1, 24]
  | 8 => [24, 25, 26, 27, 28, 29]
  | 10 => [30, 31, 32, 33, 34, 35]
  | 12 => [0, 1, 5, 36, 37, 38, 39, 40, 41, 42, 43, 44, 45, 46]
  | 14 => [0, 5, 36, 47, 48, 49, 50, 51, 52, 53, 54, 55, 56, 57, 58, 59, 60, 61, 62, 63, 64, 65, 66, 67, 68, 69, 70, 71, 72, 73, 74, 75, 76, 77, 78, 79, 80, 81, 82, 83, 84, 85, 86, 87, 88, 89, 90, 91]
  | 16 => [92, 93, 94, 95]
  | 18 => [1, 6, 96, 97, 98]
  | _ => []
def impl_triangleSideOk.kl : Nat → List Nat := fun n => match n with
  | 0 => [1, 2, 3, 4, 5, 6, 7, 8]
  | 2 => [0, 3, 4, 5, 6, 7, 8]
  | _ => []
def impl_triangleSize.kl : Nat → List Nat := fun n => match n with
  | 0 => [1, 2, 3, 4]
  | 2 => [0, 3, 4]
  | _ => []
def impl_trianglePlace.kl : Nat → List Nat := fun n => match n with
  | 0 => [1, 2, 3, 4, 5, 6, 7, 8, 9, 10, 11, 12, 13, 14, 15, 16]
  | 3 => [9]
  | 4 => [5, 6, 7, 8, 10, 11]
  | 6 => [10, 11]
  | 8 => [0, 4, 9, 12, 13, 14, 15, 16]
  | _ => []
def impl_triangleCell.kl : Nat → List Nat := fun n => match n with
  | 0 => [2, 3, 4, 5, 6, 7, 8, 9, 10, 11]
  | 2 => [0, 1, 5, 6, 7, 8, 9, 10, 11]
  | _ => []
def spec_l1In.kl : Nat → List Nat := fun n => match n with
  | 0 => [3, 4, 5, 6, 7, 8, 9, 10, 11, 12, 13, 14]
  | 2 => [0, 1, 2, 7, 8, 9, 10, 11, 12, 13, 14]
  | _ => []
def spec_l7Cells.kl : Nat → List Nat := fun n => match n with
  | 0 => [1, 2, 3, 4, 5, 6, 7]
  | 2 => [0, 3, 4, 5, 6, 7]
  | _ => []
def spec_l2List.kl : Nat → List Nat := fun n => match n with
  | 0 => [1, 2, 3, 4, 5, 6, 7, 8, 9, 10, 11, 12, 13, 14, 15, 16, 17, 18, 19, 20, 21]
  | 2 => [5]
  | 3 => [9]
  | 6 => [6, 7, 8, 10, 11, 12, 13, 14, 15, 16, 17, 18, 19, 20]
  | 8 => [10, 11, 16]
  | 10 => [12, 13, 14, 15]
  | 12 => [16, 17, 18, 19, 20]
  | 14 => [0, 3, 4, 9, 21]
  | _ => []
def spec_l7Near.kl : Nat → List Nat := fun n => match n with
  | 0 => [1, 2, 3, 4, 5, 6, 7, 8, 9, 10, 11, 12, 13, 14, 15, 16, 17, 18, 19, 20, 21, 22, 23, 24, 25, 26, 27, 28, 29, 30, 31, 32, 33, 34, 35, 36, 37, 38, 39, 40, 41, 42, 43, 44, 45, 46, 47, 48, 49, 50, 51, 52, 53, 54, 55, 56, 57, 58, 59, 60, 61, 62, 63, 64, 65, 66, 67, 68, 69, 70, 71, 72, 73, 74, 75, 76, 77, 78, 79, 80, 81, 82, 83, 84, 85, 86, 87, 88, 89, 90, 91, 92, 93, 94, 95, 96, 97]
  | 2 => [14]
  | 3 => [18]
  | 6 => [5, 6, 7, 8, 9, 10, 11, 12, 13, 15, 16, 17, 19, 20, 21, 22, 23, 24, 25, 26, 27, 28, 29, 30, 31, 32, 33, 34, 35, 36, 37, 38, 39, 40, 41, 42, 43, 44, 45, 46, 47, 48, 49, 50, 51, 52, 53, 54, 55, 56, 57, 58, 59, 60, 61, 62, 63, 64, 65, 66, 67, 68, 69, 70, 71, 72, 73, 74, 75, 76, 77, 78, 79, 80, 81, 82, 83, 84, 85, 86, 87, 88, 89, 90, 91, 92, 93, 94, 95, 96]
  | 7 => [29]
  | 8 => [19, 20]
  | 12 => [21, 22, 23, 24, 25]
  | 16 => [9, 10, 11, 12, 13, 26, 27, 28, 30, 31, 32, 33, 34, 35, 36, 37, 38, 39, 40, 41, 42, 43, 44, 45, 46, 47, 48, 49, 50, 51, 52, 53, 54, 55, 56, 57, 58, 59, 60, 61, 62, 63, 64, 65, 66, 67, 68, 69, 70, 71, 72, 73, 74, 75, 76, 77, 78, 79, 80, 81, 82, 83, 84, 85, 86, 87, 88, 89, 90, 91, 92]
  | 18 => [30, 31, 88]
  | 20 => [32, 33, 34, 35, 36]
  | 22 => [37, 38, 39, 40, 41, 42, 43, 44, 45, 46, 47, 48, 49, 50, 51]
  | 24 => [52, 53, 54, 55, 56, 57, 58, 59, 60, 61, 62, 63, 64, 65, 66]
  | 26 => [9, 10, 67, 68, 69, 70, 71, 72, 73, 74, 75, 76, 77, 78, 79, 80, 81]
  | 28 => [11, 12, 13, 82, 83, 84, 85, 86, 87]
  | 30 => [88, 89, 90, 91, 92]
  | 32 => [5, 6, 7, 8, 29, 93, 94, 95, 96]
  | 34 => [0, 3, 4, 18, 97]
  | _ => []
def impl_BoardOk.kl : Nat → List Nat := fun n => match n with
  | 0 => [2, 3, 4, 5, 6, 7, 8, 9, 10, 11, 12, 13, 14, 15, 16]
  | 2 => [0, 1, 5, 6, 7, 8, 9, 10, 11, 12, 13, 14, 15, 16]
  | _ => []
def spec_l20Triangle.kl : Nat → List Nat := fun n => match n with
  | 0 => [2, 3, 4, 5, 6, 7, 8, 9, 10, 11, 12, 13, 14, 15, 16, 17, 18, 19, 20, 21, 22, 23, 24, 25, 26, 27, 28, 29, 30, 31, 32, 33, 34, 35, 36, 37, 38, 39, 40, 41, 42, 43, 44, 45, 46, 47]
  | 2 => [9, 10, 11]
  | 3 => [16]
  | 4 => [12]
  | 8 => [13, 14, 15, 17, 18, 19, 20, 21, 22, 23, 24]
  | 10 => [17, 18]
  | 12 => [19, 20, 21, 22, 23, 24]
  | 14 => [1, 8, 16, 25, 26]
  | 16 => [27, 28]
  | 18 => [0, 6, 7, 30, 31, 32, 33, 37]
  | 20 => [35]
  | 22 => [0, 6, 7, 29, 34, 36]
  | 24 => [29, 34, 38]
  | 26 => [0, 37, 39, 40, 41, 42, 43, 44, 45]
  | 28 => [0, 6, 7, 27, 46, 47]
  | _ => []
def impl_playerOk.kl : Nat → List Nat := fun n => match n with
  | 0 => [1, 2, 3, 4, 5, 6, 7, 8]
  | 2 => [0, 3, 4, 5, 6, 7, 8]
  | _ => []
def impl_touchesAll.kl : Nat → List Nat := fun n => match n with
  | 0 => [2, 3, 4, 5, 6, 7, 8, 9, 10, 11, 12, 13, 14, 15, 16, 17, 18, 19, 20, 21, 22]
  | 2 => [1, 8]
  | 3 => [12]
  | 4 => [9]
  | 6 => [7, 13, 14, 15, 16, 17, 18, 19, 20]
  | 8 => [13]
  | 10 => [7, 14, 15, 16, 17, 18, 19]
  | 12 => [20]
  | 14 => [0, 5, 10, 11, 12, 21, 22]
  | _ => []
def impl_setOf.kl : Nat → List Nat := fun n => match n with
  | 0 => [2, 3, 4, 5, 6, 7, 8, 9, 10, 11, 12, 13, 14, 15, 16, 17, 18, 19, 20, 21, 22, 23]
  | 3 => [11]
  | 4 => [0]
  | 6 => [6, 7, 12, 13, 14, 15, 16, 17, 18, 19, 20, 21, 22]
  | 8 => [12, 13, 14]
  | 10 => [7, 15, 16]
  | 12 => [6, 17, 18, 19, 20, 21]
  | 14 => [6, 17, 22]
  | 16 => [1, 5, 8, 9, 10, 11, 23]
  | _ => []
def spec_l2Set.kl : Nat → List Nat := fun n => match n with
  | 0 => [2, 3, 4, 5, 6, 7, 8, 9, 10, 11, 12, 13, 14, 15, 16, 17, 18, 19, 20, 21, 22, 23]
  | 3 => [10]
  | 6 => [7, 8, 9, 11, 12, 13, 14, 15, 16, 17, 18, 19, 20, 21, 22]
  | 8 => [11, 12, 18]
  | 10 => [13, 14, 15, 16, 17]
  | 12 => [18, 19, 20, 21, 22]
  | 14 => [0, 1, 5, 6, 10, 23]
  | _ => []
def spec_l2Grow.kl : Nat → List Nat := fun n => match n with
  | 0 => [3, 4, 5, 6, 7, 8, 9, 10, 11, 12, 13, 14, 15, 16, 17, 18, 19, 20, 21, 22, 23, 24, 25, 26, 27, 28, 29, 30, 31, 32, 33, 34, 35, 36, 37, 38, 39]
  | 2 => [2, 11, 12, 13]
  | 3 => [14]
  | 6 => [8, 9, 10, 15, 16, 17, 18, 19, 20, 21, 22, 23, 24, 25, 26, 27, 28, 29, 30, 31, 32, 33, 34, 35, 36, 37, 38]
  | 7 => [19]
  | 8 => [15]
  | 12 => [16, 17, 18, 20, 21, 22, 23, 24, 25, 26, 27, 28, 29, 30, 31, 32, 33, 34]
  | 14 => [20, 21, 26]
  | 16 => [22, 23, 24, 25]
  | 18 => [26, 27, 28, 29, 30, 31, 32, 33, 34]
  | 20 => [7, 10, 19, 35, 36, 37]
  | 22 => [9, 38]
  | 24 => [0, 1, 7, 14, 39]
  | _ => []
def spec_l7Place.kl : Nat → List Nat := fun n => match n with
  | 0 => [1, 2, 3, 4, 5, 6, 7, 8, 9, 10, 11, 12, 13, 14, 15]
  | 3 => [7]
  | 4 => [5, 6, 8, 9, 10, 11, 12, 13]
  | 6 => [8, 9, 10, 11]
  | 8 => [12, 13]
  | 10 => [0, 4, 7, 14, 15]
  | _ => []
def impl_mostOf.kl : Nat → List Nat := fun n => match n with
  | 0 => [3, 4, 5, 6, 7, 8, 9, 10, 11]
  | 2 => [2, 7, 8]
  | 4 => [0, 1, 9, 10]
  | 6 => [0, 1, 9, 11]
  | _ => []
def impl_countIn.kl : Nat → List Nat := fun n => match n with
  | 0 => [1, 2, 3, 4, 5]
  | 2 => [0, 3, 4, 5]
  | _ => []
def spec_l6Size.kl : Nat → List Nat := fun n => match n with
  | 0 => [1, 2, 3, 4, 5]
  | 2 => [0, 3, 4, 5]
  | _ => []
def impl_sizeOk.kl : Nat → List Nat := fun n => match n with
  | 0 => [1, 2, 3, 4, 5, 6, 7, 8]
  | 2 => [0, 3, 4, 5, 6, 7, 8]
  | _ => []
def spec_l20Rd_odd.kl : Nat → List Nat := fun n => match n with
  | 0 => [2, 3, 4, 5, 6, 7, 8, 9, 10, 11, 12, 13, 14]
  | 2 => [0, 1, 5, 6, 7, 8, 9, 10, 11, 12, 13, 14]
  | _ => []
def impl_triangleEdges.kl : Nat → List Nat := fun n => match n with
  | 0 => [1, 3, 4, 5, 6, 7, 8, 9, 10, 11, 12, 13, 14, 15, 16, 17, 18, 19, 20, 21, 22, 23, 24, 25, 26, 27, 28, 29, 30, 31, 32, 33, 34]
  | 3 => [7]
  | 6 => [4, 8, 9, 10, 11, 12, 13, 14, 15, 16, 17, 18, 19, 20, 21, 22, 23, 24, 25, 26, 27, 28, 29, 30, 31, 32, 33]
  | 8 => [8]
  | 10 => [9, 10, 11, 12, 13, 14, 15]
  | 12 => [16, 17, 18, 19, 20, 21, 22, 23]
  | 14 => [4, 24, 25, 26, 27, 28, 29, 30, 31, 32]
  | 16 => [33]
  | 18 => [0, 3, 5, 6, 7, 34]
  | _ => []
def impl_triangleWave.kl : Nat → List Nat := fun n => match n with
  | 0 => [3, 4, 5, 6, 7, 8, 9, 10, 11, 12, 13, 14, 15, 16, 17, 18, 19, 20, 21]
  | 2 => [8]
  | 3 => [10]
  | 4 => [9, 11, 12, 13, 14, 15, 16, 17, 18, 19, 20]
  | 6 => [11, 12, 13, 14, 15, 16, 17]
  | 8 => [18, 19, 20]
  | 10 => [0, 1, 2, 7, 10, 21]
  | _ => []
def bits_OnesCount.kl : Nat → List Nat := fun n => match n with
  | 0 => [1, 2, 3, 4, 5, 6, 7]
  | 2 => [0, 3, 4, 5]
  | 4 => [0, 6, 7]
  | _ => []
def impl_triangleAround.kl : Nat → List Nat := fun n => match n with
  | 0 => [2, 3, 4, 5, 6, 7, 8, 9, 10, 11, 12, 13, 14, 15, 16, 17, 18, 19, 20, 21, 22, 23, 24, 25, 26, 27, 28, 29, 30]
  | 3 => [11]
  | 4 => [1, 9]
  | 6 => [8, 10, 12, 13, 14, 15, 16, 17, 18, 19, 20, 21, 22, 23, 24, 25, 26, 27, 28, 29]
  | 7 => [22]
  | 8 => [12, 13, 14, 15, 19, 20, 21, 22]
  | 10 => [16, 17, 18]
  | 12 => [8, 23, 24, 25, 26, 27, 28, 29]
  | 14 => [23, 24]
  | 16 => [8, 25, 26, 27, 28]
  | 18 => [29]
  | 20 => [0, 5, 6, 11, 30]
  | _ => []
def bits_OnesCount64.kl : Nat → List Nat := fun n => match n with
  | 0 => [1, 2, 3, 4, 5, 6, 7, 8, 9, 10, 11, 12, 13, 14, 15, 16, 17, 18, 19, 20, 21, 22, 23, 24, 25, 26, 27, 28, 29, 30, 31, 32, 33, 34]
  | 2 => [3, 4, 5, 6, 7, 8]
  | 4 => [9, 10, 11, 12, 13, 14]
  | 6 => [15, 16, 17, 18, 19]
  | 8 => [20, 21, 22, 23]
  | 10 => [24, 25, 26, 27]
  | 12 => [28, 29, 30, 31]
  | 14 => [0, 32, 33, 34]
  | _ => []
def impl_leastIn.kl : Nat → List Nat := fun n => match n with
  | 0 => [1, 2, 3, 4, 5]
  | 2 => [0, 3, 4, 5]
  | _ => []
def bits_TrailingZeros.kl : Nat → List Nat := fun n => match n with
  | 0 => [1, 2, 3, 4, 5, 6, 7]
  | 2 => [0, 3, 4, 5]
  | 4 => [0, 6, 7]
  | _ => []
def bits_TrailingZeros32.kl : Nat → List Nat := fun n => match n with
  | 0 => [1, 2, 3, 4, 5, 6, 7, 8, 9, 10, 11, 12, 13]
  | 2 => [3]
  | 4 => [0, 4]
  | 6 => [0, 4, 5, 6, 7, 8, 9, 10, 11, 12, 13]
  | _ => []
def bits_TrailingZeros64.kl : Nat → List Nat := fun n => match n with
  | 0 => [1, 2, 3, 4, 5, 6, 7, 8, 9, 10, 11, 12, 13]
  | 2 => [3]
  | 4 => [0, 4]
  | 6 => [0, 4, 5, 6, 7, 8, 9, 10, 11, 12, 13]
  | _ => []
def KL : FuncId → Nat → List Nat := fun f => match f with
  | 3 => laws_FnTriangleNear.kl
  | 4 => laws_FnJoinsAll.kl
  | 5 => laws_FnShrunk.kl
  | 6 => laws_FnLastCell.kl
  | 7 => laws_FnTriangleWins.kl
  | 8 => laws_FnTriangleHalf.kl
  | 9 => laws_FnJoinsMore.kl
  | 10 => laws_FnExactTriangleNear.kl
  | 11 => laws_FnExactJoinsAll.kl
  | 12 => spec_DrawTriangleNear.kl
  | 13 => impl_TriangleNear.kl
  | 14 => laws_sameInts.kl
  | 15 => spec_TriangleNear.kl
  | 16 => laws_hasInt.kl
  | 17 => laws_alive.kl
  | 18 => laws_ascend.kl
  | 19 => spec_DrawJoinsAll.kl
  | 20 => impl_JoinsAll.kl
  | 21 => spec_JoinsAll.kl
  | 22 => spec_TriangleOk.kl
  | 23 => impl_TurnedTriangle.kl
  | 24 => spec_DrawShrunk.kl
  | 25 => impl_Shrunk.kl
  | 26 => spec_Shrunk.kl
  | 27 => impl_TriangleOk.kl
  | 28 => spec_DrawLastCell.kl
  | 29 => impl_LastCell.kl
  | 30 => spec_LastCell.kl
  | 31 => spec_DrawTriangleWins.kl
  | 32 => impl_TriangleWins.kl
  | 33 => spec_TriangleWins.kl
  | 34 => laws_eqIntS.kl
  | 35 => laws_markIntS.kl
  | 36 => laws_heldIntS.kl
  | 37 => laws_toIntS.kl
  | 38 => spec_l20Open.kl
  | 39 => spec_l20Rd_pick.kl
  | 40 => impl_triangleSideOk.kl
  | 41 => impl_triangleSize.kl
  | 42 => impl_trianglePlace.kl
  | 43 => impl_triangleCell.kl
  | 44 => spec_l1In.kl
  | 45 => spec_l7Cells.kl
  | 46 => spec_l2List.kl
  | 47 => spec_l7Near.kl
  | 48 => impl_BoardOk.kl
  | 49 => spec_l20Triangle.kl
  | 50 => impl_playerOk.kl
  | 51 => impl_touchesAll.kl
  | 52 => impl_setOf.kl
  | 53 => spec_l2Set.kl
  | 54 => spec_l2Grow.kl
  | 55 => spec_l7Place.kl
  | 56 => impl_mostOf.kl
  | 57 => impl_countIn.kl
  | 58 => spec_l6Size.kl
  | 59 => impl_sizeOk.kl
  | 60 => spec_l20Rd_odd.kl
  | 61 => impl_triangleEdges.kl
  | 62 => impl_triangleWave.kl
  | 63 => bits_OnesCount.kl
  | 64 => impl_triangleAround.kl
  | 66 => bits_OnesCount64.kl
  | 67 => impl_leastIn.kl
  | 68 => bits_TrailingZeros.kl
  | 69 => bits_TrailingZeros32.kl
  | 70 => bits_TrailingZeros64.kl
  | _ => fun _ => []
noncomputable def CL (g : Nat → PV) (lf n : Nat) : FuncId → List PV → PHeap → Res := call Tryd.prog g KL lf n
noncomputable def env (g : Nat → PV) (lf n : Nat) : Env := ⟨g, lf, CL g lf n, std Tryd.prog⟩
@[simp] theorem env_C (g : Nat → PV) (lf n : Nat) : (env g lf n).C = CL g lf n := rfl
@[simp] theorem env_g (g : Nat → PV) (lf n : Nat) : (env g lf n).g = g := rfl
@[simp] theorem env_lf (g : Nat → PV) (lf n : Nat) : (env g lf n).lf = lf := rfl
@[simp] theorem env_pick (g : Nat → PV) (lf n : Nat) : (env g lf n).p.pick = pickP := rfl
@[simp] theorem env_alloc (g : Nat → PV) (lf n : Nat) : (env g lf n).p.alloc = allocP Tryd.prog := rfl
@[simp] theorem env_box (g : Nat → PV) (lf n : Nat) : (env g lf n).p.box = boxP := rfl
@[simp] theorem env_build (g : Nat → PV) (lf n : Nat) : (env g lf n).p.build = buildP Tryd.prog := rfl
@[simp] theorem env_buildSlice (g : Nat → PV) (lf n : Nat) : (env g lf n).p.buildSlice = buildSliceP Tryd.prog := rfl
@[simp] theorem env_load (g : Nat → PV) (lf n : Nat) : (env g lf n).p.load = loadP Tryd.prog := rfl
@[simp] theorem env_store (g : Nat → PV) (lf n : Nat) : (env g lf n).p.store = storeP Tryd.prog := rfl
@[simp] theorem env_ptr (g : Nat → PV) (lf n : Nat) : (env g lf n).p.ptr = ptrP := rfl
@[simp] theorem env_bin (g : Nat → PV) (lf n : Nat) : (env g lf n).p.bin = binP Tryd.prog := rfl
@[simp] theorem env_un (g : Nat → PV) (lf n : Nat) : (env g lf n).p.un = unP := rfl
@[simp] theorem env_conv (g : Nat → PV) (lf n : Nat) : (env g lf n).p.conv = convP Tryd.prog := rfl
@[simp] theorem env_make (g : Nat → PV) (lf n : Nat) : (env g lf n).p.make = makeP Tryd.prog := rfl
@[simp] theorem env_slice (g : Nat → PV) (lf n : Nat) : (env g lf n).p.slice = sliceP Tryd.prog := rfl
@[simp] theorem env_fieldAddr (g : Nat → PV) (lf n : Nat) : (env g lf n).p.fieldAddr = fieldAddrP Tryd.prog := rfl
@[simp] theorem env_field (g : Nat → PV) (lf n : Nat) : (env g lf n).p.field = fieldP Tryd.prog := rfl
@[simp] theorem env_indexAddr (g : Nat → PV) (lf n : Nat) : (env g lf n).p.indexAddr = indexAddrP Tryd.prog := rfl
@[simp] theorem env_index (g : Nat → PV) (lf n : Nat) : (env g lf n).p.index = indexP Tryd.prog := rfl
@[simp] theorem env_extract (g : Nat → PV) (lf n : Nat) : (env g lf n).p.extract = extractP := rfl
@[simp] theorem env_len (g : Nat → PV) (lf n : Nat) : (env g lf n).p.len = lenP Tryd.prog := rfl
@[simp] theorem env_append (g : Nat → PV) (lf n : Nat) : (env g lf n).p.append = appendP Tryd.prog := rfl
@[simp] theorem env_max (g : Nat → PV) (lf n : Nat) : (env g lf n).p.max = foldP maxP2 := rfl
@[simp] theorem env_min (g : Nat → PV) (lf n : Nat) : (env g lf n).p.min = foldP minP2 := rfl
@[simp] theorem env_makeMap (g : Nat → PV) (lf n : Nat) : (env g lf n).p.makeMap = makeMapP := rfl
@[simp] theorem env_lookup (g : Nat → PV) (lf n : Nat) : (env g lf n).p.lookup = lookupP Tryd.prog := rfl
@[simp] theorem env_update (g : Nat → PV) (lf n : Nat) : (env g lf n).p.update = updateP Tryd.prog := rfl
end Go.Proofs.YtlefknibddkjpaaDoor.G

/- From what the interpreter computes for a law to what the machine's call of it does. -/
set_option maxRecDepth 20000
namespace Go.Proofs.YtlefknibddkjpaaDoor
open Go Go.Ip Go.RowKit G

def g0 : Nat → PV := fun _ => .junk
def LF : Nat := 4294967296

theorem prog_mixed : Tryd.prog.follows .mixedOrders = true := by kernel_rfl
theorem prog_ok : progOk Tryd.prog = true := by kernel_rfl

/-- A slice of integers, nil or not, as the interpreter's heap holds it. -/
def IntSl (k : IntKind) (h : PHeap) (p : PV) (xs : List Int) : Prop :=
  (p = .nilsl ∧ xs = []) ∨ ∃ id off, p = .sl id off xs.length ∧ ∀ (i : Nat) x, xs[i]? = some x → (cellsAt h id)[off + i]? = some (.int k x)

/-- A slice of integers that came in. -/
theorem row_arg {k : IntKind} {w : World} {a : Option Addr} {len cap : Nat} {zs : List Int}
    (h : (a = none ∧ len = 0 ∧ cap = 0 ∧ zs = []) ∨ ∃ x, a = some x ∧ len ≤ cap ∧ cap ≤ maxLen ∧ zs.length = cap ∧ (∀ i, i < zs.length → w.cell? (x.add i) = some (.int k (zs.getD i 0))) ∧ ∀ n ∈ zs, (Lit.int k n).wf = true) :
    ∃ μ o p, Sim w.heap.size w μ [o] w ∧ rep μ p (.slice a len cap) ∧ IntSl k [o] p (zs.take len) ∧ len = (zs.take len).length ∧ len ≤ maxLen ∧ (∀ n ∈ zs.take len, (Lit.int k n).wf = true) ∧ (o = .dead ∨ ∃ c, o = .ro 1 c) := by
  have simD : ∀ l : Ip.Loc, Sim w.heap.size w [l] [.dead] w := fun l =>
    ⟨rfl, Below.refl _ _, Nat.le_refl _, fun id o l h _ => by
      match id, h with
      | 0, h => simp at h; subst h; trivial
      | id + 1, h => simp at h, fun i j li lj ei ci ej cj _ h => by
      match i, h with
      | 0, h => simp at h
      | i + 1, h => simp at h, fun i j li lj ei ej _ h => by
      match i, h with
      | 0, h => simp at h
      | i + 1, h => simp at h⟩
  rcases h with ⟨rfl, rfl, rfl, rfl⟩ | ⟨x, rfl, hlc, hcm, hz, hcell, hwf⟩
  · exact ⟨[⟨0, 0, 0, 0⟩], .dead, .nilsl, simD _, rfl, .inl ⟨rfl, by simp⟩, by simp, Nat.zero_le _, by simp, .inl rfl⟩
  · have hlen : len = (zs.take len).length := by simp; omega
    refine ⟨[⟨x.block, x.off, x.off + cap, 1⟩], if cap = 0 then .dead else .ro 1 ((zs.take len).map (.int k)), .sl 0 0 (zs.take len).length, ?_, ?_, ?_, hlen, by omega, fun n hn => hwf n (List.mem_of_mem_take hn), ?_⟩
    · by_cases hc : cap = 0
      · rw [if_pos hc]; exact simD _
      · rw [if_neg hc]
        have h0 := hcell 0 (by omega)
        have hblk : x.block < w.heap.size := by
          have := World.block_lt_of_cell? w _ h0
          simpa [Addr.add] using this
        have hspot : x.spot = none := by
          have h1 : w.cell? x = some (.int k (zs.getD 0 0)) := by simpa [Addr.add] using h0
          unfold World.cell? at h1
          split at h1
          · split at h1
            · cases h1
            · rename_i hs; simpa using hs
          · cases h1
        refine ⟨rfl, Below.refl _ _, Nat.le_refl _, ?_, ?_, fun i j li lj ei ej _ h => by
          match i, h with
          | 0, h => simp at h
          | i + 1, h => simp at h⟩
        · intro id o l ho hl
          match id, ho, hl with
          | 0, ho, hl =>
            obtain rfl := Option.some.inj ho
            obtain rfl := Option.some.inj hl
            refine ⟨rfl, hblk, ?_⟩
            intro j p hp
            simp only [List.getElem?_map, Option.map_eq_some_iff] at hp
            obtain ⟨n, hn, rfl⟩ := hp
            have hj : j < (zs.take len).length := (List.getElem?_eq_some_iff.1 hn).1
            have hj2 : j < zs.length := by simp at hj; omega
            refine ⟨_, ?_, rfl⟩
            have := hcell j hj2
            have hadd : x.add j = ⟨x.block, x.off + j, none⟩ := by
              cases x
              simp only at hspot
              subst hspot
              exact Addr.add_lit _ _ _
            rw [hadd] at this
            refine this.trans ?_
            rw [List.getElem?_take] at hn
            split at hn
            · simp [List.getD, hn]
            · cases hn
          | id + 1, ho, _ => simp at ho
        · intro i j li lj ei ci ej cj _ h
          match i, h with
          | 0, h => simp at h
          | i + 1, h => simp at h
    · refine ⟨_, cap, x, rfl, by rw [← hlen], by omega, ?_⟩
      by_cases hc : cap = 0
      · exact .inl hc
      · right
        have h0 := hcell 0 (by omega)
        have hspot : x.spot = none := by
          have h1 : w.cell? x = some (.int k (zs.getD 0 0)) := by simpa [Addr.add] using h0
          unfold World.cell? at h1
          split at h1
          · split at h1
            · cases h1
            · rename_i hs; simpa using hs
          · cases h1
        refine ⟨?_, by simp⟩
        cases x
        simp only at hspot
        subst hspot
        rfl
    · right
      refine ⟨0, 0, rfl, fun i n hn => ?_⟩
      have hi : i < (zs.take len).length := (List.getElem?_eq_some_iff.1 hn).1
      have hc : cap ≠ 0 := by omega
      rw [if_neg hc]
      have : cellsAt [PObj.ro 1 ((zs.take len).map (.int k))] 0 = (zs.take len).map (.int k) := rfl
      rw [this, List.getElem?_map, Nat.zero_add, hn]
      rfl
    · by_cases hc : cap = 0
      · rw [if_pos hc]; exact .inl rfl
      · rw [if_neg hc]; exact .inr ⟨_, rfl⟩

end Go.Proofs.YtlefknibddkjpaaDoor

