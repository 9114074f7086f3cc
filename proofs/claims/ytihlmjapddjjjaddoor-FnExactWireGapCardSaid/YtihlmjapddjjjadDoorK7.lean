/- Texts of this seat, in their order, put together by program. -/
import Derived.Test.YtihlmjapddjjjadDoorK6
import Derived.Test.YtihlmjapddjjjadDoorProg
import Derived.KernelRfl
set_option linter.unusedSimpArgs false
set_option linter.unusedVariables false
set_option linter.unusedSectionVars false
/- Of each function of this seat's program its plain form over the interpreter, written by program; each equation is the kernel's. -/
set_option linter.unusedVariables false
set_option maxRecDepth 100000
namespace Go.Proofs.YtihlmjapddjjjadDoor.G
open Go Go.Ip Go.Proofs

def fn_laws_FnExactWireGap : Nat := 3
def fn_laws_szWireS : Nat := 4
def fn_spec_WireGap : Nat := 5
def fn_laws_toWireS : Nat := 6
def fn_laws_toIntS : Nat := 7
def fn_impl_WireGap : Nat := 8
def fn_laws_eqWireS : Nat := 9
def fn_laws_eqIntS : Nat := 10
def fn_spec_OwnersOk : Nat := 11
def fn_spec_l2Set : Nat := 12
def fn_spec_l9Reach : Nat := 13
def fn_laws_toWire : Nat := 14
def fn_impl_OwnersOk : Nat := 15
def fn_impl_setOf : Nat := 16
def fn_impl_partsBySize : Nat := 17
def fn_impl_linked : Nat := 18
def fn_impl_countIn : Nat := 19
def fn_laws_eqWire : Nat := 20
def fn_spec_l1In : Nat := 21
def fn_spec_WiresOk : Nat := 22
def fn_impl_WiresOk : Nat := 23
def fn_impl_contentOk : Nat := 24
def fn_impl_partsOf : Nat := 25
def fn_slices_SortStableFunc___int_int_ : Nat := 26
def fn_impl_partsBySize_1 : Nat := 27
def fn_cmp_Compare_int_ : Nat := 28
def fn_impl_nodesReached : Nat := 29
def fn_bits_OnesCount : Nat := 30
def fn_impl_nodeOk : Nat := 31
def fn_slices_stableCmpFunc_int_ : Nat := 32
def fn_cmp_isNaN_int_ : Nat := 33
def fn_impl_nodesBeside : Nat := 34
def fn_bits_OnesCount64 : Nat := 36
def fn_slices_insertionSortCmpFunc_int_ : Nat := 37
def fn_slices_symMergeCmpFunc_int_ : Nat := 38
def fn_impl_leastIn : Nat := 39
def fn_slices_rotateCmpFunc_int_ : Nat := 40
def fn_bits_TrailingZeros : Nat := 41
def fn_slices_swapRangeCmpFunc_int_ : Nat := 42
def fn_bits_TrailingZeros32 : Nat := 43
def fn_bits_TrailingZeros64 : Nat := 44
def laws_FnExactWireGap.kl : Nat → List Nat := fun n => match n with
  | 0 => [3, 4, 5, 6, 7, 8, 9, 10, 11, 12, 13, 14, 15, 16, 17, 18, 19, 20, 21, 22, 23, 24, 25, 26, 27, 28, 29, 30, 31, 32, 33, 34, 35, 36, 37, 38, 39, 40, 41, 42, 43, 44, 45, 46]
  | 2 => [12, 13]
  | 4 => [0, 1, 2, 14]
  | 6 => [14]
  | 8 => [15, 16, 17]
  | 10 => [7, 18]
  | 12 => [0, 1, 2, 19]
  | 14 => [19, 20, 21, 22, 23, 24, 25]
  | 16 => [26, 27]
  | 18 => [28, 29]
  | 20 => [0, 30, 31, 32, 33]
  | 22 => [8, 11, 34, 35]
  | 24 => [1, 2, 9, 10, 36]
  | 26 => [1, 9, 36, 37, 38, 39, 40]
  | 28 => [2, 10, 41]
  | 30 => [2, 10, 41, 42, 43, 44, 45]
  | 32 => [46]
  | 34 => [46]
  | _ => []
def laws_szWireS.kl : Nat → List Nat := fun n => match n with
  | 0 => [2, 3, 4, 5, 6, 7, 8, 9, 10, 11]
  | 2 => [0, 5, 6, 7, 8]
  | 4 => [9]
  | 6 => [1, 10]
  | 8 => [1, 10, 11]
  | _ => []
def spec_WireGap.kl : Nat → List Nat := fun n => match n with
  | 0 => [3, 4, 5, 6, 7, 8, 9, 10, 11, 12, 13, 14, 15, 16, 17, 18, 19, 20, 21, 22, 23, 24, 25, 26, 27, 28, 29, 30, 31, 32, 33, 34, 35, 36, 37, 38, 39, 40, 41, 42, 43, 44, 45, 46, 47, 48, 49, 50, 51, 52, 53, 54, 55, 56, 57, 58, 59, 60, 61, 62, 63, 64, 65, 66, 67, 68, 69, 70, 71, 72, 73, 74, 75, 76, 77, 78, 79, 80, 81, 82, 83, 84, 85, 86, 87, 88, 89, 90, 91, 92, 93, 94, 95, 96, 97, 98, 99, 100, 101, 102]
  | 2 => [14, 15, 16, 17]
  | 3 => [29]
  | 4 => [0, 1, 2, 18]
  | 6 => [18, 19, 20]
  | 7 => [41]
  | 8 => [2, 21, 22]
  | 10 => [23, 24, 25]
  | 11 => [85]
  | 14 => [6, 11, 12, 13, 26, 27, 28, 30, 31, 32, 33, 34, 35, 36, 37, 38, 39, 40, 41, 42, 43, 44, 45, 46, 47, 48, 49, 50, 51, 52, 53, 54, 55, 56, 57, 58, 59, 60, 61, 62, 63, 64, 65, 66, 67, 68, 69, 70, 71, 72, 73, 74, 75, 76, 77, 78, 79, 80, 81, 82, 83, 84, 85, 86, 87, 88, 89, 90, 91, 92, 93, 94, 95, 96, 97, 98, 99, 100, 101, 102]
  | 16 => [30, 31]
  | 18 => [32, 33, 34]
  | 20 => [0, 1, 7, 8, 9, 10, 35, 36]
  | 22 => [35, 37]
  | 26 => [38, 39, 40, 42, 43, 44, 45, 46, 47, 48, 49, 50, 51, 52, 53, 54, 55, 56, 57, 58, 59, 60, 61, 62, 63, 64, 65, 66, 67, 68, 69, 70, 71, 72, 73, 74, 75, 76, 77, 78, 79, 80, 81, 82]
  | 28 => [42, 43, 67]
  | 30 => [44, 45, 46, 47, 48, 49, 50, 51, 52, 53, 54, 55, 56, 57, 58, 59, 60, 61, 62, 63, 64, 65, 66]
  | 32 => [67, 68, 69, 70, 71, 72, 73, 74, 75, 76, 77, 78, 79, 80, 81, 82]
  | 34 => [12, 41]
  | 36 => [83, 84, 86, 87, 88, 89, 90, 91, 92, 93, 94, 95, 96, 97, 98]
  | 38 => [86, 87, 92]
  | 40 => [88, 89, 90, 91]
  | 42 => [92, 93, 94, 95, 96, 97, 98]
  | 44 => [9, 13, 85, 99, 100]
  | 46 => [0, 1, 7, 8, 10, 11, 101]
  | 48 => [11, 101, 102]
  | 50 => [0, 1, 7, 8, 9, 10, 29]
  | _ => []
def laws_toWireS.kl : Nat → List Nat := fun n => match n with
  | 0 => [1, 2, 3, 4, 5, 6, 7, 8, 9, 10, 11, 12, 13, 14, 15, 16, 17, 18, 19, 20, 21, 22]
  | 2 => [5, 6, 7]
  | 3 => [11]
  | 6 => [8, 9, 10, 12, 13, 14, 15, 16, 17, 18, 19, 20, 21]
  | 8 => [12, 13]
  | 10 => [14, 15, 16, 17, 18, 19, 20, 21]
  | 12 => [0, 3, 4, 11, 22]
  | _ => []
def laws_toIntS.kl : Nat → List Nat := fun n => match n with
  | 0 => [1, 2, 3, 4, 5, 6, 7, 8, 9, 10, 11, 12, 13, 14, 15, 16, 17, 18, 19, 20, 21]
  | 2 => [5, 6, 7]
  | 3 => [11]
  | 6 => [8, 9, 10, 12, 13, 14, 15, 16, 17, 18, 19, 20]
  | 8 => [12, 13]
  | 10 => [14, 15, 16, 17, 18, 19, 20]
  | 12 => [0, 3, 4, 11, 21]
  | _ => []
def impl_WireGap.kl : Nat → List Nat := fun n => match n with
  | 0 => [3, 4, 5, 6, 7, 8, 9, 10, 11, 12, 13, 14, 15, 16, 17, 18, 19, 20, 21, 22, 23, 24, 25, 26, 27, 28, 29, 30, 31, 32]
  | 2 => [0, 10, 11, 12, 13]
  | 3 => [22]
  | 4 => [1, 2, 14]
  | 6 => [14, 15, 16]
  | 8 => [2, 17, 18]
  | 10 => [6, 9, 23, 24, 25, 26, 27, 28, 29, 30, 31, 32]
  | 12 => [23, 24]
  | 14 => [25, 26, 27, 28]
  | 16 => [1, 7, 9, 19, 20, 21, 29, 30, 31]
  | 18 => [9, 29, 32]
  | 20 => [1, 7, 19, 20, 21, 22]
  | _ => []
def laws_eqWireS.kl : Nat → List Nat := fun n => match n with
  | 0 => [2, 3, 4, 5, 6, 7, 8, 9, 10, 11, 12, 13, 14, 15, 16, 17, 18, 19, 20, 21, 22, 23, 24, 25, 26]
  | 2 => [6, 7, 8, 9]
  | 3 => [14]
  | 4 => [0, 1, 10]
  | 6 => [10]
  | 8 => [4, 11, 12, 13, 15, 16, 17, 18, 19, 20, 21, 22, 23, 24, 25, 26]
  | 10 => [15, 16, 26]
  | 12 => [17, 18, 19, 20, 21, 22, 23, 24, 25]
  | 14 => [0, 1, 5, 26]
  | 16 => [0, 1, 5, 14]
  | _ => []
def laws_eqIntS.kl : Nat → List Nat := fun n => match n with
  | 0 => [2, 3, 4, 5, 6, 7, 8, 9, 10, 11, 12, 13, 14, 15, 16, 17, 18, 19, 20, 21, 22, 23, 24, 25]
  | 2 => [6, 7, 8, 9]
  | 3 => [14]
  | 4 => [0, 1, 10]
  | 6 => [10]
  | 8 => [4, 11, 12, 13, 15, 16, 17, 18, 19, 20, 21, 22, 23, 24, 25]
  | 10 => [15, 16, 25]
  | 12 => [17, 18, 19, 20, 21, 22, 23, 24]
  | 14 => [0, 1, 5, 25]
  | 16 => [0, 1, 5, 14]
  | _ => []
def spec_OwnersOk.kl : Nat → List Nat := fun n => match n with
  | 0 => [3, 4, 5, 6, 7, 8, 9, 10, 11, 12, 13, 14, 15, 16, 17, 18, 19, 20, 21, 22, 23, 24, 25, 26, 27, 28, 29]
  | 3 => [11]
  | 4 => [6, 8, 9, 10, 12, 13, 14, 15, 16, 17, 18, 19]
  | 6 => [12, 13, 19]
  | 8 => [14, 15, 16, 17, 18]
  | 10 => [0, 1, 2, 7, 19]
  | 12 => [0, 1, 2, 7, 11, 20, 21, 22, 23, 24, 25, 26, 27, 28, 29]
  | _ => []
def spec_l2Set.kl : Nat → List Nat := fun n => match n with
  | 0 => [2, 3, 4, 5, 6, 7, 8, 9, 10, 11, 12, 13, 14, 15, 16, 17, 18, 19, 20, 21, 22, 23]
  | 3 => [10]
  | 6 => [7, 8, 9, 11, 12, 13, 14, 15, 16, 17, 18, 19, 20, 21, 22]
  | 8 => [11, 12, 18]
  | 10 => [13, 14, 15, 16, 17]
  | 12 => [18, 19, 20, 21, 22]
  | 14 => [0, 1, 5, 6, 10, 23]
  | _ => []
def spec_l9Reach.kl : Nat → List Nat := fun n => match n with
  | 0 => [3, 4, 5, 6, 7, 8, 9, 10, 11, 12, 13, 14, 15, 16, 17, 18, 19, 20, 21, 22, 23, 24, 25, 26, 27, 28, 29, 30, 31, 32, 33, 34, 35, 36, 37, 38, 39, 40, 41, 42, 43, 44, 45, 46, 47, 48, 49, 50, 51, 52, 53, 54, 55, 56, 57, 58]
  | 2 => [2, 10, 11]
  | 3 => [12]
  | 6 => [8, 9, 13, 14, 15, 16, 17, 18, 19, 20, 21, 22, 23, 24, 25, 26, 27, 28, 29, 30, 31, 32, 33, 34, 35, 36, 37, 38, 39, 40, 41, 42, 43, 44, 45, 46, 47, 48, 49, 50, 51, 52, 53, 54, 55, 56, 57]
  | 7 => [16]
  | 12 => [13, 14, 15, 17, 18, 19, 20, 21, 22, 23, 24, 25, 26, 27, 28, 29, 30, 31, 32, 33, 34, 35, 36, 37, 38, 39, 40, 41, 42, 43, 44, 45, 46, 47, 48, 49, 50, 51, 52, 53, 54, 55, 56, 57]
  | 14 => [17, 18, 42]
  | 16 => [19, 20, 21, 22, 23, 24, 25, 26, 27, 28, 29, 30, 31, 32, 33, 34, 35, 36, 37, 38, 39, 40, 41]
  | 18 => [8, 42, 43, 44, 45, 46, 47, 48, 49, 50, 51, 52, 53, 54, 55, 56, 57]
  | 22 => [0, 1, 7, 12, 58]
  | _ => []
def laws_toWire.kl : Nat → List Nat := fun n => match n with
  | 0 => [0, 3, 4, 5, 6, 7, 8, 9, 10]
  | 4 => [4, 5, 6]
  | 6 => [1, 7, 8, 9]
  | 8 => [3, 10]
  | _ => []
def impl_OwnersOk.kl : Nat → List Nat := fun n => match n with
  | 0 => [3, 4, 5, 6, 7, 8, 9, 10, 11, 12, 13, 14, 15, 16, 17, 18, 19, 20, 21, 22, 23, 24, 25, 26, 27, 28, 29]
  | 2 => [0, 1, 9, 10, 11, 12, 13, 14, 15, 16, 17, 18]
  | 3 => [23]
  | 4 => [2, 19]
  | 6 => [2, 19]
  | 8 => [6, 8, 24, 25, 26, 27, 28, 29]
  | 10 => [24, 25]
  | 12 => [8, 26, 27]
  | 14 => [20, 21, 22, 28]
  | 16 => [28, 29]
  | 18 => [20, 21, 22, 23]
  | _ => []
def impl_setOf.kl : Nat → List Nat := fun n => match n with
  | 0 => [2, 3, 4, 5, 6, 7, 8, 9, 10, 11, 12, 13, 14, 15, 16, 17, 18, 19, 20, 21, 22, 23]
  | 3 => [11]
  | 4 => [0]
  | 6 => [6, 7, 12, 13, 14, 15, 16, 17, 18, 19, 20, 21, 22]
  | 8 => [12, 13, 14]
  | 10 => [7, 15, 16]
  | 12 => [6, 17, 18, 19, 20, 21]
  | 14 => [6, 17, 22]
  | 16 => [1, 5, 8, 9, 10, 11, 23]
  | _ => []
def impl_partsBySize.kl : Nat → List Nat := fun n => match n with
  | 0 => [1, 2, 3, 4, 5, 6, 7, 8]
  | 2 => [0, 4, 5]
  | 4 => [6, 7]
  | 6 => [3, 8]
  | _ => []
def impl_linked.kl : Nat → List Nat := fun n => match n with
  | 0 => [2, 3, 4, 5, 6, 7, 8, 9]
  | 2 => [0, 1, 5, 6, 7, 8, 9]
  | _ => []
def impl_countIn.kl : Nat → List Nat := fun n => match n with
  | 0 => [1, 2, 3, 4, 5]
  | 2 => [0, 3, 4, 5]
  | _ => []
def laws_eqWire.kl : Nat → List Nat := fun n => match n with
  | 0 => [0, 1, 4, 5, 6, 7, 8, 9, 10, 11, 12, 13, 14]
  | 2 => [5, 6, 7, 8]
  | 4 => [2, 3, 9]
  | 6 => [2, 3, 9, 10, 11, 12, 13]
  | 8 => [14]
  | 10 => [14]
  | _ => []
def spec_l1In.kl : Nat → List Nat := fun n => match n with
  | 0 => [3, 4, 5, 6, 7, 8, 9, 10, 11, 12, 13, 14]
  | 2 => [0, 1, 2, 7, 8, 9, 10, 11, 12, 13, 14]
  | _ => []
def spec_WiresOk.kl : Nat → List Nat := fun n => match n with
  | 0 => [2, 3, 4, 5, 6, 7, 8, 9, 10, 11, 12, 13, 14, 15, 16, 17, 18, 19, 20, 21, 22, 23, 24, 25, 26, 27, 28, 29, 30, 31, 32, 33, 34, 35, 36, 37, 38, 39, 40, 41, 42, 43, 44, 45, 46, 47, 48, 49, 50]
  | 3 => [10]
  | 4 => [4, 6, 7, 8, 9, 11, 12, 13, 14, 15, 16, 17, 18, 19, 20, 21, 22, 23, 24, 25, 26, 27, 28, 29, 30, 31, 32, 33, 34, 35, 36, 37, 38, 39, 40, 41, 42, 43]
  | 6 => [11, 12, 43]
  | 8 => [13, 14, 15, 16]
  | 10 => [6, 17, 18, 19, 20, 21, 22, 23, 24, 25, 26, 27, 28, 29, 30, 31, 32, 33, 34, 35, 36, 37, 38, 39, 40, 41, 42]
  | 12 => [0, 1, 5, 43]
  | 14 => [0, 1, 5, 10, 44, 45, 46, 47, 48, 49, 50]
  | _ => []
def impl_WiresOk.kl : Nat → List Nat := fun n => match n with
  | 0 => [2, 3, 4, 5, 6, 7, 8, 9, 10, 11, 12, 13, 14, 15, 16, 17, 18, 19, 20, 21, 22, 23, 24, 25, 26, 27, 28, 29, 30, 31, 32, 33, 34, 35, 36, 37, 38, 39, 40, 41, 42, 43]
  | 2 => [7, 8, 9, 10, 11, 12, 13, 14, 15, 16]
  | 3 => [21]
  | 4 => [0, 1, 17]
  | 6 => [1, 17]
  | 8 => [4, 6, 22, 23, 24, 25, 26, 27, 28, 29, 30, 31, 32, 33, 34, 35, 36, 37, 38, 39, 40, 41, 42, 43]
  | 10 => [22, 23]
  | 12 => [6, 24, 25, 26, 27, 28, 29, 30, 31, 32, 33, 34, 35, 36, 37, 38, 39, 40, 41]
  | 14 => [0, 18, 19, 20, 42]
  | 16 => [42, 43]
  | 18 => [0, 18, 19, 20, 21]
  | _ => []
def impl_contentOk.kl : Nat → List Nat := fun n => match n with
  | 0 => [1, 2, 3, 4, 5, 6, 7, 8, 9, 10, 11, 12]
  | 2 => [0, 3, 4, 5, 6, 7, 8, 9, 10, 11, 12]
  | _ => []
def impl_partsOf.kl : Nat → List Nat := fun n => match n with
  | 0 => [1, 2, 3, 4, 5, 6, 7, 8, 9, 10, 11, 12, 13, 14, 15, 16, 17, 18, 19, 20]
  | 2 => [5]
  | 3 => [8]
  | 6 => [6, 7, 9, 10, 11, 12, 13, 14, 15, 16, 17, 18, 19]
  | 8 => [9, 10, 11, 12, 13, 14, 15]
  | 10 => [16, 17, 18, 19]
  | 12 => [0, 3, 4, 8, 20]
  | _ => []
def slices_SortStableFunc___int_int_.kl : Nat → List Nat := fun n => match n with
  | 0 => [0, 1, 2, 3, 4, 5, 6, 7, 8]
  | _ => []
def impl_partsBySize_1.kl : Nat → List Nat := fun n => match n with
  | 0 => [2, 3, 4, 5, 6, 7, 8, 9]
  | 2 => [0, 1, 5, 6, 7, 8, 9]
  | _ => []
def cmp_Compare_int_.kl : Nat → List Nat := fun n => match n with
  | 0 => [2, 3, 4, 5, 6, 7, 8, 9, 10, 11, 12, 13, 14, 15, 16, 17, 18, 19]
  | 2 => [7, 8]
  | 4 => [9, 10]
  | 6 => [5]
  | 8 => [0, 1, 6, 11]
  | 10 => [12]
  | 12 => [12]
  | 14 => [6, 11]
  | 16 => [0, 1, 13]
  | 18 => [13, 14, 15]
  | 20 => [0, 1, 16]
  | 22 => [0, 1, 16, 17, 18]
  | 24 => [19]
  | 26 => [19]
  | _ => []
def impl_nodesReached.kl : Nat → List Nat := fun n => match n with
  | 0 => [3, 4, 5, 6, 7, 8, 9, 10, 11, 12, 13, 14, 15, 16, 17, 18, 19, 20]
  | 2 => [8]
  | 3 => [10]
  | 4 => [9, 11, 12, 13, 14, 15, 16, 17, 18, 19]
  | 6 => [11, 12, 13, 14, 15, 16]
  | 8 => [17, 18, 19]
  | 10 => [0, 1, 2, 7, 10, 20]
  | _ => []
def bits_OnesCount.kl : Nat → List Nat := fun n => match n with
  | 0 => [1, 2, 3, 4, 5, 6, 7]
  | 2 => [0, 3, 4, 5]
  | 4 => [0, 6, 7]
  | _ => []
def impl_nodeOk.kl : Nat → List Nat := fun n => match n with
  | 0 => [2, 3, 4, 5, 6, 7, 8, 9, 10, 11]
  | 2 => [0, 1, 5, 6, 7, 8, 9, 10, 11]
  | _ => []
def slices_stableCmpFunc_int_.kl : Nat → List Nat := fun n => match n with
  | 0 => [3, 4, 5, 7, 8, 9, 10, 11, 12, 13, 14, 15, 16, 17, 18, 19, 20, 21, 22, 23, 24, 25, 26, 27, 28, 29, 30, 31, 32, 33, 34, 35, 36, 37, 38, 39, 40, 41, 42, 43, 44, 45, 46, 47, 48, 49, 50, 51, 52, 53, 54, 55, 56, 57, 58, 59, 60, 61, 62]
  | 2 => [10]
  | 3 => [13]
  | 4 => [11, 12, 14, 15, 16, 17, 18, 19, 20, 21, 22]
  | 6 => [7, 14, 15, 16, 17, 18]
  | 7 => [30]
  | 8 => [19]
  | 10 => [20, 21, 22]
  | 11 => [35]
  | 12 => [7, 8, 13, 23, 24, 25, 26, 27]
  | 14 => [7, 8, 9, 28, 29, 31, 32, 33, 34, 35, 36, 37, 38, 39, 40, 41, 42, 43, 44, 45, 46, 47, 48, 49, 50, 51, 52, 53, 54, 55, 56, 57, 58, 59, 60, 61, 62]
  | 16 => [31, 32]
  | 18 => [33, 34, 36, 37, 38, 39, 40, 41, 42, 43, 44, 45, 46, 47, 48]
  | 20 => [7, 36, 37, 38, 39, 40, 41, 42, 43]
  | 22 => [44]
  | 24 => [45, 46, 47, 48]
  | 26 => [8, 35, 49, 50, 51]
  | 28 => [52, 53]
  | 30 => [7, 9, 54, 55, 56, 57, 58, 59, 60]
  | 32 => [7, 9, 54, 61, 62]
  | _ => []
def cmp_isNaN_int_.kl : Nat → List Nat := fun n => match n with
  | 0 => [1, 2, 3, 4, 5]
  | 2 => [0, 3, 4, 5]
  | _ => []
def impl_nodesBeside.kl : Nat → List Nat := fun n => match n with
  | 0 => [3, 4, 5, 6, 7, 8, 9, 10, 11, 12, 13, 14, 15, 16, 17, 18, 19, 20, 21, 22, 23, 24, 25, 26, 27, 28, 29, 30, 31, 32, 33, 34, 35, 36, 37]
  | 3 => [13]
  | 4 => [1, 11]
  | 6 => [9, 10, 12, 14, 15, 16, 17, 18, 19, 20, 21, 22, 23, 24, 25, 26, 27, 28, 29, 30, 31, 32, 33, 34, 35, 36]
  | 8 => [10, 14, 15, 16, 17, 33]
  | 10 => [18, 19, 20, 21, 22]
  | 12 => [9, 23, 24, 25, 26, 27, 28, 29]
  | 14 => [30, 31, 32]
  | 16 => [10, 33, 34, 35, 36]
  | 18 => [0, 2, 7, 8, 13, 37]
  | _ => []
def bits_OnesCount64.kl : Nat → List Nat := fun n => match n with
  | 0 => [1, 2, 3, 4, 5, 6, 7, 8, 9, 10, 11, 12, 13, 14, 15, 16, 17, 18, 19, 20, 21, 22, 23, 24, 25, 26, 27, 28, 29, 30, 31, 32, 33, 34]
  | 2 => [3, 4, 5, 6, 7, 8]
  | 4 => [9, 10, 11, 12, 13, 14]
  | 6 => [15, 16, 17, 18, 19]
  | 8 => [20, 21, 22, 23]
  | 10 => [24, 25, 26, 27]
  | 12 => [28, 29, 30, 31]
  | 14 => [0, 32, 33, 34]
  | _ => []
def slices_insertionSortCmpFunc_int_.kl : Nat → List Nat := fun n => match n with
  | 0 => [4, 5, 6, 7, 9, 10, 11, 12, 13, 14, 15, 16, 17, 18, 19, 20, 21, 22, 23, 24, 25, 26, 27, 28, 29, 30, 31, 32, 33, 34, 35, 36, 37, 38, 39, 40, 41, 42, 43, 44, 45, 46, 47, 48, 49, 50, 51, 52]
  | 2 => [9, 12, 13, 15, 16, 17, 18, 19, 20, 21, 22, 23, 24, 25, 26, 27, 28, 29, 30, 31, 32, 33, 34, 35, 36, 37, 38, 39, 40, 41, 42, 43, 44, 45, 46, 47, 48, 49, 50, 51, 52]
  | 3 => [14]
  | 4 => [9, 15, 16, 34]
  | 6 => [17]
  | 7 => [34]
  | 8 => [18, 19, 20, 21, 22, 23, 24, 25, 26, 27, 28, 29, 30, 31, 32, 33, 35, 36, 37, 38, 39, 40, 41, 42, 43, 44, 45, 46, 47, 48, 49, 50, 51, 52]
  | 10 => [35, 36]
  | 12 => [37, 38, 39, 40, 41, 42, 43, 44, 45, 46, 47, 48, 49, 50, 51, 52]
  | _ => []
def slices_symMergeCmpFunc_int_.kl : Nat → List Nat := fun n => match n with
  | 0 => [5, 6, 7, 8, 9, 10, 11, 12, 13, 14, 15, 16, 17, 18, 19, 20, 21, 22, 23, 24, 25, 26, 27, 29, 30, 31, 32, 33, 34, 35, 36, 37, 38, 39, 40, 41, 42, 43, 44, 45, 46, 47, 48, 49, 50, 51, 52, 53, 54, 55, 56, 57, 58, 59, 60, 61, 62, 63, 64, 65, 66, 67, 68, 69, 70, 71, 72, 73, 74, 75, 76, 77, 78, 79, 80, 81, 82, 83, 84, 85, 86, 87, 88, 89, 90, 91, 92, 93, 94, 95, 96, 97, 98, 99, 100, 101, 102, 103, 104, 105, 106, 107, 108, 109, 110, 111, 112, 113, 114, 115, 116, 117, 118, 119, 120, 121, 122, 123, 124, 125, 126, 127, 128, 129, 130, 131, 132, 133, 134, 135, 136, 137, 138, 139, 140, 141, 142, 143, 144, 145, 146, 147, 148, 149, 150, 151, 152, 153, 154, 155, 156, 157, 158, 159, 160, 161, 162, 163, 164, 165, 166, 167, 168, 169, 170, 171, 172, 173, 174, 175, 176, 177, 178, 179, 180, 181, 182, 183, 184, 185, 186, 187, 188, 189, 190, 191, 192, 193, 194, 195, 196, 197, 198, 199, 200, 201, 202, 203, 204, 205, 206, 207, 208, 209, 210, 211, 212, 213, 214, 215, 216, 217, 218, 219]
  | 2 => [2, 28, 29]
  | 3 => [33]
  | 4 => [3, 30]
  | 6 => [12, 31, 32, 34, 35, 36, 37, 38, 39, 40, 41, 42, 43, 44, 45, 46, 47, 48, 49, 50, 51, 52, 53]
  | 7 => [58]
  | 8 => [34, 35, 36, 37, 38, 39]
  | 10 => [40, 41, 42, 43, 44, 45, 46, 47, 48, 49]
  | 11 => [85]
  | 12 => [12, 50, 51, 52]
  | 14 => [12, 50, 53]
  | 15 => [110]
  | 16 => [1, 4, 11, 33, 54]
  | 18 => [55, 56, 57, 59, 60, 61, 62, 63, 64, 65, 66, 67, 68, 69, 70, 71, 72, 73, 74, 75, 76]
  | 19 => [151]
  | 20 => [59, 60]
  | 22 => [61, 62, 63, 64, 65, 66, 67, 68, 69, 70, 71, 72, 73, 74, 75, 76]
  | 24 => [28, 77, 78, 79]
  | 26 => [1, 3, 80, 81]
  | 28 => [82]
  | 30 => [16, 83, 84, 86, 87, 88, 89, 90, 91, 92, 93, 94, 95, 96, 97, 98, 99, 100, 101, 102, 103, 104, 105, 106]
  | 32 => [86, 87, 88, 89, 90, 91]
  | 34 => [92, 93, 94, 95, 96, 97, 98, 99, 100, 101, 102]
  | 36 => [16, 103, 104, 105]
  | 38 => [16, 103, 106]
  | 40 => [2, 4, 15, 85, 107]
  | 42 => [108, 109, 111, 112, 113, 114, 115, 116, 117, 118, 119, 120, 121, 122, 123, 124, 125, 126, 127, 128]
  | 44 => [111, 112]
  | 46 => [113, 114, 115, 116, 117, 118, 119, 120, 121, 122, 123, 124, 125, 126, 127, 128]
  | 48 => [80, 129, 130, 131, 132, 133, 134]
  | 50 => [135, 136, 137]
  | 52 => [20, 21]
  | 54 => [138, 139]
  | 56 => [140, 141, 142, 143]
  | 58 => [144]
  | 60 => [140, 145]
  | 62 => [146]
  | 64 => [147, 148]
  | 66 => [23, 149, 150, 152, 153, 154, 155, 156, 157, 158, 159, 160, 161, 162, 163, 164, 165, 166, 167, 168, 169, 170, 171, 172, 173, 174]
  | 68 => [152, 153, 154, 155, 156, 157]
  | 70 => [158, 159, 160, 161, 162, 163, 164, 165, 166, 167, 168, 169, 170]
  | 72 => [23, 171, 172, 173]
  | 74 => [23, 171, 174]
  | 76 => [19, 21, 22, 151, 175, 176, 177]
  | 78 => [178, 179, 180, 181, 182, 183, 184]
  | 80 => [2, 185, 186, 187, 188, 189, 190, 191]
  | 82 => [2, 185, 192, 193, 194, 195, 196, 197, 198]
  | 84 => [1, 20, 199, 200, 201, 202, 203, 204, 205]
  | 86 => [1, 20, 199, 206, 207, 208, 209, 210, 211, 212]
  | 88 => [0, 3, 4, 18, 24, 213, 214, 215, 216, 217, 218, 219]
  | _ => []
def impl_leastIn.kl : Nat → List Nat := fun n => match n with
  | 0 => [1, 2, 3, 4, 5]
  | 2 => [0, 3, 4, 5]
  | _ => []
def slices_rotateCmpFunc_int_.kl : Nat → List Nat := fun n => match n with
  | 0 => [1, 5, 6, 7, 8, 9, 11, 12, 13, 14, 15, 16, 17, 18, 19, 20, 21, 22, 23, 24, 25, 26, 27, 28, 29, 30, 31, 32, 33, 34, 35, 36, 37, 38, 39, 40, 41, 42, 43, 44, 45, 46, 47, 48, 49, 50, 51, 52, 53, 54, 55, 56, 57]
  | 2 => [3, 15, 16, 17]
  | 3 => [20]
  | 4 => [18, 19, 21, 22, 23, 24, 25, 26, 27, 28, 29, 30, 31, 32, 33, 34, 35, 36, 37, 38, 39, 40, 41, 42, 43, 44, 45, 46, 47, 48, 49]
  | 6 => [21, 22]
  | 8 => [23, 24, 25, 26, 27, 28, 29, 30, 31]
  | 10 => [32, 33, 34]
  | 12 => [23, 35, 36, 37, 38, 39, 40, 41, 42, 43, 44, 45, 46]
  | 14 => [47, 48, 49]
  | 16 => [0, 2, 4, 10, 11, 20, 50, 51, 52, 53, 54, 55, 56, 57]
  | _ => []
def bits_TrailingZeros.kl : Nat → List Nat := fun n => match n with
  | 0 => [1, 2, 3, 4, 5, 6, 7]
  | 2 => [0, 3, 4, 5]
  | 4 => [0, 6, 7]
  | _ => []
def slices_swapRangeCmpFunc_int_.kl : Nat → List Nat := fun n => match n with
  | 0 => [4, 5, 6, 7, 8, 9, 11, 12, 13, 14, 15, 16, 17, 18, 19, 20, 21, 22, 23, 24, 25, 26, 27, 28, 29, 30, 31, 32, 33, 34, 35, 36, 37]
  | 2 => [11, 12, 14, 15, 16, 17, 18, 19, 20, 21, 22, 23, 24, 25, 26, 27, 28, 29, 30, 31, 32, 33, 34, 35, 36, 37]
  | 3 => [13]
  | 4 => [14, 15]
  | 6 => [16, 17, 18, 19, 20, 21, 22, 23, 24, 25, 26, 27, 28, 29, 30, 31, 32, 33, 34, 35, 36, 37]
  | _ => []
def bits_TrailingZeros32.kl : Nat → List Nat := fun n => match n with
  | 0 => [1, 2, 3, 4, 5, 6, 7, 8, 9, 10, 11, 12, 13]
  | 2 => [3]
  | 4 => [0, 4]
  | 6 => [0, 4, 5, 6, 7, 8, 9, 10, 11, 12, 13]
  | _ => []
def bits_TrailingZeros64.kl : Nat → List Nat := fun n => match n with
  | 0 => [1, 2, 3, 4, 5, 6, 7, 8, 9, 10, 11, 12, 13]
  | 2 => [3]
  | 4 => [0, 4]
  | 6 => [0, 4, 5, 6, 7, 8, 9, 10, 11, 12, 13]
  | _ => []
def KL : FuncId → Nat → List Nat := fun f => match f with
  | 3 => laws_FnExactWireGap.kl
  | 4 => laws_szWireS.kl
  | 5 => spec_WireGap.kl
  | 6 => laws_toWireS.kl
  | 7 => laws_toIntS.kl
  | 8 => impl_WireGap.kl
  | 9 => laws_eqWireS.kl
  | 10 => laws_eqIntS.kl
  | 11 => spec_OwnersOk.kl
  | 12 => spec_l2Set.kl
  | 13 => spec_l9Reach.kl
  | 14 => laws_toWire.kl
  | 15 => impl_OwnersOk.kl
  | 16 => impl_setOf.kl
  | 17 => impl_partsBySize.kl
  | 18 => impl_linked.kl
  | 19 => impl_countIn.kl
  | 20 => laws_eqWire.kl
  | 21 => spec_l1In.kl
  | 22 => spec_WiresOk.kl
  | 23 => impl_WiresOk.kl
  | 24 => impl_contentOk.kl
  | 25 => impl_partsOf.kl
  | 26 => slices_SortStableFunc___int_int_.kl
  | 27 => impl_partsBySize_1.kl
  | 28 => cmp_Compare_int_.kl
  | 29 => impl_nodesReached.kl
  | 30 => bits_OnesCount.kl
  | 31 => impl_nodeOk.kl
  | 32 => slices_stableCmpFunc_int_.kl
  | 33 => cmp_isNaN_int_.kl
  | 34 => impl_nodesBeside.kl
  | 36 => bits_OnesCount64.kl
  | 37 => slices_insertionSortCmpFunc_int_.kl
  | 38 => slices_symMergeCmpFunc_int_.kl
  | 39 => impl_leastIn.kl
  | 40 => slices_rotateCmpFunc_int_.kl
  | 41 => bits_TrailingZeros.kl
  | 42 => slices_swapRangeCmpFunc_int_.kl
  | 43 => bits_TrailingZeros32.kl
  | 44 => bits_TrailingZeros64.kl
  | _ => fun _ => []
noncomputable def CL (g : Nat → PV) (lf n : Nat) : FuncId → List PV → PHeap → Res := call Tryd.prog g KL lf n
noncomputable def YL (g : Nat → PV) (lf n : Nat) : Nat → List PV → PHeap → Res := yields Tryd.prog g KL lf n
noncomputable def env (g : Nat → PV) (lf n : Nat) : Env := ⟨g, lf, CL g lf n, std Tryd.prog, YL g lf n⟩
@[simp] theorem env_C (g : Nat → PV) (lf n : Nat) : (env g lf n).C = CL g lf n := rfl
@[simp] theorem env_Y (g : Nat → PV) (lf n : Nat) : (env g lf n).Y = YL g lf n := rfl
@[simp] theorem env_g (g : Nat → PV) (lf n : Nat) : (env g lf n).g = g := rfl
@[simp] theorem env_lf (g : Nat → PV) (lf n : Nat) : (env g lf n).lf = lf := rfl
@[simp] theorem env_pick (g : Nat → PV) (lf n : Nat) : (env g lf n).p.pick = pickP := rfl
@[simp] theorem env_alloc (g : Nat → PV) (lf n : Nat) : (env g lf n).p.alloc = allocP Tryd.prog := rfl
@[simp] theorem env_box (g : Nat → PV) (lf n : Nat) : (env g lf n).p.box = boxP := rfl
@[simp] theorem env_build (g : Nat → PV) (lf n : Nat) : (env g lf n).p.build = buildP Tryd.prog := rfl
@[simp] theorem env_buildSlice (g : Nat → PV) (lf n : Nat) : (env g lf n).p.buildSlice = buildSliceP Tryd.prog := rfl
@[simp] theorem env_load (g : Nat → PV) (lf n : Nat) : (env g lf n).p.load = loadP Tryd.prog := rfl
@[simp] theorem env_store (g : Nat → PV) (lf n : Nat) : (env g lf n).p.store = storeP Tryd.prog := rfl
@[simp] theorem env_ptr (g : Nat → PV) (lf n : Nat) : (env g lf n).p.ptr = ptrP := rfl
@[simp] theorem env_bin (g : Nat → PV) (lf n : Nat) : (env g lf n).p.bin = binP Tryd.prog := rfl
@[simp] theorem env_un (g : Nat → PV) (lf n : Nat) : (env g lf n).p.un = unP := rfl
@[simp] theorem env_conv (g : Nat → PV) (lf n : Nat) : (env g lf n).p.conv = convP Tryd.prog := rfl
@[simp] theorem env_make (g : Nat → PV) (lf n : Nat) : (env g lf n).p.make = makeP Tryd.prog := rfl
@[simp] theorem env_slice (g : Nat → PV) (lf n : Nat) : (env g lf n).p.slice = sliceP Tryd.prog := rfl
@[simp] theorem env_fieldAddr (g : Nat → PV) (lf n : Nat) : (env g lf n).p.fieldAddr = fieldAddrP Tryd.prog := rfl
@[simp] theorem env_field (g : Nat → PV) (lf n : Nat) : (env g lf n).p.field = fieldP Tryd.prog := rfl
@[simp] theorem env_indexAddr (g : Nat → PV) (lf n : Nat) : (env g lf n).p.indexAddr = indexAddrP Tryd.prog := rfl
@[simp] theorem env_index (g : Nat → PV) (lf n : Nat) : (env g lf n).p.index = indexP Tryd.prog := rfl
@[simp] theorem env_extract (g : Nat → PV) (lf n : Nat) : (env g lf n).p.extract = extractP := rfl
@[simp] theorem env_len (g : Nat → PV) (lf n : Nat) : (env g lf n).p.len = lenP Tryd.prog := rfl
@[simp] theorem env_append (g : Nat → PV) (lf n : Nat) : (env g lf n).p.append = appendP Tryd.prog := rfl
@[simp] theorem env_max (g : Nat → PV) (lf n : Nat) : (env g lf n).p.max = foldP maxP2 := rfl
@[simp] theorem env_min (g : Nat → PV) (lf n : Nat) : (env g lf n).p.min = foldP minP2 := rfl
@[simp] theorem env_makeMap (g : Nat → PV) (lf n : Nat) : (env g lf n).p.makeMap = makeMapP := rfl
@[simp] theorem env_lookup (g : Nat → PV) (lf n : Nat) : (env g lf n).p.lookup = lookupP Tryd.prog := rfl
@[simp] theorem env_update (g : Nat → PV) (lf n : Nat) : (env g lf n).p.update = updateP Tryd.prog := rfl
@[simp] theorem env_clos (g : Nat → PV) (lf n : Nat) : (env g lf n).p.clos = closP := rfl
@[simp] theorem env_bstr (g : Nat → PV) (lf n : Nat) : (env g lf n).p.bstr = bstrP Tryd.prog := rfl
end Go.Proofs.YtihlmjapddjjjadDoor.G

/- From what the interpreter computes for a law to what the machine's call of it does. -/
set_option maxRecDepth 20000
namespace Go.Proofs.YtihlmjapddjjjadDoor
open Go Go.Ip Go.RowKit G

def g0 : Nat → PV := fun _ => .junk
def LF : Nat := 4294967296

theorem prog_mixed : Tryd.prog.follows .mixedOrders = true := by kernel_rfl
theorem prog_ok : progOk Tryd.prog = true := by kernel_rfl

theorem sim_none (w : World) : Sim w.heap.size w [] [] w :=
  ⟨rfl, Below.refl _ _, Nat.le_refl _, fun id o l h _ => by simp at h, fun i j li lj ei ci ej cj _ h => by simp at h, fun i j li lj ei ej _ h => by simp at h, fun i j li lj oi oj _ h => by simp at h, fun _ h => h, fun _ _ h => False.elim h, fun _ h => False.elim h, fun _ _ _ _ _ _ h => h⟩

/-- A slice of integers, nil or not, as the interpreter's heap holds it. -/
def IntSl (k : IntKind) (h : PHeap) (p : PV) (xs : List Int) : Prop :=
  (p = .nilsl ∧ xs = []) ∨ ∃ id off, p = .sl id off xs.length ∧ ∀ (i : Nat) x, xs[i]? = some x → (cellsAt h id)[off + i]? = some (.int k x)

end Go.Proofs.YtihlmjapddjjjadDoor

