/- Texts of this seat, in their order, put together by program. -/
import Derived.Test.YtlefknibddkjpabDoorK5
import Derived.Test.YtlefknibddkjpabDoorProg
import Derived.KernelRfl
set_option linter.unusedSimpArgs false
set_option linter.unusedVariables false
set_option linter.unusedSectionVars false
/- Of each function of this seat's program its plain form over the interpreter, written by program; each equation is the kernel's. -/
set_option linter.unusedVariables false
set_option maxRecDepth 100000
namespace Go.Proofs.YtlefknibddkjpabDoor.G
open Go Go.Ip Go.Proofs

def fn_laws_FnExactTriangleWins : Nat := 3
def fn_spec_TriangleWins : Nat := 4
def fn_impl_TriangleWins : Nat := 5
def fn_spec_l1In : Nat := 6
def fn_spec_l7Cells : Nat := 7
def fn_spec_l6Size : Nat := 8
def fn_spec_LastCell : Nat := 9
def fn_impl_triangleSideOk : Nat := 10
def fn_impl_triangleSize : Nat := 11
def fn_impl_countIn : Nat := 12
def fn_impl_touchesAll : Nat := 13
def fn_spec_l2List : Nat := 14
def fn_spec_TriangleOk : Nat := 15
def fn_spec_Shrunk : Nat := 16
def fn_impl_triangleCell : Nat := 17
def fn_bits_OnesCount : Nat := 18
def fn_impl_triangleEdges : Nat := 19
def fn_impl_triangleWave : Nat := 20
def fn_spec_l7Place : Nat := 21
def fn_bits_OnesCount64 : Nat := 23
def fn_impl_triangleAround : Nat := 24
def fn_impl_TriangleNear : Nat := 25
def fn_impl_leastIn : Nat := 26
def fn_impl_trianglePlace : Nat := 27
def fn_bits_TrailingZeros : Nat := 28
def fn_bits_TrailingZeros32 : Nat := 29
def fn_bits_TrailingZeros64 : Nat := 30
def laws_FnExactTriangleWins.kl : Nat → List Nat := fun n => match n with
  | 0 => [2, 3, 4, 5, 6, 7, 8, 9, 10, 11, 12, 13, 14, 15]
  | 2 => [7, 8, 9]
  | 4 => [0, 1, 10, 11, 12]
  | 6 => [5, 6, 13, 14]
  | 8 => [15]
  | 10 => [15]
  | _ => []
def spec_TriangleWins.kl : Nat → List Nat := fun n => match n with
  | 0 => [2, 3, 4, 5, 6, 7, 8, 9, 10, 11, 12, 13, 14, 15, 16, 17, 18, 19, 20, 21, 22, 23, 24, 25, 26, 27, 28, 29, 30, 31, 32, 33, 34, 35, 36, 37, 38, 39, 40, 41, 42, 43, 44, 45, 46, 47, 48, 49, 50, 51]
  | 2 => [9, 10, 11, 12, 13, 14, 15, 16, 17]
  | 3 => [23]
  | 4 => [0, 1, 18]
  | 6 => [18]
  | 7 => [34]
  | 10 => [7, 8, 19, 20, 21, 22, 24, 25, 26, 27, 28, 29, 30, 31, 32, 33, 34, 35, 36, 37, 38, 39, 40, 41, 42, 43, 44, 45, 46, 47, 48, 49, 50]
  | 12 => [24, 25, 29, 48]
  | 14 => [26, 27, 28]
  | 16 => [29, 30]
  | 20 => [31, 32, 33, 35, 36, 37, 38, 39, 40, 41, 42, 43, 44]
  | 22 => [35, 36]
  | 24 => [37, 38, 39, 40, 41, 42, 43, 44]
  | 26 => [7, 8, 34, 45, 46, 47]
  | 28 => [48, 49, 50]
  | 30 => [0, 1, 5, 6, 23, 51]
  | _ => []
def impl_TriangleWins.kl : Nat → List Nat := fun n => match n with
  | 0 => [2, 3, 4, 5, 6, 7, 8, 9, 10, 11, 12, 13, 14, 15, 16, 17, 18, 19, 20, 21, 22, 23, 24, 25, 26, 27, 28, 29, 30, 31, 32, 33, 34, 35, 36, 37, 38]
  | 2 => [7, 8, 9, 10, 11, 12, 13, 14, 15, 16, 17, 18]
  | 3 => [24]
  | 4 => [0, 1, 19]
  | 6 => [19]
  | 8 => [20, 21]
  | 10 => [6, 25, 26, 27, 28, 29, 30, 31, 32, 33, 34, 35, 36, 37]
  | 12 => [25]
  | 14 => [6, 26, 27, 28, 29, 30, 31, 32, 33]
  | 16 => [34, 35, 36]
  | 18 => [34, 37]
  | 20 => [0, 1, 5, 22, 23, 24, 38]
  | _ => []
def spec_l1In.kl : Nat → List Nat := fun n => match n with
  | 0 => [3, 4, 5, 6, 7, 8, 9, 10, 11, 12, 13, 14]
  | 2 => [0, 1, 2, 7, 8, 9, 10, 11, 12, 13, 14]
  | _ => []
def spec_l7Cells.kl : Nat → List Nat := fun n => match n with
  | 0 => [1, 2, 3, 4, 5, 6, 7]
  | 2 => [0, 3, 4, 5, 6, 7]
  | _ => []
def spec_l6Size.kl : Nat → List Nat := fun n => match n with
  | 0 => [1, 2, 3, 4, 5]
  | 2 => [0, 3, 4, 5]
  | _ => []
def spec_LastCell.kl : Nat → List Nat := fun n => match n with
  | 0 => [2, 3, 4, 5, 6, 7, 8, 9, 10, 11, 12, 13, 14, 15, 16, 17, 18, 19, 20, 21, 22, 23, 24]
  | 2 => [7, 8, 9]
  | 3 => [16]
  | 4 => [0, 1, 10]
  | 6 => [1, 10, 11, 12, 13]
  | 8 => [0, 14]
  | 10 => [15, 17, 18, 19, 20, 21]
  | 12 => [17, 18]
  | 14 => [19, 20, 21]
  | 16 => [5, 6, 16, 22, 23, 24]
  | _ => []
def impl_triangleSideOk.kl : Nat → List Nat := fun n => match n with
  | 0 => [1, 2, 3, 4, 5, 6, 7, 8]
  | 2 => [0, 3, 4, 5, 6, 7, 8]
  | _ => []
def impl_triangleSize.kl : Nat → List Nat := fun n => match n with
  | 0 => [1, 2, 3, 4]
  | 2 => [0, 3, 4]
  | _ => []
def impl_countIn.kl : Nat → List Nat := fun n => match n with
  | 0 => [1, 2, 3, 4, 5]
  | 2 => [0, 3, 4, 5]
  | _ => []
def impl_touchesAll.kl : Nat → List Nat := fun n => match n with
  | 0 => [2, 3, 4, 5, 6, 7, 8, 9, 10, 11, 12, 13, 14, 15, 16, 17, 18, 19, 20, 21, 22]
  | 2 => [1, 8]
  | 3 => [12]
  | 4 => [9]
  | 6 => [7, 13, 14, 15, 16, 17, 18, 19, 20]
  | 8 => [13]
  | 10 => [7, 14, 15, 16, 17, 18, 19]
  | 12 => [20]
  | 14 => [0, 5, 10, 11, 12, 21, 22]
  | _ => []
def spec_l2List.kl : Nat → List Nat := fun n => match n with
  | 0 => [1, 2, 3, 4, 5, 6, 7, 8, 9, 10, 11, 12, 13, 14, 15, 16, 17, 18, 19, 20, 21]
  | 2 => [5]
  | 3 => [9]
  | 6 => [6, 7, 8, 10, 11, 12, 13, 14, 15, 16, 17, 18, 19, 20]
  | 8 => [10, 11, 16]
  | 10 => [12, 13, 14, 15]
  | 12 => [16, 17, 18, 19, 20]
  | 14 => [0, 3, 4, 9, 21]
  | _ => []
def spec_TriangleOk.kl : Nat → List Nat := fun n => match n with
  | 0 => [2, 3, 4, 5, 6, 7, 8, 9, 10, 11, 12, 13, 14, 15, 16, 17, 18, 19, 20, 21, 22, 23, 24, 25, 26]
  | 3 => [9]
  | 4 => [4, 6, 7, 8, 10, 11, 12, 13, 14, 15, 16, 17]
  | 6 => [10, 11, 17]
  | 8 => [12, 13, 14, 15, 16]
  | 10 => [0, 1, 5, 17]
  | 12 => [0, 1, 5, 9, 18, 19, 20, 21, 22, 23, 24, 25, 26]
  | _ => []
def spec_Shrunk.kl : Nat → List Nat := fun n => match n with
  | 0 => [2, 3, 4, 5, 6, 7, 8, 9, 10, 11, 12, 13, 14, 15, 16, 17, 18, 19, 20, 21, 22, 23, 24, 25, 26, 27, 28, 29, 30, 31, 32, 33, 34, 35, 36, 37, 38, 39, 40, 41, 42, 43, 44, 45, 46, 47, 48, 49, 50, 51, 52, 53, 54, 55, 56, 57, 58, 59, 60, 61]
  | 2 => [11]
  | 3 => [25]
  | 4 => [12, 13, 14, 15, 16, 17, 18]
  | 6 => [0, 1, 5, 19, 20]
  | 8 => [19]
  | 10 => [7, 8, 9, 10, 21, 22, 23, 24, 26, 27, 28, 29, 30, 31, 32, 33, 34, 35, 36, 37, 38, 39, 40, 41, 42, 43, 44, 45, 46, 47, 48, 49, 50, 51, 52, 53, 54, 55, 56, 57, 58, 59, 60]
  | 12 => [26, 27]
  | 14 => [28, 29, 30, 31, 32]
  | 16 => [7, 8, 33, 34, 35, 36, 37]
  | 18 => [9, 38, 39, 40, 41, 42, 43, 44, 45, 46, 47, 48, 49, 50, 51, 52]
  | 20 => [10, 53]
  | 22 => [54, 55, 56, 57]
  | 24 => [54, 58, 59, 60]
  | 26 => [0, 1, 5, 6, 25, 61]
  | _ => []
def impl_triangleCell.kl : Nat → List Nat := fun n => match n with
  | 0 => [2, 3, 4, 5, 6, 7, 8, 9, 10, 11]
  | 2 => [0, 1, 5, 6, 7, 8, 9, 10, 11]
  | _ => []
def bits_OnesCount.kl : Nat → List Nat := fun n => match n with
  | 0 => [1, 2, 3, 4, 5, 6, 7]
  | 2 => [0, 3, 4, 5]
  | 4 => [0, 6, 7]
  | _ => []
def impl_triangleEdges.kl : Nat → List Nat := fun n => match n with
  | 0 => [1, 3, 4, 5, 6, 7, 8, 9, 10, 11, 12, 13, 14, 15, 16, 17, 18, 19, 20, 21, 22, 23, 24, 25, 26, 27, 28, 29, 30, 31, 32, 33, 34]
  | 3 => [7]
  | 6 => [4, 8, 9, 10, 11, 12, 13, 14, 15, 16, 17, 18, 19, 20, 21, 22, 23, 24, 25, 26, 27, 28, 29, 30, 31, 32, 33]
  | 8 => [8]
  | 10 => [9, 10, 11, 12, 13, 14, 15]
  | 12 => [16, 17, 18, 19, 20, 21, 22, 23]
  | 14 => [4, 24, 25, 26, 27, 28, 29, 30, 31, 32]
  | 16 => [33]
  | 18 => [0, 3, 5, 6, 7, 34]
  | _ => []
def impl_triangleWave.kl : Nat → List Nat := fun n => match n with
  | 0 => [3, 4, 5, 6, 7, 8, 9, 10, 11, 12, 13, 14, 15, 16, 17, 18, 19, 20, 21]
  | 2 => [8]
  | 3 => [10]
  | 4 => [9, 11, 12, 13, 14, 15, 16, 17, 18, 19, 20]
  | 6 => [11, 12, 13, 14, 15, 16, 17]
  | 8 => [18, 19, 20]
  | 10 => [0, 1, 2, 7, 10, 21]
  | _ => []
def spec_l7Place.kl : Nat → List Nat := fun n => match n with
  | 0 => [1, 2, 3, 4, 5, 6, 7, 8, 9, 10, 11, 12, 13, 14, 15]
  | 3 => [7]
  | 4 => [5, 6, 8, 9, 10, 11, 12, 13]
  | 6 => [8, 9, 10, 11]
  | 8 => [12, 13]
  | 10 => [0, 4, 7, 14, 15]
  | _ => []
def bits_OnesCount64.kl : Nat → List Nat := fun n => match n with
  | 0 => [1, 2, 3, 4, 5, 6, 7, 8, 9, 10, 11, 12, 13, 14, 15, 16, 17, 18, 19, 20, 21, 22, 23, 24, 25, 26, 27, 28, 29, 30, 31, 32, 33, 34]
  | 2 => [3, 4, 5, 6, 7, 8]
  | 4 => [9, 10, 11, 12, 13, 14]
  | 6 => [15, 16, 17, 18, 19]
  | 8 => [20, 21, 22, 23]
  | 10 => [24, 25, 26, 27]
  | 12 => [28, 29, 30, 31]
  | 14 => [0, 32, 33, 34]
  | _ => []
def impl_triangleAround.kl : Nat → List Nat := fun n => match n with
  | 0 => [2, 3, 4, 5, 6, 7, 8, 9, 10, 11, 12, 13, 14, 15, 16, 17, 18, 19, 20, 21, 22, 23, 24, 25, 26, 27, 28, 29, 30]
  | 3 => [11]
  | 4 => [1, 9]
  | 6 => [8, 10, 12, 13, 14, 15, 16, 17, 18, 19, 20, 21, 22, 23, 24, 25, 26, 27, 28, 29]
  | 7 => [22]
  | 8 => [12, 13, 14, 15, 19, 20, 21, 22]
  | 10 => [16, 17, 18]
  | 12 => [8, 23, 24, 25, 26, 27, 28, 29]
  | 14 => [23, 24]
  | 16 => [8, 25, 26, 27, 28]
  | 18 => [29]
  | 20 => [0, 5, 6, 11, 30]
  | _ => []
def impl_TriangleNear.kl : Nat → List Nat := fun n => match n with
  | 0 => [2, 3, 4, 5, 6, 7, 8, 9, 10, 11, 12, 13, 14, 15, 16, 17, 18, 19, 20, 21, 22, 23, 24, 25, 26, 27, 28, 29, 30, 31, 32, 33, 34, 35, 36, 37, 38, 39, 40, 41, 42, 43, 44, 45, 46, 47, 48, 49, 50, 51, 52, 53, 54, 55, 56, 57, 58, 59, 60, 61]
  | 2 => [12, 13, 14, 15, 16, 17, 18, 19, 20, 21, 22, 23]
  | 3 => [32]
  | 4 => [0, 1, 24]
  | 6 => [1, 24, 25, 26, 27, 28, 29]
  | 12 => [9, 10, 11, 33, 34, 35, 36, 37, 38, 39, 40, 41, 42, 43, 44, 45, 46, 47, 48, 49, 50, 51, 52, 53, 54, 55, 56, 57, 58, 59, 60]
  | 14 => [33]
  | 16 => [9, 34, 35, 36, 37, 38, 39, 40, 41]
  | 18 => [42, 43, 44, 45, 46, 47, 48, 49, 50, 51, 52]
  | 20 => [10, 11, 53, 54, 55, 56, 57, 58, 59]
  | 22 => [10, 11, 53, 60]
  | 24 => [0, 5, 6, 7, 30, 31, 32, 61]
  | _ => []
def impl_leastIn.kl : Nat → List Nat := fun n => match n with
  | 0 => [1, 2, 3, 4, 5]
  | 2 => [0, 3, 4, 5]
  | _ => []
def impl_trianglePlace.kl : Nat → List Nat := fun n => match n with
  | 0 => [1, 2, 3, 4, 5, 6, 7, 8, 9, 10, 11, 12, 13, 14, 15, 16]
  | 3 => [9]
  | 4 => [5, 6, 7, 8, 10, 11]
  | 6 => [10, 11]
  | 8 => [0, 4, 9, 12, 13, 14, 15, 16]
  | _ => []
def bits_TrailingZeros.kl : Nat → List Nat := fun n => match n with
  | 0 => [1, 2, 3, 4, 5, 6, 7]
  | 2 => [0, 3, 4, 5]
  | 4 => [0, 6, 7]
  | _ => []
def bits_TrailingZeros32.kl : Nat → List Nat := fun n => match n with
  | 0 => [1, 2, 3, 4, 5, 6, 7, 8, 9, 10, 11, 12, 13]
  | 2 => [3]
  | 4 => [0, 4]
  | 6 => [0, 4, 5, 6, 7, 8, 9, 10, 11, 12, 13]
  | _ => []
def bits_TrailingZeros64.kl : Nat → List Nat := fun n => match n with
  | 0 => [1, 2, 3, 4, 5, 6, 7, 8, 9, 10, 11, 12, 13]
  | 2 => [3]
  | 4 => [0, 4]
  | 6 => [0, 4, 5, 6, 7, 8, 9, 10, 11, 12, 13]
  | _ => []
def KL : FuncId → Nat → List Nat := fun f => match f with
  | 3 => laws_FnExactTriangleWins.kl
  | 4 => spec_TriangleWins.kl
  | 5 => impl_TriangleWins.kl
  | 6 => spec_l1In.kl
  | 7 => spec_l7Cells.kl
  | 8 => spec_l6Size.kl
  | 9 => spec_LastCell.kl
  | 10 => impl_triangleSideOk.kl
  | 11 => impl_triangleSize.kl
  | 12 => impl_countIn.kl
  | 13 => impl_touchesAll.kl
  | 14 => spec_l2List.kl
  | 15 => spec_TriangleOk.kl
  | 16 => spec_Shrunk.kl
  | 17 => impl_triangleCell.kl
  | 18 => bits_OnesCount.kl
  | 19 => impl_triangleEdges.kl
  | 20 => impl_triangleWave.kl
  | 21 => spec_l7Place.kl
  | 23 => bits_OnesCount64.kl
  | 24 => impl_triangleAround.kl
  | 25 => impl_TriangleNear.kl
  | 26 => impl_leastIn.kl
  | 27 => impl_trianglePlace.kl
  | 28 => bits_TrailingZeros.kl
  | 29 => bits_TrailingZeros32.kl
  | 30 => bits_TrailingZeros64.kl
  | _ => fun _ => []
noncomputable def CL (g : Nat → PV) (lf n : Nat) : FuncId → List PV → PHeap → Res := call Tryd.prog g KL lf n
noncomputable def env (g : Nat → PV) (lf n : Nat) : Env := ⟨g, lf, CL g lf n, std Tryd.prog⟩
@[simp] theorem env_C (g : Nat → PV) (lf n : Nat) : (env g lf n).C = CL g lf n := rfl
@[simp] theorem env_g (g : Nat → PV) (lf n : Nat) : (env g lf n).g = g := rfl
@[simp] theorem env_lf (g : Nat → PV) (lf n : Nat) : (env g lf n).lf = lf := rfl
@[simp] theorem env_pick (g : Nat → PV) (lf n : Nat) : (env g lf n).p.pick = pickP := rfl
@[simp] theorem env_alloc (g : Nat → PV) (lf n : Nat) : (env g lf n).p.alloc = allocP Tryd.prog := rfl
@[simp] theorem env_box (g : Nat → PV) (lf n : Nat) : (env g lf n).p.box = boxP := rfl
@[simp] theorem env_build (g : Nat → PV) (lf n : Nat) : (env g lf n).p.build = buildP Tryd.prog := rfl
@[simp] theorem env_buildSlice (g : Nat → PV) (lf n : Nat) : (env g lf n).p.buildSlice = buildSliceP Tryd.prog := rfl
@[simp] theorem env_load (g : Nat → PV) (lf n : Nat) : (env g lf n).p.load = loadP Tryd.prog := rfl
@[simp] theorem env_store (g : Nat → PV) (lf n : Nat) : (env g lf n).p.store = storeP Tryd.prog := rfl
@[simp] theorem env_ptr (g : Nat → PV) (lf n : Nat) : (env g lf n).p.ptr = ptrP := rfl
@[simp] theorem env_bin (g : Nat → PV) (lf n : Nat) : (env g lf n).p.bin = binP Tryd.prog := rfl
@[simp] theorem env_un (g : Nat → PV) (lf n : Nat) : (env g lf n).p.un = unP := rfl
@[simp] theorem env_conv (g : Nat → PV) (lf n : Nat) : (env g lf n).p.conv = convP Tryd.prog := rfl
@[simp] theorem env_make (g : Nat → PV) (lf n : Nat) : (env g lf n).p.make = makeP Tryd.prog := rfl
@[simp] theorem env_slice (g : Nat → PV) (lf n : Nat) : (env g lf n).p.slice = sliceP Tryd.prog := rfl
@[simp] theorem env_fieldAddr (g : Nat → PV) (lf n : Nat) : (env g lf n).p.fieldAddr = fieldAddrP Tryd.prog := rfl
@[simp] theorem env_field (g : Nat → PV) (lf n : Nat) : (env g lf n).p.field = fieldP Tryd.prog := rfl
@[simp] theorem env_indexAddr (g : Nat → PV) (lf n : Nat) : (env g lf n).p.indexAddr = indexAddrP Tryd.prog := rfl
@[simp] theorem env_index (g : Nat → PV) (lf n : Nat) : (env g lf n).p.index = indexP Tryd.prog := rfl
@[simp] theorem env_extract (g : Nat → PV) (lf n : Nat) : (env g lf n).p.extract = extractP := rfl
@[simp] theorem env_len (g : Nat → PV) (lf n : Nat) : (env g lf n).p.len = lenP Tryd.prog := rfl
@[simp] theorem env_append (g : Nat → PV) (lf n : Nat) : (env g lf n).p.append = appendP Tryd.prog := rfl
@[simp] theorem env_max (g : Nat → PV) (lf n : Nat) : (env g lf n).p.max = foldP maxP2 := rfl
@[simp] theorem env_min (g : Nat → PV) (lf n : Nat) : (env g lf n).p.min = foldP minP2 := rfl
@[simp] theorem env_makeMap (g : Nat → PV) (lf n : Nat) : (env g lf n).p.makeMap = makeMapP := rfl
@[simp] theorem env_lookup (g : Nat → PV) (lf n : Nat) : (env g lf n).p.lookup = lookupP Tryd.prog := rfl
@[simp] theorem env_update (g : Nat → PV) (lf n : Nat) : (env g lf n).p.update = updateP Tryd.prog := rfl
end Go.Proofs.YtlefknibddkjpabDoor.G

/- From what the interpreter computes for a law to what the machine's call of it does. -/
set_option maxRecDepth 20000
namespace Go.Proofs.YtlefknibddkjpabDoor
open Go Go.Ip Go.RowKit G

def g0 : Nat → PV := fun _ => .junk
def LF : Nat := 4294967296

theorem prog_mixed : Tryd.prog.follows .mixedOrders = true := by kernel_rfl
theorem prog_ok : progOk Tryd.prog = true := by kernel_rfl

/-- A slice of integers, nil or not, as the interpreter's heap holds it. -/
def IntSl (k : IntKind) (h : PHeap) (p : PV) (xs : List Int) : Prop :=
  (p = .nilsl ∧ xs = []) ∨ ∃ id off, p = .sl id off xs.length ∧ ∀ (i : Nat) x, xs[i]? = some x → (cellsAt h id)[off + i]? = some (.int k x)

end Go.Proofs.YtlefknibddkjpabDoor

