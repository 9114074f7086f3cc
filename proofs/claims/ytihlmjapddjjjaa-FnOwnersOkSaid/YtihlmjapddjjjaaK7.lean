/- Texts of this seat, in their order, put together by program. -/
import Derived.Test.YtihlmjapddjjjaaK6
import Derived.Test.YtihlmjapddjjjaaProg
import Derived.KernelRfl
set_option linter.unusedSimpArgs false
set_option linter.unusedVariables false
set_option linter.unusedSectionVars false
/- Of each function of this seat's program its plain form over the interpreter, written by program; each equation is the kernel's. -/
set_option linter.unusedVariables false
set_option maxRecDepth 100000
namespace Go.Proofs.Ytihlmjapddjjjaa.G
open Go Go.Ip Go.Proofs

def fn_laws_FnWiresOk : Nat := 3
def fn_laws_FnOwnersOk : Nat := 4
def fn_spec_DrawWiresOk : Nat := 5
def fn_impl_WiresOk : Nat := 6
def fn_spec_WiresOk : Nat := 7
def fn_laws_alive : Nat := 8
def fn_spec_DrawOwnersOk : Nat := 9
def fn_impl_OwnersOk : Nat := 10
def fn_spec_OwnersOk : Nat := 11
def fn_spec_l20Wires : Nat := 12
def fn_spec_l20Open : Nat := 13
def fn_impl_nodeOk : Nat := 14
def fn_spec_l1In : Nat := 15
def fn_impl_BoardOk : Nat := 16
def fn_spec_l20Owned : Nat := 17
def fn_impl_contentOk : Nat := 18
def fn_spec_l20Rd_pick : Nat := 19
def fn_spec_l20Rd_odd : Nat := 20
def fn_impl_sizeOk : Nat := 21
def laws_FnWiresOk.kl : Nat → List Nat := fun n => match n with
  | 0 => [1, 2, 3, 4, 5, 6, 7, 8, 9, 10, 11, 12, 13, 14, 15, 16, 17, 18, 19, 20, 21, 22, 23, 24, 25, 26, 27, 28, 29, 30, 31, 32, 33, 34, 35, 36, 37, 38, 39, 40, 41, 42, 43, 44, 45, 46, 47, 48, 49, 50, 51, 52, 53, 54, 55, 56, 57, 58, 59, 60, 61, 62, 63, 64, 65, 66, 67, 68]
  | 2 => [8, 9]
  | 3 => [39]
  | 4 => [0, 10]
  | 6 => [0, 10, 11, 12, 13, 14, 15]
  | 8 => [16, 17, 18]
  | 10 => [19, 20, 21, 22]
  | 12 => [3, 4, 5, 23]
  | 14 => [23, 24, 25, 26, 27, 28]
  | 16 => [3, 4, 5, 29, 30, 31, 32, 33, 34]
  | 18 => [29, 35]
  | 22 => [36, 37, 38, 40, 41, 42, 43, 44, 45, 46, 47, 48, 49, 50, 51, 52, 53, 54, 55]
  | 24 => [40, 41]
  | 26 => [42, 43, 44, 45, 46, 47, 48, 49, 50, 51, 52, 53, 54, 55]
  | 28 => [3, 4, 5, 6, 7, 39, 56, 57, 58, 59, 60, 61, 62, 63, 64, 65, 66, 67, 68]
  | _ => []
def laws_FnOwnersOk.kl : Nat → List Nat := fun n => match n with
  | 0 => [1, 2, 3, 4, 5, 6, 7, 8, 9, 10, 11, 12, 13, 14, 15, 16, 17, 18, 19, 20, 21, 22, 23, 24, 25, 26, 27, 28, 29, 30, 31, 32, 33, 34, 35, 36, 37, 38, 39, 40, 41, 42, 43, 44, 45, 46, 47, 48, 49, 50, 51, 52, 53, 54, 55, 56, 57, 58, 59, 60, 61, 62, 63, 64, 65, 66, 67, 68, 69, 70, 71, 72]
  | 2 => [10, 11]
  | 3 => [33]
  | 4 => [0, 12]
  | 6 => [0, 12, 13, 14, 15, 16, 17, 18]
  | 8 => [19, 20, 21, 22]
  | 10 => [23, 24, 25, 26, 27]
  | 12 => [3, 4, 5, 6, 28]
  | 14 => [28, 29]
  | 18 => [9, 30, 31, 32, 34, 35, 36, 37, 38, 39, 40, 41, 42, 43, 44, 45, 46, 47, 48, 49, 50, 51]
  | 20 => [34, 35]
  | 22 => [36, 37, 38, 39]
  | 24 => [40, 41, 42, 43, 44]
  | 26 => [45, 46, 47]
  | 28 => [9, 45, 48, 49, 50, 51]
  | 30 => [3, 4, 5, 6, 7, 8, 33, 52, 53, 54, 55, 56, 57, 58, 59, 60, 61, 62, 63, 64, 65, 66, 67, 68, 69, 70, 71, 72]
  | _ => []
def spec_DrawWiresOk.kl : Nat → List Nat := fun n => match n with
  | 0 => [1, 2, 3, 4, 5, 6, 7, 8]
  | 2 => [0, 4, 5, 6, 7, 8]
  | _ => []
def impl_WiresOk.kl : Nat → List Nat := fun n => match n with
  | 0 => [2, 3, 4, 5, 6, 7, 8, 9, 10, 11, 12, 13, 14, 15, 16, 17, 18, 19, 20, 21, 22, 23, 24, 25, 26, 27, 28, 29, 30, 31, 32, 33, 34, 35, 36, 37, 38, 39, 40, 41, 42, 43]
  | 2 => [7, 8, 9, 10, 11, 12, 13, 14, 15, 16]
  | 3 => [21]
  | 4 => [0, 1, 17]
  | 6 => [1, 17]
  | 8 => [4, 6, 22, 23, 24, 25, 26, 27, 28, 29, 30, 31, 32, 33, 34, 35, 36, 37, 38, 39, 40, 41, 42, 43]
  | 10 => [22, 23]
  | 12 => [6, 24, 25, 26, 27, 28, 29, 30, 31, 32, 33, 34, 35, 36, 37, 38, 39, 40, 41]
  | 14 => [0, 18, 19, 20, 42]
  | 16 => [42, 43]
  | 18 => [0, 18, 19, 20, 21]
  | _ => []
def spec_WiresOk.kl : Nat → List Nat := fun n => match n with
  | 0 => [2, 3, 4, 5, 6, 7, 8, 9, 10, 11, 12, 13, 14, 15, 16, 17, 18, 19, 20, 21, 22, 23, 24, 25, 26, 27, 28, 29, 30, 31, 32, 33, 34, 35, 36, 37, 38, 39, 40, 41, 42, 43, 44, 45, 46, 47, 48, 49, 50]
  | 3 => [10]
  | 4 => [4, 6, 7, 8, 9, 11, 12, 13, 14, 15, 16, 17, 18, 19, 20, 21, 22, 23, 24, 25, 26, 27, 28, 29, 30, 31, 32, 33, 34, 35, 36, 37, 38, 39, 40, 41, 42, 43]
  | 6 => [11, 12, 43]
  | 8 => [13, 14, 15, 16]
  | 10 => [6, 17, 18, 19, 20, 21, 22, 23, 24, 25, 26, 27, 28, 29, 30, 31, 32, 33, 34, 35, 36, 37, 38, 39, 40, 41, 42]
  | 12 => [0, 1, 5, 43]
  | 14 => [0, 1, 5, 10, 44, 45, 46, 47, 48, 49, 50]
  | _ => []
def laws_alive.kl : Nat → List Nat := fun n => match n with
  | 0 => [0, 1, 2, 3, 4, 5]
  | 2 => [1, 2, 3, 4, 5]
  | _ => []
def spec_DrawOwnersOk.kl : Nat → List Nat := fun n => match n with
  | 0 => [1, 2, 3, 4, 5, 6, 7, 8, 9, 10]
  | 2 => [0, 5, 6, 7, 8, 9, 10]
  | _ => []
def impl_OwnersOk.kl : Nat → List Nat := fun n => match n with
  | 0 => [3, 4, 5, 6, 7, 8, 9, 10, 11, 12, 13, 14, 15, 16, 17, 18, 19, 20, 21, 22, 23, 24, 25, 26, 27, 28, 29]
  | 2 => [0, 1, 9, 10, 11, 12, 13, 14, 15, 16, 17, 18]
  | 3 => [23]
  | 4 => [2, 19]
  | 6 => [2, 19]
  | 8 => [6, 8, 24, 25, 26, 27, 28, 29]
  | 10 => [24, 25]
  | 12 => [8, 26, 27]
  | 14 => [20, 21, 22, 28]
  | 16 => [28, 29]
  | 18 => [20, 21, 22, 23]
  | _ => []
def spec_OwnersOk.kl : Nat → List Nat := fun n => match n with
  | 0 => [3, 4, 5, 6, 7, 8, 9, 10, 11, 12, 13, 14, 15, 16, 17, 18, 19, 20, 21, 22, 23, 24, 25, 26, 27, 28, 29]
  | 3 => [11]
  | 4 => [6, 8, 9, 10, 12, 13, 14, 15, 16, 17, 18, 19]
  | 6 => [12, 13, 19]
  | 8 => [14, 15, 16, 17, 18]
  | 10 => [0, 1, 2, 7, 19]
  | 12 => [0, 1, 2, 7, 11, 20, 21, 22, 23, 24, 25, 26, 27, 28, 29]
  | _ => []
def spec_l20Wires.kl : Nat → List Nat := fun n => match n with
  | 0 => [2, 3, 4, 5, 6, 7, 8, 9, 10, 11, 12, 13, 14, 15, 16, 17, 18, 19, 20, 21, 22, 23, 24, 25, 26, 27, 28, 29, 30, 31, 32, 33, 34, 35, 36, 37, 38, 39, 40, 41, 42, 43, 44, 45, 46, 47, 48, 49, 50, 51, 52, 53, 54, 55, 56, 57, 58, 59, 60, 61, 62, 63, 64, 65]
  | 2 => [11, 12, 13]
  | 3 => [19]
  | 4 => [14]
  | 6 => [15, 16, 17]
  | 8 => [9, 10, 18, 20, 21, 22, 23, 24, 25, 26, 27, 28, 29, 30, 31, 32, 33, 34, 35, 36, 37, 38, 39]
  | 10 => [20, 21]
  | 12 => [22, 23, 24]
  | 14 => [25, 26, 27, 28, 29, 30, 31, 32, 33]
  | 16 => [9, 10, 34, 35, 36, 37, 38, 39]
  | 18 => [1, 8, 19, 40, 41]
  | 20 => [42, 43]
  | 22 => [0, 6, 7, 45, 46, 47, 48, 49, 50, 57]
  | 24 => [52]
  | 26 => [0, 44, 51, 53, 54, 55, 56]
  | 28 => [44, 51, 58]
  | 30 => [0, 57, 59, 60, 61, 62, 63]
  | 32 => [0, 6, 7, 42, 64, 65]
  | _ => []
def spec_l20Open.kl : Nat → List Nat := fun n => match n with
  | 0 => [1, 2, 3, 4, 5, 6, 7, 8, 9, 10]
  | 2 => [3, 4]
  | 4 => [5, 6, 7]
  | 6 => [0, 5, 8, 9, 10]
  | _ => []
def impl_nodeOk.kl : Nat → List Nat := fun n => match n with
  | 0 => [2, 3, 4, 5, 6, 7, 8, 9, 10, 11]
  | 2 => [0, 1, 5, 6, 7, 8, 9, 10, 11]
  | _ => []
def spec_l1In.kl : Nat → List Nat := fun n => match n with
  | 0 => [3, 4, 5, 6, 7, 8, 9, 10, 11, 12, 13, 14]
  | 2 => [0, 1, 2, 7, 8, 9, 10, 11, 12, 13, 14]
  | _ => []
def impl_BoardOk.kl : Nat → List Nat := fun n => match n with
  | 0 => [2, 3, 4, 5, 6, 7, 8, 9, 10, 11, 12, 13, 14, 15, 16]
  | 2 => [0, 1, 5, 6, 7, 8, 9, 10, 11, 12, 13, 14, 15, 16]
  | _ => []
def spec_l20Owned.kl : Nat → List Nat := fun n => match n with
  | 0 => [2, 3, 4, 5, 6, 7, 8, 9, 10, 11, 12, 13, 14, 15, 16, 17, 18, 19, 20, 21, 22, 23, 24, 25, 26, 27, 28, 29, 30, 31, 32, 33, 34, 35, 36, 37, 38, 39, 40, 41, 42, 43, 44, 45, 46, 47, 48]
  | 2 => [13, 14, 15, 16, 17, 18]
  | 3 => [25]
  | 4 => [19]
  | 6 => [20, 21]
  | 10 => [12, 22, 23, 24, 26, 27, 28, 29, 30, 31, 32, 33, 34, 35, 36, 37]
  | 12 => [26, 27]
  | 14 => [28, 29]
  | 16 => [30, 31, 32]
  | 18 => [33]
  | 20 => [12, 33, 34, 35, 36, 37]
  | 22 => [0, 1, 10, 11, 25, 38, 39]
  | 24 => [7, 8, 9, 40, 41, 42, 43, 44, 45]
  | 26 => [7, 8, 9, 40, 46, 47, 48]
  | _ => []
def impl_contentOk.kl : Nat → List Nat := fun n => match n with
  | 0 => [1, 2, 3, 4, 5, 6, 7, 8, 9, 10, 11, 12]
  | 2 => [0, 3, 4, 5, 6, 7, 8, 9, 10, 11, 12]
  | _ => []
def spec_l20Rd_pick.kl : Nat → List Nat := fun n => match n with
  | 0 => [2, 3, 4, 5, 6, 7, 8, 9, 10, 11, 12, 13, 14, 15, 16, 17, 18, 19, 20, 21, 22, 23, 24, 25, 26, 27, 28, 29, 30, 31, 32, 33, 34, 35, 36, 37, 38, 39, 40, 41, 42, 43, 44, 45, 46, 47, 48, 49, 50, 51, 52, 53, 54, 55, 56, 57, 58, 59, 60, 61, 62, 63, 64, 65, 66, 67, 68, 69, 70, 71, 72, 73, 74, 75, 76, 77, 78, 79, 80, 81, 82, 83, 84, 85, 86, 87, 88, 89, 90, 91, 92, 93, 94, 95, 96, 97, 98]
  | 2 => [7, 8, 9, 10, 11, 12, 13, 14]
  | 4 => [15, 16, 17, 18, 19, 20, 21, 22, 23]
  | 6 => [0, 1, 24]
  | 8 => [24, 25, 26, 27, 28, 29]
  | 10 => [30, 31, 32, 33, 34, 35]
  | 12 => [0, 1, 5, 36, 37, 38, 39, 40, 41, 42, 43, 44, 45, 46]
  | 14 => [0, 5, 36, 47, 48, 49, 50, 51, 52, 53, 54, 55, 56, 57, 58, 59, 60, 61, 62, 63, 64, 65, 66, 67, 68, 69, 70, 71, 72, 73, 74, 75, 76, 77, 78, 79, 80, 81, 82, 83, 84, 85, 86, 87, 88, 89, 90, 91]
  | 16 => [92, 93, 94, 95]
  | 18 => [1, 6, 96, 97, 98]
  | _ => []
def spec_l20Rd_odd.kl : Nat → List Nat := fun n => match n with
  | 0 => [2, 3, 4, 5, 6, 7, 8, 9, 10, 11, 12, 13, 14]
  | 2 => [0, 1, 5, 6, 7, 8, 9, 10, 11, 12, 13, 14]
  | _ => []
def impl_sizeOk.kl : Nat → List Nat := fun n => match n with
  | 0 => [1, 2, 3, 4, 5, 6, 7, 8]
  | 2 => [0, 3, 4, 5, 6, 7, 8]
  | _ => []
def KL : FuncId → Nat → List Nat := fun f => match f with
  | 3 => laws_FnWiresOk.kl
  | 4 => laws_FnOwnersOk.kl
  | 5 => spec_DrawWiresOk.kl
  | 6 => impl_WiresOk.kl
  | 7 => spec_WiresOk.kl
  | 8 => laws_alive.kl
  | 9 => spec_DrawOwnersOk.kl
  | 10 => impl_OwnersOk.kl
  | 11 => spec_OwnersOk.kl
  | 12 => spec_l20Wires.kl
  | 13 => spec_l20Open.kl
  | 14 => impl_nodeOk.kl
  | 15 => spec_l1In.kl
  | 16 => impl_BoardOk.kl
  | 17 => spec_l20Owned.kl
  | 18 => impl_contentOk.kl
  | 19 => spec_l20Rd_pick.kl
  | 20 => spec_l20Rd_odd.kl
  | 21 => impl_sizeOk.kl
  | _ => fun _ => []
noncomputable def CL (g : Nat → PV) (lf n : Nat) : FuncId → List PV → PHeap → Res := call Try.prog g KL lf n
noncomputable def YL (g : Nat → PV) (lf n : Nat) : Nat → List PV → PHeap → Res := yields Try.prog g KL lf n
noncomputable def env (g : Nat → PV) (lf n : Nat) : Env := ⟨g, lf, CL g lf n, std Try.prog, YL g lf n⟩
@[simp] theorem env_C (g : Nat → PV) (lf n : Nat) : (env g lf n).C = CL g lf n := rfl
@[simp] theorem env_Y (g : Nat → PV) (lf n : Nat) : (env g lf n).Y = YL g lf n := rfl
@[simp] theorem env_g (g : Nat → PV) (lf n : Nat) : (env g lf n).g = g := rfl
@[simp] theorem env_lf (g : Nat → PV) (lf n : Nat) : (env g lf n).lf = lf := rfl
@[simp] theorem env_pick (g : Nat → PV) (lf n : Nat) : (env g lf n).p.pick = pickP := rfl
@[simp] theorem env_alloc (g : Nat → PV) (lf n : Nat) : (env g lf n).p.alloc = allocP Try.prog := rfl
@[simp] theorem env_box (g : Nat → PV) (lf n : Nat) : (env g lf n).p.box = boxP := rfl
@[simp] theorem env_build (g : Nat → PV) (lf n : Nat) : (env g lf n).p.build = buildP Try.prog := rfl
@[simp] theorem env_buildSlice (g : Nat → PV) (lf n : Nat) : (env g lf n).p.buildSlice = buildSliceP Try.prog := rfl
@[simp] theorem env_load (g : Nat → PV) (lf n : Nat) : (env g lf n).p.load = loadP Try.prog := rfl
@[simp] theorem env_store (g : Nat → PV) (lf n : Nat) : (env g lf n).p.store = storeP Try.prog := rfl
@[simp] theorem env_ptr (g : Nat → PV) (lf n : Nat) : (env g lf n).p.ptr = ptrP := rfl
@[simp] theorem env_bin (g : Nat → PV) (lf n : Nat) : (env g lf n).p.bin = binP Try.prog := rfl
@[simp] theorem env_un (g : Nat → PV) (lf n : Nat) : (env g lf n).p.un = unP := rfl
@[simp] theorem env_conv (g : Nat → PV) (lf n : Nat) : (env g lf n).p.conv = convP Try.prog := rfl
@[simp] theorem env_make (g : Nat → PV) (lf n : Nat) : (env g lf n).p.make = makeP Try.prog := rfl
@[simp] theorem env_slice (g : Nat → PV) (lf n : Nat) : (env g lf n).p.slice = sliceP Try.prog := rfl
@[simp] theorem env_fieldAddr (g : Nat → PV) (lf n : Nat) : (env g lf n).p.fieldAddr = fieldAddrP Try.prog := rfl
@[simp] theorem env_field (g : Nat → PV) (lf n : Nat) : (env g lf n).p.field = fieldP Try.prog := rfl
@[simp] theorem env_indexAddr (g : Nat → PV) (lf n : Nat) : (env g lf n).p.indexAddr = indexAddrP Try.prog := rfl
@[simp] theorem env_index (g : Nat → PV) (lf n : Nat) : (env g lf n).p.index = indexP Try.prog := rfl
@[simp] theorem env_extract (g : Nat → PV) (lf n : Nat) : (env g lf n).p.extract = extractP := rfl
@[simp] theorem env_len (g : Nat → PV) (lf n : Nat) : (env g lf n).p.len = lenP Try.prog := rfl
@[simp] theorem env_append (g : Nat → PV) (lf n : Nat) : (env g lf n).p.append = appendP Try.prog := rfl
@[simp] theorem env_max (g : Nat → PV) (lf n : Nat) : (env g lf n).p.max = foldP maxP2 := rfl
@[simp] theorem env_min (g : Nat → PV) (lf n : Nat) : (env g lf n).p.min = foldP minP2 := rfl
@[simp] theorem env_makeMap (g : Nat → PV) (lf n : Nat) : (env g lf n).p.makeMap = makeMapP := rfl
@[simp] theorem env_lookup (g : Nat → PV) (lf n : Nat) : (env g lf n).p.lookup = lookupP Try.prog := rfl
@[simp] theorem env_update (g : Nat → PV) (lf n : Nat) : (env g lf n).p.update = updateP Try.prog := rfl
@[simp] theorem env_clos (g : Nat → PV) (lf n : Nat) : (env g lf n).p.clos = closP := rfl
@[simp] theorem env_bstr (g : Nat → PV) (lf n : Nat) : (env g lf n).p.bstr = bstrP Try.prog := rfl
end Go.Proofs.Ytihlmjapddjjjaa.G

/- From what the interpreter computes for a law to what the machine's call of it does. -/
set_option maxRecDepth 20000
namespace Go.Proofs.Ytihlmjapddjjjaa
open Go Go.Ip Go.RowKit G

def g0 : Nat → PV := fun _ => .junk
def LF : Nat := 4294967296

theorem prog_mixed : Try.prog.follows .mixedOrders = true := by kernel_rfl
theorem prog_ok : progOk Try.prog = true := by kernel_rfl

theorem law_walk {n : Nat} {f : FuncId} {args : List PV} {h h' : PHeap} {μ : List Ip.Loc} {w : World} {xs : Array Value} (hc : CL g0 LF n f args h = some (.bool true, h'))
    (sim : Sim w.heap.size w μ h w) (ha : All2 (rep μ) args xs.toList) : Calls Try.prog f xs w fun e w' => e = .returned (.bool true) ∧ Below w.heap.size w w' := by
  obtain ⟨_, hcall⟩ := (call_sound Try.prog g0 KL LF prog_mixed prog_ok n (KL f)).call f args h _ hc
  refine (hcall w.heap.size w μ w xs sim (fun _ => trivial) ha).mono ?_
  rintro e w' ⟨v, rfl, μ', hpre, hr, hs⟩
  refine ⟨?_, hs.below⟩
  rw [rep_bool.1 hr]

/-- A slice of integers, nil or not, as the interpreter's heap holds it. -/
def IntSl (k : IntKind) (h : PHeap) (p : PV) (xs : List Int) : Prop :=
  (p = .nilsl ∧ xs = []) ∨ ∃ id off, p = .sl id off xs.length ∧ ∀ (i : Nat) x, xs[i]? = some x → (cellsAt h id)[off + i]? = some (.int k x)

/-- A slice of integers that came in. -/
theorem row_arg {k : IntKind} {w : World} {a : Option Addr} {len cap : Nat} {zs : List Int}
    (h : (a = none ∧ len = 0 ∧ cap = 0 ∧ zs = []) ∨ ∃ x, a = some x ∧ len ≤ cap ∧ cap ≤ maxLen ∧ zs.length = cap ∧ (∀ i, i < zs.length → w.cell? (x.add i) = some (.int k (zs.getD i 0))) ∧ ∀ n ∈ zs, (Lit.int k n).wf = true) :
    ∃ μ o p, Sim w.heap.size w μ [o] w ∧ rep μ p (.slice a len cap) ∧ IntSl k [o] p (zs.take len) ∧ len = (zs.take len).length ∧ len ≤ maxLen ∧ (∀ n ∈ zs.take len, (Lit.int k n).wf = true) ∧ (o = .dead ∨ ∃ c, o = .ro 1 c) := by
  have simD : ∀ l : Ip.Loc, Sim w.heap.size w [l] [.dead] w := fun l =>
    ⟨rfl, Below.refl _ _, Nat.le_refl _, fun id o l h _ => by
      match id, h with
      | 0, h => simp at h; subst h; trivial
      | id + 1, h => simp at h, fun i j li lj ei ci ej cj _ h => by
      match i, h with
      | 0, h => simp at h
      | i + 1, h => simp at h, fun i j li lj ei ej _ h => by
      match i, h with
      | 0, h => simp at h
      | i + 1, h => simp at h, fun i j li lj oi oj _ h ho => by
      match i, h with
      | 0, h => simp at h; subst h; cases ho
      | i + 1, h => simp at h, fun _ h => h, fun _ _ h => False.elim h, fun _ h => False.elim h, fun _ _ _ _ _ _ h => h⟩
  rcases h with ⟨rfl, rfl, rfl, rfl⟩ | ⟨x, rfl, hlc, hcm, hz, hcell, hwf⟩
  · exact ⟨[⟨0, 0, 0, 0⟩], .dead, .nilsl, simD _, rfl, .inl ⟨rfl, by simp⟩, by simp, Nat.zero_le _, by simp, .inl rfl⟩
  · have hlen : len = (zs.take len).length := by simp; omega
    by_cases hc : cap = 0
    · have hl0 : len = 0 := by omega
      subst hc hl0
      exact ⟨[oddLoc x], .dead, .sl 0 0 0, simD _, ⟨_, 0, x, rfl, rfl, Nat.le_refl _, odd_ok x⟩, .inr ⟨0, 0, by simp, fun i n hn => by simp at hn⟩, by simp, Nat.zero_le _, by simp, .inl rfl⟩
    refine ⟨[⟨x.block, x.off, x.off + cap, 1⟩], .ro 1 ((zs.take len).map (.int k)), .sl 0 0 (zs.take len).length, ?_, ?_, ?_, hlen, by omega, fun n hn => hwf n (List.mem_of_mem_take hn), .inr ⟨_, rfl⟩⟩
    · have h0 := hcell 0 (by omega)
      have hblk : x.block < w.heap.size := by
        have := World.block_lt_of_cell? w _ h0
        simpa [Addr.add] using this
      have hspot : x.spot = none := by
        have h1 : w.cell? x = some (.int k (zs.getD 0 0)) := by simpa [Addr.add] using h0
        unfold World.cell? at h1
        split at h1
        · split at h1
          · cases h1
          · rename_i hs; simpa using hs
        · cases h1
      refine ⟨rfl, Below.refl _ _, Nat.le_refl _, ?_, ?_, fun i j li lj ei ej _ h => by
        match i, h with
        | 0, h => simp at h
        | i + 1, h => simp at h, fun i j li lj oi oj _ h ho => by
        match i, h with
        | 0, h => simp at h; subst h; cases ho
        | i + 1, h => simp at h, fun _ h => h, fun _ _ h => False.elim h, fun _ h => False.elim h, fun _ _ _ _ _ _ h => h⟩
      · intro id o l ho hl
        match id, ho, hl with
        | 0, ho, hl =>
          obtain rfl := Option.some.inj ho
          obtain rfl := Option.some.inj hl
          refine ⟨rfl, hblk, ?_⟩
          intro j p hp
          simp only [List.getElem?_map, Option.map_eq_some_iff] at hp
          obtain ⟨n, hn, rfl⟩ := hp
          have hj : j < (zs.take len).length := (List.getElem?_eq_some_iff.1 hn).1
          have hj2 : j < zs.length := by simp at hj; omega
          refine ⟨_, ?_, rfl⟩
          have := hcell j hj2
          have hadd : x.add j = ⟨x.block, x.off + j, none⟩ := by
            cases x
            simp only at hspot
            subst hspot
            exact Addr.add_lit _ _ _
          rw [hadd] at this
          refine this.trans ?_
          rw [List.getElem?_take] at hn
          split at hn
          · simp [List.getD, hn]
          · cases hn
        | id + 1, ho, _ => simp at ho
      · intro i j li lj ei ci ej cj _ h
        match i, h with
        | 0, h => simp at h
        | i + 1, h => simp at h
    · refine ⟨_, cap, x, rfl, by rw [← hlen], by omega, .inl ⟨?_, by simp, Nat.zero_lt_one⟩⟩
      have h0 := hcell 0 (by omega)
      have hspot : x.spot = none := by
        have h1 : w.cell? x = some (.int k (zs.getD 0 0)) := by simpa [Addr.add] using h0
        unfold World.cell? at h1
        split at h1
        · split at h1
          · cases h1
          · rename_i hs; simpa using hs
        · cases h1
      cases x
      simp only at hspot
      subst hspot
      rfl
    · right
      refine ⟨0, 0, rfl, fun i n hn => ?_⟩
      have : cellsAt [PObj.ro 1 ((zs.take len).map (.int k))] 0 = (zs.take len).map (.int k) := rfl
      rw [this, List.getElem?_map, Nat.zero_add, hn]
      rfl

end Go.Proofs.Ytihlmjapddjjjaa

