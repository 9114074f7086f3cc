/- Of each function of this seat's program its plain form over the interpreter, written by program; each equation is the kernel's. -/
import Derived.Test.YtiflfnlpkhghpaaProg
import Derived.Test.YtiflfnlpkhghpaaIp
import Derived.KernelRfl
set_option linter.unusedVariables false
set_option maxRecDepth 100000
namespace Go.Proofs.Ytiflfnlpkhghpaa.G
open Go Go.Ip Go.Proofs

def fn_laws_FnExactFilled : Nat := 3
def fn_spec_Filled : Nat := 4
def fn_laws_toIntS : Nat := 5
def fn_impl_Filled : Nat := 6
def fn_laws_eqIntS : Nat := 7
def fn_laws_markIntS : Nat := 8
def fn_laws_heldIntS : Nat := 9
def fn_spec_PositionOk : Nat := 10
def fn_spec_l1In : Nat := 11
def fn_impl_PositionOk : Nat := 12
def fn_impl_playerOk : Nat := 13
def fn_spec_BoardOk : Nat := 14
def fn_impl_BoardOk : Nat := 15
def fn_impl_contentOk : Nat := 16
def fn_impl_sizeOk : Nat := 17
def laws_FnExactFilled.kl : Nat → List Nat := fun n => match n with
  | 0 => [4, 5, 6, 7, 8, 9, 10, 11, 12, 13, 14, 15, 16, 17, 18, 19, 20, 21, 22, 23, 24, 25, 26, 27, 28, 29, 30, 31, 32, 33, 34, 35, 36, 37, 38, 39, 40, 41, 42, 43, 44, 45, 46, 47, 48, 49, 50, 51, 52, 53, 54, 55, 56, 57, 58, 59, 60, 61, 62, 63, 64, 65, 66, 67, 68, 69, 70, 71, 72, 73, 74, 75, 76, 77, 78, 79, 80]
  | 2 => [16, 17]
  | 4 => [0, 1, 2, 3, 18]
  | 6 => [18, 19, 20, 21, 22, 23, 24]
  | 8 => [25, 26]
  | 10 => [27, 28, 29, 30, 31]
  | 12 => [32, 33, 34]
  | 14 => [0, 1, 2, 3, 9, 10, 11, 35]
  | 16 => [35, 36, 37, 38, 39]
  | 18 => [0, 1, 2, 3, 9, 10, 11, 40]
  | 20 => [40]
  | 22 => [10, 41, 42, 43]
  | 24 => [12, 44, 45, 46, 47, 48, 49, 50]
  | 26 => [0, 1, 2, 3, 9, 11, 51]
  | 28 => [51]
  | 30 => [52, 53, 54]
  | 34 => [55, 56, 57]
  | 36 => [58]
  | 38 => [0, 1, 2, 3, 9, 11, 13, 14, 59]
  | 40 => [14, 59, 60, 61]
  | 42 => [0, 1, 2, 3, 9, 11, 13, 62]
  | 44 => [0, 1, 2, 3, 62, 63, 64, 65, 66, 67, 68]
  | 46 => [9, 15, 69, 70, 71]
  | 48 => [11, 13, 72]
  | 50 => [72]
  | 52 => [11, 73, 74, 75]
  | 54 => [76]
  | 56 => [13, 14, 77]
  | 58 => [13, 14, 77, 78, 79]
  | 60 => [80]
  | 62 => [80]
  | _ => []
def spec_Filled.kl : Nat → List Nat := fun n => match n with
  | 0 => [4, 5, 6, 7, 8, 9, 10, 11, 12, 13, 14, 15, 16, 17, 18, 19, 20, 21, 22, 23, 24, 25, 26, 27, 28, 29, 30, 31, 32, 33, 34, 35, 36, 37, 38, 39, 40]
  | 2 => [12]
  | 3 => [26]
  | 6 => [13, 14, 15, 16, 17, 18, 19, 20, 21, 22, 23, 24, 25]
  | 8 => [27, 28]
  | 10 => [29, 30, 31, 32]
  | 12 => [33]
  | 14 => [34, 35]
  | 16 => [11, 34, 36, 37, 38, 39]
  | 18 => [0, 1, 2, 3, 9, 10, 26, 40]
  | _ => []
def laws_toIntS.kl : Nat → List Nat := fun n => match n with
  | 0 => [1, 2, 3, 4, 5, 6, 7, 8, 9, 10, 11, 12, 13, 14, 15, 16, 17, 18, 19, 20, 21]
  | 2 => [5, 6, 7]
  | 3 => [11]
  | 6 => [8, 9, 10]
  | 8 => [12, 13]
  | 10 => [14, 15, 16, 17, 18, 19, 20]
  | 12 => [0, 3, 4, 11, 21]
  | _ => []
def impl_Filled.kl : Nat → List Nat := fun n => match n with
  | 0 => [4, 5, 6, 7, 8, 9, 10, 11, 12, 13, 14, 15, 16, 17, 18, 19, 20, 21, 22, 23, 24, 25, 26, 27, 28, 29, 30, 31, 32, 33, 34, 35, 36, 37, 38, 39, 40]
  | 2 => [0, 1, 12, 13, 14, 15, 16, 17, 18, 19, 20]
  | 3 => [28]
  | 4 => [2, 3, 21]
  | 6 => [21, 22, 23, 24]
  | 8 => [2]
  | 12 => [29, 30, 31]
  | 14 => [32]
  | 16 => [33, 34]
  | 18 => [10, 11, 33, 35, 36, 37, 38]
  | 20 => [39]
  | 22 => [3, 9, 25, 26, 27, 28, 40]
  | _ => []
def laws_eqIntS.kl : Nat → List Nat := fun n => match n with
  | 0 => [2, 3, 4, 5, 6, 7, 8, 9, 10, 11, 12, 13, 14, 15, 16, 17, 18, 19, 20, 21, 22, 23, 24, 25]
  | 2 => [6, 7, 8, 9]
  | 3 => [14]
  | 4 => [0, 1, 10]
  | 6 => [10]
  | 8 => [11, 12, 13]
  | 10 => [15, 16, 25]
  | 12 => [17, 18, 19, 20, 21, 22, 23, 24]
  | 14 => [0, 1, 5, 25]
  | 16 => [0, 1, 5, 14]
  | _ => []
def laws_markIntS.kl : Nat → List Nat := fun n => match n with
  | 0 => [2, 3, 4, 5, 6, 7, 8, 9, 10, 11, 12, 13, 14, 15, 16, 17, 18]
  | 3 => [9]
  | 4 => [6, 7, 8]
  | 6 => [10, 11]
  | 8 => [12, 13, 14, 15]
  | 10 => [16, 17]
  | 12 => [0, 1, 5, 9, 18]
  | _ => []
def laws_heldIntS.kl : Nat → List Nat := fun n => match n with
  | 0 => [2, 3, 4, 5, 6, 7, 8, 9, 10, 11, 12, 13, 14, 15, 16, 17, 18, 19, 20]
  | 3 => [9]
  | 4 => [6, 7, 8]
  | 6 => [10, 11]
  | 8 => [12, 13, 14, 15, 16]
  | 10 => [0, 1, 5, 17]
  | 12 => [17, 18, 19]
  | 14 => [0, 1, 5, 9, 20]
  | _ => []
def spec_PositionOk.kl : Nat → List Nat := fun n => match n with
  | 0 => [3, 4, 5, 6, 7, 8, 9, 10, 11, 12, 13, 14, 15, 16, 17, 18, 19, 20, 21, 22, 23, 24, 25, 26, 27, 28, 29, 30]
  | 3 => [11]
  | 4 => [8, 9, 10]
  | 6 => [12, 13, 19]
  | 8 => [14, 15, 16, 17, 18]
  | 10 => [0, 1, 2, 7, 19]
  | 12 => [0, 1, 2, 7, 11, 20, 21, 22, 23, 24, 25, 26, 27, 28, 29, 30]
  | _ => []
def spec_l1In.kl : Nat → List Nat := fun n => match n with
  | 0 => [3, 4, 5, 6, 7, 8, 9, 10, 11, 12, 13, 14]
  | 2 => [0, 1, 2, 7, 8, 9, 10, 11, 12, 13, 14]
  | _ => []
def impl_PositionOk.kl : Nat → List Nat := fun n => match n with
  | 0 => [3, 4, 5, 6, 7, 8, 9, 10, 11, 12, 13, 14, 15, 16, 17, 18, 19, 20, 21, 22, 23, 24, 25, 26, 27, 28, 29, 30]
  | 2 => [0, 1, 9, 10, 11, 12, 13, 14, 15, 16, 17, 18, 19]
  | 3 => [24]
  | 4 => [2, 20]
  | 6 => [2, 20]
  | 10 => [25, 26]
  | 12 => [8, 27, 28]
  | 14 => [21, 22, 23, 29]
  | 16 => [29, 30]
  | 18 => [21, 22, 23, 24]
  | _ => []
def impl_playerOk.kl : Nat → List Nat := fun n => match n with
  | 0 => [1, 2, 3, 4, 5, 6, 7, 8]
  | 2 => [0, 3, 4, 5, 6, 7, 8]
  | _ => []
def spec_BoardOk.kl : Nat → List Nat := fun n => match n with
  | 0 => [2, 3, 4, 5, 6, 7, 8, 9, 10, 11, 12, 13, 14, 15, 16]
  | 2 => [0, 1, 5, 6, 7, 8, 9, 10, 11, 12, 13, 14, 15, 16]
  | _ => []
def impl_BoardOk.kl : Nat → List Nat := fun n => match n with
  | 0 => [2, 3, 4, 5, 6, 7, 8, 9, 10, 11, 12, 13, 14, 15, 16]
  | 2 => [0, 1, 5, 6, 7, 8, 9, 10, 11, 12, 13, 14, 15, 16]
  | _ => []
def impl_contentOk.kl : Nat → List Nat := fun n => match n with
  | 0 => [1, 2, 3, 4, 5, 6, 7, 8, 9, 10, 11, 12]
  | 2 => [0, 3, 4, 5, 6, 7, 8, 9, 10, 11, 12]
  | _ => []
def impl_sizeOk.kl : Nat → List Nat := fun n => match n with
  | 0 => [1, 2, 3, 4, 5, 6, 7, 8]
  | 2 => [0, 3, 4, 5, 6, 7, 8]
  | _ => []
def KL : FuncId → Nat → List Nat := fun f => match f with
  | 3 => laws_FnExactFilled.kl
  | 4 => spec_Filled.kl
  | 5 => laws_toIntS.kl
  | 6 => impl_Filled.kl
  | 7 => laws_eqIntS.kl
  | 8 => laws_markIntS.kl
  | 9 => laws_heldIntS.kl
  | 10 => spec_PositionOk.kl
  | 11 => spec_l1In.kl
  | 12 => impl_PositionOk.kl
  | 13 => impl_playerOk.kl
  | 14 => spec_BoardOk.kl
  | 15 => impl_BoardOk.kl
  | 16 => impl_contentOk.kl
  | 17 => impl_sizeOk.kl
  | _ => fun _ => []
noncomputable def CL (g : Nat → PV) (lf n : Nat) : FuncId → List PV → PHeap → Res := call Try.prog g KL lf n
noncomputable def env (g : Nat → PV) (lf n : Nat) : Env := ⟨g, lf, CL g lf n, std Try.prog⟩
@[simp] theorem env_C (g : Nat → PV) (lf n : Nat) : (env g lf n).C = CL g lf n := rfl
@[simp] theorem env_g (g : Nat → PV) (lf n : Nat) : (env g lf n).g = g := rfl
@[simp] theorem env_lf (g : Nat → PV) (lf n : Nat) : (env g lf n).lf = lf := rfl
@[simp] theorem env_pick (g : Nat → PV) (lf n : Nat) : (env g lf n).p.pick = pickP := rfl
@[simp] theorem env_alloc (g : Nat → PV) (lf n : Nat) : (env g lf n).p.alloc = allocP Try.prog := rfl
@[simp] theorem env_box (g : Nat → PV) (lf n : Nat) : (env g lf n).p.box = boxP := rfl
@[simp] theorem env_build (g : Nat → PV) (lf n : Nat) : (env g lf n).p.build = buildP Try.prog := rfl
@[simp] theorem env_buildSlice (g : Nat → PV) (lf n : Nat) : (env g lf n).p.buildSlice = buildSliceP Try.prog := rfl
@[simp] theorem env_load (g : Nat → PV) (lf n : Nat) : (env g lf n).p.load = loadP Try.prog := rfl
@[simp] theorem env_store (g : Nat → PV) (lf n : Nat) : (env g lf n).p.store = storeP Try.prog := rfl
@[simp] theorem env_ptr (g : Nat → PV) (lf n : Nat) : (env g lf n).p.ptr = ptrP := rfl
@[simp] theorem env_bin (g : Nat → PV) (lf n : Nat) : (env g lf n).p.bin = binP Try.prog := rfl
@[simp] theorem env_un (g : Nat → PV) (lf n : Nat) : (env g lf n).p.un = unP := rfl
@[simp] theorem env_conv (g : Nat → PV) (lf n : Nat) : (env g lf n).p.conv = convP Try.prog := rfl
@[simp] theorem env_make (g : Nat → PV) (lf n : Nat) : (env g lf n).p.make = makeP Try.prog := rfl
@[simp] theorem env_slice (g : Nat → PV) (lf n : Nat) : (env g lf n).p.slice = sliceP Try.prog := rfl
@[simp] theorem env_fieldAddr (g : Nat → PV) (lf n : Nat) : (env g lf n).p.fieldAddr = fieldAddrP Try.prog := rfl
@[simp] theorem env_field (g : Nat → PV) (lf n : Nat) : (env g lf n).p.field = fieldP Try.prog := rfl
@[simp] theorem env_indexAddr (g : Nat → PV) (lf n : Nat) : (env g lf n).p.indexAddr = indexAddrP Try.prog := rfl
@[simp] theorem env_index (g : Nat → PV) (lf n : Nat) : (env g lf n).p.index = indexP Try.prog := rfl
@[simp] theorem env_extract (g : Nat → PV) (lf n : Nat) : (env g lf n).p.extract = extractP := rfl
@[simp] theorem env_len (g : Nat → PV) (lf n : Nat) : (env g lf n).p.len = lenP Try.prog := rfl
@[simp] theorem env_append (g : Nat → PV) (lf n : Nat) : (env g lf n).p.append = appendP Try.prog := rfl
@[simp] theorem env_max (g : Nat → PV) (lf n : Nat) : (env g lf n).p.max = foldP maxP2 := rfl
@[simp] theorem env_min (g : Nat → PV) (lf n : Nat) : (env g lf n).p.min = foldP minP2 := rfl
end Go.Proofs.Ytiflfnlpkhghpaa.G
