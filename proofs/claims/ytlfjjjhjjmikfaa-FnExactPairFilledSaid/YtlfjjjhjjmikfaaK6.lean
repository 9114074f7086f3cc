/- Texts of this seat, in their order, put together by program. -/
import Derived.Test.YtlfjjjhjjmikfaaK5
import Derived.Test.YtlfjjjhjjmikfaaProg
import Derived.KernelRfl
set_option linter.unusedSimpArgs false
set_option linter.unusedVariables false
/- Of each function of this seat's program its plain form over the interpreter, written by program; each equation is the kernel's. -/
set_option linter.unusedVariables false
set_option maxRecDepth 100000
namespace Go.Proofs.Ytlfjjjhjjmikfaa.G
open Go Go.Ip Go.Proofs

def fn_laws_FnPairCell : Nat := 3
def fn_laws_FnExactPairCell : Nat := 4
def fn_laws_FnExactPairFilled : Nat := 5
def fn_spec_DrawPairCell : Nat := 6
def fn_impl_PairCell : Nat := 7
def fn_spec_PairCell : Nat := 8
def fn_spec_BoardOk : Nat := 9
def fn_laws_alive : Nat := 10
def fn_spec_PairFilled : Nat := 11
def fn_impl_PairFilled : Nat := 12
def fn_laws_eqIntS : Nat := 13
def fn_laws_markIntS : Nat := 14
def fn_laws_heldIntS : Nat := 15
def fn_spec_l20Open : Nat := 16
def fn_spec_l20Wide : Nat := 17
def fn_spec_l20Rd_pick : Nat := 18
def fn_impl_widerOk : Nat := 19
def fn_impl_cellOk : Nat := 20
def fn_spec_l1In : Nat := 21
def fn_spec_l4Pair : Nat := 22
def fn_impl_BoardOk : Nat := 23
def fn_impl_Filled : Nat := 24
def fn_impl_freeBoard : Nat := 25
def fn_impl_sizeOk : Nat := 26
def fn_impl_PositionOk : Nat := 27
def fn_impl_playerOk : Nat := 28
def fn_impl_contentOk : Nat := 29
def laws_FnPairCell.kl : Nat → List Nat := fun n => match n with
  | 0 => [1, 2, 3, 4, 5, 6, 7, 8, 9, 10, 11, 12, 13, 14, 15, 16, 17, 18, 19, 20, 21, 22, 23, 24, 25, 26, 27, 28, 29, 30, 31, 32, 33, 34, 35, 36, 37, 38, 39, 40, 41, 42, 43, 44, 45, 46, 47, 48, 49, 50, 51, 52, 53, 54, 55, 56, 57, 58, 59, 60, 61, 62, 63, 64, 65, 66, 67, 68, 69]
  | 2 => [7, 8]
  | 4 => [0, 9]
  | 6 => [0, 9, 10, 11, 12, 13, 14, 15]
  | 8 => [16, 17, 18, 19]
  | 10 => [20, 21, 22, 23, 24]
  | 12 => [3, 4, 5, 6, 25]
  | 14 => [25, 26]
  | 16 => [3, 4, 5, 6, 27, 28, 29, 30, 31, 32, 33, 34, 35, 36, 37, 38, 39, 40, 41, 42, 43, 44, 45, 46, 47, 48, 49, 50, 51]
  | 18 => [3, 4, 5, 6, 27, 52, 53, 54, 55, 56, 57, 58, 59, 60, 61, 62, 63, 64, 65, 66, 67, 68, 69]
  | _ => []
def laws_FnExactPairCell.kl : Nat → List Nat := fun n => match n with
  | 0 => [3, 4, 5, 6, 7, 8, 9, 10, 11, 12, 13, 14, 15, 16, 17, 18, 19]
  | 2 => [9, 10, 11, 12]
  | 4 => [0, 1, 2, 13, 14, 15, 16]
  | 6 => [7, 8, 17, 18]
  | 8 => [19]
  | 10 => [19]
  | _ => []
def laws_FnExactPairFilled.kl : Nat → List Nat := fun n => match n with
  | 0 => [3, 4, 5, 6, 7, 8, 9, 10, 11, 12, 13, 14, 15, 16, 17, 18, 19, 20, 21, 22, 23, 24, 25, 26, 27, 28, 29, 30, 31, 32, 33, 34, 35, 36, 37, 38, 39, 40, 41, 42, 43, 44, 45, 46, 47, 48, 49, 50]
  | 2 => [12, 13, 14, 15]
  | 4 => [16, 17, 18, 19]
  | 6 => [20, 21, 22]
  | 8 => [0, 1, 2, 7, 8, 23]
  | 10 => [23]
  | 12 => [24, 25, 26]
  | 16 => [27, 28, 29]
  | 18 => [30]
  | 20 => [0, 1, 2, 7, 8, 9, 10, 31]
  | 22 => [10, 31, 32, 33]
  | 24 => [0, 1, 2, 7, 8, 9, 34]
  | 26 => [0, 1, 2, 34, 35, 36, 37, 38]
  | 28 => [7, 11, 39, 40, 41]
  | 30 => [8, 9, 42]
  | 32 => [42]
  | 34 => [8, 43, 44, 45]
  | 36 => [46]
  | 38 => [9, 10, 47]
  | 40 => [9, 10, 47, 48, 49]
  | 42 => [50]
  | 44 => [50]
  | _ => []
def spec_DrawPairCell.kl : Nat → List Nat := fun n => match n with
  | 0 => [1, 2, 3, 4, 5, 6, 7, 8, 9, 10, 11, 12, 13, 14, 15, 16, 17, 18, 19, 20, 21, 22, 23, 24, 25, 26]
  | 2 => [0, 8, 9]
  | 4 => [10, 11, 12, 13, 14]
  | 6 => [5, 6, 7, 15, 16, 17, 18, 19, 20, 21, 22, 23, 24, 25, 26]
  | _ => []
def impl_PairCell.kl : Nat → List Nat := fun n => match n with
  | 0 => [3, 4, 5, 6, 7, 8, 9, 10, 11, 12, 13, 14, 15, 16, 17, 18, 19, 20, 21, 22, 23, 24, 25, 26, 27, 28, 29, 30, 31, 32, 33, 34, 35, 36, 37, 38, 39, 40, 41, 42, 43, 44, 45]
  | 2 => [9, 10, 11, 12, 13, 14, 15, 16, 17, 18]
  | 4 => [0, 1, 2, 19]
  | 6 => [2, 19, 20, 21, 22, 23, 24, 25]
  | 8 => [0, 27, 28, 29]
  | 10 => [1, 7, 8, 26]
  | 12 => [26, 31, 32, 33]
  | 14 => [1, 7, 8, 30, 34, 35, 36, 37, 38, 39]
  | 16 => [1, 7, 8, 30, 40, 41, 42, 43, 44, 45]
  | _ => []
def spec_PairCell.kl : Nat → List Nat := fun n => match n with
  | 0 => [3, 4, 5, 6, 7, 8, 9, 10, 11, 12, 13, 14, 15, 16, 17, 18, 19, 20, 21, 22, 23, 24, 25, 26, 27, 28]
  | 2 => [7, 8, 9, 10, 11, 12, 13, 14, 15, 16, 17, 18, 19, 20, 21, 22, 23]
  | 4 => [0, 1, 2, 24]
  | 6 => [0, 1, 2, 24, 25, 26, 27, 28]
  | _ => []
def spec_BoardOk.kl : Nat → List Nat := fun n => match n with
  | 0 => [2, 3, 4, 5, 6, 7, 8, 9, 10, 11, 12, 13, 14, 15, 16]
  | 2 => [0, 1, 5, 6, 7, 8, 9, 10, 11, 12, 13, 14, 15, 16]
  | _ => []
def laws_alive.kl : Nat → List Nat := fun n => match n with
  | 0 => [0, 1, 2, 3, 4, 5]
  | 2 => [1, 2, 3, 4, 5]
  | _ => []
def spec_PairFilled.kl : Nat → List Nat := fun n => match n with
  | 0 => [3, 4, 5, 6, 7, 8, 9, 10, 11, 12, 13, 14, 15, 16, 17, 18, 19, 20, 21, 22, 23, 24, 25, 26, 27, 28, 29, 30, 31, 32, 33, 34, 35, 36, 37, 38, 39, 40, 41, 42, 43, 44, 45, 46, 47, 48, 49, 50, 51, 52, 53, 54, 55, 56, 57, 58, 59, 60, 61, 62, 63, 64, 65, 66, 67, 68, 69, 70, 71, 72, 73, 74]
  | 2 => [10, 11, 12, 13, 14, 15, 16, 17, 18, 19, 20, 21]
  | 3 => [31]
  | 4 => [0, 1, 2, 22, 23]
  | 6 => [22, 24, 25, 26, 27]
  | 10 => [28, 29, 30]
  | 12 => [32, 33, 71]
  | 14 => [34, 35, 36, 37]
  | 16 => [39, 40]
  | 18 => [38, 41, 42, 43]
  | 20 => [38, 45, 46, 47, 48, 49, 50, 51, 52]
  | 22 => [44, 53, 54, 55]
  | 24 => [56, 57, 58]
  | 26 => [44, 60, 61, 62]
  | 28 => [59, 63, 64, 65]
  | 30 => [66, 67, 68]
  | 32 => [9, 59, 69, 70]
  | 34 => [71, 72, 73]
  | 36 => [0, 1, 2, 7, 8, 31, 74]
  | _ => []
def impl_PairFilled.kl : Nat → List Nat := fun n => match n with
  | 0 => [3, 4, 5, 6, 7, 8, 9, 10, 11, 12, 13, 14, 15, 16, 17, 18, 19, 20, 21, 22, 23, 24, 25, 26, 27, 28, 29, 30, 31, 32, 33, 34, 35, 36, 37, 38, 39, 40, 41, 42, 43, 44, 45, 46, 47, 48]
  | 2 => [10, 11, 12, 13, 14, 15, 16]
  | 3 => [27]
  | 4 => [0, 1, 2, 17]
  | 6 => [17, 18, 19, 20, 21, 22, 23]
  | 8 => [24]
  | 12 => [28]
  | 14 => [29, 30, 31, 32]
  | 16 => [33, 34]
  | 18 => [35, 36, 37]
  | 20 => [8, 9, 38, 39, 40, 41]
  | 22 => [8, 9, 38, 42, 43, 44]
  | 24 => [45, 46]
  | 26 => [8, 9, 35, 47]
  | 28 => [0, 1, 2, 7, 25, 26, 27, 48]
  | _ => []
def laws_eqIntS.kl : Nat → List Nat := fun n => match n with
  | 0 => [2, 3, 4, 5, 6, 7, 8, 9, 10, 11, 12, 13, 14, 15, 16, 17, 18, 19, 20, 21, 22, 23, 24, 25]
  | 2 => [6, 7, 8, 9]
  | 3 => [14]
  | 4 => [0, 1, 10]
  | 6 => [10]
  | 8 => [11, 12, 13]
  | 10 => [15, 16, 25]
  | 12 => [17, 18, 19, 20, 21, 22, 23, 24]
  | 14 => [0, 1, 5, 25]
  | 16 => [0, 1, 5, 14]
  | _ => []
def laws_markIntS.kl : Nat → List Nat := fun n => match n with
  | 0 => [2, 3, 4, 5, 6, 7, 8, 9, 10, 11, 12, 13, 14, 15, 16, 17, 18]
  | 3 => [9]
  | 4 => [6, 7, 8]
  | 6 => [10, 11]
  | 8 => [12, 13, 14, 15]
  | 10 => [16, 17]
  | 12 => [0, 1, 5, 9, 18]
  | _ => []
def laws_heldIntS.kl : Nat → List Nat := fun n => match n with
  | 0 => [2, 3, 4, 5, 6, 7, 8, 9, 10, 11, 12, 13, 14, 15, 16, 17, 18, 19, 20]
  | 3 => [9]
  | 4 => [6, 7, 8]
  | 6 => [10, 11]
  | 8 => [12, 13, 14, 15, 16]
  | 10 => [0, 1, 5, 17]
  | 12 => [17, 18, 19]
  | 14 => [0, 1, 5, 9, 20]
  | _ => []
def spec_l20Open.kl : Nat → List Nat := fun n => match n with
  | 0 => [1, 2, 3, 4, 5, 6, 7, 8, 9, 10]
  | 2 => [3, 4]
  | 4 => [5, 6, 7]
  | 6 => [0, 5, 8, 9, 10]
  | _ => []
def spec_l20Wide.kl : Nat → List Nat := fun n => match n with
  | 0 => [1, 2, 3, 4, 5, 6, 7, 8, 9, 10, 11, 12, 13, 14, 15, 16, 17, 18, 19, 20, 21, 22, 23, 24, 25]
  | 2 => [0, 5, 6, 7, 8, 9, 10, 11, 12, 13, 14, 15, 16, 17, 18, 19]
  | 4 => [4, 20, 21, 22, 23, 24, 25]
  | _ => []
def spec_l20Rd_pick.kl : Nat → List Nat := fun n => match n with
  | 0 => [2, 3, 4, 5, 6, 7, 8, 9, 10, 11, 12, 13, 14, 15, 16, 17, 18, 19, 20, 21, 22, 23, 24, 25, 26, 27, 28, 29, 30, 31, 32, 33, 34, 35, 36, 37, 38, 39, 40, 41, 42, 43, 44, 45, 46, 47, 48, 49, 50, 51, 52, 53, 54, 55, 56, 57, 58, 59, 60, 61, 62, 63, 64, 65, 66, 67, 68, 69, 70, 71, 72, 73, 74, 75, 76, 77, 78, 79, 80, 81, 82, 83, 84, 85, 86, 87, 88, 89, 90, 91, 92, 93, 94, 95, 96, 97, 98]
  | 2 => [7, 8, 9, 10, 11, 12, 13, 14]
  | 4 => [15, 16, 17, 18, 19, 20, 21, 22, 23]
  | 6 => [0, 1, 24]
  | 8 => [24, 25, 26, 27, 28, 29]
  | 10 => [30, 31, 32, 33, 34, 35]
  | 12 => [0, 1, 5, 36, 37, 38, 39, 40, 41, 42, 43, 44, 45, 46]
  | 14 => [0, 5, 36, 47, 48, 49, 50, 51, 52, 53, 54, 55, 56, 57, 58, 59, 60, 61, 62, 63, 64, 65, 66, 67, 68, 69, 70, 71, 72, 73, 74, 75, 76, 77, 78, 79, 80, 81, 82, 83, 84, 85, 86, 87, 88, 89, 90, 91]
  | 16 => [92, 93, 94, 95]
  | 18 => [1, 6, 96, 97, 98]
  | _ => []
def impl_widerOk.kl : Nat → List Nat := fun n => match n with
  | 0 => [2, 3, 4, 5, 6, 7, 8, 9, 10, 11, 12]
  | 2 => [0, 1, 5, 6, 7, 8, 9, 10, 11, 12]
  | _ => []
def impl_cellOk.kl : Nat → List Nat := fun n => match n with
  | 0 => [3, 4, 5, 6, 7, 8, 9, 10, 11, 12, 13, 14, 15, 16, 17, 18, 19, 20]
  | 2 => [0, 1, 2, 7, 8, 9, 10, 11, 12, 13, 14, 15, 16, 17, 18, 19, 20]
  | _ => []
def spec_l1In.kl : Nat → List Nat := fun n => match n with
  | 0 => [3, 4, 5, 6, 7, 8, 9, 10, 11, 12, 13, 14]
  | 2 => [0, 1, 2, 7, 8, 9, 10, 11, 12, 13, 14]
  | _ => []
def spec_l4Pair.kl : Nat → List Nat := fun n => match n with
  | 0 => [3, 4, 5, 6, 7, 8, 9, 10, 11, 12, 13, 14, 15, 16, 17, 18, 19, 20, 21, 22, 23, 24, 25, 26, 27, 28, 29, 30, 31, 32, 33, 34]
  | 2 => [9, 10, 11]
  | 4 => [2, 12, 13, 14]
  | 6 => [0, 16, 17, 18]
  | 8 => [1, 7, 8, 15]
  | 10 => [15, 20, 21, 22]
  | 12 => [1, 7, 8, 19, 23, 24, 25, 26, 27, 28]
  | 14 => [1, 7, 8, 19, 29, 30, 31, 32, 33, 34]
  | _ => []
def impl_BoardOk.kl : Nat → List Nat := fun n => match n with
  | 0 => [2, 3, 4, 5, 6, 7, 8, 9, 10, 11, 12, 13, 14, 15, 16]
  | 2 => [0, 1, 5, 6, 7, 8, 9, 10, 11, 12, 13, 14, 15, 16]
  | _ => []
def impl_Filled.kl : Nat → List Nat := fun n => match n with
  | 0 => [4, 5, 6, 7, 8, 9, 10, 11, 12, 13, 14, 15, 16, 17, 18, 19, 20, 21, 22, 23, 24, 25, 26, 27, 28, 29, 30, 31, 32, 33, 34, 35, 36, 37, 38, 39, 40]
  | 2 => [0, 1, 12, 13, 14, 15, 16, 17, 18, 19, 20]
  | 3 => [28]
  | 4 => [2, 3, 21]
  | 6 => [21, 22, 23, 24]
  | 8 => [2]
  | 12 => [29, 30, 31]
  | 14 => [32]
  | 16 => [33, 34]
  | 18 => [10, 11, 33, 35, 36, 37, 38]
  | 20 => [39]
  | 22 => [3, 9, 25, 26, 27, 28, 40]
  | _ => []
def impl_freeBoard.kl : Nat → List Nat := fun n => match n with
  | 0 => [2, 3, 4, 5, 6, 7, 8, 9, 10, 11, 12]
  | 2 => [5, 6, 7]
  | 4 => [0, 1, 8]
  | 6 => [0, 1, 8, 9, 10, 11, 12]
  | _ => []
def impl_sizeOk.kl : Nat → List Nat := fun n => match n with
  | 0 => [1, 2, 3, 4, 5, 6, 7, 8]
  | 2 => [0, 3, 4, 5, 6, 7, 8]
  | _ => []
def impl_PositionOk.kl : Nat → List Nat := fun n => match n with
  | 0 => [3, 4, 5, 6, 7, 8, 9, 10, 11, 12, 13, 14, 15, 16, 17, 18, 19, 20, 21, 22, 23, 24, 25, 26, 27, 28, 29, 30]
  | 2 => [0, 1, 9, 10, 11, 12, 13, 14, 15, 16, 17, 18, 19]
  | 3 => [24]
  | 4 => [2, 20]
  | 6 => [2, 20]
  | 10 => [25, 26]
  | 12 => [8, 27, 28]
  | 14 => [21, 22, 23, 29]
  | 16 => [29, 30]
  | 18 => [21, 22, 23, 24]
  | _ => []
def impl_playerOk.kl : Nat → List Nat := fun n => match n with
  | 0 => [1, 2, 3, 4, 5, 6, 7, 8]
  | 2 => [0, 3, 4, 5, 6, 7, 8]
  | _ => []
def impl_contentOk.kl : Nat → List Nat := fun n => match n with
  | 0 => [1, 2, 3, 4, 5, 6, 7, 8, 9, 10, 11, 12]
  | 2 => [0, 3, 4, 5, 6, 7, 8, 9, 10, 11, 12]
  | _ => []
def KL : FuncId → Nat → List Nat := fun f => match f with
  | 3 => laws_FnPairCell.kl
  | 4 => laws_FnExactPairCell.kl
  | 5 => laws_FnExactPairFilled.kl
  | 6 => spec_DrawPairCell.kl
  | 7 => impl_PairCell.kl
  | 8 => spec_PairCell.kl
  | 9 => spec_BoardOk.kl
  | 10 => laws_alive.kl
  | 11 => spec_PairFilled.kl
  | 12 => impl_PairFilled.kl
  | 13 => laws_eqIntS.kl
  | 14 => laws_markIntS.kl
  | 15 => laws_heldIntS.kl
  | 16 => spec_l20Open.kl
  | 17 => spec_l20Wide.kl
  | 18 => spec_l20Rd_pick.kl
  | 19 => impl_widerOk.kl
  | 20 => impl_cellOk.kl
  | 21 => spec_l1In.kl
  | 22 => spec_l4Pair.kl
  | 23 => impl_BoardOk.kl
  | 24 => impl_Filled.kl
  | 25 => impl_freeBoard.kl
  | 26 => impl_sizeOk.kl
  | 27 => impl_PositionOk.kl
  | 28 => impl_playerOk.kl
  | 29 => impl_contentOk.kl
  | _ => fun _ => []
noncomputable def CL (g : Nat → PV) (lf n : Nat) : FuncId → List PV → PHeap → Res := call Try.prog g KL lf n
noncomputable def env (g : Nat → PV) (lf n : Nat) : Env := ⟨g, lf, CL g lf n, std Try.prog⟩
@[simp] theorem env_C (g : Nat → PV) (lf n : Nat) : (env g lf n).C = CL g lf n := rfl
@[simp] theorem env_g (g : Nat → PV) (lf n : Nat) : (env g lf n).g = g := rfl
@[simp] theorem env_lf (g : Nat → PV) (lf n : Nat) : (env g lf n).lf = lf := rfl
@[simp] theorem env_pick (g : Nat → PV) (lf n : Nat) : (env g lf n).p.pick = pickP := rfl
@[simp] theorem env_alloc (g : Nat → PV) (lf n : Nat) : (env g lf n).p.alloc = allocP Try.prog := rfl
@[simp] theorem env_box (g : Nat → PV) (lf n : Nat) : (env g lf n).p.box = boxP := rfl
@[simp] theorem env_build (g : Nat → PV) (lf n : Nat) : (env g lf n).p.build = buildP Try.prog := rfl
@[simp] theorem env_buildSlice (g : Nat → PV) (lf n : Nat) : (env g lf n).p.buildSlice = buildSliceP Try.prog := rfl
@[simp] theorem env_load (g : Nat → PV) (lf n : Nat) : (env g lf n).p.load = loadP Try.prog := rfl
@[simp] theorem env_store (g : Nat → PV) (lf n : Nat) : (env g lf n).p.store = storeP Try.prog := rfl
@[simp] theorem env_ptr (g : Nat → PV) (lf n : Nat) : (env g lf n).p.ptr = ptrP := rfl
@[simp] theorem env_bin (g : Nat → PV) (lf n : Nat) : (env g lf n).p.bin = binP Try.prog := rfl
@[simp] theorem env_un (g : Nat → PV) (lf n : Nat) : (env g lf n).p.un = unP := rfl
@[simp] theorem env_conv (g : Nat → PV) (lf n : Nat) : (env g lf n).p.conv = convP Try.prog := rfl
@[simp] theorem env_make (g : Nat → PV) (lf n : Nat) : (env g lf n).p.make = makeP Try.prog := rfl
@[simp] theorem env_slice (g : Nat → PV) (lf n : Nat) : (env g lf n).p.slice = sliceP Try.prog := rfl
@[simp] theorem env_fieldAddr (g : Nat → PV) (lf n : Nat) : (env g lf n).p.fieldAddr = fieldAddrP Try.prog := rfl
@[simp] theorem env_field (g : Nat → PV) (lf n : Nat) : (env g lf n).p.field = fieldP Try.prog := rfl
@[simp] theorem env_indexAddr (g : Nat → PV) (lf n : Nat) : (env g lf n).p.indexAddr = indexAddrP Try.prog := rfl
@[simp] theorem env_index (g : Nat → PV) (lf n : Nat) : (env g lf n).p.index = indexP Try.prog := rfl
@[simp] theorem env_extract (g : Nat → PV) (lf n : Nat) : (env g lf n).p.extract = extractP := rfl
@[simp] theorem env_len (g : Nat → PV) (lf n : Nat) : (env g lf n).p.len = lenP Try.prog := rfl
@[simp] theorem env_append (g : Nat → PV) (lf n : Nat) : (env g lf n).p.append = appendP Try.prog := rfl
@[simp] theorem env_max (g : Nat → PV) (lf n : Nat) : (env g lf n).p.max = foldP maxP2 := rfl
@[simp] theorem env_min (g : Nat → PV) (lf n : Nat) : (env g lf n).p.min = foldP minP2 := rfl
@[simp] theorem env_makeMap (g : Nat → PV) (lf n : Nat) : (env g lf n).p.makeMap = makeMapP := rfl
@[simp] theorem env_lookup (g : Nat → PV) (lf n : Nat) : (env g lf n).p.lookup = lookupP Try.prog := rfl
@[simp] theorem env_update (g : Nat → PV) (lf n : Nat) : (env g lf n).p.update = updateP Try.prog := rfl
end Go.Proofs.Ytlfjjjhjjmikfaa.G

/- From what the interpreter computes for a law to what the machine's call of it does. -/
namespace Go.Proofs.Ytlfjjjhjjmikfaa
open Go Go.Ip Go.RowKit G

def g0 : Nat → PV := fun _ => .junk
def LF : Nat := 4294967296

theorem prog_mixed : Try.prog.follows .mixedOrders = true := by kernel_rfl
theorem prog_ok : progOk Try.prog = true := by kernel_rfl

theorem law_walk {n : Nat} {f : FuncId} {args : List PV} {h h' : PHeap} {μ : List Ip.Loc} {w : World} {xs : Array Value} (hc : CL g0 LF n f args h = some (.bool true, h'))
    (sim : Sim w.heap.size w μ h w) (ha : All2 (rep μ) args xs.toList) : Calls Try.prog f xs w fun e w' => e = .returned (.bool true) ∧ Below w.heap.size w w' := by
  obtain ⟨_, hcall⟩ := call_sound Try.prog g0 KL LF prog_mixed prog_ok n f f args h _ hc
  refine (hcall w.heap.size w μ w xs sim (fun _ => trivial) ha).mono ?_
  rintro e w' ⟨v, rfl, μ', hpre, hr, hs⟩
  refine ⟨?_, hs.below⟩
  rw [rep_bool.1 hr]

theorem sim_none (w : World) : Sim w.heap.size w [] [] w :=
  ⟨rfl, Below.refl _ _, Nat.le_refl _, fun id o l h _ => by simp at h, fun i j li lj ei ci ej cj _ h => by simp at h, fun i j li lj ei ej _ h => by simp at h⟩

/-- A slice of integers, nil or not, as the interpreter's heap holds it. -/
def IntSl (k : IntKind) (h : PHeap) (p : PV) (xs : List Int) : Prop :=
  (p = .nilsl ∧ xs = []) ∨ ∃ id off, p = .sl id off xs.length ∧ ∀ (i : Nat) x, xs[i]? = some x → (cellsAt h id)[off + i]? = some (.int k x)

/-- A slice of integers that came in. -/
theorem row_arg {k : IntKind} {w : World} {a : Option Addr} {len cap : Nat} {zs : List Int}
    (h : (a = none ∧ len = 0 ∧ cap = 0 ∧ zs = []) ∨ ∃ x, a = some x ∧ len ≤ cap ∧ cap ≤ maxLen ∧ zs.length = cap ∧ (∀ i, i < zs.length → w.cell? (x.add i) = some (.int k (zs.getD i 0))) ∧ ∀ n ∈ zs, (Lit.int k n).wf = true) :
    ∃ μ o p, Sim w.heap.size w μ [o] w ∧ rep μ p (.slice a len cap) ∧ IntSl k [o] p (zs.take len) ∧ len = (zs.take len).length ∧ len ≤ maxLen ∧ (∀ n ∈ zs.take len, (Lit.int k n).wf = true) ∧ (o = .dead ∨ ∃ c, o = .ro 1 c) := by
  have simD : ∀ l : Ip.Loc, Sim w.heap.size w [l] [.dead] w := fun l =>
    ⟨rfl, Below.refl _ _, Nat.le_refl _, fun id o l h _ => by
      match id, h with
      | 0, h => simp at h; subst h; trivial
      | id + 1, h => simp at h, fun i j li lj ei ci ej cj _ h => by
      match i, h with
      | 0, h => simp at h
      | i + 1, h => simp at h, fun i j li lj ei ej _ h => by
      match i, h with
      | 0, h => simp at h
      | i + 1, h => simp at h⟩
  rcases h with ⟨rfl, rfl, rfl, rfl⟩ | ⟨x, rfl, hlc, hcm, hz, hcell, hwf⟩
  · exact ⟨[⟨0, 0, 0, 0⟩], .dead, .nilsl, simD _, rfl, .inl ⟨rfl, by simp⟩, by simp, Nat.zero_le _, by simp, .inl rfl⟩
  · have hlen : len = (zs.take len).length := by simp; omega
    refine ⟨[⟨x.block, x.off, x.off + cap, 1⟩], if cap = 0 then .dead else .ro 1 ((zs.take len).map (.int k)), .sl 0 0 (zs.take len).length, ?_, ?_, ?_, hlen, by omega, fun n hn => hwf n (List.mem_of_mem_take hn), ?_⟩
    · by_cases hc : cap = 0
      · rw [if_pos hc]; exact simD _
      · rw [if_neg hc]
        have h0 := hcell 0 (by omega)
        have hblk : x.block < w.heap.size := by
          have := World.block_lt_of_cell? w _ h0
          simpa [Addr.add] using this
        have hspot : x.spot = none := by
          have h1 : w.cell? x = some (.int k (zs.getD 0 0)) := by simpa [Addr.add] using h0
          unfold World.cell? at h1
          split at h1
          · split at h1
            · cases h1
            · rename_i hs; simpa using hs
          · cases h1
        refine ⟨rfl, Below.refl _ _, Nat.le_refl _, ?_, ?_, fun i j li lj ei ej _ h => by
          match i, h with
          | 0, h => simp at h
          | i + 1, h => simp at h⟩
        · intro id o l ho hl
          match id, ho, hl with
          | 0, ho, hl =>
            obtain rfl := Option.some.inj ho
            obtain rfl := Option.some.inj hl
            refine ⟨rfl, hblk, ?_⟩
            intro j p hp
            simp only [List.getElem?_map, Option.map_eq_some_iff] at hp
            obtain ⟨n, hn, rfl⟩ := hp
            have hj : j < (zs.take len).length := (List.getElem?_eq_some_iff.1 hn).1
            have hj2 : j < zs.length := by simp at hj; omega
            refine ⟨_, ?_, rfl⟩
            have := hcell j hj2
            have hadd : x.add j = ⟨x.block, x.off + j, none⟩ := by
              cases x
              simp only at hspot
              subst hspot
              exact Addr.add_lit _ _ _
            rw [hadd] at this
            refine this.trans ?_
            rw [List.getElem?_take] at hn
            split at hn
            · simp [List.getD, hn]
            · cases hn
          | id + 1, ho, _ => simp at ho
        · intro i j li lj ei ci ej cj _ h
          match i, h with
          | 0, h => simp at h
          | i + 1, h => simp at h
    · refine ⟨_, cap, x, rfl, by rw [← hlen], by omega, ?_⟩
      by_cases hc : cap = 0
      · exact .inl hc
      · right
        have h0 := hcell 0 (by omega)
        have hspot : x.spot = none := by
          have h1 : w.cell? x = some (.int k (zs.getD 0 0)) := by simpa [Addr.add] using h0
          unfold World.cell? at h1
          split at h1
          · split at h1
            · cases h1
            · rename_i hs; simpa using hs
          · cases h1
        refine ⟨?_, by simp⟩
        cases x
        simp only at hspot
        subst hspot
        rfl
    · right
      refine ⟨0, 0, rfl, fun i n hn => ?_⟩
      have hi : i < (zs.take len).length := (List.getElem?_eq_some_iff.1 hn).1
      have hc : cap ≠ 0 := by omega
      rw [if_neg hc]
      have : cellsAt [PObj.ro 1 ((zs.take len).map (.int k))] 0 = (zs.take len).map (.int k) := rfl
      rw [this, List.getElem?_map, Nat.zero_add, hn]
      rfl
    · by_cases hc : cap = 0
      · rw [if_pos hc]; exact .inl rfl
      · rw [if_neg hc]; exact .inr ⟨_, rfl⟩

end Go.Proofs.Ytlfjjjhjjmikfaa

