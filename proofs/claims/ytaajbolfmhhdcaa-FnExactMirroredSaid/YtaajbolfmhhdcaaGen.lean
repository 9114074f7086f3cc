/- Of each function of this seat's program its plain form over the interpreter, written by program; each equation is the kernel's. -/
import Derived.Test.YtaajbolfmhhdcaaProg
import Derived.Test.YtaajbolfmhhdcaaIp
import Derived.Test.YtaajbolfmhhdcaaGenBase
import Derived.KernelRfl
set_option linter.unusedVariables false
set_option maxRecDepth 100000
namespace Go.Proofs.Ytaajbolfmhhdcaa.G
open Go Go.Ip Go.Proofs

namespace laws_FnBoardOk
noncomputable def main (E : Env) (x0 : PV) (h : PHeap) : Res :=
    (E.p.len 22 x0).bind fun v1 =>
    (E.p.bin .gtr 3 v1 (.int .i64 1048576)).bind fun v2 =>
    condP v2
     (
      (resV (.bool true)).bind fun v3 =>
      some (v3, h))
     (
      (E.C fn_spec_DrawBoardOk [x0] h).bind fun v4 =>
      (E.p.extract v4.1 0).bind fun v5 =>
      (E.p.extract v4.1 1).bind fun v6 =>
      (E.C fn_impl_BoardOk [v5, v6] v4.2).bind fun v7 =>
      (E.C fn_spec_BoardOk [v5, v6] v7.2).bind fun v8 =>
      (E.p.bin .neq 4 v7.1 v8.1).bind fun v9 =>
      condP v9
       (
        (resV (.bool false)).bind fun v10 =>
        some (v10, v8.2))
       (
        (E.C fn_impl_BoardOk [v6, v5] v8.2).bind fun v11 =>
        (E.p.bin .eql 4 v11.1 v7.1).bind fun v12 =>
        (wantV v12 true).bind fun v13 =>
        (bif v13 then E.C fn_impl_BoardOk [(.int .i64 1), (.int .i64 1)] v11.2 else some (.tup [], v11.2)).bind fun v14 =>
        (E.p.pick v12 v14.1 (.bool false)).bind fun v15 =>
        (wantV v15 true).bind fun v16 =>
        (bif v16 then E.C fn_impl_BoardOk [(.int .i64 0), (.int .i64 1)] v14.2 else some (.tup [], v14.2)).bind fun v17 =>
        (wantV v15 true).bind fun v18 =>
        (bif v18 then pv v17.2 (E.p.un .not v17.1) else some (.tup [], v17.2)).bind fun v19 =>
        (E.p.pick v15 v19.1 (.bool false)).bind fun v20 =>
        (resV v20).bind fun v21 =>
        some (v21, v19.2)))
theorem main_eq (E : Env) (x0 : PV) (h : PHeap) : runBody (E.cx Try.prog kl) Try.f3 [x0] h = main E x0 h := by kernel_rfl
theorem call_eq (g : Nat → PV) (lf n : Nat) (x0 : PV) (h : PHeap) : CL g lf (n + 1) fn_laws_FnBoardOk [x0] h = main (env g lf n) x0 h := by
  rw [← main_eq]
  show (match Try.prog.funcs[3]? with | some fn => if fn.body.isSome then runBody ⟨Try.prog, g, call Try.prog g KL lf n, KL 3, lf, std Try.prog⟩ fn [x0] h else none | none => none) = _
  rw [Try.func3]
  kernel_rfl
end laws_FnBoardOk
namespace laws_FnPositionOk
noncomputable def lp0 : Code := (codeAt (bodyOf Try.f4) [1, 1, 1, 1, 1, 1, 1, 0, 1, 0, 0])
def st0 (x3 x4 x5 x6 x7 x8 : PV) (h : PHeap) : St := ⟨[.junk, .junk, .junk, x3, x4, x5, x6, x7, x8, .junk, .junk, .junk, .junk, .junk, .junk, .junk, .junk, .junk, .junk, .junk, .junk, .junk, .junk, .junk, .junk, .junk, .junk, .junk, .junk, .junk, .junk, .junk, .junk, .junk, .junk, .junk, .junk, .junk, .junk, .junk, .junk, .junk, .junk, .junk, .junk, .junk, .junk, .junk, .junk, .junk, .junk, .junk, .junk, .junk, .junk, .junk, .junk, .junk, .junk, .junk, .junk, .junk, .junk, .junk, .junk, .junk, .junk, .junk, .junk, .junk, .junk, .junk, .junk, .junk, .junk], h⟩
def se0_3_4_5_6_7_8_42 (x3 x4 x5 x6 x7 x8 x42 : PV) (h : PHeap) : St := ⟨[.junk, .junk, .junk, x3, x4, x5, x6, x7, x8, .junk, .junk, .junk, .junk, .junk, .junk, .junk, .junk, .junk, .junk, .junk, .junk, .junk, .junk, .junk, .junk, .junk, .junk, .junk, .junk, .junk, .junk, .junk, .junk, .junk, .junk, .junk, .junk, .junk, .junk, .junk, .junk, .junk, x42, .junk, .junk, .junk, .junk, .junk, .junk, .junk, .junk, .junk, .junk, .junk, .junk, .junk, .junk, .junk, .junk, .junk, .junk, .junk, .junk, .junk, .junk, .junk, .junk, .junk, .junk, .junk, .junk, .junk, .junk, .junk, .junk], h⟩
noncomputable def K0 (E : Env) (K : PX → St → Res) : PX → St → Res := (kBlock 0 (kSeq (ev (E.cx Try.prog kl) (codeAt (bodyOf Try.f4) [1, 1, 1, 1, 1, 1, 1, 1])) K))
@[simp] theorem K0_ret (E : Env) (K : PX → St → Res) (s : St) : K0 E K .ret s = K .ret s := by kernel_rfl
noncomputable def body0 (E : Env) (K : PX → St → Res) (x3 x4 x5 x6 x7 x8 : PV) (h : PHeap) : Res :=
    (E.p.len 27 x5).bind fun v55 =>
    (E.p.bin .lss 3 x8 v55).bind fun v56 =>
    condP v56
     (
      (E.p.indexAddr 27 x5 x8).bind fun v57 =>
      (E.p.load 3 v57 h).bind fun v58 =>
      (E.p.bin .eql 3 v58 (.int .i64 1)).bind fun v59 =>
      condP v59
       (
        (E.p.buildSlice 27 1 [(0, (.int .i64 0))] h).bind fun v60 =>
        (E.p.append 27 27 x7 v60.1 v60.2).bind fun v61 =>
        (E.p.bin .add 3 x8 (.int .i64 1)).bind fun v62 =>
        K .normal (st0 x3 x4 x5 x6 v61.1 v62 v61.2))
       (
        (E.p.buildSlice 27 1 [(0, v58)] h).bind fun v63 =>
        (E.p.append 27 27 x7 v63.1 v63.2).bind fun v64 =>
        (E.p.bin .add 3 x8 (.int .i64 1)).bind fun v65 =>
        K .normal (st0 x3 x4 x5 x6 v64.1 v65 v64.2)))
     (
      K (.exit 0) (se0_3_4_5_6_7_8_42 x3 x4 x5 x6 x7 x8 v56 h))
theorem body0_eq (E : Env) (K : PX → St → Res) (x3 x4 x5 x6 x7 x8 : PV) (h : PHeap) : ev (E.cx Try.prog kl) lp0 (st0 x3 x4 x5 x6 x7 x8 h) K = body0 E K x3 x4 x5 x6 x7 x8 h := by kernel_rfl
theorem after0_se0_3_4_5_6_7_8_42 (E : Env) (x3 x4 x5 x6 x7 x8 x42 : PV) (h : PHeap) : K0 E (kTop Try.prog Try.f4) (.exit 0) (se0_3_4_5_6_7_8_42 x3 x4 x5 x6 x7 x8 x42 h) =
    (E.p.bin .mul 3 x3 x4).bind fun v31 =>
    (E.p.make 27 v31 v31 h).bind fun v32 =>
    (E.C fn_impl_PositionOk [x3, x4, v32.1] v32.2).bind fun v33 =>
    (wantV v33.1 true).bind fun v34 =>
    (bif v34 then some (x6, v33.2) else some (.tup [], v33.2)).bind fun v35 =>
    (wantV v33.1 true).bind fun v36 =>
    (bif v36 then pv v35.2 (E.p.un .not v35.1) else some (.tup [], v35.2)).bind fun v37 =>
    (wantV v33.1 true).bind fun v38 =>
    (bif v38 then some (v37.1, v37.2) else some (.tup [], v37.2)).bind fun v39 =>
    (wantV v39.1 false).bind fun v40 =>
    (bif v40 then some (x3, v39.2) else some (.tup [], v39.2)).bind fun v41 =>
    (wantV v39.1 false).bind fun v42 =>
    (bif v42 then some (x4, v41.2) else some (.tup [], v41.2)).bind fun v43 =>
    (wantV v39.1 false).bind fun v44 =>
    (bif v44 then some (x7, v43.2) else some (.tup [], v43.2)).bind fun v45 =>
    (wantV v39.1 false).bind fun v46 =>
    (bif v46 then E.C fn_impl_PositionOk [v41.1, v43.1, v45.1] v45.2 else some (.tup [], v45.2)).bind fun v47 =>
    (wantV v33.1 true).bind fun v48 =>
    (bif v48 then pv v47.2 (E.p.pick v39.1 (.bool true) v47.1) else some (.tup [], v47.2)).bind fun v49 =>
    (E.p.pick v33.1 v49.1 (.bool false)).bind fun v50 =>
    (wantV v50 true).bind fun v51 =>
    (bif v51 then E.C fn_laws_alive [] v49.2 else some (.tup [], v49.2)).bind fun v52 =>
    (E.p.pick v50 v52.1 (.bool false)).bind fun v53 =>
    (resV v53).bind fun v54 =>
    some (v54, v52.2) := by kernel_rfl
noncomputable def main (E : Env) (x0 : PV) (h : PHeap) : Res :=
    (E.p.len 22 x0).bind fun v1 =>
    (E.p.bin .gtr 3 v1 (.int .i64 1048576)).bind fun v2 =>
    condP v2
     (
      (resV (.bool true)).bind fun v3 =>
      some (v3, h))
     (
      (E.C fn_spec_DrawPositionOk [x0] h).bind fun v4 =>
      (E.p.extract v4.1 0).bind fun v5 =>
      (E.p.extract v4.1 1).bind fun v6 =>
      (E.p.extract v4.1 2).bind fun v7 =>
      (E.C fn_impl_PositionOk [v5, v6, v7] v4.2).bind fun v8 =>
      (E.C fn_spec_PositionOk [v5, v6, v7] v8.2).bind fun v9 =>
      (E.p.bin .neq 4 v8.1 v9.1).bind fun v10 =>
      condP v10
       (
        (resV (.bool false)).bind fun v11 =>
        some (v11, v9.2))
       (
        (E.C fn_spec_BoardOk [v5, v6] v9.2).bind fun v12 =>
        (E.p.un .not v12.1).bind fun v13 =>
        condP v13
         (
          (E.p.un .not v8.1).bind fun v14 =>
          (wantV v14 true).bind fun v15 =>
          (bif v15 then E.C fn_laws_alive [] v12.2 else some (.tup [], v12.2)).bind fun v16 =>
          (E.p.pick v14 v16.1 (.bool false)).bind fun v17 =>
          (resV v17).bind fun v18 =>
          some (v18, v16.2))
         (
          (E.p.buildSlice 27 0 [] v12.2).bind fun v19 =>
          loopK (ev (E.cx Try.prog laws_FnPositionOk.kl) laws_FnPositionOk.lp0) E.lf (laws_FnPositionOk.st0 v5 v6 v7 v8.1 v19.1 (.int .i64 0) v19.2) (laws_FnPositionOk.K0 E (kTop Try.prog Try.f4)))))
theorem main_eq (E : Env) (x0 : PV) (h : PHeap) : runBody (E.cx Try.prog kl) Try.f4 [x0] h = main E x0 h := by kernel_rfl
theorem call_eq (g : Nat → PV) (lf n : Nat) (x0 : PV) (h : PHeap) : CL g lf (n + 1) fn_laws_FnPositionOk [x0] h = main (env g lf n) x0 h := by
  rw [← main_eq]
  show (match Try.prog.funcs[4]? with | some fn => if fn.body.isSome then runBody ⟨Try.prog, g, call Try.prog g KL lf n, KL 4, lf, std Try.prog⟩ fn [x0] h else none | none => none) = _
  rw [Try.func4]
  kernel_rfl
end laws_FnPositionOk
namespace laws_FnCellsOf
noncomputable def lp0 : Code := (codeAt (bodyOf Try.f5) [1, 1, 1, 1, 1, 1, 1, 0, 1, 0, 0])
def st0 (x3 x4 x5 x6 x7 x8 x9 : PV) (h : PHeap) : St := ⟨[.junk, .junk, .junk, x3, x4, x5, x6, x7, x8, x9, .junk, .junk, .junk, .junk, .junk, .junk, .junk, .junk, .junk, .junk, .junk, .junk, .junk, .junk, .junk, .junk, .junk, .junk, .junk, .junk, .junk, .junk, .junk, .junk, .junk, .junk, .junk, .junk, .junk, .junk, .junk, .junk, .junk, .junk, .junk, .junk, .junk, .junk, .junk, .junk, .junk, .junk, .junk, .junk, .junk, .junk, .junk, .junk, .junk, .junk, .junk, .junk, .junk, .junk, .junk, .junk, .junk, .junk, .junk, .junk, .junk, .junk, .junk, .junk, .junk, .junk, .junk, .junk, .junk, .junk, .junk, .junk, .junk, .junk, .junk, .junk, .junk, .junk, .junk, .junk, .junk, .junk, .junk, .junk, .junk, .junk], h⟩
noncomputable def lp1 : Code := (codeAt (bodyOf Try.f5) [1, 1, 1, 1, 1, 1, 1, 1, 0, 1, 0, 0])
def st1 (x5 x6 x7 x8 x10 : PV) (h : PHeap) : St := ⟨[.junk, .junk, .junk, .junk, .junk, x5, x6, x7, x8, .junk, x10, .junk, .junk, .junk, .junk, .junk, .junk, .junk, .junk, .junk, .junk, .junk, .junk, .junk, .junk, .junk, .junk, .junk, .junk, .junk, .junk, .junk, .junk, .junk, .junk, .junk, .junk, .junk, .junk, .junk, .junk, .junk, .junk, .junk, .junk, .junk, .junk, .junk, .junk, .junk, .junk, .junk, .junk, .junk, .junk, .junk, .junk, .junk, .junk, .junk, .junk, .junk, .junk, .junk, .junk, .junk, .junk, .junk, .junk, .junk, .junk, .junk, .junk, .junk, .junk, .junk, .junk, .junk, .junk, .junk, .junk, .junk, .junk, .junk, .junk, .junk, .junk, .junk, .junk, .junk, .junk, .junk, .junk, .junk, .junk, .junk], h⟩
def se0_3_4_5_6_7_8_9_46 (x3 x4 x5 x6 x7 x8 x9 x46 : PV) (h : PHeap) : St := ⟨[.junk, .junk, .junk, x3, x4, x5, x6, x7, x8, x9, .junk, .junk, .junk, .junk, .junk, .junk, .junk, .junk, .junk, .junk, .junk, .junk, .junk, .junk, .junk, .junk, .junk, .junk, .junk, .junk, .junk, .junk, .junk, .junk, .junk, .junk, .junk, .junk, .junk, .junk, .junk, .junk, .junk, .junk, .junk, .junk, x46, .junk, .junk, .junk, .junk, .junk, .junk, .junk, .junk, .junk, .junk, .junk, .junk, .junk, .junk, .junk, .junk, .junk, .junk, .junk, .junk, .junk, .junk, .junk, .junk, .junk, .junk, .junk, .junk, .junk, .junk, .junk, .junk, .junk, .junk, .junk, .junk, .junk, .junk, .junk, .junk, .junk, .junk, .junk, .junk, .junk, .junk, .junk, .junk, .junk], h⟩
def sr_2 (x2 : PV) (h : PHeap) : St := ⟨[.junk, .junk, x2, .junk, .junk, .junk, .junk, .junk, .junk, .junk, .junk, .junk, .junk, .junk, .junk, .junk, .junk, .junk, .junk, .junk, .junk, .junk, .junk, .junk, .junk, .junk, .junk, .junk, .junk, .junk, .junk, .junk, .junk, .junk, .junk, .junk, .junk, .junk, .junk, .junk, .junk, .junk, .junk, .junk, .junk, .junk, .junk, .junk, .junk, .junk, .junk, .junk, .junk, .junk, .junk, .junk, .junk, .junk, .junk, .junk, .junk, .junk, .junk, .junk, .junk, .junk, .junk, .junk, .junk, .junk, .junk, .junk, .junk, .junk, .junk, .junk, .junk, .junk, .junk, .junk, .junk, .junk, .junk, .junk, .junk, .junk, .junk, .junk, .junk, .junk, .junk, .junk, .junk, .junk, .junk, .junk], h⟩
def se2_5_6_7_8_10_60 (x5 x6 x7 x8 x10 x60 : PV) (h : PHeap) : St := ⟨[.junk, .junk, .junk, .junk, .junk, x5, x6, x7, x8, .junk, x10, .junk, .junk, .junk, .junk, .junk, .junk, .junk, .junk, .junk, .junk, .junk, .junk, .junk, .junk, .junk, .junk, .junk, .junk, .junk, .junk, .junk, .junk, .junk, .junk, .junk, .junk, .junk, .junk, .junk, .junk, .junk, .junk, .junk, .junk, .junk, .junk, .junk, .junk, .junk, .junk, .junk, .junk, .junk, .junk, .junk, .junk, .junk, .junk, .junk, x60, .junk, .junk, .junk, .junk, .junk, .junk, .junk, .junk, .junk, .junk, .junk, .junk, .junk, .junk, .junk, .junk, .junk, .junk, .junk, .junk, .junk, .junk, .junk, .junk, .junk, .junk, .junk, .junk, .junk, .junk, .junk, .junk, .junk, .junk, .junk], h⟩
noncomputable def K0 (E : Env) (K : PX → St → Res) : PX → St → Res := (kBlock 0 (kSeq (ev (E.cx Try.prog kl) (codeAt (bodyOf Try.f5) [1, 1, 1, 1, 1, 1, 1, 1])) K))
@[simp] theorem K0_ret (E : Env) (K : PX → St → Res) (s : St) : K0 E K .ret s = K .ret s := by kernel_rfl
noncomputable def K1 (E : Env) (K : PX → St → Res) : PX → St → Res := (kBlock 2 (kSeq (ev (E.cx Try.prog kl) (codeAt (bodyOf Try.f5) [1, 1, 1, 1, 1, 1, 1, 1, 1])) K))
@[simp] theorem K1_ret (E : Env) (K : PX → St → Res) (s : St) : K1 E K .ret s = K .ret s := by kernel_rfl
noncomputable def body0 (E : Env) (K : PX → St → Res) (x3 x4 x5 x6 x7 x8 x9 : PV) (h : PHeap) : Res :=
    (E.p.bin .leq 3 x9 (.int .i64 2)).bind fun v78 =>
    condP v78
     (
      (E.C fn_impl_CellsOf [x3, x4, x5, x9] h).bind fun v79 =>
      (E.p.len 27 v79.1).bind fun v80 =>
      (E.p.bin .add 3 x8 v80).bind fun v81 =>
      (E.p.bin .add 3 x9 (.int .i64 1)).bind fun v82 =>
      K .normal (st0 x3 x4 x5 x6 x7 v81 v82 v79.2))
     (
      K (.exit 0) (se0_3_4_5_6_7_8_9_46 x3 x4 x5 x6 x7 x8 x9 v78 h))
theorem body0_eq (E : Env) (K : PX → St → Res) (x3 x4 x5 x6 x7 x8 x9 : PV) (h : PHeap) : ev (E.cx Try.prog kl) lp0 (st0 x3 x4 x5 x6 x7 x8 x9 h) K = body0 E K x3 x4 x5 x6 x7 x8 x9 h := by kernel_rfl
noncomputable def body1 (E : Env) (K : PX → St → Res) (x5 x6 x7 x8 x10 : PV) (h : PHeap) : Res :=
    (E.p.len 27 x7).bind fun v83 =>
    (E.p.bin .lss 3 x10 v83).bind fun v84 =>
    condP v84
     (
      (E.p.indexAddr 27 x7 x10).bind fun v85 =>
      (E.p.load 3 v85 h).bind fun v86 =>
      (E.p.bin .lss 3 v86 (.int .i64 0)).bind fun v87 =>
      (wantV v87 false).bind fun v88 =>
      (bif v88 then some (x7, h) else some (.tup [], h)).bind fun v89 =>
      (wantV v87 false).bind fun v90 =>
      (bif v90 then some (x10, v89.2) else some (.tup [], v89.2)).bind fun v91 =>
      (wantV v87 false).bind fun v92 =>
      (bif v92 then pv v91.2 (E.p.indexAddr 27 v89.1 v91.1) else some (.tup [], v91.2)).bind fun v93 =>
      (wantV v87 false).bind fun v94 =>
      (bif v94 then pv v93.2 (E.p.load 3 v93.1 v93.2) else some (.tup [], v93.2)).bind fun v95 =>
      (wantV v87 false).bind fun v96 =>
      (bif v96 then some (x5, v95.2) else some (.tup [], v95.2)).bind fun v97 =>
      (wantV v87 false).bind fun v98 =>
      (bif v98 then pv v97.2 (E.p.len 27 v97.1) else some (.tup [], v97.2)).bind fun v99 =>
      (wantV v87 false).bind fun v100 =>
      (bif v100 then pv v99.2 (E.p.bin .geq 3 v95.1 v99.1) else some (.tup [], v99.2)).bind fun v101 =>
      (E.p.pick v87 (.bool true) v101.1).bind fun v102 =>
      (wantV v102 false).bind fun v103 =>
      (bif v103 then some (x5, v101.2) else some (.tup [], v101.2)).bind fun v104 =>
      (wantV v102 false).bind fun v105 =>
      (bif v105 then some (x7, v104.2) else some (.tup [], v104.2)).bind fun v106 =>
      (wantV v102 false).bind fun v107 =>
      (bif v107 then some (x10, v106.2) else some (.tup [], v106.2)).bind fun v108 =>
      (wantV v102 false).bind fun v109 =>
      (bif v109 then pv v108.2 (E.p.indexAddr 27 v106.1 v108.1) else some (.tup [], v108.2)).bind fun v110 =>
      (wantV v102 false).bind fun v111 =>
      (bif v111 then pv v110.2 (E.p.load 3 v110.1 v110.2) else some (.tup [], v110.2)).bind fun v112 =>
      (wantV v102 false).bind fun v113 =>
      (bif v113 then pv v112.2 (E.p.indexAddr 27 v104.1 v112.1) else some (.tup [], v112.2)).bind fun v114 =>
      (wantV v102 false).bind fun v115 =>
      (bif v115 then pv v114.2 (E.p.load 3 v114.1 v114.2) else some (.tup [], v114.2)).bind fun v116 =>
      (wantV v102 false).bind fun v117 =>
      (bif v117 then some (x6, v116.2) else some (.tup [], v116.2)).bind fun v118 =>
      (wantV v102 false).bind fun v119 =>
      (bif v119 then pv v118.2 (E.p.bin .neq 3 v116.1 v118.1) else some (.tup [], v118.2)).bind fun v120 =>
      (E.p.pick v102 (.bool true) v120.1).bind fun v121 =>
      condP v121
       (
        K .ret (sr_2 (.bool false) v120.2))
       (
        (E.p.bin .add 3 x10 (.int .i64 1)).bind fun v122 =>
        K .normal (st1 x5 x6 x7 x8 v122 v120.2)))
     (
      K (.exit 2) (se2_5_6_7_8_10_60 x5 x6 x7 x8 x10 v84 h))
theorem body1_eq (E : Env) (K : PX → St → Res) (x5 x6 x7 x8 x10 : PV) (h : PHeap) : ev (E.cx Try.prog kl) lp1 (st1 x5 x6 x7 x8 x10 h) K = body1 E K x5 x6 x7 x8 x10 h := by kernel_rfl
theorem after0_se0_3_4_5_6_7_8_9_46 (E : Env) (x3 x4 x5 x6 x7 x8 x9 x46 : PV) (h : PHeap) : K0 E (kTop Try.prog Try.f5) (.exit 0) (se0_3_4_5_6_7_8_9_46 x3 x4 x5 x6 x7 x8 x9 x46 h) =
    loopK (ev (E.cx Try.prog laws_FnCellsOf.kl) laws_FnCellsOf.lp1) E.lf (laws_FnCellsOf.st1 x5 x6 x7 x8 (.int .i64 0) h) (laws_FnCellsOf.K1 E (kTop Try.prog Try.f5)) := by kernel_rfl
theorem after1_se2_5_6_7_8_10_60 (E : Env) (x5 x6 x7 x8 x10 x60 : PV) (h : PHeap) : K1 E (kTop Try.prog Try.f5) (.exit 2) (se2_5_6_7_8_10_60 x5 x6 x7 x8 x10 x60 h) =
    (E.C fn_laws_ascend [x7] h).bind fun v67 =>
    (wantV v67.1 true).bind fun v68 =>
    (bif v68 then some (x8, v67.2) else some (.tup [], v67.2)).bind fun v69 =>
    (wantV v67.1 true).bind fun v70 =>
    (bif v70 then some (x5, v69.2) else some (.tup [], v69.2)).bind fun v71 =>
    (wantV v67.1 true).bind fun v72 =>
    (bif v72 then pv v71.2 (E.p.len 27 v71.1) else some (.tup [], v71.2)).bind fun v73 =>
    (wantV v67.1 true).bind fun v74 =>
    (bif v74 then pv v73.2 (E.p.bin .eql 3 v69.1 v73.1) else some (.tup [], v73.2)).bind fun v75 =>
    (E.p.pick v67.1 v75.1 (.bool false)).bind fun v76 =>
    (resV v76).bind fun v77 =>
    some (v77, v75.2) := by kernel_rfl
theorem top_sr_2 (x2 : PV) (h : PHeap) : kTop Try.prog Try.f5 .ret (sr_2 x2 h) =
    (resV x2).bind fun v123 =>
    some (v123, h) := by kernel_rfl
noncomputable def main (E : Env) (x0 : PV) (h : PHeap) : Res :=
    (E.p.len 22 x0).bind fun v1 =>
    (E.p.bin .gtr 3 v1 (.int .i64 1048576)).bind fun v2 =>
    condP v2
     (
      (resV (.bool true)).bind fun v3 =>
      some (v3, h))
     (
      (E.C fn_spec_DrawCellsOf [x0] h).bind fun v4 =>
      (E.p.extract v4.1 0).bind fun v5 =>
      (E.p.extract v4.1 1).bind fun v6 =>
      (E.p.extract v4.1 2).bind fun v7 =>
      (E.p.extract v4.1 3).bind fun v8 =>
      (E.C fn_impl_CellsOf [v5, v6, v7, v8] v4.2).bind fun v9 =>
      (E.C fn_spec_CellsOf [v5, v6, v7, v8] v9.2).bind fun v10 =>
      (E.C fn_laws_sameInts [v9.1, v10.1] v10.2).bind fun v11 =>
      (E.p.un .not v11.1).bind fun v12 =>
      condP v12
       (
        (resV (.bool false)).bind fun v13 =>
        some (v13, v11.2))
       (
        (E.C fn_spec_PositionOk [v5, v6, v7] v11.2).bind fun v14 =>
        (E.p.un .not v14.1).bind fun v15 =>
        condP v15
         (
          (E.p.len 27 v9.1).bind fun v16 =>
          (E.p.bin .eql 3 v16 (.int .i64 0)).bind fun v17 =>
          (wantV v17 true).bind fun v18 =>
          (bif v18 then E.C fn_laws_alive [] v14.2 else some (.tup [], v14.2)).bind fun v19 =>
          (E.p.pick v17 v19.1 (.bool false)).bind fun v20 =>
          (resV v20).bind fun v21 =>
          some (v21, v19.2))
         (
          loopK (ev (E.cx Try.prog laws_FnCellsOf.kl) laws_FnCellsOf.lp0) E.lf (laws_FnCellsOf.st0 v5 v6 v7 v8 v9.1 (.int .i64 0) (.int .i64 0) v14.2) (laws_FnCellsOf.K0 E (kTop Try.prog Try.f5)))))
theorem main_eq (E : Env) (x0 : PV) (h : PHeap) : runBody (E.cx Try.prog kl) Try.f5 [x0] h = main E x0 h := by kernel_rfl
theorem call_eq (g : Nat → PV) (lf n : Nat) (x0 : PV) (h : PHeap) : CL g lf (n + 1) fn_laws_FnCellsOf [x0] h = main (env g lf n) x0 h := by
  rw [← main_eq]
  show (match Try.prog.funcs[5]? with | some fn => if fn.body.isSome then runBody ⟨Try.prog, g, call Try.prog g KL lf n, KL 5, lf, std Try.prog⟩ fn [x0] h else none | none => none) = _
  rw [Try.func5]
  kernel_rfl
end laws_FnCellsOf
namespace laws_FnHalfTurned
noncomputable def main (E : Env) (x0 : PV) (h : PHeap) : Res :=
    (E.p.len 22 x0).bind fun v1 =>
    (E.p.bin .gtr 3 v1 (.int .i64 1048576)).bind fun v2 =>
    condP v2
     (
      (resV (.bool true)).bind fun v3 =>
      some (v3, h))
     (
      (E.C fn_spec_DrawHalfTurned [x0] h).bind fun v4 =>
      (E.p.extract v4.1 0).bind fun v5 =>
      (E.p.extract v4.1 1).bind fun v6 =>
      (E.p.extract v4.1 2).bind fun v7 =>
      (E.C fn_impl_HalfTurned [v5, v6, v7] v4.2).bind fun v8 =>
      (E.C fn_spec_HalfTurned [v5, v6, v7] v8.2).bind fun v9 =>
      (E.C fn_laws_sameInts [v8.1, v9.1] v9.2).bind fun v10 =>
      (E.p.un .not v10.1).bind fun v11 =>
      condP v11
       (
        (resV (.bool false)).bind fun v12 =>
        some (v12, v10.2))
       (
        (E.p.len 27 v8.1).bind fun v13 =>
        (E.p.bin .eql 3 v13 (.int .i64 0)).bind fun v14 =>
        condP v14
         (
          (E.C fn_impl_PositionOk [v5, v6, v7] v10.2).bind fun v15 =>
          (E.p.un .not v15.1).bind fun v16 =>
          (wantV v16 true).bind fun v17 =>
          (bif v17 then E.C fn_laws_alive [] v15.2 else some (.tup [], v15.2)).bind fun v18 =>
          (E.p.pick v16 v18.1 (.bool false)).bind fun v19 =>
          (resV v19).bind fun v20 =>
          some (v20, v18.2))
         (
          (E.C fn_impl_PositionOk [v5, v6, v8.1] v10.2).bind fun v21 =>
          (wantV v21.1 true).bind fun v22 =>
          (bif v22 then some (v5, v21.2) else some (.tup [], v21.2)).bind fun v23 =>
          (wantV v21.1 true).bind fun v24 =>
          (bif v24 then some (v6, v23.2) else some (.tup [], v23.2)).bind fun v25 =>
          (wantV v21.1 true).bind fun v26 =>
          (bif v26 then some (v8.1, v25.2) else some (.tup [], v25.2)).bind fun v27 =>
          (wantV v21.1 true).bind fun v28 =>
          (bif v28 then E.C fn_impl_HalfTurned [v23.1, v25.1, v27.1] v27.2 else some (.tup [], v27.2)).bind fun v29 =>
          (wantV v21.1 true).bind fun v30 =>
          (bif v30 then some (v7, v29.2) else some (.tup [], v29.2)).bind fun v31 =>
          (wantV v21.1 true).bind fun v32 =>
          (bif v32 then E.C fn_laws_sameInts [v29.1, v31.1] v31.2 else some (.tup [], v31.2)).bind fun v33 =>
          (E.p.pick v21.1 v33.1 (.bool false)).bind fun v34 =>
          (wantV v34 true).bind fun v35 =>
          (bif v35 then some (v5, v33.2) else some (.tup [], v33.2)).bind fun v36 =>
          (wantV v34 true).bind fun v37 =>
          (bif v37 then some (v6, v36.2) else some (.tup [], v36.2)).bind fun v38 =>
          (wantV v34 true).bind fun v39 =>
          (bif v39 then some (v8.1, v38.2) else some (.tup [], v38.2)).bind fun v40 =>
          (wantV v34 true).bind fun v41 =>
          (bif v41 then E.C fn_impl_CellsOf [v36.1, v38.1, v40.1, (.int .i64 1)] v40.2 else some (.tup [], v40.2)).bind fun v42 =>
          (wantV v34 true).bind fun v43 =>
          (bif v43 then pv v42.2 (E.p.len 27 v42.1) else some (.tup [], v42.2)).bind fun v44 =>
          (wantV v34 true).bind fun v45 =>
          (bif v45 then some (v5, v44.2) else some (.tup [], v44.2)).bind fun v46 =>
          (wantV v34 true).bind fun v47 =>
          (bif v47 then some (v6, v46.2) else some (.tup [], v46.2)).bind fun v48 =>
          (wantV v34 true).bind fun v49 =>
          (bif v49 then some (v7, v48.2) else some (.tup [], v48.2)).bind fun v50 =>
          (wantV v34 true).bind fun v51 =>
          (bif v51 then E.C fn_impl_CellsOf [v46.1, v48.1, v50.1, (.int .i64 1)] v50.2 else some (.tup [], v50.2)).bind fun v52 =>
          (wantV v34 true).bind fun v53 =>
          (bif v53 then pv v52.2 (E.p.len 27 v52.1) else some (.tup [], v52.2)).bind fun v54 =>
          (wantV v34 true).bind fun v55 =>
          (bif v55 then pv v54.2 (E.p.bin .eql 3 v44.1 v54.1) else some (.tup [], v54.2)).bind fun v56 =>
          (E.p.pick v34 v56.1 (.bool false)).bind fun v57 =>
          (wantV v57 true).bind fun v58 =>
          (bif v58 then some (v5, v56.2) else some (.tup [], v56.2)).bind fun v59 =>
          (wantV v57 true).bind fun v60 =>
          (bif v60 then some (v6, v59.2) else some (.tup [], v59.2)).bind fun v61 =>
          (wantV v57 true).bind fun v62 =>
          (bif v62 then some (v8.1, v61.2) else some (.tup [], v61.2)).bind fun v63 =>
          (wantV v57 true).bind fun v64 =>
          (bif v64 then E.C fn_impl_CellsOf [v59.1, v61.1, v63.1, (.int .i64 0)] v63.2 else some (.tup [], v63.2)).bind fun v65 =>
          (wantV v57 true).bind fun v66 =>
          (bif v66 then pv v65.2 (E.p.len 27 v65.1) else some (.tup [], v65.2)).bind fun v67 =>
          (wantV v57 true).bind fun v68 =>
          (bif v68 then some (v5, v67.2) else some (.tup [], v67.2)).bind fun v69 =>
          (wantV v57 true).bind fun v70 =>
          (bif v70 then some (v6, v69.2) else some (.tup [], v69.2)).bind fun v71 =>
          (wantV v57 true).bind fun v72 =>
          (bif v72 then some (v7, v71.2) else some (.tup [], v71.2)).bind fun v73 =>
          (wantV v57 true).bind fun v74 =>
          (bif v74 then E.C fn_impl_CellsOf [v69.1, v71.1, v73.1, (.int .i64 0)] v73.2 else some (.tup [], v73.2)).bind fun v75 =>
          (wantV v57 true).bind fun v76 =>
          (bif v76 then pv v75.2 (E.p.len 27 v75.1) else some (.tup [], v75.2)).bind fun v77 =>
          (wantV v57 true).bind fun v78 =>
          (bif v78 then pv v77.2 (E.p.bin .eql 3 v67.1 v77.1) else some (.tup [], v77.2)).bind fun v79 =>
          (E.p.pick v57 v79.1 (.bool false)).bind fun v80 =>
          (resV v80).bind fun v81 =>
          some (v81, v79.2))))
theorem main_eq (E : Env) (x0 : PV) (h : PHeap) : runBody (E.cx Try.prog kl) Try.f6 [x0] h = main E x0 h := by kernel_rfl
theorem call_eq (g : Nat → PV) (lf n : Nat) (x0 : PV) (h : PHeap) : CL g lf (n + 1) fn_laws_FnHalfTurned [x0] h = main (env g lf n) x0 h := by
  rw [← main_eq]
  show (match Try.prog.funcs[6]? with | some fn => if fn.body.isSome then runBody ⟨Try.prog, g, call Try.prog g KL lf n, KL 6, lf, std Try.prog⟩ fn [x0] h else none | none => none) = _
  rw [Try.func6]
  kernel_rfl
end laws_FnHalfTurned
namespace laws_FnMirrored
noncomputable def main (E : Env) (x0 : PV) (h : PHeap) : Res :=
    (E.p.len 22 x0).bind fun v1 =>
    (E.p.bin .gtr 3 v1 (.int .i64 1048576)).bind fun v2 =>
    condP v2
     (
      (resV (.bool true)).bind fun v3 =>
      some (v3, h))
     (
      (E.C fn_spec_DrawMirrored [x0] h).bind fun v4 =>
      (E.p.extract v4.1 0).bind fun v5 =>
      (E.p.extract v4.1 1).bind fun v6 =>
      (E.p.extract v4.1 2).bind fun v7 =>
      (E.C fn_impl_Mirrored [v5, v6, v7] v4.2).bind fun v8 =>
      (E.C fn_spec_Mirrored [v5, v6, v7] v8.2).bind fun v9 =>
      (E.C fn_laws_sameInts [v8.1, v9.1] v9.2).bind fun v10 =>
      (E.p.un .not v10.1).bind fun v11 =>
      condP v11
       (
        (resV (.bool false)).bind fun v12 =>
        some (v12, v10.2))
       (
        (E.p.len 27 v8.1).bind fun v13 =>
        (E.p.bin .eql 3 v13 (.int .i64 0)).bind fun v14 =>
        condP v14
         (
          (E.C fn_impl_PositionOk [v5, v6, v7] v10.2).bind fun v15 =>
          (E.p.un .not v15.1).bind fun v16 =>
          (wantV v16 true).bind fun v17 =>
          (bif v17 then E.C fn_laws_alive [] v15.2 else some (.tup [], v15.2)).bind fun v18 =>
          (E.p.pick v16 v18.1 (.bool false)).bind fun v19 =>
          (resV v19).bind fun v20 =>
          some (v20, v18.2))
         (
          (E.C fn_impl_PositionOk [v6, v5, v8.1] v10.2).bind fun v21 =>
          (wantV v21.1 true).bind fun v22 =>
          (bif v22 then some (v6, v21.2) else some (.tup [], v21.2)).bind fun v23 =>
          (wantV v21.1 true).bind fun v24 =>
          (bif v24 then some (v5, v23.2) else some (.tup [], v23.2)).bind fun v25 =>
          (wantV v21.1 true).bind fun v26 =>
          (bif v26 then some (v8.1, v25.2) else some (.tup [], v25.2)).bind fun v27 =>
          (wantV v21.1 true).bind fun v28 =>
          (bif v28 then E.C fn_impl_Mirrored [v23.1, v25.1, v27.1] v27.2 else some (.tup [], v27.2)).bind fun v29 =>
          (wantV v21.1 true).bind fun v30 =>
          (bif v30 then some (v7, v29.2) else some (.tup [], v29.2)).bind fun v31 =>
          (wantV v21.1 true).bind fun v32 =>
          (bif v32 then E.C fn_laws_sameInts [v29.1, v31.1] v31.2 else some (.tup [], v31.2)).bind fun v33 =>
          (E.p.pick v21.1 v33.1 (.bool false)).bind fun v34 =>
          (wantV v34 true).bind fun v35 =>
          (bif v35 then some (v6, v33.2) else some (.tup [], v33.2)).bind fun v36 =>
          (wantV v34 true).bind fun v37 =>
          (bif v37 then some (v5, v36.2) else some (.tup [], v36.2)).bind fun v38 =>
          (wantV v34 true).bind fun v39 =>
          (bif v39 then some (v8.1, v38.2) else some (.tup [], v38.2)).bind fun v40 =>
          (wantV v34 true).bind fun v41 =>
          (bif v41 then E.C fn_impl_CellsOf [v36.1, v38.1, v40.1, (.int .i64 1)] v40.2 else some (.tup [], v40.2)).bind fun v42 =>
          (wantV v34 true).bind fun v43 =>
          (bif v43 then pv v42.2 (E.p.len 27 v42.1) else some (.tup [], v42.2)).bind fun v44 =>
          (wantV v34 true).bind fun v45 =>
          (bif v45 then some (v5, v44.2) else some (.tup [], v44.2)).bind fun v46 =>
          (wantV v34 true).bind fun v47 =>
          (bif v47 then some (v6, v46.2) else some (.tup [], v46.2)).bind fun v48 =>
          (wantV v34 true).bind fun v49 =>
          (bif v49 then some (v7, v48.2) else some (.tup [], v48.2)).bind fun v50 =>
          (wantV v34 true).bind fun v51 =>
          (bif v51 then E.C fn_impl_CellsOf [v46.1, v48.1, v50.1, (.int .i64 2)] v50.2 else some (.tup [], v50.2)).bind fun v52 =>
          (wantV v34 true).bind fun v53 =>
          (bif v53 then pv v52.2 (E.p.len 27 v52.1) else some (.tup [], v52.2)).bind fun v54 =>
          (wantV v34 true).bind fun v55 =>
          (bif v55 then pv v54.2 (E.p.bin .eql 3 v44.1 v54.1) else some (.tup [], v54.2)).bind fun v56 =>
          (E.p.pick v34 v56.1 (.bool false)).bind fun v57 =>
          (resV v57).bind fun v58 =>
          some (v58, v56.2))))
theorem main_eq (E : Env) (x0 : PV) (h : PHeap) : runBody (E.cx Try.prog kl) Try.f7 [x0] h = main E x0 h := by kernel_rfl
theorem call_eq (g : Nat → PV) (lf n : Nat) (x0 : PV) (h : PHeap) : CL g lf (n + 1) fn_laws_FnMirrored [x0] h = main (env g lf n) x0 h := by
  rw [← main_eq]
  show (match Try.prog.funcs[7]? with | some fn => if fn.body.isSome then runBody ⟨Try.prog, g, call Try.prog g KL lf n, KL 7, lf, std Try.prog⟩ fn [x0] h else none | none => none) = _
  rw [Try.func7]
  kernel_rfl
end laws_FnMirrored
namespace laws_FnExactBoardOk
noncomputable def main (E : Env) (x0 x1 : PV) (h : PHeap) : Res :=
    (E.C fn_spec_BoardOk [x0, x1] h).bind fun v1 =>
    (E.C fn_impl_BoardOk [x0, x1] v1.2).bind fun v2 =>
    (E.p.bin .neq 4 v2.1 v1.1).bind fun v3 =>
    condP v3
     (
      (resV (.bool false)).bind fun v4 =>
      some (v4, v2.2))
     (
      (resV (.bool true)).bind fun v5 =>
      some (v5, v2.2))
theorem main_eq (E : Env) (x0 x1 : PV) (h : PHeap) : runBody (E.cx Try.prog kl) Try.f8 [x0, x1] h = main E x0 x1 h := by kernel_rfl
theorem call_eq (g : Nat → PV) (lf n : Nat) (x0 x1 : PV) (h : PHeap) : CL g lf (n + 1) fn_laws_FnExactBoardOk [x0, x1] h = main (env g lf n) x0 x1 h := by
  rw [← main_eq]
  show (match Try.prog.funcs[8]? with | some fn => if fn.body.isSome then runBody ⟨Try.prog, g, call Try.prog g KL lf n, KL 8, lf, std Try.prog⟩ fn [x0, x1] h else none | none => none) = _
  rw [Try.func8]
  kernel_rfl
end laws_FnExactBoardOk
namespace laws_FnExactPositionOk
noncomputable def main (E : Env) (x0 x1 x2 : PV) (h : PHeap) : Res :=
    (E.p.len 27 x2).bind fun v1 =>
    (E.p.bin .gtr 3 v1 (.int .i64 1048576)).bind fun v2 =>
    condP v2
     (
      (resV (.bool true)).bind fun v3 =>
      some (v3, h))
     (
      (E.C fn_laws_toIntS [x2] h).bind fun v4 =>
      (E.C fn_spec_PositionOk [x0, x1, v4.1] v4.2).bind fun v5 =>
      (E.C fn_laws_toIntS [x2] v5.2).bind fun v6 =>
      (E.C fn_impl_PositionOk [x0, x1, v6.1] v6.2).bind fun v7 =>
      (E.p.bin .neq 4 v7.1 v5.1).bind fun v8 =>
      condP v8
       (
        (resV (.bool false)).bind fun v9 =>
        some (v9, v7.2))
       (
        (E.C fn_laws_toIntS [x2] v7.2).bind fun v10 =>
        (E.C fn_laws_eqIntS [v6.1, v10.1] v10.2).bind fun v11 =>
        (E.p.un .not v11.1).bind fun v12 =>
        condP v12
         (
          (resV (.bool false)).bind fun v13 =>
          some (v13, v11.2))
         (
          (resV (.bool true)).bind fun v14 =>
          some (v14, v11.2))))
theorem main_eq (E : Env) (x0 x1 x2 : PV) (h : PHeap) : runBody (E.cx Try.prog kl) Try.f9 [x0, x1, x2] h = main E x0 x1 x2 h := by kernel_rfl
theorem call_eq (g : Nat → PV) (lf n : Nat) (x0 x1 x2 : PV) (h : PHeap) : CL g lf (n + 1) fn_laws_FnExactPositionOk [x0, x1, x2] h = main (env g lf n) x0 x1 x2 h := by
  rw [← main_eq]
  show (match Try.prog.funcs[9]? with | some fn => if fn.body.isSome then runBody ⟨Try.prog, g, call Try.prog g KL lf n, KL 9, lf, std Try.prog⟩ fn [x0, x1, x2] h else none | none => none) = _
  rw [Try.func9]
  kernel_rfl
end laws_FnExactPositionOk
namespace laws_FnExactCellsOf
noncomputable def main (E : Env) (x0 x1 x2 x3 : PV) (h : PHeap) : Res :=
    (E.p.len 27 x2).bind fun v1 =>
    (E.p.bin .gtr 3 v1 (.int .i64 1048576)).bind fun v2 =>
    condP v2
     (
      (resV (.bool true)).bind fun v3 =>
      some (v3, h))
     (
      (E.C fn_laws_toIntS [x2] h).bind fun v4 =>
      (E.C fn_spec_CellsOf [x0, x1, v4.1, x3] v4.2).bind fun v5 =>
      (E.C fn_laws_toIntS [x2] v5.2).bind fun v6 =>
      (E.C fn_impl_CellsOf [x0, x1, v6.1, x3] v6.2).bind fun v7 =>
      (E.C fn_laws_eqIntS [v7.1, v5.1] v7.2).bind fun v8 =>
      (E.p.un .not v8.1).bind fun v9 =>
      condP v9
       (
        (resV (.bool false)).bind fun v10 =>
        some (v10, v8.2))
       (
        (E.C fn_laws_toIntS [x2] v8.2).bind fun v11 =>
        (E.C fn_laws_eqIntS [v6.1, v11.1] v11.2).bind fun v12 =>
        (E.p.un .not v12.1).bind fun v13 =>
        condP v13
         (
          (resV (.bool false)).bind fun v14 =>
          some (v14, v12.2))
         (
          (E.C fn_laws_markIntS [v6.1, (.int .i64 1)] v12.2).bind fun v15 =>
          (E.p.bin .lss 3 v15.1 (.int .i64 0)).bind fun v16 =>
          (wantV v16 false).bind fun v17 =>
          (bif v17 then some (v7.1, v15.2) else some (.tup [], v15.2)).bind fun v18 =>
          (wantV v16 false).bind fun v19 =>
          (bif v19 then some (v5.1, v18.2) else some (.tup [], v18.2)).bind fun v20 =>
          (wantV v16 false).bind fun v21 =>
          (bif v21 then E.C fn_laws_eqIntS [v18.1, v20.1] v20.2 else some (.tup [], v20.2)).bind fun v22 =>
          (wantV v16 false).bind fun v23 =>
          (bif v23 then pv v22.2 (E.p.un .not v22.1) else some (.tup [], v22.2)).bind fun v24 =>
          (E.p.pick v16 (.bool true) v24.1).bind fun v25 =>
          condP v25
           (
            (resV (.bool false)).bind fun v26 =>
            some (v26, v24.2))
           (
            (E.C fn_laws_markIntS [v7.1, (.int .i64 1)] v24.2).bind fun v27 =>
            (E.C fn_laws_heldIntS [v7.1, (.int .i64 1)] v27.2).bind fun v28 =>
            (E.p.bin .lss 3 v28.1 (.int .i64 0)).bind fun v29 =>
            condP v29
             (
              (resV (.bool false)).bind fun v30 =>
              some (v30, v28.2))
             (
              (E.p.bin .neq 3 v28.1 v27.1).bind fun v31 =>
              condP v31
               (
                (resV (.bool false)).bind fun v32 =>
                some (v32, v28.2))
               (
                (E.C fn_laws_toIntS [x2] v28.2).bind fun v33 =>
                (E.C fn_impl_CellsOf [x0, x1, v33.1, x3] v33.2).bind fun v34 =>
                (E.C fn_laws_eqIntS [v34.1, v5.1] v34.2).bind fun v35 =>
                (E.p.un .not v35.1).bind fun v36 =>
                condP v36
                 (
                  (resV (.bool false)).bind fun v37 =>
                  some (v37, v35.2))
                 (
                  (E.C fn_laws_heldIntS [v7.1, (.int .i64 1)] v35.2).bind fun v38 =>
                  (E.p.bin .lss 3 v38.1 (.int .i64 0)).bind fun v39 =>
                  condP v39
                   (
                    (resV (.bool false)).bind fun v40 =>
                    some (v40, v38.2))
                   (
                    (E.p.bin .neq 3 v38.1 v27.1).bind fun v41 =>
                    condP v41
                     (
                      (resV (.bool false)).bind fun v42 =>
                      some (v42, v38.2))
                     (
                      (resV (.bool true)).bind fun v43 =>
                      some (v43, v38.2))))))))))
theorem main_eq (E : Env) (x0 x1 x2 x3 : PV) (h : PHeap) : runBody (E.cx Try.prog kl) Try.f10 [x0, x1, x2, x3] h = main E x0 x1 x2 x3 h := by kernel_rfl
theorem call_eq (g : Nat → PV) (lf n : Nat) (x0 x1 x2 x3 : PV) (h : PHeap) : CL g lf (n + 1) fn_laws_FnExactCellsOf [x0, x1, x2, x3] h = main (env g lf n) x0 x1 x2 x3 h := by
  rw [← main_eq]
  show (match Try.prog.funcs[10]? with | some fn => if fn.body.isSome then runBody ⟨Try.prog, g, call Try.prog g KL lf n, KL 10, lf, std Try.prog⟩ fn [x0, x1, x2, x3] h else none | none => none) = _
  rw [Try.func10]
  kernel_rfl
end laws_FnExactCellsOf
namespace laws_FnExactHalfTurned
noncomputable def main (E : Env) (x0 x1 x2 : PV) (h : PHeap) : Res :=
    (E.p.len 27 x2).bind fun v1 =>
    (E.p.bin .gtr 3 v1 (.int .i64 1048576)).bind fun v2 =>
    condP v2
     (
      (resV (.bool true)).bind fun v3 =>
      some (v3, h))
     (
      (E.C fn_laws_toIntS [x2] h).bind fun v4 =>
      (E.C fn_spec_HalfTurned [x0, x1, v4.1] v4.2).bind fun v5 =>
      (E.C fn_laws_toIntS [x2] v5.2).bind fun v6 =>
      (E.C fn_impl_HalfTurned [x0, x1, v6.1] v6.2).bind fun v7 =>
      (E.C fn_laws_eqIntS [v7.1, v5.1] v7.2).bind fun v8 =>
      (E.p.un .not v8.1).bind fun v9 =>
      condP v9
       (
        (resV (.bool false)).bind fun v10 =>
        some (v10, v8.2))
       (
        (E.C fn_laws_toIntS [x2] v8.2).bind fun v11 =>
        (E.C fn_laws_eqIntS [v6.1, v11.1] v11.2).bind fun v12 =>
        (E.p.un .not v12.1).bind fun v13 =>
        condP v13
         (
          (resV (.bool false)).bind fun v14 =>
          some (v14, v12.2))
         (
          (E.C fn_laws_markIntS [v6.1, (.int .i64 1)] v12.2).bind fun v15 =>
          (E.p.bin .lss 3 v15.1 (.int .i64 0)).bind fun v16 =>
          (wantV v16 false).bind fun v17 =>
          (bif v17 then some (v7.1, v15.2) else some (.tup [], v15.2)).bind fun v18 =>
          (wantV v16 false).bind fun v19 =>
          (bif v19 then some (v5.1, v18.2) else some (.tup [], v18.2)).bind fun v20 =>
          (wantV v16 false).bind fun v21 =>
          (bif v21 then E.C fn_laws_eqIntS [v18.1, v20.1] v20.2 else some (.tup [], v20.2)).bind fun v22 =>
          (wantV v16 false).bind fun v23 =>
          (bif v23 then pv v22.2 (E.p.un .not v22.1) else some (.tup [], v22.2)).bind fun v24 =>
          (E.p.pick v16 (.bool true) v24.1).bind fun v25 =>
          condP v25
           (
            (resV (.bool false)).bind fun v26 =>
            some (v26, v24.2))
           (
            (E.C fn_laws_markIntS [v7.1, (.int .i64 1)] v24.2).bind fun v27 =>
            (E.C fn_laws_heldIntS [v7.1, (.int .i64 1)] v27.2).bind fun v28 =>
            (E.p.bin .lss 3 v28.1 (.int .i64 0)).bind fun v29 =>
            condP v29
             (
              (resV (.bool false)).bind fun v30 =>
              some (v30, v28.2))
             (
              (E.p.bin .neq 3 v28.1 v27.1).bind fun v31 =>
              condP v31
               (
                (resV (.bool false)).bind fun v32 =>
                some (v32, v28.2))
               (
                (E.C fn_laws_toIntS [x2] v28.2).bind fun v33 =>
                (E.C fn_impl_HalfTurned [x0, x1, v33.1] v33.2).bind fun v34 =>
                (E.C fn_laws_eqIntS [v34.1, v5.1] v34.2).bind fun v35 =>
                (E.p.un .not v35.1).bind fun v36 =>
                condP v36
                 (
                  (resV (.bool false)).bind fun v37 =>
                  some (v37, v35.2))
                 (
                  (E.C fn_laws_heldIntS [v7.1, (.int .i64 1)] v35.2).bind fun v38 =>
                  (E.p.bin .lss 3 v38.1 (.int .i64 0)).bind fun v39 =>
                  condP v39
                   (
                    (resV (.bool false)).bind fun v40 =>
                    some (v40, v38.2))
                   (
                    (E.p.bin .neq 3 v38.1 v27.1).bind fun v41 =>
                    condP v41
                     (
                      (resV (.bool false)).bind fun v42 =>
                      some (v42, v38.2))
                     (
                      (resV (.bool true)).bind fun v43 =>
                      some (v43, v38.2))))))))))
theorem main_eq (E : Env) (x0 x1 x2 : PV) (h : PHeap) : runBody (E.cx Try.prog kl) Try.f11 [x0, x1, x2] h = main E x0 x1 x2 h := by kernel_rfl
theorem call_eq (g : Nat → PV) (lf n : Nat) (x0 x1 x2 : PV) (h : PHeap) : CL g lf (n + 1) fn_laws_FnExactHalfTurned [x0, x1, x2] h = main (env g lf n) x0 x1 x2 h := by
  rw [← main_eq]
  show (match Try.prog.funcs[11]? with | some fn => if fn.body.isSome then runBody ⟨Try.prog, g, call Try.prog g KL lf n, KL 11, lf, std Try.prog⟩ fn [x0, x1, x2] h else none | none => none) = _
  rw [Try.func11]
  kernel_rfl
end laws_FnExactHalfTurned
namespace laws_FnExactMirrored
noncomputable def main (E : Env) (x0 x1 x2 : PV) (h : PHeap) : Res :=
    (E.p.len 27 x2).bind fun v1 =>
    (E.p.bin .gtr 3 v1 (.int .i64 1048576)).bind fun v2 =>
    condP v2
     (
      (resV (.bool true)).bind fun v3 =>
      some (v3, h))
     (
      (E.C fn_laws_toIntS [x2] h).bind fun v4 =>
      (E.C fn_spec_Mirrored [x0, x1, v4.1] v4.2).bind fun v5 =>
      (E.C fn_laws_toIntS [x2] v5.2).bind fun v6 =>
      (E.C fn_impl_Mirrored [x0, x1, v6.1] v6.2).bind fun v7 =>
      (E.C fn_laws_eqIntS [v7.1, v5.1] v7.2).bind fun v8 =>
      (E.p.un .not v8.1).bind fun v9 =>
      condP v9
       (
        (resV (.bool false)).bind fun v10 =>
        some (v10, v8.2))
       (
        (E.C fn_laws_toIntS [x2] v8.2).bind fun v11 =>
        (E.C fn_laws_eqIntS [v6.1, v11.1] v11.2).bind fun v12 =>
        (E.p.un .not v12.1).bind fun v13 =>
        condP v13
         (
          (resV (.bool false)).bind fun v14 =>
          some (v14, v12.2))
         (
          (E.C fn_laws_markIntS [v6.1, (.int .i64 1)] v12.2).bind fun v15 =>
          (E.p.bin .lss 3 v15.1 (.int .i64 0)).bind fun v16 =>
          (wantV v16 false).bind fun v17 =>
          (bif v17 then some (v7.1, v15.2) else some (.tup [], v15.2)).bind fun v18 =>
          (wantV v16 false).bind fun v19 =>
          (bif v19 then some (v5.1, v18.2) else some (.tup [], v18.2)).bind fun v20 =>
          (wantV v16 false).bind fun v21 =>
          (bif v21 then E.C fn_laws_eqIntS [v18.1, v20.1] v20.2 else some (.tup [], v20.2)).bind fun v22 =>
          (wantV v16 false).bind fun v23 =>
          (bif v23 then pv v22.2 (E.p.un .not v22.1) else some (.tup [], v22.2)).bind fun v24 =>
          (E.p.pick v16 (.bool true) v24.1).bind fun v25 =>
          condP v25
           (
            (resV (.bool false)).bind fun v26 =>
            some (v26, v24.2))
           (
            (E.C fn_laws_markIntS [v7.1, (.int .i64 1)] v24.2).bind fun v27 =>
            (E.C fn_laws_heldIntS [v7.1, (.int .i64 1)] v27.2).bind fun v28 =>
            (E.p.bin .lss 3 v28.1 (.int .i64 0)).bind fun v29 =>
            condP v29
             (
              (resV (.bool false)).bind fun v30 =>
              some (v30, v28.2))
             (
              (E.p.bin .neq 3 v28.1 v27.1).bind fun v31 =>
              condP v31
               (
                (resV (.bool false)).bind fun v32 =>
                some (v32, v28.2))
               (
                (E.C fn_laws_toIntS [x2] v28.2).bind fun v33 =>
                (E.C fn_impl_Mirrored [x0, x1, v33.1] v33.2).bind fun v34 =>
                (E.C fn_laws_eqIntS [v34.1, v5.1] v34.2).bind fun v35 =>
                (E.p.un .not v35.1).bind fun v36 =>
                condP v36
                 (
                  (resV (.bool false)).bind fun v37 =>
                  some (v37, v35.2))
                 (
                  (E.C fn_laws_heldIntS [v7.1, (.int .i64 1)] v35.2).bind fun v38 =>
                  (E.p.bin .lss 3 v38.1 (.int .i64 0)).bind fun v39 =>
                  condP v39
                   (
                    (resV (.bool false)).bind fun v40 =>
                    some (v40, v38.2))
                   (
                    (E.p.bin .neq 3 v38.1 v27.1).bind fun v41 =>
                    condP v41
                     (
                      (resV (.bool false)).bind fun v42 =>
                      some (v42, v38.2))
                     (
                      (resV (.bool true)).bind fun v43 =>
                      some (v43, v38.2))))))))))
theorem main_eq (E : Env) (x0 x1 x2 : PV) (h : PHeap) : runBody (E.cx Try.prog kl) Try.f12 [x0, x1, x2] h = main E x0 x1 x2 h := by kernel_rfl
theorem call_eq (g : Nat → PV) (lf n : Nat) (x0 x1 x2 : PV) (h : PHeap) : CL g lf (n + 1) fn_laws_FnExactMirrored [x0, x1, x2] h = main (env g lf n) x0 x1 x2 h := by
  rw [← main_eq]
  show (match Try.prog.funcs[12]? with | some fn => if fn.body.isSome then runBody ⟨Try.prog, g, call Try.prog g KL lf n, KL 12, lf, std Try.prog⟩ fn [x0, x1, x2] h else none | none => none) = _
  rw [Try.func12]
  kernel_rfl
end laws_FnExactMirrored
namespace spec_DrawBoardOk
noncomputable def main (E : Env) (x0 : PV) (h : PHeap) : Res :=
    (E.C fn_spec_l20Open [x0] h).bind fun v1 =>
    (E.C fn_spec_l20Board [v1.1, (.int .i64 2)] v1.2).bind fun v2 =>
    (E.p.extract v2.1 0).bind fun v3 =>
    (E.p.extract v2.1 1).bind fun v4 =>
    (resV v3).bind fun v5 =>
    (resV v4).bind fun v6 =>
    some (.tup [v5, v6], v2.2)
theorem main_eq (E : Env) (x0 : PV) (h : PHeap) : runBody (E.cx Try.prog kl) Try.f13 [x0] h = main E x0 h := by kernel_rfl
theorem call_eq (g : Nat → PV) (lf n : Nat) (x0 : PV) (h : PHeap) : CL g lf (n + 1) fn_spec_DrawBoardOk [x0] h = main (env g lf n) x0 h := by
  rw [← main_eq]
  show (match Try.prog.funcs[13]? with | some fn => if fn.body.isSome then runBody ⟨Try.prog, g, call Try.prog g KL lf n, KL 13, lf, std Try.prog⟩ fn [x0] h else none | none => none) = _
  rw [Try.func13]
  kernel_rfl
end spec_DrawBoardOk
namespace impl_BoardOk
noncomputable def main (E : Env) (x0 x1 : PV) (h : PHeap) : Res :=
    (E.C fn_impl_sizeOk [x0] h).bind fun v1 =>
    (wantV v1.1 true).bind fun v2 =>
    (bif v2 then some (x1, v1.2) else some (.tup [], v1.2)).bind fun v3 =>
    (wantV v1.1 true).bind fun v4 =>
    (bif v4 then E.C fn_impl_sizeOk [v3.1] v3.2 else some (.tup [], v3.2)).bind fun v5 =>
    (E.p.pick v1.1 v5.1 (.bool false)).bind fun v6 =>
    (wantV v6 true).bind fun v7 =>
    (bif v7 then some (x0, v5.2) else some (.tup [], v5.2)).bind fun v8 =>
    (wantV v6 true).bind fun v9 =>
    (bif v9 then some (x1, v8.2) else some (.tup [], v8.2)).bind fun v10 =>
    (wantV v6 true).bind fun v11 =>
    (bif v11 then pv v10.2 (E.p.bin .mul 3 v8.1 v10.1) else some (.tup [], v10.2)).bind fun v12 =>
    (wantV v6 true).bind fun v13 =>
    (bif v13 then pv v12.2 (E.p.bin .leq 3 v12.1 (.int .i64 9)) else some (.tup [], v12.2)).bind fun v14 =>
    (E.p.pick v6 v14.1 (.bool false)).bind fun v15 =>
    (resV v15).bind fun v16 =>
    some (v16, v14.2)
theorem main_eq (E : Env) (x0 x1 : PV) (h : PHeap) : runBody (E.cx Try.prog kl) Try.f14 [x0, x1] h = main E x0 x1 h := by kernel_rfl
theorem call_eq (g : Nat → PV) (lf n : Nat) (x0 x1 : PV) (h : PHeap) : CL g lf (n + 1) fn_impl_BoardOk [x0, x1] h = main (env g lf n) x0 x1 h := by
  rw [← main_eq]
  show (match Try.prog.funcs[14]? with | some fn => if fn.body.isSome then runBody ⟨Try.prog, g, call Try.prog g KL lf n, KL 14, lf, std Try.prog⟩ fn [x0, x1] h else none | none => none) = _
  rw [Try.func14]
  kernel_rfl
end impl_BoardOk
namespace spec_BoardOk
noncomputable def main (E : Env) (x0 x1 : PV) (h : PHeap) : Res :=
    (E.C fn_spec_l1In [x0, (.int .i64 1), (.int .i64 4)] h).bind fun v1 =>
    (wantV v1.1 true).bind fun v2 =>
    (bif v2 then some (x1, v1.2) else some (.tup [], v1.2)).bind fun v3 =>
    (wantV v1.1 true).bind fun v4 =>
    (bif v4 then E.C fn_spec_l1In [v3.1, (.int .i64 1), (.int .i64 4)] v3.2 else some (.tup [], v3.2)).bind fun v5 =>
    (E.p.pick v1.1 v5.1 (.bool false)).bind fun v6 =>
    (wantV v6 true).bind fun v7 =>
    (bif v7 then some (x0, v5.2) else some (.tup [], v5.2)).bind fun v8 =>
    (wantV v6 true).bind fun v9 =>
    (bif v9 then some (x1, v8.2) else some (.tup [], v8.2)).bind fun v10 =>
    (wantV v6 true).bind fun v11 =>
    (bif v11 then pv v10.2 (E.p.bin .mul 3 v8.1 v10.1) else some (.tup [], v10.2)).bind fun v12 =>
    (wantV v6 true).bind fun v13 =>
    (bif v13 then pv v12.2 (E.p.bin .leq 3 v12.1 (.int .i64 9)) else some (.tup [], v12.2)).bind fun v14 =>
    (E.p.pick v6 v14.1 (.bool false)).bind fun v15 =>
    (resV v15).bind fun v16 =>
    some (v16, v14.2)
theorem main_eq (E : Env) (x0 x1 : PV) (h : PHeap) : runBody (E.cx Try.prog kl) Try.f15 [x0, x1] h = main E x0 x1 h := by kernel_rfl
theorem call_eq (g : Nat → PV) (lf n : Nat) (x0 x1 : PV) (h : PHeap) : CL g lf (n + 1) fn_spec_BoardOk [x0, x1] h = main (env g lf n) x0 x1 h := by
  rw [← main_eq]
  show (match Try.prog.funcs[15]? with | some fn => if fn.body.isSome then runBody ⟨Try.prog, g, call Try.prog g KL lf n, KL 15, lf, std Try.prog⟩ fn [x0, x1] h else none | none => none) = _
  rw [Try.func15]
  kernel_rfl
end spec_BoardOk
namespace spec_DrawPositionOk
noncomputable def main (E : Env) (x0 : PV) (h : PHeap) : Res :=
    (E.C fn_spec_l20Open [x0] h).bind fun v1 =>
    (E.C fn_spec_l20Position [v1.1, (.int .i64 2)] v1.2).bind fun v2 =>
    (E.p.extract v2.1 0).bind fun v3 =>
    (E.p.extract v2.1 1).bind fun v4 =>
    (E.p.extract v2.1 2).bind fun v5 =>
    (resV v3).bind fun v6 =>
    (resV v4).bind fun v7 =>
    (resV v5).bind fun v8 =>
    some (.tup [v6, v7, v8], v2.2)
theorem main_eq (E : Env) (x0 : PV) (h : PHeap) : runBody (E.cx Try.prog kl) Try.f16 [x0] h = main E x0 h := by kernel_rfl
theorem call_eq (g : Nat → PV) (lf n : Nat) (x0 : PV) (h : PHeap) : CL g lf (n + 1) fn_spec_DrawPositionOk [x0] h = main (env g lf n) x0 h := by
  rw [← main_eq]
  show (match Try.prog.funcs[16]? with | some fn => if fn.body.isSome then runBody ⟨Try.prog, g, call Try.prog g KL lf n, KL 16, lf, std Try.prog⟩ fn [x0] h else none | none => none) = _
  rw [Try.func16]
  kernel_rfl
end spec_DrawPositionOk
namespace impl_PositionOk
noncomputable def lp0 : Code := (codeAt (bodyOf Try.f17) [1, 1, 0, 1, 0, 0])
def st0 (x21 x22 x23 : PV) (h : PHeap) : St := ⟨[.junk, .junk, .junk, .junk, .junk, .junk, .junk, .junk, .junk, .junk, .junk, .junk, .junk, .junk, .junk, .junk, .junk, .junk, .junk, .junk, .junk, x21, x22, x23, .junk, .junk, .junk, .junk, .junk, .junk, .junk], h⟩
def sr_6 (x6 : PV) (h : PHeap) : St := ⟨[.junk, .junk, .junk, .junk, .junk, .junk, x6, .junk, .junk, .junk, .junk, .junk, .junk, .junk, .junk, .junk, .junk, .junk, .junk, .junk, .junk, .junk, .junk, .junk, .junk, .junk, .junk, .junk, .junk, .junk, .junk], h⟩
def se0_21_22_23_24 (x21 x22 x23 x24 : PV) (h : PHeap) : St := ⟨[.junk, .junk, .junk, .junk, .junk, .junk, .junk, .junk, .junk, .junk, .junk, .junk, .junk, .junk, .junk, .junk, .junk, .junk, .junk, .junk, .junk, x21, x22, x23, x24, .junk, .junk, .junk, .junk, .junk, .junk], h⟩
noncomputable def K0 (E : Env) (K : PX → St → Res) : PX → St → Res := (kBlock 0 (kSeq (ev (E.cx Try.prog kl) (codeAt (bodyOf Try.f17) [1, 1, 1])) K))
@[simp] theorem K0_ret (E : Env) (K : PX → St → Res) (s : St) : K0 E K .ret s = K .ret s := by kernel_rfl
noncomputable def body0 (E : Env) (K : PX → St → Res) (x21 x22 x23 : PV) (h : PHeap) : Res :=
    (E.p.bin .lss 3 x23 x22).bind fun v25 =>
    condP v25
     (
      (E.p.indexAddr 27 x21 x23).bind fun v26 =>
      (E.p.load 3 v26 h).bind fun v27 =>
      (E.C fn_impl_contentOk [v27] h).bind fun v28 =>
      (E.p.un .not v28.1).bind fun v29 =>
      condP v29
       (
        K .ret (sr_6 (.bool false) v28.2))
       (
        (E.p.bin .add 3 x23 (.int .i64 1)).bind fun v30 =>
        K .normal (st0 x21 x22 v30 v28.2)))
     (
      K (.exit 0) (se0_21_22_23_24 x21 x22 x23 v25 h))
theorem body0_eq (E : Env) (K : PX → St → Res) (x21 x22 x23 : PV) (h : PHeap) : ev (E.cx Try.prog kl) lp0 (st0 x21 x22 x23 h) K = body0 E K x21 x22 x23 h := by kernel_rfl
theorem after0_se0_21_22_23_24 (E : Env) (x21 x22 x23 x24 : PV) (h : PHeap) : K0 E (kTop Try.prog Try.f17) (.exit 0) (se0_21_22_23_24 x21 x22 x23 x24 h) =
    (resV (.bool true)).bind fun v24 =>
    some (v24, h) := by kernel_rfl
theorem top_sr_6 (x6 : PV) (h : PHeap) : kTop Try.prog Try.f17 .ret (sr_6 x6 h) =
    (resV x6).bind fun v31 =>
    some (v31, h) := by kernel_rfl
noncomputable def main (E : Env) (x0 x1 x2 : PV) (h : PHeap) : Res :=
    (E.C fn_impl_BoardOk [x0, x1] h).bind fun v1 =>
    (E.p.un .not v1.1).bind fun v2 =>
    (wantV v2 false).bind fun v3 =>
    (bif v3 then some (x2, v1.2) else some (.tup [], v1.2)).bind fun v4 =>
    (wantV v2 false).bind fun v5 =>
    (bif v5 then pv v4.2 (E.p.len 27 v4.1) else some (.tup [], v4.2)).bind fun v6 =>
    (wantV v2 false).bind fun v7 =>
    (bif v7 then some (x0, v6.2) else some (.tup [], v6.2)).bind fun v8 =>
    (wantV v2 false).bind fun v9 =>
    (bif v9 then some (x1, v8.2) else some (.tup [], v8.2)).bind fun v10 =>
    (wantV v2 false).bind fun v11 =>
    (bif v11 then pv v10.2 (E.p.bin .mul 3 v8.1 v10.1) else some (.tup [], v10.2)).bind fun v12 =>
    (wantV v2 false).bind fun v13 =>
    (bif v13 then pv v12.2 (E.p.bin .neq 3 v6.1 v12.1) else some (.tup [], v12.2)).bind fun v14 =>
    (E.p.pick v2 (.bool true) v14.1).bind fun v15 =>
    condP v15
     (
      (resV (.bool false)).bind fun v16 =>
      some (v16, v14.2))
     (
      (E.p.len 27 x2).bind fun v17 =>
      loopK (ev (E.cx Try.prog impl_PositionOk.kl) impl_PositionOk.lp0) E.lf (impl_PositionOk.st0 x2 v17 (.int .i64 0) v14.2) (impl_PositionOk.K0 E (kTop Try.prog Try.f17)))
theorem main_eq (E : Env) (x0 x1 x2 : PV) (h : PHeap) : runBody (E.cx Try.prog kl) Try.f17 [x0, x1, x2] h = main E x0 x1 x2 h := by kernel_rfl
theorem call_eq (g : Nat → PV) (lf n : Nat) (x0 x1 x2 : PV) (h : PHeap) : CL g lf (n + 1) fn_impl_PositionOk [x0, x1, x2] h = main (env g lf n) x0 x1 x2 h := by
  rw [← main_eq]
  show (match Try.prog.funcs[17]? with | some fn => if fn.body.isSome then runBody ⟨Try.prog, g, call Try.prog g KL lf n, KL 17, lf, std Try.prog⟩ fn [x0, x1, x2] h else none | none => none) = _
  rw [Try.func17]
  kernel_rfl
end impl_PositionOk
namespace spec_PositionOk
noncomputable def lp0 : Code := (codeAt (bodyOf Try.f18) [1, 0, 1, 0, 0])
def st0 (x0 x1 x2 x7 : PV) (h : PHeap) : St := ⟨[x0, x1, x2, .junk, .junk, .junk, .junk, x7, .junk, .junk, .junk, .junk, .junk, .junk, .junk, .junk, .junk, .junk, .junk, .junk, .junk, .junk, .junk, .junk, .junk, .junk, .junk, .junk, .junk, .junk, .junk], h⟩
def sr_6 (x6 : PV) (h : PHeap) : St := ⟨[.junk, .junk, .junk, .junk, .junk, .junk, x6, .junk, .junk, .junk, .junk, .junk, .junk, .junk, .junk, .junk, .junk, .junk, .junk, .junk, .junk, .junk, .junk, .junk, .junk, .junk, .junk, .junk, .junk, .junk, .junk], h⟩
def se0_0_1_2_7_11 (x0 x1 x2 x7 x11 : PV) (h : PHeap) : St := ⟨[x0, x1, x2, .junk, .junk, .junk, .junk, x7, .junk, .junk, .junk, x11, .junk, .junk, .junk, .junk, .junk, .junk, .junk, .junk, .junk, .junk, .junk, .junk, .junk, .junk, .junk, .junk, .junk, .junk, .junk], h⟩
noncomputable def K0 (E : Env) (K : PX → St → Res) : PX → St → Res := (kBlock 0 (kSeq (ev (E.cx Try.prog kl) (codeAt (bodyOf Try.f18) [1, 1])) K))
@[simp] theorem K0_ret (E : Env) (K : PX → St → Res) (s : St) : K0 E K .ret s = K .ret s := by kernel_rfl
noncomputable def body0 (E : Env) (K : PX → St → Res) (x0 x1 x2 x7 : PV) (h : PHeap) : Res :=
    (E.p.len 27 x2).bind fun v23 =>
    (E.p.bin .lss 3 x7 v23).bind fun v24 =>
    condP v24
     (
      (E.p.indexAddr 27 x2 x7).bind fun v25 =>
      (E.p.load 3 v25 h).bind fun v26 =>
      (E.C fn_spec_l1In [v26, (.int .i64 0), (.int .i64 2)] h).bind fun v27 =>
      (E.p.un .not v27.1).bind fun v28 =>
      condP v28
       (
        K .ret (sr_6 (.bool false) v27.2))
       (
        (E.p.bin .add 3 x7 (.int .i64 1)).bind fun v29 =>
        K .normal (st0 x0 x1 x2 v29 v27.2)))
     (
      K (.exit 0) (se0_0_1_2_7_11 x0 x1 x2 x7 v24 h))
theorem body0_eq (E : Env) (K : PX → St → Res) (x0 x1 x2 x7 : PV) (h : PHeap) : ev (E.cx Try.prog kl) lp0 (st0 x0 x1 x2 x7 h) K = body0 E K x0 x1 x2 x7 h := by kernel_rfl
theorem after0_se0_0_1_2_7_11 (E : Env) (x0 x1 x2 x7 x11 : PV) (h : PHeap) : K0 E (kTop Try.prog Try.f18) (.exit 0) (se0_0_1_2_7_11 x0 x1 x2 x7 x11 h) =
    (E.C fn_spec_BoardOk [x0, x1] h).bind fun v8 =>
    (wantV v8.1 true).bind fun v9 =>
    (bif v9 then some (x2, v8.2) else some (.tup [], v8.2)).bind fun v10 =>
    (wantV v8.1 true).bind fun v11 =>
    (bif v11 then pv v10.2 (E.p.len 27 v10.1) else some (.tup [], v10.2)).bind fun v12 =>
    (wantV v8.1 true).bind fun v13 =>
    (bif v13 then some (x0, v12.2) else some (.tup [], v12.2)).bind fun v14 =>
    (wantV v8.1 true).bind fun v15 =>
    (bif v15 then some (x1, v14.2) else some (.tup [], v14.2)).bind fun v16 =>
    (wantV v8.1 true).bind fun v17 =>
    (bif v17 then pv v16.2 (E.p.bin .mul 3 v14.1 v16.1) else some (.tup [], v16.2)).bind fun v18 =>
    (wantV v8.1 true).bind fun v19 =>
    (bif v19 then pv v18.2 (E.p.bin .eql 3 v12.1 v18.1) else some (.tup [], v18.2)).bind fun v20 =>
    (E.p.pick v8.1 v20.1 (.bool false)).bind fun v21 =>
    (resV v21).bind fun v22 =>
    some (v22, v20.2) := by kernel_rfl
theorem top_sr_6 (x6 : PV) (h : PHeap) : kTop Try.prog Try.f18 .ret (sr_6 x6 h) =
    (resV x6).bind fun v30 =>
    some (v30, h) := by kernel_rfl
noncomputable def main (E : Env) (x0 x1 x2 : PV) (h : PHeap) : Res :=
    loopK (ev (E.cx Try.prog spec_PositionOk.kl) spec_PositionOk.lp0) E.lf (spec_PositionOk.st0 x0 x1 x2 (.int .i64 0) h) (spec_PositionOk.K0 E (kTop Try.prog Try.f18))
theorem main_eq (E : Env) (x0 x1 x2 : PV) (h : PHeap) : runBody (E.cx Try.prog kl) Try.f18 [x0, x1, x2] h = main E x0 x1 x2 h := by kernel_rfl
theorem call_eq (g : Nat → PV) (lf n : Nat) (x0 x1 x2 : PV) (h : PHeap) : CL g lf (n + 1) fn_spec_PositionOk [x0, x1, x2] h = main (env g lf n) x0 x1 x2 h := by
  rw [← main_eq]
  show (match Try.prog.funcs[18]? with | some fn => if fn.body.isSome then runBody ⟨Try.prog, g, call Try.prog g KL lf n, KL 18, lf, std Try.prog⟩ fn [x0, x1, x2] h else none | none => none) = _
  rw [Try.func18]
  kernel_rfl
end spec_PositionOk
namespace laws_alive
noncomputable def main (E : Env) (h : PHeap) : Res :=
    (E.C fn_impl_BoardOk [(.int .i64 2), (.int .i64 2)] h).bind fun v1 =>
    (wantV v1.1 true).bind fun v2 =>
    (bif v2 then E.C fn_impl_BoardOk [(.int .i64 0), (.int .i64 2)] v1.2 else some (.tup [], v1.2)).bind fun v3 =>
    (wantV v1.1 true).bind fun v4 =>
    (bif v4 then pv v3.2 (E.p.un .not v3.1) else some (.tup [], v3.2)).bind fun v5 =>
    (E.p.pick v1.1 v5.1 (.bool false)).bind fun v6 =>
    (resV v6).bind fun v7 =>
    some (v7, v5.2)
theorem main_eq (E : Env) (h : PHeap) : runBody (E.cx Try.prog kl) Try.f19 [] h = main E  h := by kernel_rfl
theorem call_eq (g : Nat → PV) (lf n : Nat) (h : PHeap) : CL g lf (n + 1) fn_laws_alive [] h = main (env g lf n)  h := by
  rw [← main_eq]
  show (match Try.prog.funcs[19]? with | some fn => if fn.body.isSome then runBody ⟨Try.prog, g, call Try.prog g KL lf n, KL 19, lf, std Try.prog⟩ fn [] h else none | none => none) = _
  rw [Try.func19]
  kernel_rfl
end laws_alive
namespace spec_DrawCellsOf
noncomputable def main (E : Env) (x0 : PV) (h : PHeap) : Res :=
    (E.C fn_spec_l20Open [x0] h).bind fun v1 =>
    (E.C fn_spec_l20Position [v1.1, (.int .i64 9)] v1.2).bind fun v2 =>
    (E.p.extract v2.1 0).bind fun v3 =>
    (E.p.extract v2.1 1).bind fun v4 =>
    (E.p.extract v2.1 2).bind fun v5 =>
    (E.C fn_spec_l20Rd_pick [v1.1, (.int .i64 3)] v2.2).bind fun v6 =>
    (E.C fn_spec_l20Rd_pick [v1.1, (.int .i64 30)] v6.2).bind fun v7 =>
    (E.p.bin .quo 3 v7.1 (.int .i64 29)).bind fun v8 =>
    (E.p.bin .mul 3 v8 (.int .i64 3)).bind fun v9 =>
    (E.p.bin .add 3 v6.1 v9).bind fun v10 =>
    (resV v3).bind fun v11 =>
    (resV v4).bind fun v12 =>
    (resV v5).bind fun v13 =>
    (resV v10).bind fun v14 =>
    some (.tup [v11, v12, v13, v14], v7.2)
theorem main_eq (E : Env) (x0 : PV) (h : PHeap) : runBody (E.cx Try.prog kl) Try.f20 [x0] h = main E x0 h := by kernel_rfl
theorem call_eq (g : Nat → PV) (lf n : Nat) (x0 : PV) (h : PHeap) : CL g lf (n + 1) fn_spec_DrawCellsOf [x0] h = main (env g lf n) x0 h := by
  rw [← main_eq]
  show (match Try.prog.funcs[20]? with | some fn => if fn.body.isSome then runBody ⟨Try.prog, g, call Try.prog g KL lf n, KL 20, lf, std Try.prog⟩ fn [x0] h else none | none => none) = _
  rw [Try.func20]
  kernel_rfl
end spec_DrawCellsOf
namespace impl_CellsOf
noncomputable def lp0 : Code := (codeAt (bodyOf Try.f21) [1, 1, 1, 0, 1, 0, 0])
def st0 (x3 x9 x22 x23 x24 : PV) (h : PHeap) : St := ⟨[.junk, .junk, .junk, x3, .junk, .junk, .junk, .junk, .junk, x9, .junk, .junk, .junk, .junk, .junk, .junk, .junk, .junk, .junk, .junk, .junk, .junk, x22, x23, x24, .junk, .junk, .junk, .junk, .junk, .junk, .junk, .junk, .junk, .junk, .junk, .junk, .junk], h⟩
def se0_3_9_22_23_24_25 (x3 x9 x22 x23 x24 x25 : PV) (h : PHeap) : St := ⟨[.junk, .junk, .junk, x3, .junk, .junk, .junk, .junk, .junk, x9, .junk, .junk, .junk, .junk, .junk, .junk, .junk, .junk, .junk, .junk, .junk, .junk, x22, x23, x24, x25, .junk, .junk, .junk, .junk, .junk, .junk, .junk, .junk, .junk, .junk, .junk, .junk], h⟩
noncomputable def K0 (E : Env) (K : PX → St → Res) : PX → St → Res := (kBlock 0 (kSeq (ev (E.cx Try.prog kl) (codeAt (bodyOf Try.f21) [1, 1, 1, 1])) K))
@[simp] theorem K0_ret (E : Env) (K : PX → St → Res) (s : St) : K0 E K .ret s = K .ret s := by kernel_rfl
noncomputable def body0 (E : Env) (K : PX → St → Res) (x3 x9 x22 x23 x24 : PV) (h : PHeap) : Res :=
    (E.p.bin .lss 3 x24 x23).bind fun v21 =>
    condP v21
     (
      (E.p.indexAddr 27 x22 x24).bind fun v22 =>
      (E.p.load 3 v22 h).bind fun v23 =>
      (E.p.bin .eql 3 v23 x3).bind fun v24 =>
      condP v24
       (
        (E.p.buildSlice 27 1 [(0, x24)] h).bind fun v25 =>
        (E.p.append 27 27 x9 v25.1 v25.2).bind fun v26 =>
        (E.p.bin .add 3 x24 (.int .i64 1)).bind fun v27 =>
        K .normal (st0 x3 v26.1 x22 x23 v27 v26.2))
       (
        (E.p.bin .add 3 x24 (.int .i64 1)).bind fun v28 =>
        K .normal (st0 x3 x9 x22 x23 v28 h)))
     (
      K (.exit 0) (se0_3_9_22_23_24_25 x3 x9 x22 x23 x24 v21 h))
theorem body0_eq (E : Env) (K : PX → St → Res) (x3 x9 x22 x23 x24 : PV) (h : PHeap) : ev (E.cx Try.prog kl) lp0 (st0 x3 x9 x22 x23 x24 h) K = body0 E K x3 x9 x22 x23 x24 h := by kernel_rfl
theorem after0_se0_3_9_22_23_24_25 (E : Env) (x3 x9 x22 x23 x24 x25 : PV) (h : PHeap) : K0 E (kTop Try.prog Try.f21) (.exit 0) (se0_3_9_22_23_24_25 x3 x9 x22 x23 x24 x25 h) =
    (resV x9).bind fun v20 =>
    some (v20, h) := by kernel_rfl
noncomputable def main (E : Env) (x0 x1 x2 x3 : PV) (h : PHeap) : Res :=
    (E.C fn_impl_PositionOk [x0, x1, x2] h).bind fun v1 =>
    (E.p.un .not v1.1).bind fun v2 =>
    (wantV v2 false).bind fun v3 =>
    (bif v3 then some (x3, v1.2) else some (.tup [], v1.2)).bind fun v4 =>
    (wantV v2 false).bind fun v5 =>
    (bif v5 then E.C fn_impl_contentOk [v4.1] v4.2 else some (.tup [], v4.2)).bind fun v6 =>
    (wantV v2 false).bind fun v7 =>
    (bif v7 then pv v6.2 (E.p.un .not v6.1) else some (.tup [], v6.2)).bind fun v8 =>
    (E.p.pick v2 (.bool true) v8.1).bind fun v9 =>
    condP v9
     (
      (resV .nilsl).bind fun v10 =>
      some (v10, v8.2))
     (
      (E.p.len 27 x2).bind fun v11 =>
      loopK (ev (E.cx Try.prog impl_CellsOf.kl) impl_CellsOf.lp0) E.lf (impl_CellsOf.st0 x3 .nilsl x2 v11 (.int .i64 0) v8.2) (impl_CellsOf.K0 E (kTop Try.prog Try.f21)))
theorem main_eq (E : Env) (x0 x1 x2 x3 : PV) (h : PHeap) : runBody (E.cx Try.prog kl) Try.f21 [x0, x1, x2, x3] h = main E x0 x1 x2 x3 h := by kernel_rfl
theorem call_eq (g : Nat → PV) (lf n : Nat) (x0 x1 x2 x3 : PV) (h : PHeap) : CL g lf (n + 1) fn_impl_CellsOf [x0, x1, x2, x3] h = main (env g lf n) x0 x1 x2 x3 h := by
  rw [← main_eq]
  show (match Try.prog.funcs[21]? with | some fn => if fn.body.isSome then runBody ⟨Try.prog, g, call Try.prog g KL lf n, KL 21, lf, std Try.prog⟩ fn [x0, x1, x2, x3] h else none | none => none) = _
  rw [Try.func21]
  kernel_rfl
end impl_CellsOf
namespace laws_sameInts
noncomputable def lp0 : Code := (codeAt (bodyOf Try.f22) [1, 1, 0, 1, 0, 0])
def st0 (x0 x1 x5 : PV) (h : PHeap) : St := ⟨[x0, x1, .junk, .junk, .junk, x5, .junk, .junk, .junk, .junk, .junk, .junk, .junk, .junk, .junk, .junk, .junk, .junk, .junk, .junk, .junk, .junk, .junk, .junk, .junk, .junk], h⟩
def sr_4 (x4 : PV) (h : PHeap) : St := ⟨[.junk, .junk, .junk, .junk, x4, .junk, .junk, .junk, .junk, .junk, .junk, .junk, .junk, .junk, .junk, .junk, .junk, .junk, .junk, .junk, .junk, .junk, .junk, .junk, .junk, .junk], h⟩
def se0_0_1_5_14 (x0 x1 x5 x14 : PV) (h : PHeap) : St := ⟨[x0, x1, .junk, .junk, .junk, x5, .junk, .junk, .junk, .junk, .junk, .junk, .junk, .junk, x14, .junk, .junk, .junk, .junk, .junk, .junk, .junk, .junk, .junk, .junk, .junk], h⟩
noncomputable def K0 (E : Env) (K : PX → St → Res) : PX → St → Res := (kBlock 0 (kSeq (ev (E.cx Try.prog kl) (codeAt (bodyOf Try.f22) [1, 1, 1])) K))
@[simp] theorem K0_ret (E : Env) (K : PX → St → Res) (s : St) : K0 E K .ret s = K .ret s := by kernel_rfl
noncomputable def body0 (E : Env) (K : PX → St → Res) (x0 x1 x5 : PV) (h : PHeap) : Res :=
    (E.p.len 27 x0).bind fun v14 =>
    (E.p.bin .lss 3 x5 v14).bind fun v15 =>
    condP v15
     (
      (E.p.indexAddr 27 x0 x5).bind fun v16 =>
      (E.p.load 3 v16 h).bind fun v17 =>
      (E.p.indexAddr 27 x1 x5).bind fun v18 =>
      (E.p.load 3 v18 h).bind fun v19 =>
      (E.p.bin .neq 3 v17 v19).bind fun v20 =>
      condP v20
       (
        K .ret (sr_4 (.bool false) h))
       (
        (E.p.bin .add 3 x5 (.int .i64 1)).bind fun v21 =>
        K .normal (st0 x0 x1 v21 h)))
     (
      K (.exit 0) (se0_0_1_5_14 x0 x1 x5 v15 h))
theorem body0_eq (E : Env) (K : PX → St → Res) (x0 x1 x5 : PV) (h : PHeap) : ev (E.cx Try.prog kl) lp0 (st0 x0 x1 x5 h) K = body0 E K x0 x1 x5 h := by kernel_rfl
theorem after0_se0_0_1_5_14 (E : Env) (x0 x1 x5 x14 : PV) (h : PHeap) : K0 E (kTop Try.prog Try.f22) (.exit 0) (se0_0_1_5_14 x0 x1 x5 x14 h) =
    (resV (.bool true)).bind fun v13 =>
    some (v13, h) := by kernel_rfl
theorem top_sr_4 (x4 : PV) (h : PHeap) : kTop Try.prog Try.f22 .ret (sr_4 x4 h) =
    (resV x4).bind fun v22 =>
    some (v22, h) := by kernel_rfl
noncomputable def main (E : Env) (x0 x1 : PV) (h : PHeap) : Res :=
    (E.p.len 27 x0).bind fun v1 =>
    (E.p.len 27 x1).bind fun v2 =>
    (E.p.bin .neq 3 v1 v2).bind fun v3 =>
    condP v3
     (
      (resV (.bool false)).bind fun v4 =>
      some (v4, h))
     (
      loopK (ev (E.cx Try.prog laws_sameInts.kl) laws_sameInts.lp0) E.lf (laws_sameInts.st0 x0 x1 (.int .i64 0) h) (laws_sameInts.K0 E (kTop Try.prog Try.f22)))
theorem main_eq (E : Env) (x0 x1 : PV) (h : PHeap) : runBody (E.cx Try.prog kl) Try.f22 [x0, x1] h = main E x0 x1 h := by kernel_rfl
theorem call_eq (g : Nat → PV) (lf n : Nat) (x0 x1 : PV) (h : PHeap) : CL g lf (n + 1) fn_laws_sameInts [x0, x1] h = main (env g lf n) x0 x1 h := by
  rw [← main_eq]
  show (match Try.prog.funcs[22]? with | some fn => if fn.body.isSome then runBody ⟨Try.prog, g, call Try.prog g KL lf n, KL 22, lf, std Try.prog⟩ fn [x0, x1] h else none | none => none) = _
  rw [Try.func22]
  kernel_rfl
end laws_sameInts
namespace spec_CellsOf
noncomputable def lp0 : Code := (codeAt (bodyOf Try.f23) [1, 1, 0, 1, 0, 0])
def st0 (x0 x1 x2 x3 x9 x10 : PV) (h : PHeap) : St := ⟨[x0, x1, x2, x3, .junk, .junk, .junk, .junk, .junk, x9, x10, .junk, .junk, .junk, .junk, .junk, .junk, .junk, .junk, .junk, .junk, .junk, .junk, .junk, .junk, .junk, .junk, .junk, .junk, .junk, .junk, .junk, .junk, .junk, .junk], h⟩
def se0_0_1_2_3_9_10_21 (x0 x1 x2 x3 x9 x10 x21 : PV) (h : PHeap) : St := ⟨[x0, x1, x2, x3, .junk, .junk, .junk, .junk, .junk, x9, x10, .junk, .junk, .junk, .junk, .junk, .junk, .junk, .junk, .junk, .junk, x21, .junk, .junk, .junk, .junk, .junk, .junk, .junk, .junk, .junk, .junk, .junk, .junk, .junk], h⟩
noncomputable def K0 (E : Env) (K : PX → St → Res) : PX → St → Res := (kBlock 0 (kSeq (ev (E.cx Try.prog kl) (codeAt (bodyOf Try.f23) [1, 1, 1])) K))
@[simp] theorem K0_ret (E : Env) (K : PX → St → Res) (s : St) : K0 E K .ret s = K .ret s := by kernel_rfl
noncomputable def body0 (E : Env) (K : PX → St → Res) (x0 x1 x2 x3 x9 x10 : PV) (h : PHeap) : Res :=
    (E.p.len 27 x2).bind fun v21 =>
    (E.p.bin .lss 3 x10 v21).bind fun v22 =>
    (wantV v22 true).bind fun v23 =>
    (bif v23 then some (x0, h) else some (.tup [], h)).bind fun v24 =>
    (wantV v22 true).bind fun v25 =>
    (bif v25 then some (x1, v24.2) else some (.tup [], v24.2)).bind fun v26 =>
    (wantV v22 true).bind fun v27 =>
    (bif v27 then some (x2, v26.2) else some (.tup [], v26.2)).bind fun v28 =>
    (wantV v22 true).bind fun v29 =>
    (bif v29 then E.C fn_spec_PositionOk [v24.1, v26.1, v28.1] v28.2 else some (.tup [], v28.2)).bind fun v30 =>
    (E.p.pick v22 v30.1 (.bool false)).bind fun v31 =>
    condP v31
     (
      (E.p.indexAddr 27 x2 x10).bind fun v32 =>
      (E.p.load 3 v32 v30.2).bind fun v33 =>
      (E.p.bin .eql 3 v33 x3).bind fun v34 =>
      condP v34
       (
        (E.p.buildSlice 27 1 [(0, x10)] v30.2).bind fun v35 =>
        (E.p.append 27 27 x9 v35.1 v35.2).bind fun v36 =>
        (E.p.bin .add 3 x10 (.int .i64 1)).bind fun v37 =>
        K .normal (st0 x0 x1 x2 x3 v36.1 v37 v36.2))
       (
        (E.p.bin .add 3 x10 (.int .i64 1)).bind fun v38 =>
        K .normal (st0 x0 x1 x2 x3 x9 v38 v30.2)))
     (
      K (.exit 0) (se0_0_1_2_3_9_10_21 x0 x1 x2 x3 x9 x10 v31 v30.2))
theorem body0_eq (E : Env) (K : PX → St → Res) (x0 x1 x2 x3 x9 x10 : PV) (h : PHeap) : ev (E.cx Try.prog kl) lp0 (st0 x0 x1 x2 x3 x9 x10 h) K = body0 E K x0 x1 x2 x3 x9 x10 h := by kernel_rfl
theorem after0_se0_0_1_2_3_9_10_21 (E : Env) (x0 x1 x2 x3 x9 x10 x21 : PV) (h : PHeap) : K0 E (kTop Try.prog Try.f23) (.exit 0) (se0_0_1_2_3_9_10_21 x0 x1 x2 x3 x9 x10 x21 h) =
    (resV x9).bind fun v20 =>
    some (v20, h) := by kernel_rfl
noncomputable def main (E : Env) (x0 x1 x2 x3 : PV) (h : PHeap) : Res :=
    (E.p.buildSlice 27 0 [] h).bind fun v1 =>
    loopK (ev (E.cx Try.prog spec_CellsOf.kl) spec_CellsOf.lp0) E.lf (spec_CellsOf.st0 x0 x1 x2 x3 v1.1 (.int .i64 0) v1.2) (spec_CellsOf.K0 E (kTop Try.prog Try.f23))
theorem main_eq (E : Env) (x0 x1 x2 x3 : PV) (h : PHeap) : runBody (E.cx Try.prog kl) Try.f23 [x0, x1, x2, x3] h = main E x0 x1 x2 x3 h := by kernel_rfl
theorem call_eq (g : Nat → PV) (lf n : Nat) (x0 x1 x2 x3 : PV) (h : PHeap) : CL g lf (n + 1) fn_spec_CellsOf [x0, x1, x2, x3] h = main (env g lf n) x0 x1 x2 x3 h := by
  rw [← main_eq]
  show (match Try.prog.funcs[23]? with | some fn => if fn.body.isSome then runBody ⟨Try.prog, g, call Try.prog g KL lf n, KL 23, lf, std Try.prog⟩ fn [x0, x1, x2, x3] h else none | none => none) = _
  rw [Try.func23]
  kernel_rfl
end spec_CellsOf
namespace laws_ascend
noncomputable def lp0 : Code := (codeAt (bodyOf Try.f24) [1, 0, 1, 0, 0])
def st0 (x0 x3 : PV) (h : PHeap) : St := ⟨[x0, .junk, .junk, x3, .junk, .junk, .junk, .junk, .junk, .junk, .junk, .junk, .junk, .junk, .junk, .junk, .junk, .junk, .junk, .junk], h⟩
def sr_2 (x2 : PV) (h : PHeap) : St := ⟨[.junk, .junk, x2, .junk, .junk, .junk, .junk, .junk, .junk, .junk, .junk, .junk, .junk, .junk, .junk, .junk, .junk, .junk, .junk, .junk], h⟩
def se0_0_3_7 (x0 x3 x7 : PV) (h : PHeap) : St := ⟨[x0, .junk, .junk, x3, .junk, .junk, .junk, x7, .junk, .junk, .junk, .junk, .junk, .junk, .junk, .junk, .junk, .junk, .junk, .junk], h⟩
noncomputable def K0 (E : Env) (K : PX → St → Res) : PX → St → Res := (kBlock 0 (kSeq (ev (E.cx Try.prog kl) (codeAt (bodyOf Try.f24) [1, 1])) K))
@[simp] theorem K0_ret (E : Env) (K : PX → St → Res) (s : St) : K0 E K .ret s = K .ret s := by kernel_rfl
noncomputable def body0 (E : Env) (K : PX → St → Res) (x0 x3 : PV) (h : PHeap) : Res :=
    (E.p.len 27 x0).bind fun v11 =>
    (E.p.bin .lss 3 x3 v11).bind fun v12 =>
    condP v12
     (
      (E.p.bin .sub 3 x3 (.int .i64 1)).bind fun v13 =>
      (E.p.indexAddr 27 x0 v13).bind fun v14 =>
      (E.p.load 3 v14 h).bind fun v15 =>
      (E.p.indexAddr 27 x0 x3).bind fun v16 =>
      (E.p.load 3 v16 h).bind fun v17 =>
      (E.p.bin .geq 3 v15 v17).bind fun v18 =>
      condP v18
       (
        K .ret (sr_2 (.bool false) h))
       (
        (E.p.bin .add 3 x3 (.int .i64 1)).bind fun v19 =>
        K .normal (st0 x0 v19 h)))
     (
      K (.exit 0) (se0_0_3_7 x0 x3 v12 h))
theorem body0_eq (E : Env) (K : PX → St → Res) (x0 x3 : PV) (h : PHeap) : ev (E.cx Try.prog kl) lp0 (st0 x0 x3 h) K = body0 E K x0 x3 h := by kernel_rfl
theorem after0_se0_0_3_7 (E : Env) (x0 x3 x7 : PV) (h : PHeap) : K0 E (kTop Try.prog Try.f24) (.exit 0) (se0_0_3_7 x0 x3 x7 h) =
    (resV (.bool true)).bind fun v10 =>
    some (v10, h) := by kernel_rfl
theorem top_sr_2 (x2 : PV) (h : PHeap) : kTop Try.prog Try.f24 .ret (sr_2 x2 h) =
    (resV x2).bind fun v20 =>
    some (v20, h) := by kernel_rfl
noncomputable def main (E : Env) (x0 : PV) (h : PHeap) : Res :=
    loopK (ev (E.cx Try.prog laws_ascend.kl) laws_ascend.lp0) E.lf (laws_ascend.st0 x0 (.int .i64 1) h) (laws_ascend.K0 E (kTop Try.prog Try.f24))
theorem main_eq (E : Env) (x0 : PV) (h : PHeap) : runBody (E.cx Try.prog kl) Try.f24 [x0] h = main E x0 h := by kernel_rfl
theorem call_eq (g : Nat → PV) (lf n : Nat) (x0 : PV) (h : PHeap) : CL g lf (n + 1) fn_laws_ascend [x0] h = main (env g lf n) x0 h := by
  rw [← main_eq]
  show (match Try.prog.funcs[24]? with | some fn => if fn.body.isSome then runBody ⟨Try.prog, g, call Try.prog g KL lf n, KL 24, lf, std Try.prog⟩ fn [x0] h else none | none => none) = _
  rw [Try.func24]
  kernel_rfl
end laws_ascend
namespace spec_DrawHalfTurned
noncomputable def main (E : Env) (x0 : PV) (h : PHeap) : Res :=
    (E.C fn_spec_l20Open [x0] h).bind fun v1 =>
    (E.C fn_spec_l20Position [v1.1, (.int .i64 9)] v1.2).bind fun v2 =>
    (E.p.extract v2.1 0).bind fun v3 =>
    (E.p.extract v2.1 1).bind fun v4 =>
    (E.p.extract v2.1 2).bind fun v5 =>
    (resV v3).bind fun v6 =>
    (resV v4).bind fun v7 =>
    (resV v5).bind fun v8 =>
    some (.tup [v6, v7, v8], v2.2)
theorem main_eq (E : Env) (x0 : PV) (h : PHeap) : runBody (E.cx Try.prog kl) Try.f25 [x0] h = main E x0 h := by kernel_rfl
theorem call_eq (g : Nat → PV) (lf n : Nat) (x0 : PV) (h : PHeap) : CL g lf (n + 1) fn_spec_DrawHalfTurned [x0] h = main (env g lf n) x0 h := by
  rw [← main_eq]
  show (match Try.prog.funcs[25]? with | some fn => if fn.body.isSome then runBody ⟨Try.prog, g, call Try.prog g KL lf n, KL 25, lf, std Try.prog⟩ fn [x0] h else none | none => none) = _
  rw [Try.func25]
  kernel_rfl
end spec_DrawHalfTurned
namespace impl_HalfTurned
noncomputable def lp0 : Code := (codeAt (bodyOf Try.f26) [1, 1, 1, 0, 1, 0, 0])
def st0 (x2 x7 x18 x19 x20 : PV) (h : PHeap) : St := ⟨[.junk, .junk, x2, .junk, .junk, .junk, .junk, x7, .junk, .junk, .junk, .junk, .junk, .junk, .junk, .junk, .junk, .junk, x18, x19, x20, .junk, .junk, .junk, .junk, .junk, .junk, .junk, .junk, .junk, .junk, .junk, .junk, .junk, .junk], h⟩
def se0_2_7_18_19_20_21 (x2 x7 x18 x19 x20 x21 : PV) (h : PHeap) : St := ⟨[.junk, .junk, x2, .junk, .junk, .junk, .junk, x7, .junk, .junk, .junk, .junk, .junk, .junk, .junk, .junk, .junk, .junk, x18, x19, x20, x21, .junk, .junk, .junk, .junk, .junk, .junk, .junk, .junk, .junk, .junk, .junk, .junk, .junk], h⟩
noncomputable def K0 (E : Env) (K : PX → St → Res) : PX → St → Res := (kBlock 0 (kSeq (ev (E.cx Try.prog kl) (codeAt (bodyOf Try.f26) [1, 1, 1, 1])) K))
@[simp] theorem K0_ret (E : Env) (K : PX → St → Res) (s : St) : K0 E K .ret s = K .ret s := by kernel_rfl
noncomputable def body0 (E : Env) (K : PX → St → Res) (x2 x7 x18 x19 x20 : PV) (h : PHeap) : Res :=
    (E.p.bin .lss 3 x20 x19).bind fun v17 =>
    condP v17
     (
      (E.p.indexAddr 27 x18 x20).bind fun v18 =>
      (E.p.load 3 v18 h).bind fun v19 =>
      (E.p.len 27 x2).bind fun v20 =>
      (E.p.bin .sub 3 v20 (.int .i64 1)).bind fun v21 =>
      (E.p.bin .sub 3 v21 x20).bind fun v22 =>
      (E.p.indexAddr 27 x7 v22).bind fun v23 =>
      (E.p.store 3 v23 v19 h).bind fun v24 =>
      (E.p.bin .add 3 x20 (.int .i64 1)).bind fun v25 =>
      K .normal (st0 x2 x7 x18 x19 v25 v24))
     (
      K (.exit 0) (se0_2_7_18_19_20_21 x2 x7 x18 x19 x20 v17 h))
theorem body0_eq (E : Env) (K : PX → St → Res) (x2 x7 x18 x19 x20 : PV) (h : PHeap) : ev (E.cx Try.prog kl) lp0 (st0 x2 x7 x18 x19 x20 h) K = body0 E K x2 x7 x18 x19 x20 h := by kernel_rfl
theorem after0_se0_2_7_18_19_20_21 (E : Env) (x2 x7 x18 x19 x20 x21 : PV) (h : PHeap) : K0 E (kTop Try.prog Try.f26) (.exit 0) (se0_2_7_18_19_20_21 x2 x7 x18 x19 x20 x21 h) =
    (resV x7).bind fun v16 =>
    some (v16, h) := by kernel_rfl
noncomputable def main (E : Env) (x0 x1 x2 : PV) (h : PHeap) : Res :=
    (E.C fn_impl_PositionOk [x0, x1, x2] h).bind fun v1 =>
    (E.p.un .not v1.1).bind fun v2 =>
    condP v2
     (
      (resV .nilsl).bind fun v3 =>
      some (v3, v1.2))
     (
      (E.p.len 27 x2).bind fun v4 =>
      (E.p.make 27 v4 v4 v1.2).bind fun v5 =>
      (E.p.len 27 x2).bind fun v6 =>
      loopK (ev (E.cx Try.prog impl_HalfTurned.kl) impl_HalfTurned.lp0) E.lf (impl_HalfTurned.st0 x2 v5.1 x2 v6 (.int .i64 0) v5.2) (impl_HalfTurned.K0 E (kTop Try.prog Try.f26)))
theorem main_eq (E : Env) (x0 x1 x2 : PV) (h : PHeap) : runBody (E.cx Try.prog kl) Try.f26 [x0, x1, x2] h = main E x0 x1 x2 h := by kernel_rfl
theorem call_eq (g : Nat → PV) (lf n : Nat) (x0 x1 x2 : PV) (h : PHeap) : CL g lf (n + 1) fn_impl_HalfTurned [x0, x1, x2] h = main (env g lf n) x0 x1 x2 h := by
  rw [← main_eq]
  show (match Try.prog.funcs[26]? with | some fn => if fn.body.isSome then runBody ⟨Try.prog, g, call Try.prog g KL lf n, KL 26, lf, std Try.prog⟩ fn [x0, x1, x2] h else none | none => none) = _
  rw [Try.func26]
  kernel_rfl
end impl_HalfTurned
namespace spec_HalfTurned
noncomputable def lp0 : Code := (codeAt (bodyOf Try.f27) [1, 1, 0, 1, 0, 0])
def st0 (x0 x1 x2 x7 x8 : PV) (h : PHeap) : St := ⟨[x0, x1, x2, .junk, .junk, .junk, .junk, x7, x8, .junk, .junk, .junk, .junk, .junk, .junk, .junk, .junk, .junk, .junk, .junk, .junk, .junk, .junk, .junk, .junk, .junk, .junk, .junk, .junk, .junk, .junk], h⟩
def se0_0_1_2_7_8_20 (x0 x1 x2 x7 x8 x20 : PV) (h : PHeap) : St := ⟨[x0, x1, x2, .junk, .junk, .junk, .junk, x7, x8, .junk, .junk, .junk, .junk, .junk, .junk, .junk, .junk, .junk, .junk, .junk, x20, .junk, .junk, .junk, .junk, .junk, .junk, .junk, .junk, .junk, .junk], h⟩
noncomputable def K0 (E : Env) (K : PX → St → Res) : PX → St → Res := (kBlock 0 (kSeq (ev (E.cx Try.prog kl) (codeAt (bodyOf Try.f27) [1, 1, 1])) K))
@[simp] theorem K0_ret (E : Env) (K : PX → St → Res) (s : St) : K0 E K .ret s = K .ret s := by kernel_rfl
noncomputable def body0 (E : Env) (K : PX → St → Res) (x0 x1 x2 x7 x8 : PV) (h : PHeap) : Res :=
    (E.p.bin .geq 3 x8 (.int .i64 0)).bind fun v20 =>
    (wantV v20 true).bind fun v21 =>
    (bif v21 then some (x0, h) else some (.tup [], h)).bind fun v22 =>
    (wantV v20 true).bind fun v23 =>
    (bif v23 then some (x1, v22.2) else some (.tup [], v22.2)).bind fun v24 =>
    (wantV v20 true).bind fun v25 =>
    (bif v25 then some (x2, v24.2) else some (.tup [], v24.2)).bind fun v26 =>
    (wantV v20 true).bind fun v27 =>
    (bif v27 then E.C fn_spec_PositionOk [v22.1, v24.1, v26.1] v26.2 else some (.tup [], v26.2)).bind fun v28 =>
    (E.p.pick v20 v28.1 (.bool false)).bind fun v29 =>
    condP v29
     (
      (E.p.indexAddr 27 x2 x8).bind fun v30 =>
      (E.p.load 3 v30 v28.2).bind fun v31 =>
      (E.p.buildSlice 27 1 [(0, v31)] v28.2).bind fun v32 =>
      (E.p.append 27 27 x7 v32.1 v32.2).bind fun v33 =>
      (E.p.bin .sub 3 x8 (.int .i64 1)).bind fun v34 =>
      K .normal (st0 x0 x1 x2 v33.1 v34 v33.2))
     (
      K (.exit 0) (se0_0_1_2_7_8_20 x0 x1 x2 x7 x8 v29 v28.2))
theorem body0_eq (E : Env) (K : PX → St → Res) (x0 x1 x2 x7 x8 : PV) (h : PHeap) : ev (E.cx Try.prog kl) lp0 (st0 x0 x1 x2 x7 x8 h) K = body0 E K x0 x1 x2 x7 x8 h := by kernel_rfl
theorem after0_se0_0_1_2_7_8_20 (E : Env) (x0 x1 x2 x7 x8 x20 : PV) (h : PHeap) : K0 E (kTop Try.prog Try.f27) (.exit 0) (se0_0_1_2_7_8_20 x0 x1 x2 x7 x8 x20 h) =
    (resV x7).bind fun v19 =>
    some (v19, h) := by kernel_rfl
noncomputable def main (E : Env) (x0 x1 x2 : PV) (h : PHeap) : Res :=
    (E.p.buildSlice 27 0 [] h).bind fun v1 =>
    (E.p.len 27 x2).bind fun v2 =>
    (E.p.bin .sub 3 v2 (.int .i64 1)).bind fun v3 =>
    loopK (ev (E.cx Try.prog spec_HalfTurned.kl) spec_HalfTurned.lp0) E.lf (spec_HalfTurned.st0 x0 x1 x2 v1.1 v3 v1.2) (spec_HalfTurned.K0 E (kTop Try.prog Try.f27))
theorem main_eq (E : Env) (x0 x1 x2 : PV) (h : PHeap) : runBody (E.cx Try.prog kl) Try.f27 [x0, x1, x2] h = main E x0 x1 x2 h := by kernel_rfl
theorem call_eq (g : Nat → PV) (lf n : Nat) (x0 x1 x2 : PV) (h : PHeap) : CL g lf (n + 1) fn_spec_HalfTurned [x0, x1, x2] h = main (env g lf n) x0 x1 x2 h := by
  rw [← main_eq]
  show (match Try.prog.funcs[27]? with | some fn => if fn.body.isSome then runBody ⟨Try.prog, g, call Try.prog g KL lf n, KL 27, lf, std Try.prog⟩ fn [x0, x1, x2] h else none | none => none) = _
  rw [Try.func27]
  kernel_rfl
end spec_HalfTurned
namespace spec_DrawMirrored
noncomputable def main (E : Env) (x0 : PV) (h : PHeap) : Res :=
    (E.C fn_spec_l20Open [x0] h).bind fun v1 =>
    (E.C fn_spec_l20Position [v1.1, (.int .i64 9)] v1.2).bind fun v2 =>
    (E.p.extract v2.1 0).bind fun v3 =>
    (E.p.extract v2.1 1).bind fun v4 =>
    (E.p.extract v2.1 2).bind fun v5 =>
    (resV v3).bind fun v6 =>
    (resV v4).bind fun v7 =>
    (resV v5).bind fun v8 =>
    some (.tup [v6, v7, v8], v2.2)
theorem main_eq (E : Env) (x0 : PV) (h : PHeap) : runBody (E.cx Try.prog kl) Try.f28 [x0] h = main E x0 h := by kernel_rfl
theorem call_eq (g : Nat → PV) (lf n : Nat) (x0 : PV) (h : PHeap) : CL g lf (n + 1) fn_spec_DrawMirrored [x0] h = main (env g lf n) x0 h := by
  rw [← main_eq]
  show (match Try.prog.funcs[28]? with | some fn => if fn.body.isSome then runBody ⟨Try.prog, g, call Try.prog g KL lf n, KL 28, lf, std Try.prog⟩ fn [x0] h else none | none => none) = _
  rw [Try.func28]
  kernel_rfl
end spec_DrawMirrored
namespace impl_Mirrored
noncomputable def lp0 : Code := (codeAt (bodyOf Try.f29) [1, 1, 1, 0, 1, 0, 0])
def st0 (x0 x1 x7 x18 x19 x20 : PV) (h : PHeap) : St := ⟨[x0, x1, .junk, .junk, .junk, .junk, .junk, x7, .junk, .junk, .junk, .junk, .junk, .junk, .junk, .junk, .junk, .junk, x18, x19, x20, .junk, .junk, .junk, .junk, .junk, .junk, .junk, .junk, .junk, .junk, .junk, .junk, .junk, .junk], h⟩
def se0_0_1_7_18_19_20_21 (x0 x1 x7 x18 x19 x20 x21 : PV) (h : PHeap) : St := ⟨[x0, x1, .junk, .junk, .junk, .junk, .junk, x7, .junk, .junk, .junk, .junk, .junk, .junk, .junk, .junk, .junk, .junk, x18, x19, x20, x21, .junk, .junk, .junk, .junk, .junk, .junk, .junk, .junk, .junk, .junk, .junk, .junk, .junk], h⟩
noncomputable def K0 (E : Env) (K : PX → St → Res) : PX → St → Res := (kBlock 0 (kSeq (ev (E.cx Try.prog kl) (codeAt (bodyOf Try.f29) [1, 1, 1, 1])) K))
@[simp] theorem K0_ret (E : Env) (K : PX → St → Res) (s : St) : K0 E K .ret s = K .ret s := by kernel_rfl
noncomputable def body0 (E : Env) (K : PX → St → Res) (x0 x1 x7 x18 x19 x20 : PV) (h : PHeap) : Res :=
    (E.p.bin .lss 3 x20 x19).bind fun v16 =>
    condP v16
     (
      (E.p.indexAddr 27 x18 x20).bind fun v17 =>
      (E.p.load 3 v17 h).bind fun v18 =>
      (E.C fn_impl_mirroredCell [x0, x1, x20] h).bind fun v19 =>
      (E.C fn_impl_exchanged [v18] v19.2).bind fun v20 =>
      (E.p.indexAddr 27 x7 v19.1).bind fun v21 =>
      (E.p.store 3 v21 v20.1 v20.2).bind fun v22 =>
      (E.p.bin .add 3 x20 (.int .i64 1)).bind fun v23 =>
      K .normal (st0 x0 x1 x7 x18 x19 v23 v22))
     (
      K (.exit 0) (se0_0_1_7_18_19_20_21 x0 x1 x7 x18 x19 x20 v16 h))
theorem body0_eq (E : Env) (K : PX → St → Res) (x0 x1 x7 x18 x19 x20 : PV) (h : PHeap) : ev (E.cx Try.prog kl) lp0 (st0 x0 x1 x7 x18 x19 x20 h) K = body0 E K x0 x1 x7 x18 x19 x20 h := by kernel_rfl
theorem after0_se0_0_1_7_18_19_20_21 (E : Env) (x0 x1 x7 x18 x19 x20 x21 : PV) (h : PHeap) : K0 E (kTop Try.prog Try.f29) (.exit 0) (se0_0_1_7_18_19_20_21 x0 x1 x7 x18 x19 x20 x21 h) =
    (resV x7).bind fun v15 =>
    some (v15, h) := by kernel_rfl
noncomputable def main (E : Env) (x0 x1 x2 : PV) (h : PHeap) : Res :=
    (E.C fn_impl_PositionOk [x0, x1, x2] h).bind fun v1 =>
    (E.p.un .not v1.1).bind fun v2 =>
    condP v2
     (
      (resV .nilsl).bind fun v3 =>
      some (v3, v1.2))
     (
      (E.p.len 27 x2).bind fun v4 =>
      (E.p.make 27 v4 v4 v1.2).bind fun v5 =>
      (E.p.len 27 x2).bind fun v6 =>
      loopK (ev (E.cx Try.prog impl_Mirrored.kl) impl_Mirrored.lp0) E.lf (impl_Mirrored.st0 x0 x1 v5.1 x2 v6 (.int .i64 0) v5.2) (impl_Mirrored.K0 E (kTop Try.prog Try.f29)))
theorem main_eq (E : Env) (x0 x1 x2 : PV) (h : PHeap) : runBody (E.cx Try.prog kl) Try.f29 [x0, x1, x2] h = main E x0 x1 x2 h := by kernel_rfl
theorem call_eq (g : Nat → PV) (lf n : Nat) (x0 x1 x2 : PV) (h : PHeap) : CL g lf (n + 1) fn_impl_Mirrored [x0, x1, x2] h = main (env g lf n) x0 x1 x2 h := by
  rw [← main_eq]
  show (match Try.prog.funcs[29]? with | some fn => if fn.body.isSome then runBody ⟨Try.prog, g, call Try.prog g KL lf n, KL 29, lf, std Try.prog⟩ fn [x0, x1, x2] h else none | none => none) = _
  rw [Try.func29]
  kernel_rfl
end impl_Mirrored
namespace spec_Mirrored
noncomputable def lp0 : Code := (codeAt (bodyOf Try.f30) [1, 1, 0, 1, 0, 0])
def st0 (x0 x1 x2 x7 x8 : PV) (h : PHeap) : St := ⟨[x0, x1, x2, .junk, .junk, .junk, .junk, x7, x8, .junk, .junk, .junk, .junk, .junk, .junk, .junk, .junk, .junk, .junk, .junk, .junk, .junk, .junk, .junk, .junk, .junk, .junk, .junk, .junk, .junk, .junk, .junk, .junk, .junk, .junk, .junk, .junk, .junk, .junk], h⟩
def se0_0_1_2_7_8_19 (x0 x1 x2 x7 x8 x19 : PV) (h : PHeap) : St := ⟨[x0, x1, x2, .junk, .junk, .junk, .junk, x7, x8, .junk, .junk, .junk, .junk, .junk, .junk, .junk, .junk, .junk, .junk, x19, .junk, .junk, .junk, .junk, .junk, .junk, .junk, .junk, .junk, .junk, .junk, .junk, .junk, .junk, .junk, .junk, .junk, .junk, .junk], h⟩
noncomputable def K0 (E : Env) (K : PX → St → Res) : PX → St → Res := (kBlock 0 (kSeq (ev (E.cx Try.prog kl) (codeAt (bodyOf Try.f30) [1, 1, 1])) K))
@[simp] theorem K0_ret (E : Env) (K : PX → St → Res) (s : St) : K0 E K .ret s = K .ret s := by kernel_rfl
noncomputable def body0 (E : Env) (K : PX → St → Res) (x0 x1 x2 x7 x8 : PV) (h : PHeap) : Res :=
    (E.p.len 27 x2).bind fun v24 =>
    (E.p.bin .lss 3 x8 v24).bind fun v25 =>
    (wantV v25 true).bind fun v26 =>
    (bif v26 then some (x0, h) else some (.tup [], h)).bind fun v27 =>
    (wantV v25 true).bind fun v28 =>
    (bif v28 then some (x1, v27.2) else some (.tup [], v27.2)).bind fun v29 =>
    (wantV v25 true).bind fun v30 =>
    (bif v30 then some (x2, v29.2) else some (.tup [], v29.2)).bind fun v31 =>
    (wantV v25 true).bind fun v32 =>
    (bif v32 then E.C fn_spec_PositionOk [v27.1, v29.1, v31.1] v31.2 else some (.tup [], v31.2)).bind fun v33 =>
    (E.p.pick v25 v33.1 (.bool false)).bind fun v34 =>
    condP v34
     (
      (E.p.bin .rem 3 x8 x0).bind fun v35 =>
      (E.p.bin .mul 3 v35 x1).bind fun v36 =>
      (E.p.bin .quo 3 x8 x0).bind fun v37 =>
      (E.p.bin .add 3 v36 v37).bind fun v38 =>
      (E.p.indexAddr 27 x2 v38).bind fun v39 =>
      (E.p.load 3 v39 v33.2).bind fun v40 =>
      (E.C fn_spec_l1Other [v40] v33.2).bind fun v41 =>
      (E.p.buildSlice 27 1 [(0, v41.1)] v41.2).bind fun v42 =>
      (E.p.append 27 27 x7 v42.1 v42.2).bind fun v43 =>
      (E.p.bin .add 3 x8 (.int .i64 1)).bind fun v44 =>
      K .normal (st0 x0 x1 x2 v43.1 v44 v43.2))
     (
      K (.exit 0) (se0_0_1_2_7_8_19 x0 x1 x2 x7 x8 v34 v33.2))
theorem body0_eq (E : Env) (K : PX → St → Res) (x0 x1 x2 x7 x8 : PV) (h : PHeap) : ev (E.cx Try.prog kl) lp0 (st0 x0 x1 x2 x7 x8 h) K = body0 E K x0 x1 x2 x7 x8 h := by kernel_rfl
theorem after0_se0_0_1_2_7_8_19 (E : Env) (x0 x1 x2 x7 x8 x19 : PV) (h : PHeap) : K0 E (kTop Try.prog Try.f30) (.exit 0) (se0_0_1_2_7_8_19 x0 x1 x2 x7 x8 x19 h) =
    (resV x7).bind fun v23 =>
    some (v23, h) := by kernel_rfl
noncomputable def main (E : Env) (x0 x1 x2 : PV) (h : PHeap) : Res :=
    (E.p.buildSlice 27 0 [] h).bind fun v1 =>
    loopK (ev (E.cx Try.prog spec_Mirrored.kl) spec_Mirrored.lp0) E.lf (spec_Mirrored.st0 x0 x1 x2 v1.1 (.int .i64 0) v1.2) (spec_Mirrored.K0 E (kTop Try.prog Try.f30))
theorem main_eq (E : Env) (x0 x1 x2 : PV) (h : PHeap) : runBody (E.cx Try.prog kl) Try.f30 [x0, x1, x2] h = main E x0 x1 x2 h := by kernel_rfl
theorem call_eq (g : Nat → PV) (lf n : Nat) (x0 x1 x2 : PV) (h : PHeap) : CL g lf (n + 1) fn_spec_Mirrored [x0, x1, x2] h = main (env g lf n) x0 x1 x2 h := by
  rw [← main_eq]
  show (match Try.prog.funcs[30]? with | some fn => if fn.body.isSome then runBody ⟨Try.prog, g, call Try.prog g KL lf n, KL 30, lf, std Try.prog⟩ fn [x0, x1, x2] h else none | none => none) = _
  rw [Try.func30]
  kernel_rfl
end spec_Mirrored
namespace laws_toIntS
noncomputable def lp0 : Code := (codeAt (bodyOf Try.f31) [1, 1, 0, 1, 0, 0])
def st0 (x0 x3 x4 : PV) (h : PHeap) : St := ⟨[x0, .junk, .junk, x3, x4, .junk, .junk, .junk, .junk, .junk, .junk, .junk, .junk, .junk, .junk, .junk, .junk, .junk, .junk, .junk, .junk, .junk], h⟩
def se0_0_3_4_11 (x0 x3 x4 x11 : PV) (h : PHeap) : St := ⟨[x0, .junk, .junk, x3, x4, .junk, .junk, .junk, .junk, .junk, .junk, x11, .junk, .junk, .junk, .junk, .junk, .junk, .junk, .junk, .junk, .junk], h⟩
noncomputable def K0 (E : Env) (K : PX → St → Res) : PX → St → Res := (kBlock 0 (kSeq (ev (E.cx Try.prog kl) (codeAt (bodyOf Try.f31) [1, 1, 1])) K))
@[simp] theorem K0_ret (E : Env) (K : PX → St → Res) (s : St) : K0 E K .ret s = K .ret s := by kernel_rfl
noncomputable def body0 (E : Env) (K : PX → St → Res) (x0 x3 x4 : PV) (h : PHeap) : Res :=
    (E.p.len 27 x0).bind fun v11 =>
    (E.p.bin .lss 3 x4 v11).bind fun v12 =>
    condP v12
     (
      (E.p.indexAddr 27 x0 x4).bind fun v13 =>
      (E.p.load 3 v13 h).bind fun v14 =>
      (E.p.indexAddr 27 x3 x4).bind fun v15 =>
      (E.p.store 3 v15 v14 h).bind fun v16 =>
      (E.p.bin .add 3 x4 (.int .i64 1)).bind fun v17 =>
      K .normal (st0 x0 x3 v17 v16))
     (
      K (.exit 0) (se0_0_3_4_11 x0 x3 x4 v12 h))
theorem body0_eq (E : Env) (K : PX → St → Res) (x0 x3 x4 : PV) (h : PHeap) : ev (E.cx Try.prog kl) lp0 (st0 x0 x3 x4 h) K = body0 E K x0 x3 x4 h := by kernel_rfl
theorem after0_se0_0_3_4_11 (E : Env) (x0 x3 x4 x11 : PV) (h : PHeap) : K0 E (kTop Try.prog Try.f31) (.exit 0) (se0_0_3_4_11 x0 x3 x4 x11 h) =
    (resV x3).bind fun v10 =>
    some (v10, h) := by kernel_rfl
noncomputable def main (E : Env) (x0 : PV) (h : PHeap) : Res :=
    (E.p.len 27 x0).bind fun v1 =>
    (E.p.make 27 v1 v1 h).bind fun v2 =>
    loopK (ev (E.cx Try.prog laws_toIntS.kl) laws_toIntS.lp0) E.lf (laws_toIntS.st0 x0 v2.1 (.int .i64 0) v2.2) (laws_toIntS.K0 E (kTop Try.prog Try.f31))
theorem main_eq (E : Env) (x0 : PV) (h : PHeap) : runBody (E.cx Try.prog kl) Try.f31 [x0] h = main E x0 h := by kernel_rfl
theorem call_eq (g : Nat → PV) (lf n : Nat) (x0 : PV) (h : PHeap) : CL g lf (n + 1) fn_laws_toIntS [x0] h = main (env g lf n) x0 h := by
  rw [← main_eq]
  show (match Try.prog.funcs[31]? with | some fn => if fn.body.isSome then runBody ⟨Try.prog, g, call Try.prog g KL lf n, KL 31, lf, std Try.prog⟩ fn [x0] h else none | none => none) = _
  rw [Try.func31]
  kernel_rfl
end laws_toIntS
namespace laws_eqIntS
noncomputable def lp0 : Code := (codeAt (bodyOf Try.f32) [1, 1, 0, 1, 0, 0])
def st0 (x0 x1 x5 : PV) (h : PHeap) : St := ⟨[x0, x1, .junk, .junk, .junk, x5, .junk, .junk, .junk, .junk, .junk, .junk, .junk, .junk, .junk, .junk, .junk, .junk, .junk, .junk, .junk, .junk, .junk, .junk, .junk, .junk], h⟩
def sr_4 (x4 : PV) (h : PHeap) : St := ⟨[.junk, .junk, .junk, .junk, x4, .junk, .junk, .junk, .junk, .junk, .junk, .junk, .junk, .junk, .junk, .junk, .junk, .junk, .junk, .junk, .junk, .junk, .junk, .junk, .junk, .junk], h⟩
def se0_0_1_5_14 (x0 x1 x5 x14 : PV) (h : PHeap) : St := ⟨[x0, x1, .junk, .junk, .junk, x5, .junk, .junk, .junk, .junk, .junk, .junk, .junk, .junk, x14, .junk, .junk, .junk, .junk, .junk, .junk, .junk, .junk, .junk, .junk, .junk], h⟩
noncomputable def K0 (E : Env) (K : PX → St → Res) : PX → St → Res := (kBlock 0 (kSeq (ev (E.cx Try.prog kl) (codeAt (bodyOf Try.f32) [1, 1, 1])) K))
@[simp] theorem K0_ret (E : Env) (K : PX → St → Res) (s : St) : K0 E K .ret s = K .ret s := by kernel_rfl
noncomputable def body0 (E : Env) (K : PX → St → Res) (x0 x1 x5 : PV) (h : PHeap) : Res :=
    (E.p.len 27 x0).bind fun v14 =>
    (E.p.bin .lss 3 x5 v14).bind fun v15 =>
    condP v15
     (
      (E.p.indexAddr 27 x0 x5).bind fun v16 =>
      (E.p.load 3 v16 h).bind fun v17 =>
      (E.p.indexAddr 27 x1 x5).bind fun v18 =>
      (E.p.load 3 v18 h).bind fun v19 =>
      (E.p.bin .neq 3 v17 v19).bind fun v20 =>
      condP v20
       (
        K .ret (sr_4 (.bool false) h))
       (
        (E.p.bin .add 3 x5 (.int .i64 1)).bind fun v21 =>
        K .normal (st0 x0 x1 v21 h)))
     (
      K (.exit 0) (se0_0_1_5_14 x0 x1 x5 v15 h))
theorem body0_eq (E : Env) (K : PX → St → Res) (x0 x1 x5 : PV) (h : PHeap) : ev (E.cx Try.prog kl) lp0 (st0 x0 x1 x5 h) K = body0 E K x0 x1 x5 h := by kernel_rfl
theorem after0_se0_0_1_5_14 (E : Env) (x0 x1 x5 x14 : PV) (h : PHeap) : K0 E (kTop Try.prog Try.f32) (.exit 0) (se0_0_1_5_14 x0 x1 x5 x14 h) =
    (resV (.bool true)).bind fun v13 =>
    some (v13, h) := by kernel_rfl
theorem top_sr_4 (x4 : PV) (h : PHeap) : kTop Try.prog Try.f32 .ret (sr_4 x4 h) =
    (resV x4).bind fun v22 =>
    some (v22, h) := by kernel_rfl
noncomputable def main (E : Env) (x0 x1 : PV) (h : PHeap) : Res :=
    (E.p.len 27 x0).bind fun v1 =>
    (E.p.len 27 x1).bind fun v2 =>
    (E.p.bin .neq 3 v1 v2).bind fun v3 =>
    condP v3
     (
      (resV (.bool false)).bind fun v4 =>
      some (v4, h))
     (
      loopK (ev (E.cx Try.prog laws_eqIntS.kl) laws_eqIntS.lp0) E.lf (laws_eqIntS.st0 x0 x1 (.int .i64 0) h) (laws_eqIntS.K0 E (kTop Try.prog Try.f32)))
theorem main_eq (E : Env) (x0 x1 : PV) (h : PHeap) : runBody (E.cx Try.prog kl) Try.f32 [x0, x1] h = main E x0 x1 h := by kernel_rfl
theorem call_eq (g : Nat → PV) (lf n : Nat) (x0 x1 : PV) (h : PHeap) : CL g lf (n + 1) fn_laws_eqIntS [x0, x1] h = main (env g lf n) x0 x1 h := by
  rw [← main_eq]
  show (match Try.prog.funcs[32]? with | some fn => if fn.body.isSome then runBody ⟨Try.prog, g, call Try.prog g KL lf n, KL 32, lf, std Try.prog⟩ fn [x0, x1] h else none | none => none) = _
  rw [Try.func32]
  kernel_rfl
end laws_eqIntS
namespace laws_markIntS
noncomputable def lp0 : Code := (codeAt (bodyOf Try.f33) [1, 0, 1, 0, 0])
def st0 (x0 x1 x5 : PV) (h : PHeap) : St := ⟨[x0, x1, .junk, .junk, .junk, x5, .junk, .junk, .junk, .junk, .junk, .junk, .junk, .junk, .junk, .junk, .junk, .junk, .junk], h⟩
def se0_0_1_5_9 (x0 x1 x5 x9 : PV) (h : PHeap) : St := ⟨[x0, x1, .junk, .junk, .junk, x5, .junk, .junk, .junk, x9, .junk, .junk, .junk, .junk, .junk, .junk, .junk, .junk, .junk], h⟩
noncomputable def K0 (E : Env) (K : PX → St → Res) : PX → St → Res := (kBlock 0 (kSeq (ev (E.cx Try.prog kl) (codeAt (bodyOf Try.f33) [1, 1])) K))
@[simp] theorem K0_ret (E : Env) (K : PX → St → Res) (s : St) : K0 E K .ret s = K .ret s := by kernel_rfl
noncomputable def body0 (E : Env) (K : PX → St → Res) (x0 x1 x5 : PV) (h : PHeap) : Res :=
    (E.p.len 27 x0).bind fun v8 =>
    (E.p.bin .lss 3 x5 v8).bind fun v9 =>
    condP v9
     (
      (E.p.indexAddr 27 x0 x5).bind fun v10 =>
      (E.p.store 3 v10 x1 h).bind fun v11 =>
      (E.p.bin .add 3 x1 (.int .i64 1)).bind fun v12 =>
      (E.p.bin .add 3 x5 (.int .i64 1)).bind fun v13 =>
      K .normal (st0 x0 v12 v13 v11))
     (
      K (.exit 0) (se0_0_1_5_9 x0 x1 x5 v9 h))
theorem body0_eq (E : Env) (K : PX → St → Res) (x0 x1 x5 : PV) (h : PHeap) : ev (E.cx Try.prog kl) lp0 (st0 x0 x1 x5 h) K = body0 E K x0 x1 x5 h := by kernel_rfl
theorem after0_se0_0_1_5_9 (E : Env) (x0 x1 x5 x9 : PV) (h : PHeap) : K0 E (kTop Try.prog Try.f33) (.exit 0) (se0_0_1_5_9 x0 x1 x5 x9 h) =
    (resV x1).bind fun v7 =>
    some (v7, h) := by kernel_rfl
noncomputable def main (E : Env) (x0 x1 : PV) (h : PHeap) : Res :=
    loopK (ev (E.cx Try.prog laws_markIntS.kl) laws_markIntS.lp0) E.lf (laws_markIntS.st0 x0 x1 (.int .i64 0) h) (laws_markIntS.K0 E (kTop Try.prog Try.f33))
theorem main_eq (E : Env) (x0 x1 : PV) (h : PHeap) : runBody (E.cx Try.prog kl) Try.f33 [x0, x1] h = main E x0 x1 h := by kernel_rfl
theorem call_eq (g : Nat → PV) (lf n : Nat) (x0 x1 : PV) (h : PHeap) : CL g lf (n + 1) fn_laws_markIntS [x0, x1] h = main (env g lf n) x0 x1 h := by
  rw [← main_eq]
  show (match Try.prog.funcs[33]? with | some fn => if fn.body.isSome then runBody ⟨Try.prog, g, call Try.prog g KL lf n, KL 33, lf, std Try.prog⟩ fn [x0, x1] h else none | none => none) = _
  rw [Try.func33]
  kernel_rfl
end laws_markIntS
namespace laws_heldIntS
noncomputable def lp0 : Code := (codeAt (bodyOf Try.f34) [1, 0, 1, 0, 0])
def st0 (x0 x1 x5 : PV) (h : PHeap) : St := ⟨[x0, x1, .junk, .junk, .junk, x5, .junk, .junk, .junk, .junk, .junk, .junk, .junk, .junk, .junk, .junk, .junk, .junk, .junk, .junk, .junk], h⟩
def sr_4 (x4 : PV) (h : PHeap) : St := ⟨[.junk, .junk, .junk, .junk, x4, .junk, .junk, .junk, .junk, .junk, .junk, .junk, .junk, .junk, .junk, .junk, .junk, .junk, .junk, .junk, .junk], h⟩
def se0_0_1_5_9 (x0 x1 x5 x9 : PV) (h : PHeap) : St := ⟨[x0, x1, .junk, .junk, .junk, x5, .junk, .junk, .junk, x9, .junk, .junk, .junk, .junk, .junk, .junk, .junk, .junk, .junk, .junk, .junk], h⟩
noncomputable def K0 (E : Env) (K : PX → St → Res) : PX → St → Res := (kBlock 0 (kSeq (ev (E.cx Try.prog kl) (codeAt (bodyOf Try.f34) [1, 1])) K))
@[simp] theorem K0_ret (E : Env) (K : PX → St → Res) (s : St) : K0 E K .ret s = K .ret s := by kernel_rfl
noncomputable def body0 (E : Env) (K : PX → St → Res) (x0 x1 x5 : PV) (h : PHeap) : Res :=
    (E.p.len 27 x0).bind fun v9 =>
    (E.p.bin .lss 3 x5 v9).bind fun v10 =>
    condP v10
     (
      (E.p.indexAddr 27 x0 x5).bind fun v11 =>
      (E.p.load 3 v11 h).bind fun v12 =>
      (E.p.bin .neq 3 v12 x1).bind fun v13 =>
      condP v13
       (
        K .ret (sr_4 (.int .i64 (-1)) h))
       (
        (E.p.bin .add 3 x1 (.int .i64 1)).bind fun v14 =>
        (E.p.bin .add 3 x5 (.int .i64 1)).bind fun v15 =>
        K .normal (st0 x0 v14 v15 h)))
     (
      K (.exit 0) (se0_0_1_5_9 x0 x1 x5 v10 h))
theorem body0_eq (E : Env) (K : PX → St → Res) (x0 x1 x5 : PV) (h : PHeap) : ev (E.cx Try.prog kl) lp0 (st0 x0 x1 x5 h) K = body0 E K x0 x1 x5 h := by kernel_rfl
theorem after0_se0_0_1_5_9 (E : Env) (x0 x1 x5 x9 : PV) (h : PHeap) : K0 E (kTop Try.prog Try.f34) (.exit 0) (se0_0_1_5_9 x0 x1 x5 x9 h) =
    (resV x1).bind fun v8 =>
    some (v8, h) := by kernel_rfl
theorem top_sr_4 (x4 : PV) (h : PHeap) : kTop Try.prog Try.f34 .ret (sr_4 x4 h) =
    (resV x4).bind fun v16 =>
    some (v16, h) := by kernel_rfl
noncomputable def main (E : Env) (x0 x1 : PV) (h : PHeap) : Res :=
    loopK (ev (E.cx Try.prog laws_heldIntS.kl) laws_heldIntS.lp0) E.lf (laws_heldIntS.st0 x0 x1 (.int .i64 0) h) (laws_heldIntS.K0 E (kTop Try.prog Try.f34))
theorem main_eq (E : Env) (x0 x1 : PV) (h : PHeap) : runBody (E.cx Try.prog kl) Try.f34 [x0, x1] h = main E x0 x1 h := by kernel_rfl
theorem call_eq (g : Nat → PV) (lf n : Nat) (x0 x1 : PV) (h : PHeap) : CL g lf (n + 1) fn_laws_heldIntS [x0, x1] h = main (env g lf n) x0 x1 h := by
  rw [← main_eq]
  show (match Try.prog.funcs[34]? with | some fn => if fn.body.isSome then runBody ⟨Try.prog, g, call Try.prog g KL lf n, KL 34, lf, std Try.prog⟩ fn [x0, x1] h else none | none => none) = _
  rw [Try.func34]
  kernel_rfl
end laws_heldIntS
namespace spec_l20Board
noncomputable def main (E : Env) (x0 x1 : PV) (h : PHeap) : Res :=
    (E.p.buildSlice 27 2 [(0, (.int .i64 1)), (1, (.int .i64 1))] h).bind fun v1 =>
    (E.p.buildSlice 27 2 [(0, (.int .i64 1)), (1, (.int .i64 2))] v1.2).bind fun v2 =>
    (E.p.buildSlice 27 2 [(0, (.int .i64 2)), (1, (.int .i64 1))] v2.2).bind fun v3 =>
    (E.p.buildSlice 27 2 [(0, (.int .i64 2)), (1, (.int .i64 2))] v3.2).bind fun v4 =>
    (E.p.buildSlice 27 2 [(0, (.int .i64 2)), (1, (.int .i64 3))] v4.2).bind fun v5 =>
    (E.p.buildSlice 27 2 [(0, (.int .i64 3)), (1, (.int .i64 2))] v5.2).bind fun v6 =>
    (E.p.buildSlice 27 2 [(0, (.int .i64 3)), (1, (.int .i64 3))] v6.2).bind fun v7 =>
    (E.p.buildSlice 27 2 [(0, (.int .i64 2)), (1, (.int .i64 4))] v7.2).bind fun v8 =>
    (E.p.buildSlice 27 2 [(0, (.int .i64 4)), (1, (.int .i64 2))] v8.2).bind fun v9 =>
    (E.p.buildSlice 27 2 [(0, (.int .i64 1)), (1, (.int .i64 4))] v9.2).bind fun v10 =>
    (E.p.buildSlice 27 2 [(0, (.int .i64 2)), (1, (.int .i64 2))] v10.2).bind fun v11 =>
    (E.p.buildSlice 27 2 [(0, (.int .i64 2)), (1, (.int .i64 3))] v11.2).bind fun v12 =>
    (E.p.buildSlice 27 2 [(0, (.int .i64 3)), (1, (.int .i64 2))] v12.2).bind fun v13 =>
    (E.p.buildSlice 49 13 [(0, v1.1), (1, v2.1), (2, v3.1), (3, v4.1), (4, v5.1), (5, v6.1), (6, v7.1), (7, v8.1), (8, v9.1), (9, v10.1), (10, v11.1), (11, v12.1), (12, v13.1)] v13.2).bind fun v14 =>
    (E.C fn_spec_l20Rd_pick [x0, (.int .i64 13)] v14.2).bind fun v15 =>
    (E.p.indexAddr 49 v14.1 v15.1).bind fun v16 =>
    (E.p.load 27 v16 v15.2).bind fun v17 =>
    (E.C fn_spec_l20Rd_odd [x0, x1] v15.2).bind fun v18 =>
    condP v18.1
     (
      (E.p.buildSlice 27 2 [(0, (.int .i64 0)), (1, (.int .i64 2))] v18.2).bind fun v19 =>
      (E.p.buildSlice 27 2 [(0, (.int .i64 3)), (1, (.int .i64 4))] v19.2).bind fun v20 =>
      (E.p.buildSlice 27 2 [(0, (.int .i64 5)), (1, (.int .i64 1))] v20.2).bind fun v21 =>
      (E.p.buildSlice 27 2 [(0, (.int .i64 2)), (1, (.int .i64 (-1)))] v21.2).bind fun v22 =>
      (E.p.buildSlice 27 2 [(0, (.int .i64 1)), (1, (.int .i64 5))] v22.2).bind fun v23 =>
      (E.p.buildSlice 49 5 [(0, v19.1), (1, v20.1), (2, v21.1), (3, v22.1), (4, v23.1)] v23.2).bind fun v24 =>
      (E.C fn_spec_l20Rd_pick [x0, (.int .i64 5)] v24.2).bind fun v25 =>
      (E.p.indexAddr 49 v24.1 v25.1).bind fun v26 =>
      (E.p.load 27 v26 v25.2).bind fun v27 =>
      (E.p.indexAddr 27 v27 (.int .i64 0)).bind fun v28 =>
      (E.p.load 3 v28 v25.2).bind fun v29 =>
      (E.p.indexAddr 27 v27 (.int .i64 1)).bind fun v30 =>
      (E.p.load 3 v30 v25.2).bind fun v31 =>
      (resV v29).bind fun v32 =>
      (resV v31).bind fun v33 =>
      some (.tup [v32, v33], v25.2))
     (
      (E.p.indexAddr 27 v17 (.int .i64 0)).bind fun v34 =>
      (E.p.load 3 v34 v18.2).bind fun v35 =>
      (E.p.indexAddr 27 v17 (.int .i64 1)).bind fun v36 =>
      (E.p.load 3 v36 v18.2).bind fun v37 =>
      (resV v35).bind fun v38 =>
      (resV v37).bind fun v39 =>
      some (.tup [v38, v39], v18.2))
theorem main_eq (E : Env) (x0 x1 : PV) (h : PHeap) : runBody (E.cx Try.prog kl) Try.f35 [x0, x1] h = main E x0 x1 h := by kernel_rfl
theorem call_eq (g : Nat → PV) (lf n : Nat) (x0 x1 : PV) (h : PHeap) : CL g lf (n + 1) fn_spec_l20Board [x0, x1] h = main (env g lf n) x0 x1 h := by
  rw [← main_eq]
  show (match Try.prog.funcs[35]? with | some fn => if fn.body.isSome then runBody ⟨Try.prog, g, call Try.prog g KL lf n, KL 35, lf, std Try.prog⟩ fn [x0, x1] h else none | none => none) = _
  rw [Try.func35]
  kernel_rfl
end spec_l20Board
namespace spec_l20Open
noncomputable def main (E : Env) (x0 : PV) (h : PHeap) : Res :=
    (E.p.len 22 x0).bind fun v1 =>
    (E.p.bin .gtr 3 v1 (.int .i64 2000)).bind fun v2 =>
    condP v2
     (
      (E.p.slice 22 x0 none (some (.int .i64 2000)) h).bind fun v3 =>
      (E.p.build 51 [(0, v3)]).bind fun v4 =>
      (E.p.box v4 h).bind fun v5 =>
      (resV v5.1).bind fun v6 =>
      some (v6, v5.2))
     (
      (E.p.build 51 [(0, x0)]).bind fun v7 =>
      (E.p.box v7 h).bind fun v8 =>
      (resV v8.1).bind fun v9 =>
      some (v9, v8.2))
theorem main_eq (E : Env) (x0 : PV) (h : PHeap) : runBody (E.cx Try.prog kl) Try.f36 [x0] h = main E x0 h := by kernel_rfl
theorem call_eq (g : Nat → PV) (lf n : Nat) (x0 : PV) (h : PHeap) : CL g lf (n + 1) fn_spec_l20Open [x0] h = main (env g lf n) x0 h := by
  rw [← main_eq]
  show (match Try.prog.funcs[36]? with | some fn => if fn.body.isSome then runBody ⟨Try.prog, g, call Try.prog g KL lf n, KL 36, lf, std Try.prog⟩ fn [x0] h else none | none => none) = _
  rw [Try.func36]
  kernel_rfl
end spec_l20Open
namespace impl_sizeOk
noncomputable def main (E : Env) (x0 : PV) (h : PHeap) : Res :=
    (E.p.bin .geq 3 x0 (.int .i64 1)).bind fun v1 =>
    (wantV v1 true).bind fun v2 =>
    (bif v2 then some (x0, h) else some (.tup [], h)).bind fun v3 =>
    (wantV v1 true).bind fun v4 =>
    (bif v4 then pv v3.2 (E.p.bin .leq 3 v3.1 (.int .i64 4)) else some (.tup [], v3.2)).bind fun v5 =>
    (E.p.pick v1 v5.1 (.bool false)).bind fun v6 =>
    (resV v6).bind fun v7 =>
    some (v7, v5.2)
theorem main_eq (E : Env) (x0 : PV) (h : PHeap) : runBody (E.cx Try.prog kl) Try.f37 [x0] h = main E x0 h := by kernel_rfl
theorem call_eq (g : Nat → PV) (lf n : Nat) (x0 : PV) (h : PHeap) : CL g lf (n + 1) fn_impl_sizeOk [x0] h = main (env g lf n) x0 h := by
  rw [← main_eq]
  show (match Try.prog.funcs[37]? with | some fn => if fn.body.isSome then runBody ⟨Try.prog, g, call Try.prog g KL lf n, KL 37, lf, std Try.prog⟩ fn [x0] h else none | none => none) = _
  rw [Try.func37]
  kernel_rfl
end impl_sizeOk
namespace spec_l1In
noncomputable def main (E : Env) (x0 x1 x2 : PV) (h : PHeap) : Res :=
    (E.p.bin .geq 3 x0 x1).bind fun v1 =>
    (wantV v1 true).bind fun v2 =>
    (bif v2 then some (x0, h) else some (.tup [], h)).bind fun v3 =>
    (wantV v1 true).bind fun v4 =>
    (bif v4 then some (x2, v3.2) else some (.tup [], v3.2)).bind fun v5 =>
    (wantV v1 true).bind fun v6 =>
    (bif v6 then pv v5.2 (E.p.bin .leq 3 v3.1 v5.1) else some (.tup [], v5.2)).bind fun v7 =>
    (E.p.pick v1 v7.1 (.bool false)).bind fun v8 =>
    (resV v8).bind fun v9 =>
    some (v9, v7.2)
theorem main_eq (E : Env) (x0 x1 x2 : PV) (h : PHeap) : runBody (E.cx Try.prog kl) Try.f38 [x0, x1, x2] h = main E x0 x1 x2 h := by kernel_rfl
theorem call_eq (g : Nat → PV) (lf n : Nat) (x0 x1 x2 : PV) (h : PHeap) : CL g lf (n + 1) fn_spec_l1In [x0, x1, x2] h = main (env g lf n) x0 x1 x2 h := by
  rw [← main_eq]
  show (match Try.prog.funcs[38]? with | some fn => if fn.body.isSome then runBody ⟨Try.prog, g, call Try.prog g KL lf n, KL 38, lf, std Try.prog⟩ fn [x0, x1, x2] h else none | none => none) = _
  rw [Try.func38]
  kernel_rfl
end spec_l1In
namespace spec_l20Position
noncomputable def lp0 : Code := (codeAt (bodyOf Try.f39) [1, 1, 1, 1, 0, 1, 0, 0])
def st0 (x0 x1 x7 x8 x9 x10 x11 : PV) (h : PHeap) : St := ⟨[x0, x1, .junk, .junk, .junk, .junk, .junk, x7, x8, x9, x10, x11, .junk, .junk, .junk, .junk, .junk, .junk, .junk, .junk, .junk, .junk, .junk, .junk, .junk, .junk, .junk, .junk, .junk, .junk, .junk, .junk, .junk, .junk, .junk, .junk, .junk, .junk, .junk, .junk, .junk, .junk, .junk, .junk, .junk, .junk, .junk, .junk, .junk, .junk, .junk, .junk, .junk, .junk, .junk, .junk, .junk, .junk, .junk, .junk, .junk, .junk, .junk, .junk, .junk, .junk, .junk, .junk, .junk, .junk, .junk, .junk, .junk], h⟩
def se0_0_1_7_8_9_10_11_32 (x0 x1 x7 x8 x9 x10 x11 x32 : PV) (h : PHeap) : St := ⟨[x0, x1, .junk, .junk, .junk, .junk, .junk, x7, x8, x9, x10, x11, .junk, .junk, .junk, .junk, .junk, .junk, .junk, .junk, .junk, .junk, .junk, .junk, .junk, .junk, .junk, .junk, .junk, .junk, .junk, .junk, x32, .junk, .junk, .junk, .junk, .junk, .junk, .junk, .junk, .junk, .junk, .junk, .junk, .junk, .junk, .junk, .junk, .junk, .junk, .junk, .junk, .junk, .junk, .junk, .junk, .junk, .junk, .junk, .junk, .junk, .junk, .junk, .junk, .junk, .junk, .junk, .junk, .junk, .junk, .junk, .junk], h⟩
noncomputable def K0 (E : Env) (K : PX → St → Res) : PX → St → Res := (kBlock 0 (kSeq (ev (E.cx Try.prog kl) (codeAt (bodyOf Try.f39) [1, 1, 1, 1, 1])) K))
@[simp] theorem K0_ret (E : Env) (K : PX → St → Res) (s : St) : K0 E K .ret s = K .ret s := by kernel_rfl
noncomputable def body0 (E : Env) (K : PX → St → Res) (x0 x1 x7 x8 x9 x10 x11 : PV) (h : PHeap) : Res :=
    (E.p.bin .mul 3 x7 x8).bind fun v58 =>
    (E.p.max v58 [(.int .i64 0)]).bind fun v59 =>
    (E.p.bin .lss 3 x11 v59).bind fun v60 =>
    (wantV v60 true).bind fun v61 =>
    (bif v61 then some (x11, h) else some (.tup [], h)).bind fun v62 =>
    (wantV v60 true).bind fun v63 =>
    (bif v63 then pv v62.2 (E.p.bin .lss 3 v62.1 (.int .i64 9)) else some (.tup [], v62.2)).bind fun v64 =>
    (E.p.pick v60 v64.1 (.bool false)).bind fun v65 =>
    condP v65
     (
      (E.C fn_spec_l20Rd_pick [x0, (.int .i64 3)] v64.2).bind fun v66 =>
      (E.p.bin .gtr 3 x10 (.int .i64 0)).bind fun v67 =>
      (wantV v67 true).bind fun v68 =>
      (bif v68 then some (x0, v66.2) else some (.tup [], v66.2)).bind fun v69 =>
      (wantV v67 true).bind fun v70 =>
      (bif v70 then E.C fn_spec_l20Rd_pick [v69.1, (.int .i64 4)] v69.2 else some (.tup [], v69.2)).bind fun v71 =>
      (wantV v67 true).bind fun v72 =>
      (bif v72 then some (x10, v71.2) else some (.tup [], v71.2)).bind fun v73 =>
      (wantV v67 true).bind fun v74 =>
      (bif v74 then pv v73.2 (E.p.bin .lss 3 v71.1 v73.1) else some (.tup [], v73.2)).bind fun v75 =>
      (E.p.pick v67 v75.1 (.bool false)).bind fun v76 =>
      condP v76
       (
        (E.p.buildSlice 27 1 [(0, (.int .i64 0))] v75.2).bind fun v77 =>
        (E.p.append 27 27 x9 v77.1 v77.2).bind fun v78 =>
        (E.p.bin .add 3 x11 (.int .i64 1)).bind fun v79 =>
        K .normal (st0 x0 x1 x7 x8 v78.1 x10 v79 v78.2))
       (
        (E.p.buildSlice 27 1 [(0, v66.1)] v75.2).bind fun v80 =>
        (E.p.append 27 27 x9 v80.1 v80.2).bind fun v81 =>
        (E.p.bin .add 3 x11 (.int .i64 1)).bind fun v82 =>
        K .normal (st0 x0 x1 x7 x8 v81.1 x10 v82 v81.2)))
     (
      K (.exit 0) (se0_0_1_7_8_9_10_11_32 x0 x1 x7 x8 x9 x10 x11 v65 v64.2))
theorem body0_eq (E : Env) (K : PX → St → Res) (x0 x1 x7 x8 x9 x10 x11 : PV) (h : PHeap) : ev (E.cx Try.prog kl) lp0 (st0 x0 x1 x7 x8 x9 x10 x11 h) K = body0 E K x0 x1 x7 x8 x9 x10 x11 h := by kernel_rfl
theorem after0_se0_0_1_7_8_9_10_11_32 (E : Env) (x0 x1 x7 x8 x9 x10 x11 x32 : PV) (h : PHeap) : K0 E (kTop Try.prog Try.f39) (.exit 0) (se0_0_1_7_8_9_10_11_32 x0 x1 x7 x8 x9 x10 x11 x32 h) =
    (E.p.bin .mul 3 x1 (.int .i64 2)).bind fun v32 =>
    (E.C fn_spec_l20Rd_odd [x0, v32] h).bind fun v33 =>
    condP v33.1
     (
      (E.C fn_spec_l20Rd_pick [x0, (.int .i64 2)] v33.2).bind fun v34 =>
      (E.p.bin .eql 3 v34.1 (.int .i64 0)).bind fun v35 =>
      condP v35
       (
        (E.p.buildSlice 27 1 [(0, (.int .i64 0))] v34.2).bind fun v36 =>
        (E.p.append 27 27 x9 v36.1 v36.2).bind fun v37 =>
        (resV x7).bind fun v38 =>
        (resV x8).bind fun v39 =>
        (resV v37.1).bind fun v40 =>
        some (.tup [v38, v39, v40], v37.2))
       (
        (E.p.len 27 x9).bind fun v41 =>
        (E.p.bin .gtr 3 v41 (.int .i64 0)).bind fun v42 =>
        condP v42
         (
          (E.p.buildSlice 27 2 [(0, (.int .i64 (-1))), (1, (.int .i64 3))] v34.2).bind fun v43 =>
          (E.C fn_spec_l20Rd_pick [x0, (.int .i64 2)] v43.2).bind fun v44 =>
          (E.p.indexAddr 27 v43.1 v44.1).bind fun v45 =>
          (E.p.load 3 v45 v44.2).bind fun v46 =>
          (E.p.indexAddr 27 x9 (.int .i64 0)).bind fun v47 =>
          (E.p.store 3 v47 v46 v44.2).bind fun v48 =>
          (resV x7).bind fun v49 =>
          (resV x8).bind fun v50 =>
          (resV x9).bind fun v51 =>
          some (.tup [v49, v50, v51], v48))
         (
          (resV x7).bind fun v52 =>
          (resV x8).bind fun v53 =>
          (resV x9).bind fun v54 =>
          some (.tup [v52, v53, v54], v34.2))))
     (
      (resV x7).bind fun v55 =>
      (resV x8).bind fun v56 =>
      (resV x9).bind fun v57 =>
      some (.tup [v55, v56, v57], v33.2)) := by kernel_rfl
noncomputable def main (E : Env) (x0 x1 : PV) (h : PHeap) : Res :=
    (E.p.bin .mul 3 x1 (.int .i64 2)).bind fun v1 =>
    (E.C fn_spec_l20Board [x0, v1] h).bind fun v2 =>
    (E.p.extract v2.1 0).bind fun v3 =>
    (E.p.extract v2.1 1).bind fun v4 =>
    (E.p.buildSlice 27 0 [] v2.2).bind fun v5 =>
    (E.C fn_spec_l20Rd_pick [x0, (.int .i64 4)] v5.2).bind fun v6 =>
    loopK (ev (E.cx Try.prog spec_l20Position.kl) spec_l20Position.lp0) E.lf (spec_l20Position.st0 x0 x1 v3 v4 v5.1 v6.1 (.int .i64 0) v6.2) (spec_l20Position.K0 E (kTop Try.prog Try.f39))
theorem main_eq (E : Env) (x0 x1 : PV) (h : PHeap) : runBody (E.cx Try.prog kl) Try.f39 [x0, x1] h = main E x0 x1 h := by kernel_rfl
theorem call_eq (g : Nat → PV) (lf n : Nat) (x0 x1 : PV) (h : PHeap) : CL g lf (n + 1) fn_spec_l20Position [x0, x1] h = main (env g lf n) x0 x1 h := by
  rw [← main_eq]
  show (match Try.prog.funcs[39]? with | some fn => if fn.body.isSome then runBody ⟨Try.prog, g, call Try.prog g KL lf n, KL 39, lf, std Try.prog⟩ fn [x0, x1] h else none | none => none) = _
  rw [Try.func39]
  kernel_rfl
end spec_l20Position
namespace impl_contentOk
noncomputable def main (E : Env) (x0 : PV) (h : PHeap) : Res :=
    (E.p.bin .eql 3 x0 (.int .i64 0)).bind fun v1 =>
    (wantV v1 false).bind fun v2 =>
    (bif v2 then some (x0, h) else some (.tup [], h)).bind fun v3 =>
    (wantV v1 false).bind fun v4 =>
    (bif v4 then pv v3.2 (E.p.bin .eql 3 v3.1 (.int .i64 1)) else some (.tup [], v3.2)).bind fun v5 =>
    (E.p.pick v1 (.bool true) v5.1).bind fun v6 =>
    (wantV v6 false).bind fun v7 =>
    (bif v7 then some (x0, v5.2) else some (.tup [], v5.2)).bind fun v8 =>
    (wantV v6 false).bind fun v9 =>
    (bif v9 then pv v8.2 (E.p.bin .eql 3 v8.1 (.int .i64 2)) else some (.tup [], v8.2)).bind fun v10 =>
    (E.p.pick v6 (.bool true) v10.1).bind fun v11 =>
    (resV v11).bind fun v12 =>
    some (v12, v10.2)
theorem main_eq (E : Env) (x0 : PV) (h : PHeap) : runBody (E.cx Try.prog kl) Try.f40 [x0] h = main E x0 h := by kernel_rfl
theorem call_eq (g : Nat → PV) (lf n : Nat) (x0 : PV) (h : PHeap) : CL g lf (n + 1) fn_impl_contentOk [x0] h = main (env g lf n) x0 h := by
  rw [← main_eq]
  show (match Try.prog.funcs[40]? with | some fn => if fn.body.isSome then runBody ⟨Try.prog, g, call Try.prog g KL lf n, KL 40, lf, std Try.prog⟩ fn [x0] h else none | none => none) = _
  rw [Try.func40]
  kernel_rfl
end impl_contentOk
namespace spec_l20Rd_pick
noncomputable def main (E : Env) (x0 x1 : PV) (h : PHeap) : Res :=
    (E.p.ptr x0).bind fun v1 =>
    (E.p.fieldAddr 51 v1 1).bind fun v2 =>
    (E.p.load 3 v2 h).bind fun v3 =>
    (E.p.bin .add 3 v3 (.int .i64 1)).bind fun v4 =>
    (E.p.ptr x0).bind fun v5 =>
    (E.p.fieldAddr 51 v5 1).bind fun v6 =>
    (E.p.store 3 v6 v4 h).bind fun v7 =>
    (E.p.bin .lss 3 x1 (.int .i64 1)).bind fun v8 =>
    (wantV v8 false).bind fun v9 =>
    (bif v9 then some (x0, v7) else some (.tup [], v7)).bind fun v10 =>
    (wantV v8 false).bind fun v11 =>
    (bif v11 then pv v10.2 (E.p.ptr v10.1) else some (.tup [], v10.2)).bind fun v12 =>
    (wantV v8 false).bind fun v13 =>
    (bif v13 then pv v12.2 (E.p.fieldAddr 51 v12.1 0) else some (.tup [], v12.2)).bind fun v14 =>
    (wantV v8 false).bind fun v15 =>
    (bif v15 then pv v14.2 (E.p.load 22 v14.1 v14.2) else some (.tup [], v14.2)).bind fun v16 =>
    (wantV v8 false).bind fun v17 =>
    (bif v17 then pv v16.2 (E.p.len 22 v16.1) else some (.tup [], v16.2)).bind fun v18 =>
    (wantV v8 false).bind fun v19 =>
    (bif v19 then pv v18.2 (E.p.bin .eql 3 v18.1 (.int .i64 0)) else some (.tup [], v18.2)).bind fun v20 =>
    (E.p.pick v8 (.bool true) v20.1).bind fun v21 =>
    condP v21
     (
      (resV (.int .i64 0)).bind fun v22 =>
      some (v22, v20.2))
     (
      (E.p.ptr x0).bind fun v23 =>
      (E.p.fieldAddr 51 v23 1).bind fun v24 =>
      (E.p.load 3 v24 v20.2).bind fun v25 =>
      (E.p.bin .sub 3 v25 (.int .i64 1)).bind fun v26 =>
      (E.p.ptr x0).bind fun v27 =>
      (E.p.fieldAddr 51 v27 0).bind fun v28 =>
      (E.p.load 22 v28 v20.2).bind fun v29 =>
      (E.p.len 22 v29).bind fun v30 =>
      (E.p.bin .lss 3 v26 v30).bind fun v31 =>
      condP v31
       (
        (E.p.ptr x0).bind fun v32 =>
        (E.p.fieldAddr 51 v32 0).bind fun v33 =>
        (E.p.load 22 v33 v20.2).bind fun v34 =>
        (E.p.indexAddr 22 v34 v26).bind fun v35 =>
        (E.p.load 5 v35 v20.2).bind fun v36 =>
        (E.p.conv 5 3 v36).bind fun v37 =>
        (E.p.bin .rem 3 v37 x1).bind fun v38 =>
        (resV v38).bind fun v39 =>
        some (v39, v20.2))
       (
        (E.p.ptr x0).bind fun v40 =>
        (E.p.fieldAddr 51 v40 0).bind fun v41 =>
        (E.p.load 22 v41 v20.2).bind fun v42 =>
        (E.p.ptr x0).bind fun v43 =>
        (E.p.fieldAddr 51 v43 0).bind fun v44 =>
        (E.p.load 22 v44 v20.2).bind fun v45 =>
        (E.p.len 22 v45).bind fun v46 =>
        (E.p.bin .rem 3 v26 v46).bind fun v47 =>
        (E.p.indexAddr 22 v42 v47).bind fun v48 =>
        (E.p.load 5 v48 v20.2).bind fun v49 =>
        (E.p.conv 5 3 v49).bind fun v50 =>
        (E.p.bin .mul 3 v50 (.int .i64 131)).bind fun v51 =>
        (E.p.ptr x0).bind fun v52 =>
        (E.p.fieldAddr 51 v52 0).bind fun v53 =>
        (E.p.load 22 v53 v20.2).bind fun v54 =>
        (E.p.bin .mul 3 v26 (.int .i64 7)).bind fun v55 =>
        (E.p.bin .add 3 v55 (.int .i64 3)).bind fun v56 =>
        (E.p.ptr x0).bind fun v57 =>
        (E.p.fieldAddr 51 v57 0).bind fun v58 =>
        (E.p.load 22 v58 v20.2).bind fun v59 =>
        (E.p.len 22 v59).bind fun v60 =>
        (E.p.bin .rem 3 v56 v60).bind fun v61 =>
        (E.p.indexAddr 22 v54 v61).bind fun v62 =>
        (E.p.load 5 v62 v20.2).bind fun v63 =>
        (E.p.conv 5 3 v63).bind fun v64 =>
        (E.p.bin .mul 3 v64 (.int .i64 1117)).bind fun v65 =>
        (E.p.bin .add 3 v51 v65).bind fun v66 =>
        (E.p.bin .mul 3 v26 (.int .i64 29)).bind fun v67 =>
        (E.p.bin .add 3 v66 v67).bind fun v68 =>
        (E.p.ptr x0).bind fun v69 =>
        (E.p.fieldAddr 51 v69 0).bind fun v70 =>
        (E.p.load 22 v70 v20.2).bind fun v71 =>
        (E.p.len 22 v71).bind fun v72 =>
        (E.p.bin .quo 3 v26 v72).bind fun v73 =>
        (E.p.bin .mul 3 v73 (.int .i64 53)).bind fun v74 =>
        (E.p.bin .add 3 v68 v74).bind fun v75 =>
        (E.p.bin .quo 3 v75 (.int .i64 64)).bind fun v76 =>
        (E.p.bin .xor 3 v75 v76).bind fun v77 =>
        (E.p.bin .rem 3 v77 x1).bind fun v78 =>
        (resV v78).bind fun v79 =>
        some (v79, v20.2)))
theorem main_eq (E : Env) (x0 x1 : PV) (h : PHeap) : runBody (E.cx Try.prog kl) Try.f41 [x0, x1] h = main E x0 x1 h := by kernel_rfl
theorem call_eq (g : Nat → PV) (lf n : Nat) (x0 x1 : PV) (h : PHeap) : CL g lf (n + 1) fn_spec_l20Rd_pick [x0, x1] h = main (env g lf n) x0 x1 h := by
  rw [← main_eq]
  show (match Try.prog.funcs[41]? with | some fn => if fn.body.isSome then runBody ⟨Try.prog, g, call Try.prog g KL lf n, KL 41, lf, std Try.prog⟩ fn [x0, x1] h else none | none => none) = _
  rw [Try.func41]
  kernel_rfl
end spec_l20Rd_pick
namespace impl_exchanged
noncomputable def main (E : Env) (x0 : PV) (h : PHeap) : Res :=
    (E.p.bin .eql 3 x0 (.int .i64 1)).bind fun v1 =>
    condP v1
     (
      (resV (.int .i64 2)).bind fun v2 =>
      some (v2, h))
     (
      (E.p.bin .eql 3 x0 (.int .i64 2)).bind fun v3 =>
      condP v3
       (
        (resV (.int .i64 1)).bind fun v4 =>
        some (v4, h))
       (
        (resV x0).bind fun v5 =>
        some (v5, h)))
theorem main_eq (E : Env) (x0 : PV) (h : PHeap) : runBody (E.cx Try.prog kl) Try.f42 [x0] h = main E x0 h := by kernel_rfl
theorem call_eq (g : Nat → PV) (lf n : Nat) (x0 : PV) (h : PHeap) : CL g lf (n + 1) fn_impl_exchanged [x0] h = main (env g lf n) x0 h := by
  rw [← main_eq]
  show (match Try.prog.funcs[42]? with | some fn => if fn.body.isSome then runBody ⟨Try.prog, g, call Try.prog g KL lf n, KL 42, lf, std Try.prog⟩ fn [x0] h else none | none => none) = _
  rw [Try.func42]
  kernel_rfl
end impl_exchanged
namespace impl_mirroredCell
noncomputable def main (E : Env) (x0 x1 x2 : PV) (h : PHeap) : Res :=
    (E.p.bin .rem 3 x2 x1).bind fun v1 =>
    (E.p.bin .mul 3 v1 x0).bind fun v2 =>
    (E.p.bin .quo 3 x2 x1).bind fun v3 =>
    (E.p.bin .add 3 v2 v3).bind fun v4 =>
    (resV v4).bind fun v5 =>
    some (v5, h)
theorem main_eq (E : Env) (x0 x1 x2 : PV) (h : PHeap) : runBody (E.cx Try.prog kl) Try.f43 [x0, x1, x2] h = main E x0 x1 x2 h := by kernel_rfl
theorem call_eq (g : Nat → PV) (lf n : Nat) (x0 x1 x2 : PV) (h : PHeap) : CL g lf (n + 1) fn_impl_mirroredCell [x0, x1, x2] h = main (env g lf n) x0 x1 x2 h := by
  rw [← main_eq]
  show (match Try.prog.funcs[43]? with | some fn => if fn.body.isSome then runBody ⟨Try.prog, g, call Try.prog g KL lf n, KL 43, lf, std Try.prog⟩ fn [x0, x1, x2] h else none | none => none) = _
  rw [Try.func43]
  kernel_rfl
end impl_mirroredCell
namespace spec_l1Other
noncomputable def main (E : Env) (x0 : PV) (h : PHeap) : Res :=
    (E.p.bin .eql 3 x0 (.int .i64 0)).bind fun v1 =>
    condP v1
     (
      (resV (.int .i64 0)).bind fun v2 =>
      some (v2, h))
     (
      (E.p.bin .sub 3 (.int .i64 3) x0).bind fun v3 =>
      (resV v3).bind fun v4 =>
      some (v4, h))
theorem main_eq (E : Env) (x0 : PV) (h : PHeap) : runBody (E.cx Try.prog kl) Try.f44 [x0] h = main E x0 h := by kernel_rfl
theorem call_eq (g : Nat → PV) (lf n : Nat) (x0 : PV) (h : PHeap) : CL g lf (n + 1) fn_spec_l1Other [x0] h = main (env g lf n) x0 h := by
  rw [← main_eq]
  show (match Try.prog.funcs[44]? with | some fn => if fn.body.isSome then runBody ⟨Try.prog, g, call Try.prog g KL lf n, KL 44, lf, std Try.prog⟩ fn [x0] h else none | none => none) = _
  rw [Try.func44]
  kernel_rfl
end spec_l1Other
namespace spec_l20Rd_odd
noncomputable def main (E : Env) (x0 x1 : PV) (h : PHeap) : Res :=
    (E.p.bin .gtr 3 x1 (.int .i64 0)).bind fun v1 =>
    (wantV v1 true).bind fun v2 =>
    (bif v2 then some (x0, h) else some (.tup [], h)).bind fun v3 =>
    (wantV v1 true).bind fun v4 =>
    (bif v4 then some (x1, v3.2) else some (.tup [], v3.2)).bind fun v5 =>
    (wantV v1 true).bind fun v6 =>
    (bif v6 then E.C fn_spec_l20Rd_pick [v3.1, v5.1] v5.2 else some (.tup [], v5.2)).bind fun v7 =>
    (wantV v1 true).bind fun v8 =>
    (bif v8 then some (x1, v7.2) else some (.tup [], v7.2)).bind fun v9 =>
    (wantV v1 true).bind fun v10 =>
    (bif v10 then pv v9.2 (E.p.bin .sub 3 v9.1 (.int .i64 1)) else some (.tup [], v9.2)).bind fun v11 =>
    (wantV v1 true).bind fun v12 =>
    (bif v12 then pv v11.2 (E.p.bin .eql 3 v7.1 v11.1) else some (.tup [], v11.2)).bind fun v13 =>
    (E.p.pick v1 v13.1 (.bool false)).bind fun v14 =>
    (resV v14).bind fun v15 =>
    some (v15, v13.2)
theorem main_eq (E : Env) (x0 x1 : PV) (h : PHeap) : runBody (E.cx Try.prog kl) Try.f45 [x0, x1] h = main E x0 x1 h := by kernel_rfl
theorem call_eq (g : Nat → PV) (lf n : Nat) (x0 x1 : PV) (h : PHeap) : CL g lf (n + 1) fn_spec_l20Rd_odd [x0, x1] h = main (env g lf n) x0 x1 h := by
  rw [← main_eq]
  show (match Try.prog.funcs[45]? with | some fn => if fn.body.isSome then runBody ⟨Try.prog, g, call Try.prog g KL lf n, KL 45, lf, std Try.prog⟩ fn [x0, x1] h else none | none => none) = _
  rw [Try.func45]
  kernel_rfl
end spec_l20Rd_odd
end Go.Proofs.Ytaajbolfmhhdcaa.G
