/- Texts of this seat, in their order, put together by program. -/
import Derived.Test.YtmhflbomploidaaDoorI7
import Derived.Test.YtmhflbomploidaaDoorProg
import Derived.KernelRfl
set_option linter.unusedSimpArgs false
set_option linter.unusedVariables false
set_option linter.unusedSectionVars false
/- Of each function of this seat's program its plain form over the interpreter, written by program; each equation is the kernel's. -/
set_option linter.unusedVariables false
set_option maxRecDepth 100000
namespace Go.Proofs.YtmhflbomploidaaDoor.G
open Go Go.Ip Go.Proofs

namespace laws_FnCarrierOk
noncomputable def main (E : Env) (x0 : PV) (h : PHeap) : Res :=
    (E.p.len 22 x0).bind fun v1 =>
    (E.p.bin .gtr 3 v1 (.int .i64 1048576)).bind fun v2 =>
    condP v2
     (
      (resV (.bool true)).bind fun v3 =>
      some (v3, h))
     (
      (E.C fn_spec_DrawCarrierOk [x0] h).bind fun v4 =>
      (E.p.extract v4.1 0).bind fun v5 =>
      (E.p.extract v4.1 1).bind fun v6 =>
      (E.p.extract v4.1 2).bind fun v7 =>
      (E.p.extract v4.1 3).bind fun v8 =>
      (E.p.extract v4.1 4).bind fun v9 =>
      (E.C fn_impl_CarrierOk [v5, v6, v7, v8, v9] v4.2).bind fun v10 =>
      (E.C fn_spec_CarrierOk [v5, v6, v7, v8, v9] v10.2).bind fun v11 =>
      (E.p.bin .neq 4 v10.1 v11.1).bind fun v12 =>
      condP v12
       (
        (resV (.bool false)).bind fun v13 =>
        some (v13, v11.2))
       (
        (E.C fn_spec_PositionOk [v5, v6, v7] v11.2).bind fun v14 =>
        (E.p.un .not v14.1).bind fun v15 =>
        (wantV v15 false).bind fun v16 =>
        (bif v16 then some (v8, v14.2) else some (.tup [], v14.2)).bind fun v17 =>
        (wantV v15 false).bind fun v18 =>
        (bif v18 then pv v17.2 (E.p.bin .gtr 3 v17.1 (.int .i64 2)) else some (.tup [], v17.2)).bind fun v19 =>
        (E.p.pick v15 (.bool true) v19.1).bind fun v20 =>
        condP v20
         (
          (E.p.un .not v10.1).bind fun v21 =>
          (wantV v21 true).bind fun v22 =>
          (bif v22 then E.C fn_laws_alive [] v19.2 else some (.tup [], v19.2)).bind fun v23 =>
          (E.p.pick v21 v23.1 (.bool false)).bind fun v24 =>
          (resV v24).bind fun v25 =>
          some (v25, v23.2))
         (
          (E.p.len 23 v7).bind fun v26 =>
          (E.p.bin .shl 3 (.int .i64 1) v26).bind fun v27 =>
          (E.p.bin .sub 3 v27 (.int .i64 1)).bind fun v28 =>
          (E.C fn_impl_CarrierOk [v5, v6, v7, v8, v28] v19.2).bind fun v29 =>
          (E.p.un .not v10.1).bind fun v30 =>
          (wantV v30 false).bind fun v31 =>
          (bif v31 then some (v29.1, v29.2) else some (.tup [], v29.2)).bind fun v32 =>
          (wantV v30 false).bind fun v33 =>
          (bif v33 then some (v32.1, v32.2) else some (.tup [], v32.2)).bind fun v34 =>
          (wantV v34.1 true).bind fun v35 =>
          (bif v35 then some (v5, v34.2) else some (.tup [], v34.2)).bind fun v36 =>
          (wantV v34.1 true).bind fun v37 =>
          (bif v37 then some (v6, v36.2) else some (.tup [], v36.2)).bind fun v38 =>
          (wantV v34.1 true).bind fun v39 =>
          (bif v39 then some (v7, v38.2) else some (.tup [], v38.2)).bind fun v40 =>
          (wantV v34.1 true).bind fun v41 =>
          (bif v41 then some (v8, v40.2) else some (.tup [], v40.2)).bind fun v42 =>
          (wantV v34.1 true).bind fun v43 =>
          (bif v43 then some (v9, v42.2) else some (.tup [], v42.2)).bind fun v44 =>
          (wantV v34.1 true).bind fun v45 =>
          (bif v45 then E.C fn_impl_ThreatOk [v36.1, v38.1, v40.1, v42.1, v44.1] v44.2 else some (.tup [], v44.2)).bind fun v46 =>
          (wantV v30 false).bind fun v47 =>
          (bif v47 then pv v46.2 (E.p.pick v34.1 v46.1 (.bool false)) else some (.tup [], v46.2)).bind fun v48 =>
          (E.p.pick v30 (.bool true) v48.1).bind fun v49 =>
          (wantV v49 true).bind fun v50 =>
          (bif v50 then some (v29.1, v48.2) else some (.tup [], v48.2)).bind fun v51 =>
          (wantV v49 true).bind fun v52 =>
          (bif v52 then some (v5, v51.2) else some (.tup [], v51.2)).bind fun v53 =>
          (wantV v49 true).bind fun v54 =>
          (bif v54 then some (v6, v53.2) else some (.tup [], v53.2)).bind fun v55 =>
          (wantV v49 true).bind fun v56 =>
          (bif v56 then some (v7, v55.2) else some (.tup [], v55.2)).bind fun v57 =>
          (wantV v49 true).bind fun v58 =>
          (bif v58 then some (v8, v57.2) else some (.tup [], v57.2)).bind fun v59 =>
          (wantV v49 true).bind fun v60 =>
          (bif v60 then pv v59.2 (E.p.bin .sub 3 (.int .i64 3) v59.1) else some (.tup [], v59.2)).bind fun v61 =>
          (wantV v49 true).bind fun v62 =>
          (bif v62 then E.C fn_impl_WinnerOf [v53.1, v55.1, v57.1, v61.1] v61.2 else some (.tup [], v61.2)).bind fun v63 =>
          (wantV v49 true).bind fun v64 =>
          (bif v64 then some (v8, v63.2) else some (.tup [], v63.2)).bind fun v65 =>
          (wantV v49 true).bind fun v66 =>
          (bif v66 then pv v65.2 (E.p.bin .eql 3 v63.1 v65.1) else some (.tup [], v65.2)).bind fun v67 =>
          (wantV v49 true).bind fun v68 =>
          (bif v68 then pv v67.2 (E.p.bin .eql 4 v51.1 v67.1) else some (.tup [], v67.2)).bind fun v69 =>
          (E.p.pick v49 v69.1 (.bool false)).bind fun v70 =>
          (wantV v70 true).bind fun v71 =>
          (bif v71 then E.C fn_laws_alive [] v69.2 else some (.tup [], v69.2)).bind fun v72 =>
          (E.p.pick v70 v72.1 (.bool false)).bind fun v73 =>
          (resV v73).bind fun v74 =>
          some (v74, v72.2))))
theorem main_eq (E : Env) (x0 : PV) (h : PHeap) : runBody (E.cx Tryd.prog kl) Tryd.f3 [x0] h = main E x0 h := by kernel_rfl
theorem call_eq (g : Nat → PV) (lf n : Nat) (x0 : PV) (h : PHeap) : CL g lf (n + 1) fn_laws_FnCarrierOk [x0] h = main (env g lf n) x0 h := by
  rw [← main_eq]
  show (match Tryd.prog.funcs[3]? with | some fn => if fn.body.isSome then runBody ⟨Tryd.prog, g, call Tryd.prog g KL lf n, KL 3, lf, std Tryd.prog⟩ fn [x0] h else none | none => none) = _
  rw [Tryd.func3]
  kernel_rfl
end laws_FnCarrierOk
namespace laws_FnThreatOk
noncomputable def lp0 : Code := (codeAt (bodyOf Tryd.f4) [1, 1, 1, 1, 1, 1, 1, 1, 0, 1, 0, 0])
def st0 (x3 x4 x5 x6 x7 x8 x9 x10 x11 : PV) (h : PHeap) : St := ⟨[.junk, .junk, .junk, x3, x4, x5, x6, x7, x8, x9, x10, x11, .junk, .junk, .junk, .junk, .junk, .junk, .junk, .junk, .junk, .junk, .junk, .junk, .junk, .junk, .junk, .junk, .junk, .junk, .junk, .junk, .junk, .junk, .junk, .junk, .junk, .junk, .junk, .junk, .junk, .junk, .junk, .junk, .junk, .junk, .junk, .junk, .junk, .junk, .junk, .junk, .junk, .junk, .junk, .junk, .junk, .junk, .junk, .junk, .junk, .junk, .junk, .junk, .junk, .junk, .junk, .junk, .junk, .junk, .junk, .junk, .junk, .junk, .junk, .junk, .junk, .junk, .junk, .junk, .junk, .junk, .junk, .junk, .junk, .junk, .junk, .junk, .junk, .junk, .junk, .junk, .junk, .junk, .junk], h⟩
def sr_2 (x2 : PV) (h : PHeap) : St := ⟨[.junk, .junk, x2, .junk, .junk, .junk, .junk, .junk, .junk, .junk, .junk, .junk, .junk, .junk, .junk, .junk, .junk, .junk, .junk, .junk, .junk, .junk, .junk, .junk, .junk, .junk, .junk, .junk, .junk, .junk, .junk, .junk, .junk, .junk, .junk, .junk, .junk, .junk, .junk, .junk, .junk, .junk, .junk, .junk, .junk, .junk, .junk, .junk, .junk, .junk, .junk, .junk, .junk, .junk, .junk, .junk, .junk, .junk, .junk, .junk, .junk, .junk, .junk, .junk, .junk, .junk, .junk, .junk, .junk, .junk, .junk, .junk, .junk, .junk, .junk, .junk, .junk, .junk, .junk, .junk, .junk, .junk, .junk, .junk, .junk, .junk, .junk, .junk, .junk, .junk, .junk, .junk, .junk, .junk, .junk], h⟩
def se0_3_4_5_6_7_8_9_10_11_67 (x3 x4 x5 x6 x7 x8 x9 x10 x11 x67 : PV) (h : PHeap) : St := ⟨[.junk, .junk, .junk, x3, x4, x5, x6, x7, x8, x9, x10, x11, .junk, .junk, .junk, .junk, .junk, .junk, .junk, .junk, .junk, .junk, .junk, .junk, .junk, .junk, .junk, .junk, .junk, .junk, .junk, .junk, .junk, .junk, .junk, .junk, .junk, .junk, .junk, .junk, .junk, .junk, .junk, .junk, .junk, .junk, .junk, .junk, .junk, .junk, .junk, .junk, .junk, .junk, .junk, .junk, .junk, .junk, .junk, .junk, .junk, .junk, .junk, .junk, .junk, .junk, .junk, x67, .junk, .junk, .junk, .junk, .junk, .junk, .junk, .junk, .junk, .junk, .junk, .junk, .junk, .junk, .junk, .junk, .junk, .junk, .junk, .junk, .junk, .junk, .junk, .junk, .junk, .junk, .junk], h⟩
noncomputable def K0 (E : Env) (K : PX → St → Res) : PX → St → Res := (kBlock 0 (kSeq (ev (E.cx Tryd.prog kl) (codeAt (bodyOf Tryd.f4) [1, 1, 1, 1, 1, 1, 1, 1, 1])) K))
@[simp] theorem K0_ret (E : Env) (K : PX → St → Res) (s : St) : K0 E K .ret s = K .ret s := by kernel_rfl
noncomputable def body0 (E : Env) (K : PX → St → Res) (x3 x4 x5 x6 x7 x8 x9 x10 x11 : PV) (h : PHeap) : Res :=
    (E.p.len 23 x10).bind fun v50 =>
    (E.p.bin .lss 3 x11 v50).bind fun v51 =>
    (wantV v51 true).bind fun v52 =>
    (bif v52 then some (x8, h) else some (.tup [], h)).bind fun v53 =>
    (E.p.pick v51 v53.1 (.bool false)).bind fun v54 =>
    condP v54
     (
      (E.p.indexAddr 23 x10 x11).bind fun v55 =>
      (E.p.load 3 v55 v53.2).bind fun v56 =>
      (E.p.bin .shr 3 x7 v56).bind fun v57 =>
      (E.p.bin .rem 3 v57 (.int .i64 2)).bind fun v58 =>
      (E.p.bin .eql 3 v58 (.int .i64 0)).bind fun v59 =>
      condP v59
       (
        K .ret (sr_2 (.bool false) v53.2))
       (
        (E.p.bin .add 3 x11 (.int .i64 1)).bind fun v60 =>
        K .normal (st0 x3 x4 x5 x6 x7 x8 x9 x10 v60 v53.2)))
     (
      K (.exit 0) (se0_3_4_5_6_7_8_9_10_11_67 x3 x4 x5 x6 x7 x8 x9 x10 x11 v54 v53.2))
theorem body0_eq (E : Env) (K : PX → St → Res) (x3 x4 x5 x6 x7 x8 x9 x10 x11 : PV) (h : PHeap) : ev (E.cx Tryd.prog kl) lp0 (st0 x3 x4 x5 x6 x7 x8 x9 x10 x11 h) K = body0 E K x3 x4 x5 x6 x7 x8 x9 x10 x11 h := by kernel_rfl
theorem after0_se0_3_4_5_6_7_8_9_10_11_67 (E : Env) (x3 x4 x5 x6 x7 x8 x9 x10 x11 x67 : PV) (h : PHeap) : K0 E (kTop Tryd.prog Tryd.f4) (.exit 0) (se0_3_4_5_6_7_8_9_10_11_67 x3 x4 x5 x6 x7 x8 x9 x10 x11 x67 h) =
    (E.C fn_impl_ThreatOk [x3, x4, x5, x6, x9] h).bind fun v42 =>
    (E.C fn_impl_WinnerOf [x3, x4, x5, x6] v42.2).bind fun v43 =>
    (E.p.bin .eql 3 v43.1 x6).bind fun v44 =>
    (E.p.bin .eql 4 v42.1 v44).bind fun v45 =>
    (wantV v45 true).bind fun v46 =>
    (bif v46 then E.C fn_laws_alive [] v43.2 else some (.tup [], v43.2)).bind fun v47 =>
    (E.p.pick v45 v47.1 (.bool false)).bind fun v48 =>
    (resV v48).bind fun v49 =>
    some (v49, v47.2) := by kernel_rfl
theorem top_sr_2 (x2 : PV) (h : PHeap) : kTop Tryd.prog Tryd.f4 .ret (sr_2 x2 h) =
    (resV x2).bind fun v61 =>
    some (v61, h) := by kernel_rfl
noncomputable def main (E : Env) (x0 : PV) (h : PHeap) : Res :=
    (E.p.len 22 x0).bind fun v1 =>
    (E.p.bin .gtr 3 v1 (.int .i64 1048576)).bind fun v2 =>
    condP v2
     (
      (resV (.bool true)).bind fun v3 =>
      some (v3, h))
     (
      (E.C fn_spec_DrawThreatOk [x0] h).bind fun v4 =>
      (E.p.extract v4.1 0).bind fun v5 =>
      (E.p.extract v4.1 1).bind fun v6 =>
      (E.p.extract v4.1 2).bind fun v7 =>
      (E.p.extract v4.1 3).bind fun v8 =>
      (E.p.extract v4.1 4).bind fun v9 =>
      (E.C fn_impl_ThreatOk [v5, v6, v7, v8, v9] v4.2).bind fun v10 =>
      (E.C fn_spec_ThreatOk [v5, v6, v7, v8, v9] v10.2).bind fun v11 =>
      (E.p.bin .neq 4 v10.1 v11.1).bind fun v12 =>
      condP v12
       (
        (resV (.bool false)).bind fun v13 =>
        some (v13, v11.2))
       (
        (E.C fn_spec_PositionOk [v5, v6, v7] v11.2).bind fun v14 =>
        (E.p.un .not v14.1).bind fun v15 =>
        (wantV v15 false).bind fun v16 =>
        (bif v16 then some (v8, v14.2) else some (.tup [], v14.2)).bind fun v17 =>
        (wantV v15 false).bind fun v18 =>
        (bif v18 then pv v17.2 (E.p.bin .gtr 3 v17.1 (.int .i64 2)) else some (.tup [], v17.2)).bind fun v19 =>
        (E.p.pick v15 (.bool true) v19.1).bind fun v20 =>
        condP v20
         (
          (E.p.un .not v10.1).bind fun v21 =>
          (wantV v21 true).bind fun v22 =>
          (bif v22 then E.C fn_laws_alive [] v19.2 else some (.tup [], v19.2)).bind fun v23 =>
          (E.p.pick v21 v23.1 (.bool false)).bind fun v24 =>
          (resV v24).bind fun v25 =>
          some (v25, v23.2))
         (
          (E.p.len 23 v7).bind fun v26 =>
          (E.p.bin .shl 3 (.int .i64 1) v26).bind fun v27 =>
          (E.p.bin .sub 3 v27 (.int .i64 1)).bind fun v28 =>
          (E.p.bin .sub 3 (.int .i64 3) v8).bind fun v29 =>
          (E.C fn_impl_WinningCells [v5, v6, v7, v29] v19.2).bind fun v30 =>
          loopK (ev (E.cx Tryd.prog laws_FnThreatOk.kl) laws_FnThreatOk.lp0) E.lf (laws_FnThreatOk.st0 v5 v6 v7 v8 v9 v10.1 v28 v30.1 (.int .i64 0) v30.2) (laws_FnThreatOk.K0 E (kTop Tryd.prog Tryd.f4)))))
theorem main_eq (E : Env) (x0 : PV) (h : PHeap) : runBody (E.cx Tryd.prog kl) Tryd.f4 [x0] h = main E x0 h := by kernel_rfl
theorem call_eq (g : Nat → PV) (lf n : Nat) (x0 : PV) (h : PHeap) : CL g lf (n + 1) fn_laws_FnThreatOk [x0] h = main (env g lf n) x0 h := by
  rw [← main_eq]
  show (match Tryd.prog.funcs[4]? with | some fn => if fn.body.isSome then runBody ⟨Tryd.prog, g, call Tryd.prog g KL lf n, KL 4, lf, std Tryd.prog⟩ fn [x0] h else none | none => none) = _
  rw [Tryd.func4]
  kernel_rfl
end laws_FnThreatOk
namespace laws_FnLeastCarrier
noncomputable def lp0 : Code := (codeAt (bodyOf Tryd.f5) [1, 1, 1, 1, 1, 1, 1, 1, 0, 1, 0, 0])
def st0 (x3 x4 x5 x6 x7 x8 x9 : PV) (h : PHeap) : St := ⟨[.junk, .junk, .junk, x3, x4, x5, x6, x7, x8, x9, .junk, .junk, .junk, .junk, .junk, .junk, .junk, .junk, .junk, .junk, .junk, .junk, .junk, .junk, .junk, .junk, .junk, .junk, .junk, .junk, .junk, .junk, .junk, .junk, .junk, .junk, .junk, .junk, .junk, .junk, .junk, .junk, .junk, .junk, .junk, .junk, .junk, .junk, .junk, .junk, .junk, .junk, .junk, .junk, .junk, .junk, .junk, .junk, .junk, .junk, .junk, .junk, .junk, .junk, .junk, .junk, .junk, .junk, .junk, .junk, .junk, .junk, .junk, .junk, .junk, .junk, .junk, .junk, .junk, .junk, .junk, .junk, .junk, .junk, .junk, .junk, .junk, .junk, .junk, .junk, .junk, .junk, .junk, .junk, .junk, .junk, .junk, .junk, .junk, .junk, .junk, .junk, .junk], h⟩
def sr_2 (x2 : PV) (h : PHeap) : St := ⟨[.junk, .junk, x2, .junk, .junk, .junk, .junk, .junk, .junk, .junk, .junk, .junk, .junk, .junk, .junk, .junk, .junk, .junk, .junk, .junk, .junk, .junk, .junk, .junk, .junk, .junk, .junk, .junk, .junk, .junk, .junk, .junk, .junk, .junk, .junk, .junk, .junk, .junk, .junk, .junk, .junk, .junk, .junk, .junk, .junk, .junk, .junk, .junk, .junk, .junk, .junk, .junk, .junk, .junk, .junk, .junk, .junk, .junk, .junk, .junk, .junk, .junk, .junk, .junk, .junk, .junk, .junk, .junk, .junk, .junk, .junk, .junk, .junk, .junk, .junk, .junk, .junk, .junk, .junk, .junk, .junk, .junk, .junk, .junk, .junk, .junk, .junk, .junk, .junk, .junk, .junk, .junk, .junk, .junk, .junk, .junk, .junk, .junk, .junk, .junk, .junk, .junk, .junk], h⟩
def se0_3_4_5_6_7_8_9_68 (x3 x4 x5 x6 x7 x8 x9 x68 : PV) (h : PHeap) : St := ⟨[.junk, .junk, .junk, x3, x4, x5, x6, x7, x8, x9, .junk, .junk, .junk, .junk, .junk, .junk, .junk, .junk, .junk, .junk, .junk, .junk, .junk, .junk, .junk, .junk, .junk, .junk, .junk, .junk, .junk, .junk, .junk, .junk, .junk, .junk, .junk, .junk, .junk, .junk, .junk, .junk, .junk, .junk, .junk, .junk, .junk, .junk, .junk, .junk, .junk, .junk, .junk, .junk, .junk, .junk, .junk, .junk, .junk, .junk, .junk, .junk, .junk, .junk, .junk, .junk, .junk, .junk, x68, .junk, .junk, .junk, .junk, .junk, .junk, .junk, .junk, .junk, .junk, .junk, .junk, .junk, .junk, .junk, .junk, .junk, .junk, .junk, .junk, .junk, .junk, .junk, .junk, .junk, .junk, .junk, .junk, .junk, .junk, .junk, .junk, .junk, .junk], h⟩
noncomputable def K0 (E : Env) (K : PX → St → Res) : PX → St → Res := (kBlock 0 (kSeq (ev (E.cx Tryd.prog kl) (codeAt (bodyOf Tryd.f5) [1, 1, 1, 1, 1, 1, 1, 1, 1])) K))
@[simp] theorem K0_ret (E : Env) (K : PX → St → Res) (s : St) : K0 E K .ret s = K .ret s := by kernel_rfl
noncomputable def body0 (E : Env) (K : PX → St → Res) (x3 x4 x5 x6 x7 x8 x9 : PV) (h : PHeap) : Res :=
    (E.p.len 23 x5).bind fun v92 =>
    (E.p.bin .lss 3 x9 v92).bind fun v93 =>
    condP v93
     (
      (E.p.bin .shr 3 x7 x9).bind fun v94 =>
      (E.p.bin .rem 3 v94 (.int .i64 2)).bind fun v95 =>
      (E.p.bin .eql 3 v95 (.int .i64 1)).bind fun v96 =>
      (wantV v96 true).bind fun v97 =>
      (bif v97 then some (x5, h) else some (.tup [], h)).bind fun v98 =>
      (wantV v96 true).bind fun v99 =>
      (bif v99 then some (x9, v98.2) else some (.tup [], v98.2)).bind fun v100 =>
      (wantV v96 true).bind fun v101 =>
      (bif v101 then pv v100.2 (E.p.indexAddr 23 v98.1 v100.1) else some (.tup [], v100.2)).bind fun v102 =>
      (wantV v96 true).bind fun v103 =>
      (bif v103 then pv v102.2 (E.p.load 3 v102.1 v102.2) else some (.tup [], v102.2)).bind fun v104 =>
      (wantV v96 true).bind fun v105 =>
      (bif v105 then pv v104.2 (E.p.bin .neq 3 v104.1 (.int .i64 0)) else some (.tup [], v104.2)).bind fun v106 =>
      (wantV v96 true).bind fun v107 =>
      (bif v107 then some (v106.1, v106.2) else some (.tup [], v106.2)).bind fun v108 =>
      (wantV v108.1 false).bind fun v109 =>
      (bif v109 then some (x3, v108.2) else some (.tup [], v108.2)).bind fun v110 =>
      (wantV v108.1 false).bind fun v111 =>
      (bif v111 then some (x4, v110.2) else some (.tup [], v110.2)).bind fun v112 =>
      (wantV v108.1 false).bind fun v113 =>
      (bif v113 then some (x5, v112.2) else some (.tup [], v112.2)).bind fun v114 =>
      (wantV v108.1 false).bind fun v115 =>
      (bif v115 then some (x6, v114.2) else some (.tup [], v114.2)).bind fun v116 =>
      (wantV v108.1 false).bind fun v117 =>
      (bif v117 then some (x7, v116.2) else some (.tup [], v116.2)).bind fun v118 =>
      (wantV v108.1 false).bind fun v119 =>
      (bif v119 then some (x9, v118.2) else some (.tup [], v118.2)).bind fun v120 =>
      (wantV v108.1 false).bind fun v121 =>
      (bif v121 then pv v120.2 (E.p.bin .shl 3 (.int .i64 1) v120.1) else some (.tup [], v120.2)).bind fun v122 =>
      (wantV v108.1 false).bind fun v123 =>
      (bif v123 then pv v122.2 (E.p.bin .sub 3 v118.1 v122.1) else some (.tup [], v122.2)).bind fun v124 =>
      (wantV v108.1 false).bind fun v125 =>
      (bif v125 then E.C fn_impl_CarrierOk [v110.1, v112.1, v114.1, v116.1, v124.1] v124.2 else some (.tup [], v124.2)).bind fun v126 =>
      (wantV v96 true).bind fun v127 =>
      (bif v127 then pv v126.2 (E.p.pick v108.1 (.bool true) v126.1) else some (.tup [], v126.2)).bind fun v128 =>
      (E.p.pick v96 v128.1 (.bool false)).bind fun v129 =>
      condP v129
       (
        K .ret (sr_2 (.bool false) v128.2))
       (
        (E.p.bin .add 3 x9 (.int .i64 1)).bind fun v130 =>
        K .normal (st0 x3 x4 x5 x6 x7 x8 v130 v128.2)))
     (
      K (.exit 0) (se0_3_4_5_6_7_8_9_68 x3 x4 x5 x6 x7 x8 x9 v93 h))
theorem body0_eq (E : Env) (K : PX → St → Res) (x3 x4 x5 x6 x7 x8 x9 : PV) (h : PHeap) : ev (E.cx Tryd.prog kl) lp0 (st0 x3 x4 x5 x6 x7 x8 x9 h) K = body0 E K x3 x4 x5 x6 x7 x8 x9 h := by kernel_rfl
theorem after0_se0_3_4_5_6_7_8_9_68 (E : Env) (x3 x4 x5 x6 x7 x8 x9 x68 : PV) (h : PHeap) : K0 E (kTop Tryd.prog Tryd.f5) (.exit 0) (se0_3_4_5_6_7_8_9_68 x3 x4 x5 x6 x7 x8 x9 x68 h) =
    (wantV x8 true).bind fun v78 =>
    (bif v78 then some (x3, h) else some (.tup [], h)).bind fun v79 =>
    (wantV x8 true).bind fun v80 =>
    (bif v80 then some (x4, v79.2) else some (.tup [], v79.2)).bind fun v81 =>
    (wantV x8 true).bind fun v82 =>
    (bif v82 then some (x5, v81.2) else some (.tup [], v81.2)).bind fun v83 =>
    (wantV x8 true).bind fun v84 =>
    (bif v84 then some (x6, v83.2) else some (.tup [], v83.2)).bind fun v85 =>
    (wantV x8 true).bind fun v86 =>
    (bif v86 then some (x7, v85.2) else some (.tup [], v85.2)).bind fun v87 =>
    (wantV x8 true).bind fun v88 =>
    (bif v88 then E.C fn_impl_CarrierOk [v79.1, v81.1, v83.1, v85.1, v87.1] v87.2 else some (.tup [], v87.2)).bind fun v89 =>
    (E.p.pick x8 v89.1 (.bool false)).bind fun v90 =>
    (resV v90).bind fun v91 =>
    some (v91, v89.2) := by kernel_rfl
theorem top_sr_2 (x2 : PV) (h : PHeap) : kTop Tryd.prog Tryd.f5 .ret (sr_2 x2 h) =
    (resV x2).bind fun v131 =>
    some (v131, h) := by kernel_rfl
noncomputable def main (E : Env) (x0 : PV) (h : PHeap) : Res :=
    (E.p.len 22 x0).bind fun v1 =>
    (E.p.bin .gtr 3 v1 (.int .i64 1048576)).bind fun v2 =>
    condP v2
     (
      (resV (.bool true)).bind fun v3 =>
      some (v3, h))
     (
      (E.C fn_spec_DrawLeastCarrier [x0] h).bind fun v4 =>
      (E.p.extract v4.1 0).bind fun v5 =>
      (E.p.extract v4.1 1).bind fun v6 =>
      (E.p.extract v4.1 2).bind fun v7 =>
      (E.p.extract v4.1 3).bind fun v8 =>
      (E.C fn_impl_LeastCarrier [v5, v6, v7, v8] v4.2).bind fun v9 =>
      (E.C fn_spec_LeastCarrier [v5, v6, v7, v8] v9.2).bind fun v10 =>
      (E.p.bin .neq 3 v9.1 v10.1).bind fun v11 =>
      condP v11
       (
        (resV (.bool false)).bind fun v12 =>
        some (v12, v10.2))
       (
        (E.C fn_spec_PositionOk [v5, v6, v7] v10.2).bind fun v13 =>
        (E.p.un .not v13.1).bind fun v14 =>
        (wantV v14 false).bind fun v15 =>
        (bif v15 then some (v8, v13.2) else some (.tup [], v13.2)).bind fun v16 =>
        (wantV v14 false).bind fun v17 =>
        (bif v17 then pv v16.2 (E.p.bin .gtr 3 v16.1 (.int .i64 2)) else some (.tup [], v16.2)).bind fun v18 =>
        (E.p.pick v14 (.bool true) v18.1).bind fun v19 =>
        condP v19
         (
          (E.p.bin .eql 3 v9.1 (.int .i64 (-1))).bind fun v20 =>
          (wantV v20 true).bind fun v21 =>
          (bif v21 then E.C fn_laws_alive [] v18.2 else some (.tup [], v18.2)).bind fun v22 =>
          (E.p.pick v20 v22.1 (.bool false)).bind fun v23 =>
          (resV v23).bind fun v24 =>
          some (v24, v22.2))
         (
          (E.p.bin .sub 3 (.int .i64 3) v8).bind fun v25 =>
          (E.C fn_impl_WinnerOf [v5, v6, v7, v25] v18.2).bind fun v26 =>
          (E.p.bin .eql 3 v26.1 v8).bind fun v27 =>
          (E.p.bin .lss 3 v9.1 (.int .i64 0)).bind fun v28 =>
          condP v28
           (
            (E.p.bin .eql 3 v9.1 (.int .i64 (-1))).bind fun v29 =>
            (wantV v29 true).bind fun v30 =>
            (bif v30 then some (v27, v26.2) else some (.tup [], v26.2)).bind fun v31 =>
            (wantV v29 true).bind fun v32 =>
            (bif v32 then pv v31.2 (E.p.un .not v31.1) else some (.tup [], v31.2)).bind fun v33 =>
            (E.p.pick v29 v33.1 (.bool false)).bind fun v34 =>
            (wantV v34 true).bind fun v35 =>
            (bif v35 then E.C fn_laws_alive [] v33.2 else some (.tup [], v33.2)).bind fun v36 =>
            (E.p.pick v34 v36.1 (.bool false)).bind fun v37 =>
            (resV v37).bind fun v38 =>
            some (v38, v36.2))
           (
            loopK (ev (E.cx Tryd.prog laws_FnLeastCarrier.kl) laws_FnLeastCarrier.lp0) E.lf (laws_FnLeastCarrier.st0 v5 v6 v7 v8 v9.1 v27 (.int .i64 0) v26.2) (laws_FnLeastCarrier.K0 E (kTop Tryd.prog Tryd.f5))))))
theorem main_eq (E : Env) (x0 : PV) (h : PHeap) : runBody (E.cx Tryd.prog kl) Tryd.f5 [x0] h = main E x0 h := by kernel_rfl
theorem call_eq (g : Nat → PV) (lf n : Nat) (x0 : PV) (h : PHeap) : CL g lf (n + 1) fn_laws_FnLeastCarrier [x0] h = main (env g lf n) x0 h := by
  rw [← main_eq]
  show (match Tryd.prog.funcs[5]? with | some fn => if fn.body.isSome then runBody ⟨Tryd.prog, g, call Tryd.prog g KL lf n, KL 5, lf, std Tryd.prog⟩ fn [x0] h else none | none => none) = _
  rw [Tryd.func5]
  kernel_rfl
end laws_FnLeastCarrier
namespace laws_FnLeastThreat
noncomputable def lp0 : Code := (codeAt (bodyOf Tryd.f6) [1, 1, 1, 1, 1, 1, 1, 1, 1, 1, 1, 0, 1, 0, 0])
def st0 (x3 x4 x5 x6 x7 x8 x9 x10 x11 x12 : PV) (h : PHeap) : St := ⟨[.junk, .junk, .junk, x3, x4, x5, x6, x7, x8, x9, x10, x11, x12, .junk, .junk, .junk, .junk, .junk, .junk, .junk, .junk, .junk, .junk, .junk, .junk, .junk, .junk, .junk, .junk, .junk, .junk, .junk, .junk, .junk, .junk, .junk, .junk, .junk, .junk, .junk, .junk, .junk, .junk, .junk, .junk, .junk, .junk, .junk, .junk, .junk, .junk, .junk, .junk, .junk, .junk, .junk, .junk, .junk, .junk, .junk, .junk, .junk, .junk, .junk, .junk, .junk, .junk, .junk, .junk, .junk, .junk, .junk, .junk, .junk, .junk, .junk, .junk, .junk, .junk, .junk, .junk, .junk, .junk, .junk, .junk, .junk, .junk, .junk, .junk, .junk, .junk, .junk, .junk, .junk, .junk, .junk, .junk, .junk, .junk, .junk, .junk, .junk, .junk, .junk, .junk, .junk, .junk, .junk, .junk, .junk, .junk, .junk, .junk, .junk, .junk, .junk, .junk, .junk, .junk, .junk, .junk, .junk, .junk, .junk, .junk, .junk, .junk, .junk, .junk, .junk, .junk, .junk], h⟩
def sr_2 (x2 : PV) (h : PHeap) : St := ⟨[.junk, .junk, x2, .junk, .junk, .junk, .junk, .junk, .junk, .junk, .junk, .junk, .junk, .junk, .junk, .junk, .junk, .junk, .junk, .junk, .junk, .junk, .junk, .junk, .junk, .junk, .junk, .junk, .junk, .junk, .junk, .junk, .junk, .junk, .junk, .junk, .junk, .junk, .junk, .junk, .junk, .junk, .junk, .junk, .junk, .junk, .junk, .junk, .junk, .junk, .junk, .junk, .junk, .junk, .junk, .junk, .junk, .junk, .junk, .junk, .junk, .junk, .junk, .junk, .junk, .junk, .junk, .junk, .junk, .junk, .junk, .junk, .junk, .junk, .junk, .junk, .junk, .junk, .junk, .junk, .junk, .junk, .junk, .junk, .junk, .junk, .junk, .junk, .junk, .junk, .junk, .junk, .junk, .junk, .junk, .junk, .junk, .junk, .junk, .junk, .junk, .junk, .junk, .junk, .junk, .junk, .junk, .junk, .junk, .junk, .junk, .junk, .junk, .junk, .junk, .junk, .junk, .junk, .junk, .junk, .junk, .junk, .junk, .junk, .junk, .junk, .junk, .junk, .junk, .junk, .junk, .junk], h⟩
def se0_3_4_5_6_7_8_9_10_11_12_75 (x3 x4 x5 x6 x7 x8 x9 x10 x11 x12 x75 : PV) (h : PHeap) : St := ⟨[.junk, .junk, .junk, x3, x4, x5, x6, x7, x8, x9, x10, x11, x12, .junk, .junk, .junk, .junk, .junk, .junk, .junk, .junk, .junk, .junk, .junk, .junk, .junk, .junk, .junk, .junk, .junk, .junk, .junk, .junk, .junk, .junk, .junk, .junk, .junk, .junk, .junk, .junk, .junk, .junk, .junk, .junk, .junk, .junk, .junk, .junk, .junk, .junk, .junk, .junk, .junk, .junk, .junk, .junk, .junk, .junk, .junk, .junk, .junk, .junk, .junk, .junk, .junk, .junk, .junk, .junk, .junk, .junk, .junk, .junk, .junk, .junk, x75, .junk, .junk, .junk, .junk, .junk, .junk, .junk, .junk, .junk, .junk, .junk, .junk, .junk, .junk, .junk, .junk, .junk, .junk, .junk, .junk, .junk, .junk, .junk, .junk, .junk, .junk, .junk, .junk, .junk, .junk, .junk, .junk, .junk, .junk, .junk, .junk, .junk, .junk, .junk, .junk, .junk, .junk, .junk, .junk, .junk, .junk, .junk, .junk, .junk, .junk, .junk, .junk, .junk, .junk, .junk, .junk], h⟩
noncomputable def K0 (E : Env) (K : PX → St → Res) : PX → St → Res := (kBlock 0 (kSeq (ev (E.cx Tryd.prog kl) (codeAt (bodyOf Tryd.f6) [1, 1, 1, 1, 1, 1, 1, 1, 1, 1, 1, 1])) K))
@[simp] theorem K0_ret (E : Env) (K : PX → St → Res) (s : St) : K0 E K .ret s = K .ret s := by kernel_rfl
noncomputable def body0 (E : Env) (K : PX → St → Res) (x3 x4 x5 x6 x7 x8 x9 x10 x11 x12 : PV) (h : PHeap) : Res :=
    (E.p.len 23 x5).bind fun v114 =>
    (E.p.bin .lss 3 x12 v114).bind fun v115 =>
    condP v115
     (
      (E.p.bin .shr 3 x7 x12).bind fun v116 =>
      (E.p.bin .rem 3 v116 (.int .i64 2)).bind fun v117 =>
      (E.p.bin .add 3 x9 v117).bind fun v118 =>
      (E.p.max x10 [(.int .i64 0)]).bind fun v119 =>
      (E.p.bin .shr 3 v119 x12).bind fun v120 =>
      (E.p.bin .rem 3 v120 (.int .i64 2)).bind fun v121 =>
      (E.p.bin .add 3 x11 v121).bind fun v122 =>
      (E.p.bin .shr 3 x7 x12).bind fun v123 =>
      (E.p.bin .rem 3 v123 (.int .i64 2)).bind fun v124 =>
      (E.p.bin .eql 3 v124 (.int .i64 1)).bind fun v125 =>
      (wantV v125 true).bind fun v126 =>
      (bif v126 then some (x5, h) else some (.tup [], h)).bind fun v127 =>
      (wantV v125 true).bind fun v128 =>
      (bif v128 then some (x12, v127.2) else some (.tup [], v127.2)).bind fun v129 =>
      (wantV v125 true).bind fun v130 =>
      (bif v130 then pv v129.2 (E.p.indexAddr 23 v127.1 v129.1) else some (.tup [], v129.2)).bind fun v131 =>
      (wantV v125 true).bind fun v132 =>
      (bif v132 then pv v131.2 (E.p.load 3 v131.1 v131.2) else some (.tup [], v131.2)).bind fun v133 =>
      (wantV v125 true).bind fun v134 =>
      (bif v134 then pv v133.2 (E.p.bin .neq 3 v133.1 (.int .i64 0)) else some (.tup [], v133.2)).bind fun v135 =>
      (wantV v125 true).bind fun v136 =>
      (bif v136 then some (v135.1, v135.2) else some (.tup [], v135.2)).bind fun v137 =>
      (wantV v137.1 false).bind fun v138 =>
      (bif v138 then some (x3, v137.2) else some (.tup [], v137.2)).bind fun v139 =>
      (wantV v137.1 false).bind fun v140 =>
      (bif v140 then some (x4, v139.2) else some (.tup [], v139.2)).bind fun v141 =>
      (wantV v137.1 false).bind fun v142 =>
      (bif v142 then some (x5, v141.2) else some (.tup [], v141.2)).bind fun v143 =>
      (wantV v137.1 false).bind fun v144 =>
      (bif v144 then some (x6, v143.2) else some (.tup [], v143.2)).bind fun v145 =>
      (wantV v137.1 false).bind fun v146 =>
      (bif v146 then some (x7, v145.2) else some (.tup [], v145.2)).bind fun v147 =>
      (wantV v137.1 false).bind fun v148 =>
      (bif v148 then some (x12, v147.2) else some (.tup [], v147.2)).bind fun v149 =>
      (wantV v137.1 false).bind fun v150 =>
      (bif v150 then pv v149.2 (E.p.bin .shl 3 (.int .i64 1) v149.1) else some (.tup [], v149.2)).bind fun v151 =>
      (wantV v137.1 false).bind fun v152 =>
      (bif v152 then pv v151.2 (E.p.bin .sub 3 v147.1 v151.1) else some (.tup [], v151.2)).bind fun v153 =>
      (wantV v137.1 false).bind fun v154 =>
      (bif v154 then E.C fn_impl_ThreatOk [v139.1, v141.1, v143.1, v145.1, v153.1] v153.2 else some (.tup [], v153.2)).bind fun v155 =>
      (wantV v125 true).bind fun v156 =>
      (bif v156 then pv v155.2 (E.p.pick v137.1 (.bool true) v155.1) else some (.tup [], v155.2)).bind fun v157 =>
      (E.p.pick v125 v157.1 (.bool false)).bind fun v158 =>
      condP v158
       (
        K .ret (sr_2 (.bool false) v157.2))
       (
        (E.p.bin .add 3 x12 (.int .i64 1)).bind fun v159 =>
        K .normal (st0 x3 x4 x5 x6 x7 x8 v118 x10 v122 v159 v157.2)))
     (
      K (.exit 0) (se0_3_4_5_6_7_8_9_10_11_12_75 x3 x4 x5 x6 x7 x8 x9 x10 x11 x12 v115 h))
theorem body0_eq (E : Env) (K : PX → St → Res) (x3 x4 x5 x6 x7 x8 x9 x10 x11 x12 : PV) (h : PHeap) : ev (E.cx Tryd.prog kl) lp0 (st0 x3 x4 x5 x6 x7 x8 x9 x10 x11 x12 h) K = body0 E K x3 x4 x5 x6 x7 x8 x9 x10 x11 x12 h := by kernel_rfl
theorem after0_se0_3_4_5_6_7_8_9_10_11_12_75 (E : Env) (x3 x4 x5 x6 x7 x8 x9 x10 x11 x12 x75 : PV) (h : PHeap) : K0 E (kTop Tryd.prog Tryd.f6) (.exit 0) (se0_3_4_5_6_7_8_9_10_11_12_75 x3 x4 x5 x6 x7 x8 x9 x10 x11 x12 x75 h) =
    (wantV x8 true).bind fun v85 =>
    (bif v85 then some (x3, h) else some (.tup [], h)).bind fun v86 =>
    (wantV x8 true).bind fun v87 =>
    (bif v87 then some (x4, v86.2) else some (.tup [], v86.2)).bind fun v88 =>
    (wantV x8 true).bind fun v89 =>
    (bif v89 then some (x5, v88.2) else some (.tup [], v88.2)).bind fun v90 =>
    (wantV x8 true).bind fun v91 =>
    (bif v91 then some (x6, v90.2) else some (.tup [], v90.2)).bind fun v92 =>
    (wantV x8 true).bind fun v93 =>
    (bif v93 then some (x7, v92.2) else some (.tup [], v92.2)).bind fun v94 =>
    (wantV x8 true).bind fun v95 =>
    (bif v95 then E.C fn_impl_ThreatOk [v86.1, v88.1, v90.1, v92.1, v94.1] v94.2 else some (.tup [], v94.2)).bind fun v96 =>
    (E.p.pick x8 v96.1 (.bool false)).bind fun v97 =>
    (wantV v97 true).bind fun v98 =>
    (bif v98 then some (x10, v96.2) else some (.tup [], v96.2)).bind fun v99 =>
    (wantV v97 true).bind fun v100 =>
    (bif v100 then pv v99.2 (E.p.bin .lss 3 v99.1 (.int .i64 0)) else some (.tup [], v99.2)).bind fun v101 =>
    (wantV v97 true).bind fun v102 =>
    (bif v102 then some (v101.1, v101.2) else some (.tup [], v101.2)).bind fun v103 =>
    (wantV v103.1 false).bind fun v104 =>
    (bif v104 then some (x9, v103.2) else some (.tup [], v103.2)).bind fun v105 =>
    (wantV v103.1 false).bind fun v106 =>
    (bif v106 then some (x11, v105.2) else some (.tup [], v105.2)).bind fun v107 =>
    (wantV v103.1 false).bind fun v108 =>
    (bif v108 then pv v107.2 (E.p.bin .leq 3 v105.1 v107.1) else some (.tup [], v107.2)).bind fun v109 =>
    (wantV v97 true).bind fun v110 =>
    (bif v110 then pv v109.2 (E.p.pick v103.1 (.bool true) v109.1) else some (.tup [], v109.2)).bind fun v111 =>
    (E.p.pick v97 v111.1 (.bool false)).bind fun v112 =>
    (resV v112).bind fun v113 =>
    some (v113, v111.2) := by kernel_rfl
theorem top_sr_2 (x2 : PV) (h : PHeap) : kTop Tryd.prog Tryd.f6 .ret (sr_2 x2 h) =
    (resV x2).bind fun v160 =>
    some (v160, h) := by kernel_rfl
noncomputable def main (E : Env) (x0 : PV) (h : PHeap) : Res :=
    (E.p.len 22 x0).bind fun v1 =>
    (E.p.bin .gtr 3 v1 (.int .i64 1048576)).bind fun v2 =>
    condP v2
     (
      (resV (.bool true)).bind fun v3 =>
      some (v3, h))
     (
      (E.C fn_spec_DrawLeastThreat [x0] h).bind fun v4 =>
      (E.p.extract v4.1 0).bind fun v5 =>
      (E.p.extract v4.1 1).bind fun v6 =>
      (E.p.extract v4.1 2).bind fun v7 =>
      (E.p.extract v4.1 3).bind fun v8 =>
      (E.C fn_impl_LeastThreat [v5, v6, v7, v8] v4.2).bind fun v9 =>
      (E.C fn_spec_LeastThreat [v5, v6, v7, v8] v9.2).bind fun v10 =>
      (E.p.bin .neq 3 v9.1 v10.1).bind fun v11 =>
      condP v11
       (
        (resV (.bool false)).bind fun v12 =>
        some (v12, v10.2))
       (
        (E.C fn_spec_PositionOk [v5, v6, v7] v10.2).bind fun v13 =>
        (E.p.un .not v13.1).bind fun v14 =>
        (wantV v14 false).bind fun v15 =>
        (bif v15 then some (v8, v13.2) else some (.tup [], v13.2)).bind fun v16 =>
        (wantV v14 false).bind fun v17 =>
        (bif v17 then pv v16.2 (E.p.bin .gtr 3 v16.1 (.int .i64 2)) else some (.tup [], v16.2)).bind fun v18 =>
        (E.p.pick v14 (.bool true) v18.1).bind fun v19 =>
        condP v19
         (
          (E.p.bin .eql 3 v9.1 (.int .i64 (-1))).bind fun v20 =>
          (wantV v20 true).bind fun v21 =>
          (bif v21 then E.C fn_laws_alive [] v18.2 else some (.tup [], v18.2)).bind fun v22 =>
          (E.p.pick v20 v22.1 (.bool false)).bind fun v23 =>
          (resV v23).bind fun v24 =>
          some (v24, v22.2))
         (
          (E.C fn_impl_WinnerOf [v5, v6, v7, v8] v18.2).bind fun v25 =>
          (E.p.bin .eql 3 v25.1 v8).bind fun v26 =>
          (E.p.bin .lss 3 v9.1 (.int .i64 0)).bind fun v27 =>
          condP v27
           (
            (E.p.bin .eql 3 v9.1 (.int .i64 (-1))).bind fun v28 =>
            (wantV v28 true).bind fun v29 =>
            (bif v29 then some (v26, v25.2) else some (.tup [], v25.2)).bind fun v30 =>
            (wantV v28 true).bind fun v31 =>
            (bif v31 then pv v30.2 (E.p.un .not v30.1) else some (.tup [], v30.2)).bind fun v32 =>
            (E.p.pick v28 v32.1 (.bool false)).bind fun v33 =>
            (wantV v33 true).bind fun v34 =>
            (bif v34 then E.C fn_laws_alive [] v32.2 else some (.tup [], v32.2)).bind fun v35 =>
            (E.p.pick v33 v35.1 (.bool false)).bind fun v36 =>
            (resV v36).bind fun v37 =>
            some (v37, v35.2))
           (
            (E.C fn_impl_LeastCarrier [v5, v6, v7, v8] v25.2).bind fun v38 =>
            loopK (ev (E.cx Tryd.prog laws_FnLeastThreat.kl) laws_FnLeastThreat.lp0) E.lf (laws_FnLeastThreat.st0 v5 v6 v7 v8 v9.1 v26 (.int .i64 0) v38.1 (.int .i64 0) (.int .i64 0) v38.2) (laws_FnLeastThreat.K0 E (kTop Tryd.prog Tryd.f6))))))
theorem main_eq (E : Env) (x0 : PV) (h : PHeap) : runBody (E.cx Tryd.prog kl) Tryd.f6 [x0] h = main E x0 h := by kernel_rfl
theorem call_eq (g : Nat → PV) (lf n : Nat) (x0 : PV) (h : PHeap) : CL g lf (n + 1) fn_laws_FnLeastThreat [x0] h = main (env g lf n) x0 h := by
  rw [← main_eq]
  show (match Tryd.prog.funcs[6]? with | some fn => if fn.body.isSome then runBody ⟨Tryd.prog, g, call Tryd.prog g KL lf n, KL 6, lf, std Tryd.prog⟩ fn [x0] h else none | none => none) = _
  rw [Tryd.func6]
  kernel_rfl
end laws_FnLeastThreat
namespace laws_FnTwoThreats
noncomputable def lp0 : Code := (codeAt (bodyOf Tryd.f7) [1, 1, 1, 1, 1, 1, 1, 1, 1, 0, 1, 0, 0])
def st0 (x5 x6 x7 x8 x11 x12 x13 x14 : PV) (h : PHeap) : St := ⟨[.junk, .junk, .junk, .junk, .junk, x5, x6, x7, x8, .junk, .junk, x11, x12, x13, x14, .junk, .junk, .junk, .junk, .junk, .junk, .junk, .junk, .junk, .junk, .junk, .junk, .junk, .junk, .junk, .junk, .junk, .junk, .junk, .junk, .junk, .junk, .junk, .junk, .junk, .junk, .junk, .junk, .junk, .junk, .junk, .junk, .junk, .junk, .junk, .junk, .junk, .junk, .junk, .junk, .junk, .junk, .junk, .junk, .junk, .junk, .junk, .junk, .junk, .junk, .junk, .junk, .junk, .junk, .junk, .junk, .junk, .junk, .junk, .junk, .junk, .junk, .junk, .junk, .junk, .junk, .junk, .junk, .junk, .junk, .junk, .junk, .junk, .junk, .junk, .junk, .junk, .junk, .junk, .junk, .junk, .junk, .junk, .junk, .junk, .junk, .junk, .junk, .junk, .junk, .junk, .junk, .junk, .junk, .junk, .junk, .junk, .junk, .junk, .junk, .junk, .junk, .junk, .junk], h⟩
def se0_5_6_7_8_11_12_13_14_74 (x5 x6 x7 x8 x11 x12 x13 x14 x74 : PV) (h : PHeap) : St := ⟨[.junk, .junk, .junk, .junk, .junk, x5, x6, x7, x8, .junk, .junk, x11, x12, x13, x14, .junk, .junk, .junk, .junk, .junk, .junk, .junk, .junk, .junk, .junk, .junk, .junk, .junk, .junk, .junk, .junk, .junk, .junk, .junk, .junk, .junk, .junk, .junk, .junk, .junk, .junk, .junk, .junk, .junk, .junk, .junk, .junk, .junk, .junk, .junk, .junk, .junk, .junk, .junk, .junk, .junk, .junk, .junk, .junk, .junk, .junk, .junk, .junk, .junk, .junk, .junk, .junk, .junk, .junk, .junk, .junk, .junk, .junk, .junk, x74, .junk, .junk, .junk, .junk, .junk, .junk, .junk, .junk, .junk, .junk, .junk, .junk, .junk, .junk, .junk, .junk, .junk, .junk, .junk, .junk, .junk, .junk, .junk, .junk, .junk, .junk, .junk, .junk, .junk, .junk, .junk, .junk, .junk, .junk, .junk, .junk, .junk, .junk, .junk, .junk, .junk, .junk, .junk, .junk], h⟩
noncomputable def K0 (E : Env) (K : PX → St → Res) : PX → St → Res := (kBlock 0 (kSeq (ev (E.cx Tryd.prog kl) (codeAt (bodyOf Tryd.f7) [1, 1, 1, 1, 1, 1, 1, 1, 1, 1])) K))
@[simp] theorem K0_ret (E : Env) (K : PX → St → Res) (s : St) : K0 E K .ret s = K .ret s := by kernel_rfl
noncomputable def body0 (E : Env) (K : PX → St → Res) (x5 x6 x7 x8 x11 x12 x13 x14 : PV) (h : PHeap) : Res :=
    (E.p.len 23 x7).bind fun v101 =>
    (E.p.bin .lss 3 x14 v101).bind fun v102 =>
    condP v102
     (
      (E.p.indexAddr 23 x7 x14).bind fun v103 =>
      (E.p.load 3 v103 h).bind fun v104 =>
      (E.p.bin .eql 3 v104 (.int .i64 0)).bind fun v105 =>
      condP v105
       (
        (E.p.bin .shl 3 (.int .i64 1) x14).bind fun v106 =>
        (E.p.bin .or 3 x13 v106).bind fun v107 =>
        (E.p.bin .add 3 x14 (.int .i64 1)).bind fun v108 =>
        K .normal (st0 x5 x6 x7 x8 x11 x12 v107 v108 h))
       (
        (E.p.bin .add 3 x14 (.int .i64 1)).bind fun v109 =>
        K .normal (st0 x5 x6 x7 x8 x11 x12 x13 v109 h)))
     (
      K (.exit 0) (se0_5_6_7_8_11_12_13_14_74 x5 x6 x7 x8 x11 x12 x13 x14 v102 h))
theorem body0_eq (E : Env) (K : PX → St → Res) (x5 x6 x7 x8 x11 x12 x13 x14 : PV) (h : PHeap) : ev (E.cx Tryd.prog kl) lp0 (st0 x5 x6 x7 x8 x11 x12 x13 x14 h) K = body0 E K x5 x6 x7 x8 x11 x12 x13 x14 h := by kernel_rfl
theorem after0_se0_5_6_7_8_11_12_13_14_74 (E : Env) (x5 x6 x7 x8 x11 x12 x13 x14 x74 : PV) (h : PHeap) : K0 E (kTop Tryd.prog Tryd.f7) (.exit 0) (se0_5_6_7_8_11_12_13_14_74 x5 x6 x7 x8 x11 x12 x13 x14 x74 h) =
    (E.p.bin .andNot 3 x12 x11).bind fun v58 =>
    (E.C fn_impl_ThreatOk [x5, x6, x7, x8, x11] h).bind fun v59 =>
    (E.p.un .not v59.1).bind fun v60 =>
    (wantV v60 false).bind fun v61 =>
    (bif v61 then some (x5, v59.2) else some (.tup [], v59.2)).bind fun v62 =>
    (wantV v60 false).bind fun v63 =>
    (bif v63 then some (x6, v62.2) else some (.tup [], v62.2)).bind fun v64 =>
    (wantV v60 false).bind fun v65 =>
    (bif v65 then some (x7, v64.2) else some (.tup [], v64.2)).bind fun v66 =>
    (wantV v60 false).bind fun v67 =>
    (bif v67 then some (x8, v66.2) else some (.tup [], v66.2)).bind fun v68 =>
    (wantV v60 false).bind fun v69 =>
    (bif v69 then some (v58, v68.2) else some (.tup [], v68.2)).bind fun v70 =>
    (wantV v60 false).bind fun v71 =>
    (bif v71 then E.C fn_impl_ThreatOk [v62.1, v64.1, v66.1, v68.1, v70.1] v70.2 else some (.tup [], v70.2)).bind fun v72 =>
    (wantV v60 false).bind fun v73 =>
    (bif v73 then pv v72.2 (E.p.un .not v72.1) else some (.tup [], v72.2)).bind fun v74 =>
    (E.p.pick v60 (.bool true) v74.1).bind fun v75 =>
    condP v75
     (
      (E.C fn_laws_alive [] v74.2).bind fun v76 =>
      (resV v76.1).bind fun v77 =>
      some (v77, v76.2))
     (
      (E.C fn_laws_alive [] v74.2).bind fun v78 =>
      (wantV v78.1 true).bind fun v79 =>
      (bif v79 then some (x5, v78.2) else some (.tup [], v78.2)).bind fun v80 =>
      (wantV v78.1 true).bind fun v81 =>
      (bif v81 then some (x6, v80.2) else some (.tup [], v80.2)).bind fun v82 =>
      (wantV v78.1 true).bind fun v83 =>
      (bif v83 then some (x7, v82.2) else some (.tup [], v82.2)).bind fun v84 =>
      (wantV v78.1 true).bind fun v85 =>
      (bif v85 then some (x8, v84.2) else some (.tup [], v84.2)).bind fun v86 =>
      (wantV v78.1 true).bind fun v87 =>
      (bif v87 then some (x11, v86.2) else some (.tup [], v86.2)).bind fun v88 =>
      (wantV v78.1 true).bind fun v89 =>
      (bif v89 then some (v58, v88.2) else some (.tup [], v88.2)).bind fun v90 =>
      (wantV v78.1 true).bind fun v91 =>
      (bif v91 then pv v90.2 (E.p.bin .or 3 v88.1 v90.1) else some (.tup [], v90.2)).bind fun v92 =>
      (wantV v78.1 true).bind fun v93 =>
      (bif v93 then some (x13, v92.2) else some (.tup [], v92.2)).bind fun v94 =>
      (wantV v78.1 true).bind fun v95 =>
      (bif v95 then pv v94.2 (E.p.bin .and 3 v92.1 v94.1) else some (.tup [], v94.2)).bind fun v96 =>
      (wantV v78.1 true).bind fun v97 =>
      (bif v97 then E.C fn_impl_CarrierOk [v80.1, v82.1, v84.1, v86.1, v96.1] v96.2 else some (.tup [], v96.2)).bind fun v98 =>
      (E.p.pick v78.1 v98.1 (.bool false)).bind fun v99 =>
      (resV v99).bind fun v100 =>
      some (v100, v98.2)) := by kernel_rfl
noncomputable def main (E : Env) (x0 x1 : PV) (h : PHeap) : Res :=
    (E.p.len 22 x0).bind fun v1 =>
    (E.p.bin .gtr 3 v1 (.int .i64 1048576)).bind fun v2 =>
    (wantV v2 false).bind fun v3 =>
    (bif v3 then some (x1, h) else some (.tup [], h)).bind fun v4 =>
    (wantV v2 false).bind fun v5 =>
    (bif v5 then pv v4.2 (E.p.len 22 v4.1) else some (.tup [], v4.2)).bind fun v6 =>
    (wantV v2 false).bind fun v7 =>
    (bif v7 then pv v6.2 (E.p.bin .gtr 3 v6.1 (.int .i64 1048576)) else some (.tup [], v6.2)).bind fun v8 =>
    (E.p.pick v2 (.bool true) v8.1).bind fun v9 =>
    condP v9
     (
      (resV (.bool true)).bind fun v10 =>
      some (v10, v8.2))
     (
      (E.C fn_spec_DrawThreatOk [x0] v8.2).bind fun v11 =>
      (E.p.extract v11.1 0).bind fun v12 =>
      (E.p.extract v11.1 1).bind fun v13 =>
      (E.p.extract v11.1 2).bind fun v14 =>
      (E.p.extract v11.1 3).bind fun v15 =>
      (E.p.extract v11.1 4).bind fun v16 =>
      (E.C fn_spec_PositionOk [v12, v13, v14] v11.2).bind fun v17 =>
      (E.p.un .not v17.1).bind fun v18 =>
      (wantV v18 false).bind fun v19 =>
      (bif v19 then some (v15, v17.2) else some (.tup [], v17.2)).bind fun v20 =>
      (wantV v18 false).bind fun v21 =>
      (bif v21 then pv v20.2 (E.p.bin .gtr 3 v20.1 (.int .i64 2)) else some (.tup [], v20.2)).bind fun v22 =>
      (E.p.pick v18 (.bool true) v22.1).bind fun v23 =>
      (wantV v23 false).bind fun v24 =>
      (bif v24 then some (x1, v22.2) else some (.tup [], v22.2)).bind fun v25 =>
      (wantV v23 false).bind fun v26 =>
      (bif v26 then pv v25.2 (E.p.len 22 v25.1) else some (.tup [], v25.2)).bind fun v27 =>
      (wantV v23 false).bind fun v28 =>
      (bif v28 then pv v27.2 (E.p.bin .eql 3 v27.1 (.int .i64 0)) else some (.tup [], v27.2)).bind fun v29 =>
      (E.p.pick v23 (.bool true) v29.1).bind fun v30 =>
      condP v30
       (
        (E.C fn_laws_alive [] v29.2).bind fun v31 =>
        (resV v31.1).bind fun v32 =>
        some (v32, v31.2))
       (
        (E.p.len 23 v14).bind fun v33 =>
        (E.p.bin .shl 3 (.int .i64 1) v33).bind fun v34 =>
        (E.p.bin .sub 3 v34 (.int .i64 1)).bind fun v35 =>
        (E.p.bin .and 3 v16 v35).bind fun v36 =>
        (E.p.indexAddr 22 x1 (.int .i64 0)).bind fun v37 =>
        (E.p.load 5 v37 v29.2).bind fun v38 =>
        (E.p.conv 5 3 v38).bind fun v39 =>
        (E.p.bin .mul 3 v39 (.int .i64 2)).bind fun v40 =>
        (E.p.bin .and 3 v40 v35).bind fun v41 =>
        (E.p.len 22 x1).bind fun v42 =>
        (E.p.bin .gtr 3 v42 (.int .i64 1)).bind fun v43 =>
        condP v43
         (
          (E.p.indexAddr 22 x1 (.int .i64 1)).bind fun v44 =>
          (E.p.load 5 v44 v29.2).bind fun v45 =>
          (E.p.conv 5 3 v45).bind fun v46 =>
          (E.p.bin .add 3 v41 v46).bind fun v47 =>
          (E.p.bin .and 3 v47 v35).bind fun v48 =>
          loopK (ev (E.cx Tryd.prog laws_FnTwoThreats.kl) laws_FnTwoThreats.lp0) E.lf (laws_FnTwoThreats.st0 v12 v13 v14 v15 v36 v48 (.int .i64 0) (.int .i64 0) v29.2) (laws_FnTwoThreats.K0 E (kTop Tryd.prog Tryd.f7)))
         (
          loopK (ev (E.cx Tryd.prog laws_FnTwoThreats.kl) laws_FnTwoThreats.lp0) E.lf (laws_FnTwoThreats.st0 v12 v13 v14 v15 v36 v41 (.int .i64 0) (.int .i64 0) v29.2) (laws_FnTwoThreats.K0 E (kTop Tryd.prog Tryd.f7)))))
theorem main_eq (E : Env) (x0 x1 : PV) (h : PHeap) : runBody (E.cx Tryd.prog kl) Tryd.f7 [x0, x1] h = main E x0 x1 h := by kernel_rfl
theorem call_eq (g : Nat → PV) (lf n : Nat) (x0 x1 : PV) (h : PHeap) : CL g lf (n + 1) fn_laws_FnTwoThreats [x0, x1] h = main (env g lf n) x0 x1 h := by
  rw [← main_eq]
  show (match Tryd.prog.funcs[7]? with | some fn => if fn.body.isSome then runBody ⟨Tryd.prog, g, call Tryd.prog g KL lf n, KL 7, lf, std Tryd.prog⟩ fn [x0, x1] h else none | none => none) = _
  rw [Tryd.func7]
  kernel_rfl
end laws_FnTwoThreats
namespace laws_FnBridgesOf
noncomputable def lp0 : Code := (codeAt (bodyOf Tryd.f8) [1, 1, 1, 1, 1, 1, 1, 0, 1, 0, 0])
def st0 (x3 x4 x5 x6 x7 x8 : PV) (h : PHeap) : St := ⟨[.junk, .junk, .junk, x3, x4, x5, x6, x7, x8, .junk, .junk, .junk, .junk, .junk, .junk, .junk, .junk, .junk, .junk, .junk, .junk, .junk, .junk, .junk, .junk, .junk, .junk, .junk, .junk, .junk, .junk, .junk, .junk, .junk, .junk, .junk, .junk, .junk, .junk, .junk, .junk, .junk, .junk, .junk, .junk, .junk, .junk, .junk, .junk, .junk, .junk, .junk, .junk, .junk, .junk, .junk, .junk, .junk, .junk, .junk, .junk, .junk, .junk, .junk, .junk, .junk, .junk, .junk, .junk, .junk, .junk, .junk, .junk, .junk, .junk, .junk, .junk, .junk, .junk, .junk, .junk, .junk, .junk, .junk, .junk, .junk, .junk, .junk, .junk, .junk, .junk, .junk, .junk, .junk, .junk, .junk, .junk, .junk, .junk, .junk, .junk, .junk, .junk, .junk, .junk, .junk, .junk, .junk, .junk, .junk, .junk], h⟩
noncomputable def lp1 : Code := (codeAt (bodyOf Tryd.f8) [1, 1, 1, 1, 1, 1, 1, 0, 1, 0, 0, 1, 0, 0, 1, 1, 0, 1, 0, 0])
def st1 (x3 x4 x5 x6 x7 x8 x9 x10 x11 : PV) (h : PHeap) : St := ⟨[.junk, .junk, .junk, x3, x4, x5, x6, x7, x8, x9, x10, x11, .junk, .junk, .junk, .junk, .junk, .junk, .junk, .junk, .junk, .junk, .junk, .junk, .junk, .junk, .junk, .junk, .junk, .junk, .junk, .junk, .junk, .junk, .junk, .junk, .junk, .junk, .junk, .junk, .junk, .junk, .junk, .junk, .junk, .junk, .junk, .junk, .junk, .junk, .junk, .junk, .junk, .junk, .junk, .junk, .junk, .junk, .junk, .junk, .junk, .junk, .junk, .junk, .junk, .junk, .junk, .junk, .junk, .junk, .junk, .junk, .junk, .junk, .junk, .junk, .junk, .junk, .junk, .junk, .junk, .junk, .junk, .junk, .junk, .junk, .junk, .junk, .junk, .junk, .junk, .junk, .junk, .junk, .junk, .junk, .junk, .junk, .junk, .junk, .junk, .junk, .junk, .junk, .junk, .junk, .junk, .junk, .junk, .junk, .junk], h⟩
def se0_3_4_5_6_7_8_60 (x3 x4 x5 x6 x7 x8 x60 : PV) (h : PHeap) : St := ⟨[.junk, .junk, .junk, x3, x4, x5, x6, x7, x8, .junk, .junk, .junk, .junk, .junk, .junk, .junk, .junk, .junk, .junk, .junk, .junk, .junk, .junk, .junk, .junk, .junk, .junk, .junk, .junk, .junk, .junk, .junk, .junk, .junk, .junk, .junk, .junk, .junk, .junk, .junk, .junk, .junk, .junk, .junk, .junk, .junk, .junk, .junk, .junk, .junk, .junk, .junk, .junk, .junk, .junk, .junk, .junk, .junk, .junk, .junk, x60, .junk, .junk, .junk, .junk, .junk, .junk, .junk, .junk, .junk, .junk, .junk, .junk, .junk, .junk, .junk, .junk, .junk, .junk, .junk, .junk, .junk, .junk, .junk, .junk, .junk, .junk, .junk, .junk, .junk, .junk, .junk, .junk, .junk, .junk, .junk, .junk, .junk, .junk, .junk, .junk, .junk, .junk, .junk, .junk, .junk, .junk, .junk, .junk, .junk, .junk], h⟩
def se2_3_4_5_6_7_8_9_10_11_73 (x3 x4 x5 x6 x7 x8 x9 x10 x11 x73 : PV) (h : PHeap) : St := ⟨[.junk, .junk, .junk, x3, x4, x5, x6, x7, x8, x9, x10, x11, .junk, .junk, .junk, .junk, .junk, .junk, .junk, .junk, .junk, .junk, .junk, .junk, .junk, .junk, .junk, .junk, .junk, .junk, .junk, .junk, .junk, .junk, .junk, .junk, .junk, .junk, .junk, .junk, .junk, .junk, .junk, .junk, .junk, .junk, .junk, .junk, .junk, .junk, .junk, .junk, .junk, .junk, .junk, .junk, .junk, .junk, .junk, .junk, .junk, .junk, .junk, .junk, .junk, .junk, .junk, .junk, .junk, .junk, .junk, .junk, .junk, x73, .junk, .junk, .junk, .junk, .junk, .junk, .junk, .junk, .junk, .junk, .junk, .junk, .junk, .junk, .junk, .junk, .junk, .junk, .junk, .junk, .junk, .junk, .junk, .junk, .junk, .junk, .junk, .junk, .junk, .junk, .junk, .junk, .junk, .junk, .junk, .junk, .junk], h⟩
def sr_2 (x2 : PV) (h : PHeap) : St := ⟨[.junk, .junk, x2, .junk, .junk, .junk, .junk, .junk, .junk, .junk, .junk, .junk, .junk, .junk, .junk, .junk, .junk, .junk, .junk, .junk, .junk, .junk, .junk, .junk, .junk, .junk, .junk, .junk, .junk, .junk, .junk, .junk, .junk, .junk, .junk, .junk, .junk, .junk, .junk, .junk, .junk, .junk, .junk, .junk, .junk, .junk, .junk, .junk, .junk, .junk, .junk, .junk, .junk, .junk, .junk, .junk, .junk, .junk, .junk, .junk, .junk, .junk, .junk, .junk, .junk, .junk, .junk, .junk, .junk, .junk, .junk, .junk, .junk, .junk, .junk, .junk, .junk, .junk, .junk, .junk, .junk, .junk, .junk, .junk, .junk, .junk, .junk, .junk, .junk, .junk, .junk, .junk, .junk, .junk, .junk, .junk, .junk, .junk, .junk, .junk, .junk, .junk, .junk, .junk, .junk, .junk, .junk, .junk, .junk, .junk, .junk], h⟩
noncomputable def K0 (E : Env) (K : PX → St → Res) : PX → St → Res := (kBlock 0 (kSeq (ev (E.cx Tryd.prog kl) (codeAt (bodyOf Tryd.f8) [1, 1, 1, 1, 1, 1, 1, 1])) K))
@[simp] theorem K0_ret (E : Env) (K : PX → St → Res) (s : St) : K0 E K .ret s = K .ret s := by kernel_rfl
noncomputable def K1 (E : Env) (K : PX → St → Res) : PX → St → Res := (kBlock 2 (kSeq (ev (E.cx Tryd.prog kl) (codeAt (bodyOf Tryd.f8) [1, 1, 1, 1, 1, 1, 1, 0, 1, 0, 0, 1, 0, 0, 1, 1, 1])) (kBlock 1 (kSeq (ev (E.cx Tryd.prog kl) (codeAt (bodyOf Tryd.f8) [1, 1, 1, 1, 1, 1, 1, 0, 1, 0, 0, 1, 1])) K))))
@[simp] theorem K1_ret (E : Env) (K : PX → St → Res) (s : St) : K1 E K .ret s = K .ret s := by kernel_rfl
noncomputable def body0 (E : Env) (K : PX → St → Res) (x3 x4 x5 x6 x7 x8 : PV) (h : PHeap) : Res :=
    (E.p.len 23 x6).bind fun v92 =>
    (E.p.bin .lss 3 x8 v92).bind fun v93 =>
    condP v93
     (
      (E.p.indexAddr 23 x6 x8).bind fun v94 =>
      (E.p.load 3 v94 h).bind fun v95 =>
      (E.C fn_impl_NearCells [x3, x4, v95] h).bind fun v96 =>
      loopK (ev (E.cx Tryd.prog laws_FnBridgesOf.kl) laws_FnBridgesOf.lp1) E.lf (laws_FnBridgesOf.st1 x3 x4 x5 x6 x7 x8 v96.1 (.int .i64 0) (.int .i64 0) v96.2) (laws_FnBridgesOf.K1 E K))
     (
      K (.exit 0) (se0_3_4_5_6_7_8_60 x3 x4 x5 x6 x7 x8 v93 h))
theorem body0_eq (E : Env) (K : PX → St → Res) (x3 x4 x5 x6 x7 x8 : PV) (h : PHeap) : ev (E.cx Tryd.prog kl) lp0 (st0 x3 x4 x5 x6 x7 x8 h) K = body0 E K x3 x4 x5 x6 x7 x8 h := by kernel_rfl
noncomputable def body1 (E : Env) (K : PX → St → Res) (x3 x4 x5 x6 x7 x8 x9 x10 x11 : PV) (h : PHeap) : Res :=
    (E.p.len 23 x9).bind fun v97 =>
    (E.p.bin .lss 3 x11 v97).bind fun v98 =>
    condP v98
     (
      (E.p.indexAddr 23 x9 x11).bind fun v99 =>
      (E.p.load 3 v99 h).bind fun v100 =>
      (E.C fn_laws_hasInt [x7, v100] h).bind fun v101 =>
      condP v101.1
       (
        (E.p.bin .add 3 x10 (.int .i64 1)).bind fun v102 =>
        (E.p.bin .add 3 x11 (.int .i64 1)).bind fun v103 =>
        K .normal (st1 x3 x4 x5 x6 x7 x8 x9 v102 v103 v101.2))
       (
        (E.p.bin .add 3 x11 (.int .i64 1)).bind fun v104 =>
        K .normal (st1 x3 x4 x5 x6 x7 x8 x9 x10 v104 v101.2)))
     (
      K (.exit 2) (se2_3_4_5_6_7_8_9_10_11_73 x3 x4 x5 x6 x7 x8 x9 x10 x11 v98 h))
theorem body1_eq (E : Env) (K : PX → St → Res) (x3 x4 x5 x6 x7 x8 x9 x10 x11 : PV) (h : PHeap) : ev (E.cx Tryd.prog kl) lp1 (st1 x3 x4 x5 x6 x7 x8 x9 x10 x11 h) K = body1 E K x3 x4 x5 x6 x7 x8 x9 x10 x11 h := by kernel_rfl
theorem after0_se0_3_4_5_6_7_8_60 (E : Env) (x3 x4 x5 x6 x7 x8 x60 : PV) (h : PHeap) : K0 E (kTop Tryd.prog Tryd.f8) (.exit 0) (se0_3_4_5_6_7_8_60 x3 x4 x5 x6 x7 x8 x60 h) =
    (E.C fn_laws_ascend [x6] h).bind fun v51 =>
    (wantV v51.1 true).bind fun v52 =>
    (bif v52 then E.C fn_laws_alive [] v51.2 else some (.tup [], v51.2)).bind fun v53 =>
    (E.p.pick v51.1 v53.1 (.bool false)).bind fun v54 =>
    (resV v54).bind fun v55 =>
    some (v55, v53.2) := by kernel_rfl
theorem after1_se2_3_4_5_6_7_8_9_10_11_73 (E : Env) (K : PX → St → Res) (x3 x4 x5 x6 x7 x8 x9 x10 x11 x73 : PV) (h : PHeap) : K1 E K (.exit 2) (se2_3_4_5_6_7_8_9_10_11_73 x3 x4 x5 x6 x7 x8 x9 x10 x11 x73 h) =
    (E.p.bin .neq 3 x10 (.int .i64 2)).bind fun v56 =>
    (wantV v56 false).bind fun v57 =>
    (bif v57 then some (x7, h) else some (.tup [], h)).bind fun v58 =>
    (wantV v56 false).bind fun v59 =>
    (bif v59 then some (x6, v58.2) else some (.tup [], v58.2)).bind fun v60 =>
    (wantV v56 false).bind fun v61 =>
    (bif v61 then some (x8, v60.2) else some (.tup [], v60.2)).bind fun v62 =>
    (wantV v56 false).bind fun v63 =>
    (bif v63 then pv v62.2 (E.p.indexAddr 23 v60.1 v62.1) else some (.tup [], v62.2)).bind fun v64 =>
    (wantV v56 false).bind fun v65 =>
    (bif v65 then pv v64.2 (E.p.load 3 v64.1 v64.2) else some (.tup [], v64.2)).bind fun v66 =>
    (wantV v56 false).bind fun v67 =>
    (bif v67 then E.C fn_laws_hasInt [v58.1, v66.1] v66.2 else some (.tup [], v66.2)).bind fun v68 =>
    (E.p.pick v56 (.bool true) v68.1).bind fun v69 =>
    (wantV v69 false).bind fun v70 =>
    (bif v70 then some (x3, v68.2) else some (.tup [], v68.2)).bind fun v71 =>
    (wantV v69 false).bind fun v72 =>
    (bif v72 then some (x4, v71.2) else some (.tup [], v71.2)).bind fun v73 =>
    (wantV v69 false).bind fun v74 =>
    (bif v74 then some (x6, v73.2) else some (.tup [], v73.2)).bind fun v75 =>
    (wantV v69 false).bind fun v76 =>
    (bif v76 then some (x8, v75.2) else some (.tup [], v75.2)).bind fun v77 =>
    (wantV v69 false).bind fun v78 =>
    (bif v78 then pv v77.2 (E.p.indexAddr 23 v75.1 v77.1) else some (.tup [], v77.2)).bind fun v79 =>
    (wantV v69 false).bind fun v80 =>
    (bif v80 then pv v79.2 (E.p.load 3 v79.1 v79.2) else some (.tup [], v79.2)).bind fun v81 =>
    (wantV v69 false).bind fun v82 =>
    (bif v82 then E.C fn_impl_BridgesOf [v71.1, v73.1, v81.1] v81.2 else some (.tup [], v81.2)).bind fun v83 =>
    (wantV v69 false).bind fun v84 =>
    (bif v84 then some (x5, v83.2) else some (.tup [], v83.2)).bind fun v85 =>
    (wantV v69 false).bind fun v86 =>
    (bif v86 then E.C fn_laws_hasInt [v83.1, v85.1] v85.2 else some (.tup [], v85.2)).bind fun v87 =>
    (wantV v69 false).bind fun v88 =>
    (bif v88 then pv v87.2 (E.p.un .not v87.1) else some (.tup [], v87.2)).bind fun v89 =>
    (E.p.pick v69 (.bool true) v89.1).bind fun v90 =>
    condP v90
     (
      K .ret (sr_2 (.bool false) v89.2))
     (
      (E.p.bin .add 3 x8 (.int .i64 1)).bind fun v91 =>
      K .normal (st0 x3 x4 x5 x6 x7 v91 v89.2)) := by kernel_rfl
theorem top_sr_2 (x2 : PV) (h : PHeap) : kTop Tryd.prog Tryd.f8 .ret (sr_2 x2 h) =
    (resV x2).bind fun v105 =>
    some (v105, h) := by kernel_rfl
noncomputable def main (E : Env) (x0 : PV) (h : PHeap) : Res :=
    (E.p.len 22 x0).bind fun v1 =>
    (E.p.bin .gtr 3 v1 (.int .i64 1048576)).bind fun v2 =>
    condP v2
     (
      (resV (.bool true)).bind fun v3 =>
      some (v3, h))
     (
      (E.C fn_spec_DrawBridgesOf [x0] h).bind fun v4 =>
      (E.p.extract v4.1 0).bind fun v5 =>
      (E.p.extract v4.1 1).bind fun v6 =>
      (E.p.extract v4.1 2).bind fun v7 =>
      (E.C fn_impl_BridgesOf [v5, v6, v7] v4.2).bind fun v8 =>
      (E.C fn_spec_BridgesOf [v5, v6, v7] v8.2).bind fun v9 =>
      (E.C fn_laws_sameInts [v8.1, v9.1] v9.2).bind fun v10 =>
      (E.p.un .not v10.1).bind fun v11 =>
      condP v11
       (
        (resV (.bool false)).bind fun v12 =>
        some (v12, v10.2))
       (
        (E.C fn_spec_BoardOk [v5, v6] v10.2).bind fun v13 =>
        (E.p.un .not v13.1).bind fun v14 =>
        (wantV v14 false).bind fun v15 =>
        (bif v15 then some (v7, v13.2) else some (.tup [], v13.2)).bind fun v16 =>
        (wantV v14 false).bind fun v17 =>
        (bif v17 then pv v16.2 (E.p.bin .lss 3 v16.1 (.int .i64 0)) else some (.tup [], v16.2)).bind fun v18 =>
        (E.p.pick v14 (.bool true) v18.1).bind fun v19 =>
        (wantV v19 false).bind fun v20 =>
        (bif v20 then some (v7, v18.2) else some (.tup [], v18.2)).bind fun v21 =>
        (wantV v19 false).bind fun v22 =>
        (bif v22 then some (v5, v21.2) else some (.tup [], v21.2)).bind fun v23 =>
        (wantV v19 false).bind fun v24 =>
        (bif v24 then some (v6, v23.2) else some (.tup [], v23.2)).bind fun v25 =>
        (wantV v19 false).bind fun v26 =>
        (bif v26 then pv v25.2 (E.p.bin .mul 3 v23.1 v25.1) else some (.tup [], v25.2)).bind fun v27 =>
        (wantV v19 false).bind fun v28 =>
        (bif v28 then pv v27.2 (E.p.bin .geq 3 v21.1 v27.1) else some (.tup [], v27.2)).bind fun v29 =>
        (E.p.pick v19 (.bool true) v29.1).bind fun v30 =>
        condP v30
         (
          (E.p.len 23 v8.1).bind fun v31 =>
          (E.p.bin .eql 3 v31 (.int .i64 0)).bind fun v32 =>
          (wantV v32 true).bind fun v33 =>
          (bif v33 then E.C fn_laws_alive [] v29.2 else some (.tup [], v29.2)).bind fun v34 =>
          (E.p.pick v32 v34.1 (.bool false)).bind fun v35 =>
          (resV v35).bind fun v36 =>
          some (v36, v34.2))
         (
          (E.C fn_impl_NearCells [v5, v6, v7] v29.2).bind fun v37 =>
          loopK (ev (E.cx Tryd.prog laws_FnBridgesOf.kl) laws_FnBridgesOf.lp0) E.lf (laws_FnBridgesOf.st0 v5 v6 v7 v8.1 v37.1 (.int .i64 0) v37.2) (laws_FnBridgesOf.K0 E (kTop Tryd.prog Tryd.f8)))))
theorem main_eq (E : Env) (x0 : PV) (h : PHeap) : runBody (E.cx Tryd.prog kl) Tryd.f8 [x0] h = main E x0 h := by kernel_rfl
theorem call_eq (g : Nat → PV) (lf n : Nat) (x0 : PV) (h : PHeap) : CL g lf (n + 1) fn_laws_FnBridgesOf [x0] h = main (env g lf n) x0 h := by
  rw [← main_eq]
  show (match Tryd.prog.funcs[8]? with | some fn => if fn.body.isSome then runBody ⟨Tryd.prog, g, call Tryd.prog g KL lf n, KL 8, lf, std Tryd.prog⟩ fn [x0] h else none | none => none) = _
  rw [Tryd.func8]
  kernel_rfl
end laws_FnBridgesOf
namespace laws_FnMustCells
noncomputable def lp0 : Code := (codeAt (bodyOf Tryd.f9) [1, 1, 1, 1, 1, 1, 1, 0, 1, 0, 0])
def st0 (x3 x4 x5 x6 x7 x8 x9 : PV) (h : PHeap) : St := ⟨[.junk, .junk, .junk, x3, x4, x5, x6, x7, x8, x9, .junk, .junk, .junk, .junk, .junk, .junk, .junk, .junk, .junk, .junk, .junk, .junk, .junk, .junk, .junk, .junk, .junk, .junk, .junk, .junk, .junk, .junk, .junk, .junk, .junk, .junk, .junk, .junk, .junk, .junk, .junk, .junk, .junk, .junk, .junk, .junk, .junk, .junk, .junk, .junk, .junk, .junk, .junk, .junk, .junk, .junk, .junk, .junk, .junk, .junk, .junk, .junk, .junk, .junk, .junk, .junk, .junk, .junk, .junk, .junk, .junk, .junk, .junk, .junk, .junk, .junk, .junk, .junk, .junk, .junk, .junk, .junk, .junk, .junk, .junk, .junk, .junk, .junk, .junk, .junk, .junk, .junk], h⟩
def sr_2 (x2 : PV) (h : PHeap) : St := ⟨[.junk, .junk, x2, .junk, .junk, .junk, .junk, .junk, .junk, .junk, .junk, .junk, .junk, .junk, .junk, .junk, .junk, .junk, .junk, .junk, .junk, .junk, .junk, .junk, .junk, .junk, .junk, .junk, .junk, .junk, .junk, .junk, .junk, .junk, .junk, .junk, .junk, .junk, .junk, .junk, .junk, .junk, .junk, .junk, .junk, .junk, .junk, .junk, .junk, .junk, .junk, .junk, .junk, .junk, .junk, .junk, .junk, .junk, .junk, .junk, .junk, .junk, .junk, .junk, .junk, .junk, .junk, .junk, .junk, .junk, .junk, .junk, .junk, .junk, .junk, .junk, .junk, .junk, .junk, .junk, .junk, .junk, .junk, .junk, .junk, .junk, .junk, .junk, .junk, .junk, .junk, .junk], h⟩
def se0_3_4_5_6_7_8_9_57 (x3 x4 x5 x6 x7 x8 x9 x57 : PV) (h : PHeap) : St := ⟨[.junk, .junk, .junk, x3, x4, x5, x6, x7, x8, x9, .junk, .junk, .junk, .junk, .junk, .junk, .junk, .junk, .junk, .junk, .junk, .junk, .junk, .junk, .junk, .junk, .junk, .junk, .junk, .junk, .junk, .junk, .junk, .junk, .junk, .junk, .junk, .junk, .junk, .junk, .junk, .junk, .junk, .junk, .junk, .junk, .junk, .junk, .junk, .junk, .junk, .junk, .junk, .junk, .junk, .junk, .junk, x57, .junk, .junk, .junk, .junk, .junk, .junk, .junk, .junk, .junk, .junk, .junk, .junk, .junk, .junk, .junk, .junk, .junk, .junk, .junk, .junk, .junk, .junk, .junk, .junk, .junk, .junk, .junk, .junk, .junk, .junk, .junk, .junk, .junk, .junk], h⟩
noncomputable def K0 (E : Env) (K : PX → St → Res) : PX → St → Res := (kBlock 0 (kSeq (ev (E.cx Tryd.prog kl) (codeAt (bodyOf Tryd.f9) [1, 1, 1, 1, 1, 1, 1, 1])) K))
@[simp] theorem K0_ret (E : Env) (K : PX → St → Res) (s : St) : K0 E K .ret s = K .ret s := by kernel_rfl
noncomputable def body0 (E : Env) (K : PX → St → Res) (x3 x4 x5 x6 x7 x8 x9 : PV) (h : PHeap) : Res :=
    (E.p.len 23 x8).bind fun v77 =>
    (E.p.bin .lss 3 x9 v77).bind fun v78 =>
    condP v78
     (
      (E.p.indexAddr 23 x8 x9).bind fun v79 =>
      (E.p.load 3 v79 h).bind fun v80 =>
      (E.C fn_laws_hasInt [x7, v80] h).bind fun v81 =>
      (E.p.un .not v81.1).bind fun v82 =>
      condP v82
       (
        K .ret (sr_2 (.bool false) v81.2))
       (
        (E.p.bin .add 3 x9 (.int .i64 1)).bind fun v83 =>
        K .normal (st0 x3 x4 x5 x6 x7 x8 v83 v81.2)))
     (
      K (.exit 0) (se0_3_4_5_6_7_8_9_57 x3 x4 x5 x6 x7 x8 x9 v78 h))
theorem body0_eq (E : Env) (K : PX → St → Res) (x3 x4 x5 x6 x7 x8 x9 : PV) (h : PHeap) : ev (E.cx Tryd.prog kl) lp0 (st0 x3 x4 x5 x6 x7 x8 x9 h) K = body0 E K x3 x4 x5 x6 x7 x8 x9 h := by kernel_rfl
theorem after0_se0_3_4_5_6_7_8_9_57 (E : Env) (x3 x4 x5 x6 x7 x8 x9 x57 : PV) (h : PHeap) : K0 E (kTop Tryd.prog Tryd.f9) (.exit 0) (se0_3_4_5_6_7_8_9_57 x3 x4 x5 x6 x7 x8 x9 x57 h) =
    (E.p.bin .sub 3 (.int .i64 3) x6).bind fun v35 =>
    (E.C fn_laws_ascend [x7] h).bind fun v36 =>
    (wantV v36.1 true).bind fun v37 =>
    (bif v37 then some (x7, v36.2) else some (.tup [], v36.2)).bind fun v38 =>
    (wantV v36.1 true).bind fun v39 =>
    (bif v39 then pv v38.2 (E.p.len 23 v38.1) else some (.tup [], v38.2)).bind fun v40 =>
    (wantV v36.1 true).bind fun v41 =>
    (bif v41 then pv v40.2 (E.p.bin .gtr 3 v40.1 (.int .i64 0)) else some (.tup [], v40.2)).bind fun v42 =>
    (wantV v36.1 true).bind fun v43 =>
    (bif v43 then some (v42.1, v42.2) else some (.tup [], v42.2)).bind fun v44 =>
    (wantV v44.1 false).bind fun v45 =>
    (bif v45 then some (x3, v44.2) else some (.tup [], v44.2)).bind fun v46 =>
    (wantV v44.1 false).bind fun v47 =>
    (bif v47 then some (x4, v46.2) else some (.tup [], v46.2)).bind fun v48 =>
    (wantV v44.1 false).bind fun v49 =>
    (bif v49 then some (x5, v48.2) else some (.tup [], v48.2)).bind fun v50 =>
    (wantV v44.1 false).bind fun v51 =>
    (bif v51 then some (x6, v50.2) else some (.tup [], v50.2)).bind fun v52 =>
    (wantV v44.1 false).bind fun v53 =>
    (bif v53 then E.C fn_impl_Joins [v46.1, v48.1, v50.1, v52.1] v52.2 else some (.tup [], v52.2)).bind fun v54 =>
    (wantV v36.1 true).bind fun v55 =>
    (bif v55 then pv v54.2 (E.p.pick v44.1 (.bool true) v54.1) else some (.tup [], v54.2)).bind fun v56 =>
    (wantV v36.1 true).bind fun v57 =>
    (bif v57 then some (v56.1, v56.2) else some (.tup [], v56.2)).bind fun v58 =>
    (wantV v58.1 false).bind fun v59 =>
    (bif v59 then some (x3, v58.2) else some (.tup [], v58.2)).bind fun v60 =>
    (wantV v58.1 false).bind fun v61 =>
    (bif v61 then some (x4, v60.2) else some (.tup [], v60.2)).bind fun v62 =>
    (wantV v58.1 false).bind fun v63 =>
    (bif v63 then some (x5, v62.2) else some (.tup [], v62.2)).bind fun v64 =>
    (wantV v58.1 false).bind fun v65 =>
    (bif v65 then some (x6, v64.2) else some (.tup [], v64.2)).bind fun v66 =>
    (wantV v58.1 false).bind fun v67 =>
    (bif v67 then E.C fn_impl_WinnerOf [v60.1, v62.1, v64.1, v66.1] v66.2 else some (.tup [], v66.2)).bind fun v68 =>
    (wantV v58.1 false).bind fun v69 =>
    (bif v69 then some (v35, v68.2) else some (.tup [], v68.2)).bind fun v70 =>
    (wantV v58.1 false).bind fun v71 =>
    (bif v71 then pv v70.2 (E.p.bin .eql 3 v68.1 v70.1) else some (.tup [], v70.2)).bind fun v72 =>
    (wantV v36.1 true).bind fun v73 =>
    (bif v73 then pv v72.2 (E.p.pick v58.1 (.bool true) v72.1) else some (.tup [], v72.2)).bind fun v74 =>
    (E.p.pick v36.1 v74.1 (.bool false)).bind fun v75 =>
    (resV v75).bind fun v76 =>
    some (v76, v74.2) := by kernel_rfl
theorem top_sr_2 (x2 : PV) (h : PHeap) : kTop Tryd.prog Tryd.f9 .ret (sr_2 x2 h) =
    (resV x2).bind fun v84 =>
    some (v84, h) := by kernel_rfl
noncomputable def main (E : Env) (x0 : PV) (h : PHeap) : Res :=
    (E.p.len 22 x0).bind fun v1 =>
    (E.p.bin .gtr 3 v1 (.int .i64 1048576)).bind fun v2 =>
    condP v2
     (
      (resV (.bool true)).bind fun v3 =>
      some (v3, h))
     (
      (E.C fn_spec_DrawMustCells [x0] h).bind fun v4 =>
      (E.p.extract v4.1 0).bind fun v5 =>
      (E.p.extract v4.1 1).bind fun v6 =>
      (E.p.extract v4.1 2).bind fun v7 =>
      (E.p.extract v4.1 3).bind fun v8 =>
      (E.C fn_impl_MustCells [v5, v6, v7, v8] v4.2).bind fun v9 =>
      (E.C fn_spec_MustCells [v5, v6, v7, v8] v9.2).bind fun v10 =>
      (E.C fn_laws_sameInts [v9.1, v10.1] v10.2).bind fun v11 =>
      (E.p.un .not v11.1).bind fun v12 =>
      condP v12
       (
        (resV (.bool false)).bind fun v13 =>
        some (v13, v11.2))
       (
        (E.C fn_spec_PositionOk [v5, v6, v7] v11.2).bind fun v14 =>
        (E.p.un .not v14.1).bind fun v15 =>
        (wantV v15 false).bind fun v16 =>
        (bif v16 then some (v8, v14.2) else some (.tup [], v14.2)).bind fun v17 =>
        (wantV v15 false).bind fun v18 =>
        (bif v18 then pv v17.2 (E.p.bin .gtr 3 v17.1 (.int .i64 2)) else some (.tup [], v17.2)).bind fun v19 =>
        (E.p.pick v15 (.bool true) v19.1).bind fun v20 =>
        condP v20
         (
          (E.p.len 23 v9.1).bind fun v21 =>
          (E.p.bin .eql 3 v21 (.int .i64 0)).bind fun v22 =>
          (wantV v22 true).bind fun v23 =>
          (bif v23 then E.C fn_laws_alive [] v19.2 else some (.tup [], v19.2)).bind fun v24 =>
          (E.p.pick v22 v24.1 (.bool false)).bind fun v25 =>
          (resV v25).bind fun v26 =>
          some (v26, v24.2))
         (
          (E.C fn_impl_WinningCells [v5, v6, v7, v8] v19.2).bind fun v27 =>
          loopK (ev (E.cx Tryd.prog laws_FnMustCells.kl) laws_FnMustCells.lp0) E.lf (laws_FnMustCells.st0 v5 v6 v7 v8 v9.1 v27.1 (.int .i64 0) v27.2) (laws_FnMustCells.K0 E (kTop Tryd.prog Tryd.f9)))))
theorem main_eq (E : Env) (x0 : PV) (h : PHeap) : runBody (E.cx Tryd.prog kl) Tryd.f9 [x0] h = main E x0 h := by kernel_rfl
theorem call_eq (g : Nat → PV) (lf n : Nat) (x0 : PV) (h : PHeap) : CL g lf (n + 1) fn_laws_FnMustCells [x0] h = main (env g lf n) x0 h := by
  rw [← main_eq]
  show (match Tryd.prog.funcs[9]? with | some fn => if fn.body.isSome then runBody ⟨Tryd.prog, g, call Tryd.prog g KL lf n, KL 9, lf, std Tryd.prog⟩ fn [x0] h else none | none => none) = _
  rw [Tryd.func9]
  kernel_rfl
end laws_FnMustCells
namespace laws_FnCarrierMore
noncomputable def main (E : Env) (x0 x1 : PV) (h : PHeap) : Res :=
    (E.p.len 22 x0).bind fun v1 =>
    (E.p.bin .gtr 3 v1 (.int .i64 1048576)).bind fun v2 =>
    (wantV v2 false).bind fun v3 =>
    (bif v3 then some (x1, h) else some (.tup [], h)).bind fun v4 =>
    (wantV v2 false).bind fun v5 =>
    (bif v5 then pv v4.2 (E.p.len 22 v4.1) else some (.tup [], v4.2)).bind fun v6 =>
    (wantV v2 false).bind fun v7 =>
    (bif v7 then pv v6.2 (E.p.bin .gtr 3 v6.1 (.int .i64 1048576)) else some (.tup [], v6.2)).bind fun v8 =>
    (E.p.pick v2 (.bool true) v8.1).bind fun v9 =>
    condP v9
     (
      (resV (.bool true)).bind fun v10 =>
      some (v10, v8.2))
     (
      (E.C fn_spec_DrawCarrierOk [x0] v8.2).bind fun v11 =>
      (E.p.extract v11.1 0).bind fun v12 =>
      (E.p.extract v11.1 1).bind fun v13 =>
      (E.p.extract v11.1 2).bind fun v14 =>
      (E.p.extract v11.1 3).bind fun v15 =>
      (E.p.extract v11.1 4).bind fun v16 =>
      (E.C fn_spec_PositionOk [v12, v13, v14] v11.2).bind fun v17 =>
      (E.p.un .not v17.1).bind fun v18 =>
      (wantV v18 false).bind fun v19 =>
      (bif v19 then some (v15, v17.2) else some (.tup [], v17.2)).bind fun v20 =>
      (wantV v18 false).bind fun v21 =>
      (bif v21 then pv v20.2 (E.p.bin .gtr 3 v20.1 (.int .i64 2)) else some (.tup [], v20.2)).bind fun v22 =>
      (E.p.pick v18 (.bool true) v22.1).bind fun v23 =>
      (wantV v23 false).bind fun v24 =>
      (bif v24 then some (v16, v22.2) else some (.tup [], v22.2)).bind fun v25 =>
      (wantV v23 false).bind fun v26 =>
      (bif v26 then some (v14, v25.2) else some (.tup [], v25.2)).bind fun v27 =>
      (wantV v23 false).bind fun v28 =>
      (bif v28 then pv v27.2 (E.p.len 23 v27.1) else some (.tup [], v27.2)).bind fun v29 =>
      (wantV v23 false).bind fun v30 =>
      (bif v30 then pv v29.2 (E.p.bin .shl 3 (.int .i64 1) v29.1) else some (.tup [], v29.2)).bind fun v31 =>
      (wantV v23 false).bind fun v32 =>
      (bif v32 then pv v31.2 (E.p.bin .geq 3 v25.1 v31.1) else some (.tup [], v31.2)).bind fun v33 =>
      (E.p.pick v23 (.bool true) v33.1).bind fun v34 =>
      condP v34
       (
        (E.C fn_impl_CarrierOk [v12, v13, v14, v15, v16] v33.2).bind fun v35 =>
        (E.p.un .not v35.1).bind fun v36 =>
        (wantV v36 true).bind fun v37 =>
        (bif v37 then E.C fn_laws_alive [] v35.2 else some (.tup [], v35.2)).bind fun v38 =>
        (E.p.pick v36 v38.1 (.bool false)).bind fun v39 =>
        (resV v39).bind fun v40 =>
        some (v40, v38.2))
       (
        (E.p.len 22 x1).bind fun v41 =>
        (E.p.bin .gtr 3 v41 (.int .i64 0)).bind fun v42 =>
        condP v42
         (
          (E.p.indexAddr 22 x1 (.int .i64 0)).bind fun v43 =>
          (E.p.load 5 v43 v33.2).bind fun v44 =>
          (E.p.conv 5 3 v44).bind fun v45 =>
          (E.p.bin .or 3 v16 v45).bind fun v46 =>
          (E.p.len 23 v14).bind fun v47 =>
          (E.p.bin .shl 3 (.int .i64 1) v47).bind fun v48 =>
          (E.p.bin .sub 3 v48 (.int .i64 1)).bind fun v49 =>
          (E.p.bin .and 3 v46 v49).bind fun v50 =>
          (E.C fn_impl_CarrierOk [v12, v13, v14, v15, v16] v33.2).bind fun v51 =>
          (E.p.un .not v51.1).bind fun v52 =>
          (wantV v52 false).bind fun v53 =>
          (bif v53 then some (v12, v51.2) else some (.tup [], v51.2)).bind fun v54 =>
          (wantV v52 false).bind fun v55 =>
          (bif v55 then some (v13, v54.2) else some (.tup [], v54.2)).bind fun v56 =>
          (wantV v52 false).bind fun v57 =>
          (bif v57 then some (v14, v56.2) else some (.tup [], v56.2)).bind fun v58 =>
          (wantV v52 false).bind fun v59 =>
          (bif v59 then some (v15, v58.2) else some (.tup [], v58.2)).bind fun v60 =>
          (wantV v52 false).bind fun v61 =>
          (bif v61 then some (v50, v60.2) else some (.tup [], v60.2)).bind fun v62 =>
          (wantV v52 false).bind fun v63 =>
          (bif v63 then E.C fn_impl_CarrierOk [v54.1, v56.1, v58.1, v60.1, v62.1] v62.2 else some (.tup [], v62.2)).bind fun v64 =>
          (E.p.pick v52 (.bool true) v64.1).bind fun v65 =>
          (wantV v65 true).bind fun v66 =>
          (bif v66 then some (v12, v64.2) else some (.tup [], v64.2)).bind fun v67 =>
          (wantV v65 true).bind fun v68 =>
          (bif v68 then some (v13, v67.2) else some (.tup [], v67.2)).bind fun v69 =>
          (wantV v65 true).bind fun v70 =>
          (bif v70 then some (v14, v69.2) else some (.tup [], v69.2)).bind fun v71 =>
          (wantV v65 true).bind fun v72 =>
          (bif v72 then some (v15, v71.2) else some (.tup [], v71.2)).bind fun v73 =>
          (wantV v65 true).bind fun v74 =>
          (bif v74 then some (v16, v73.2) else some (.tup [], v73.2)).bind fun v75 =>
          (wantV v65 true).bind fun v76 =>
          (bif v76 then E.C fn_impl_ThreatOk [v67.1, v69.1, v71.1, v73.1, v75.1] v75.2 else some (.tup [], v75.2)).bind fun v77 =>
          (wantV v65 true).bind fun v78 =>
          (bif v78 then pv v77.2 (E.p.un .not v77.1) else some (.tup [], v77.2)).bind fun v79 =>
          (wantV v65 true).bind fun v80 =>
          (bif v80 then some (v79.1, v79.2) else some (.tup [], v79.2)).bind fun v81 =>
          (wantV v81.1 false).bind fun v82 =>
          (bif v82 then some (v12, v81.2) else some (.tup [], v81.2)).bind fun v83 =>
          (wantV v81.1 false).bind fun v84 =>
          (bif v84 then some (v13, v83.2) else some (.tup [], v83.2)).bind fun v85 =>
          (wantV v81.1 false).bind fun v86 =>
          (bif v86 then some (v14, v85.2) else some (.tup [], v85.2)).bind fun v87 =>
          (wantV v81.1 false).bind fun v88 =>
          (bif v88 then some (v15, v87.2) else some (.tup [], v87.2)).bind fun v89 =>
          (wantV v81.1 false).bind fun v90 =>
          (bif v90 then some (v50, v89.2) else some (.tup [], v89.2)).bind fun v91 =>
          (wantV v81.1 false).bind fun v92 =>
          (bif v92 then E.C fn_impl_ThreatOk [v83.1, v85.1, v87.1, v89.1, v91.1] v91.2 else some (.tup [], v91.2)).bind fun v93 =>
          (wantV v65 true).bind fun v94 =>
          (bif v94 then pv v93.2 (E.p.pick v81.1 (.bool true) v93.1) else some (.tup [], v93.2)).bind fun v95 =>
          (E.p.pick v65 v95.1 (.bool false)).bind fun v96 =>
          (wantV v96 true).bind fun v97 =>
          (bif v97 then E.C fn_laws_alive [] v95.2 else some (.tup [], v95.2)).bind fun v98 =>
          (E.p.pick v96 v98.1 (.bool false)).bind fun v99 =>
          (resV v99).bind fun v100 =>
          some (v100, v98.2))
         (
          (E.C fn_impl_CarrierOk [v12, v13, v14, v15, v16] v33.2).bind fun v101 =>
          (E.p.un .not v101.1).bind fun v102 =>
          (wantV v102 false).bind fun v103 =>
          (bif v103 then some (v12, v101.2) else some (.tup [], v101.2)).bind fun v104 =>
          (wantV v102 false).bind fun v105 =>
          (bif v105 then some (v13, v104.2) else some (.tup [], v104.2)).bind fun v106 =>
          (wantV v102 false).bind fun v107 =>
          (bif v107 then some (v14, v106.2) else some (.tup [], v106.2)).bind fun v108 =>
          (wantV v102 false).bind fun v109 =>
          (bif v109 then some (v15, v108.2) else some (.tup [], v108.2)).bind fun v110 =>
          (wantV v102 false).bind fun v111 =>
          (bif v111 then some (v16, v110.2) else some (.tup [], v110.2)).bind fun v112 =>
          (wantV v102 false).bind fun v113 =>
          (bif v113 then E.C fn_impl_CarrierOk [v104.1, v106.1, v108.1, v110.1, v112.1] v112.2 else some (.tup [], v112.2)).bind fun v114 =>
          (E.p.pick v102 (.bool true) v114.1).bind fun v115 =>
          (wantV v115 true).bind fun v116 =>
          (bif v116 then some (v12, v114.2) else some (.tup [], v114.2)).bind fun v117 =>
          (wantV v115 true).bind fun v118 =>
          (bif v118 then some (v13, v117.2) else some (.tup [], v117.2)).bind fun v119 =>
          (wantV v115 true).bind fun v120 =>
          (bif v120 then some (v14, v119.2) else some (.tup [], v119.2)).bind fun v121 =>
          (wantV v115 true).bind fun v122 =>
          (bif v122 then some (v15, v121.2) else some (.tup [], v121.2)).bind fun v123 =>
          (wantV v115 true).bind fun v124 =>
          (bif v124 then some (v16, v123.2) else some (.tup [], v123.2)).bind fun v125 =>
          (wantV v115 true).bind fun v126 =>
          (bif v126 then E.C fn_impl_ThreatOk [v117.1, v119.1, v121.1, v123.1, v125.1] v125.2 else some (.tup [], v125.2)).bind fun v127 =>
          (wantV v115 true).bind fun v128 =>
          (bif v128 then pv v127.2 (E.p.un .not v127.1) else some (.tup [], v127.2)).bind fun v129 =>
          (wantV v115 true).bind fun v130 =>
          (bif v130 then some (v129.1, v129.2) else some (.tup [], v129.2)).bind fun v131 =>
          (wantV v131.1 false).bind fun v132 =>
          (bif v132 then some (v12, v131.2) else some (.tup [], v131.2)).bind fun v133 =>
          (wantV v131.1 false).bind fun v134 =>
          (bif v134 then some (v13, v133.2) else some (.tup [], v133.2)).bind fun v135 =>
          (wantV v131.1 false).bind fun v136 =>
          (bif v136 then some (v14, v135.2) else some (.tup [], v135.2)).bind fun v137 =>
          (wantV v131.1 false).bind fun v138 =>
          (bif v138 then some (v15, v137.2) else some (.tup [], v137.2)).bind fun v139 =>
          (wantV v131.1 false).bind fun v140 =>
          (bif v140 then some (v16, v139.2) else some (.tup [], v139.2)).bind fun v141 =>
          (wantV v131.1 false).bind fun v142 =>
          (bif v142 then E.C fn_impl_ThreatOk [v133.1, v135.1, v137.1, v139.1, v141.1] v141.2 else some (.tup [], v141.2)).bind fun v143 =>
          (wantV v115 true).bind fun v144 =>
          (bif v144 then pv v143.2 (E.p.pick v131.1 (.bool true) v143.1) else some (.tup [], v143.2)).bind fun v145 =>
          (E.p.pick v115 v145.1 (.bool false)).bind fun v146 =>
          (wantV v146 true).bind fun v147 =>
          (bif v147 then E.C fn_laws_alive [] v145.2 else some (.tup [], v145.2)).bind fun v148 =>
          (E.p.pick v146 v148.1 (.bool false)).bind fun v149 =>
          (resV v149).bind fun v150 =>
          some (v150, v148.2))))
theorem main_eq (E : Env) (x0 x1 : PV) (h : PHeap) : runBody (E.cx Tryd.prog kl) Tryd.f10 [x0, x1] h = main E x0 x1 h := by kernel_rfl
theorem call_eq (g : Nat → PV) (lf n : Nat) (x0 x1 : PV) (h : PHeap) : CL g lf (n + 1) fn_laws_FnCarrierMore [x0, x1] h = main (env g lf n) x0 x1 h := by
  rw [← main_eq]
  show (match Tryd.prog.funcs[10]? with | some fn => if fn.body.isSome then runBody ⟨Tryd.prog, g, call Tryd.prog g KL lf n, KL 10, lf, std Tryd.prog⟩ fn [x0, x1] h else none | none => none) = _
  rw [Tryd.func10]
  kernel_rfl
end laws_FnCarrierMore
namespace laws_FnExactCarrierOk
noncomputable def main (E : Env) (x0 x1 x2 x3 x4 : PV) (h : PHeap) : Res :=
    (E.p.len 23 x2).bind fun v1 =>
    (E.p.bin .gtr 3 v1 (.int .i64 1048576)).bind fun v2 =>
    condP v2
     (
      (resV (.bool true)).bind fun v3 =>
      some (v3, h))
     (
      (E.C fn_laws_toIntS [x2] h).bind fun v4 =>
      (E.C fn_spec_CarrierOk [x0, x1, v4.1, x3, x4] v4.2).bind fun v5 =>
      (E.C fn_laws_toIntS [x2] v5.2).bind fun v6 =>
      (E.C fn_impl_CarrierOk [x0, x1, v6.1, x3, x4] v6.2).bind fun v7 =>
      (E.p.bin .neq 4 v7.1 v5.1).bind fun v8 =>
      condP v8
       (
        (resV (.bool false)).bind fun v9 =>
        some (v9, v7.2))
       (
        (E.C fn_laws_toIntS [x2] v7.2).bind fun v10 =>
        (E.C fn_laws_eqIntS [v6.1, v10.1] v10.2).bind fun v11 =>
        (E.p.un .not v11.1).bind fun v12 =>
        condP v12
         (
          (resV (.bool false)).bind fun v13 =>
          some (v13, v11.2))
         (
          (resV (.bool true)).bind fun v14 =>
          some (v14, v11.2))))
theorem main_eq (E : Env) (x0 x1 x2 x3 x4 : PV) (h : PHeap) : runBody (E.cx Tryd.prog kl) Tryd.f11 [x0, x1, x2, x3, x4] h = main E x0 x1 x2 x3 x4 h := by kernel_rfl
theorem call_eq (g : Nat → PV) (lf n : Nat) (x0 x1 x2 x3 x4 : PV) (h : PHeap) : CL g lf (n + 1) fn_laws_FnExactCarrierOk [x0, x1, x2, x3, x4] h = main (env g lf n) x0 x1 x2 x3 x4 h := by
  rw [← main_eq]
  show (match Tryd.prog.funcs[11]? with | some fn => if fn.body.isSome then runBody ⟨Tryd.prog, g, call Tryd.prog g KL lf n, KL 11, lf, std Tryd.prog⟩ fn [x0, x1, x2, x3, x4] h else none | none => none) = _
  rw [Tryd.func11]
  kernel_rfl
end laws_FnExactCarrierOk
namespace laws_FnExactThreatOk
noncomputable def main (E : Env) (x0 x1 x2 x3 x4 : PV) (h : PHeap) : Res :=
    (E.p.len 23 x2).bind fun v1 =>
    (E.p.bin .gtr 3 v1 (.int .i64 1048576)).bind fun v2 =>
    condP v2
     (
      (resV (.bool true)).bind fun v3 =>
      some (v3, h))
     (
      (E.C fn_laws_toIntS [x2] h).bind fun v4 =>
      (E.C fn_spec_ThreatOk [x0, x1, v4.1, x3, x4] v4.2).bind fun v5 =>
      (E.C fn_laws_toIntS [x2] v5.2).bind fun v6 =>
      (E.C fn_impl_ThreatOk [x0, x1, v6.1, x3, x4] v6.2).bind fun v7 =>
      (E.p.bin .neq 4 v7.1 v5.1).bind fun v8 =>
      condP v8
       (
        (resV (.bool false)).bind fun v9 =>
        some (v9, v7.2))
       (
        (E.C fn_laws_toIntS [x2] v7.2).bind fun v10 =>
        (E.C fn_laws_eqIntS [v6.1, v10.1] v10.2).bind fun v11 =>
        (E.p.un .not v11.1).bind fun v12 =>
        condP v12
         (
          (resV (.bool false)).bind fun v13 =>
          some (v13, v11.2))
         (
          (resV (.bool true)).bind fun v14 =>
          some (v14, v11.2))))
theorem main_eq (E : Env) (x0 x1 x2 x3 x4 : PV) (h : PHeap) : runBody (E.cx Tryd.prog kl) Tryd.f12 [x0, x1, x2, x3, x4] h = main E x0 x1 x2 x3 x4 h := by kernel_rfl
theorem call_eq (g : Nat → PV) (lf n : Nat) (x0 x1 x2 x3 x4 : PV) (h : PHeap) : CL g lf (n + 1) fn_laws_FnExactThreatOk [x0, x1, x2, x3, x4] h = main (env g lf n) x0 x1 x2 x3 x4 h := by
  rw [← main_eq]
  show (match Tryd.prog.funcs[12]? with | some fn => if fn.body.isSome then runBody ⟨Tryd.prog, g, call Tryd.prog g KL lf n, KL 12, lf, std Tryd.prog⟩ fn [x0, x1, x2, x3, x4] h else none | none => none) = _
  rw [Tryd.func12]
  kernel_rfl
end laws_FnExactThreatOk
namespace laws_FnExactLeastCarrier
noncomputable def main (E : Env) (x0 x1 x2 x3 : PV) (h : PHeap) : Res :=
    (E.p.len 23 x2).bind fun v1 =>
    (E.p.bin .gtr 3 v1 (.int .i64 1048576)).bind fun v2 =>
    condP v2
     (
      (resV (.bool true)).bind fun v3 =>
      some (v3, h))
     (
      (E.C fn_laws_toIntS [x2] h).bind fun v4 =>
      (E.C fn_spec_LeastCarrier [x0, x1, v4.1, x3] v4.2).bind fun v5 =>
      (E.C fn_laws_toIntS [x2] v5.2).bind fun v6 =>
      (E.C fn_impl_LeastCarrier [x0, x1, v6.1, x3] v6.2).bind fun v7 =>
      (E.p.bin .neq 3 v7.1 v5.1).bind fun v8 =>
      condP v8
       (
        (resV (.bool false)).bind fun v9 =>
        some (v9, v7.2))
       (
        (E.C fn_laws_toIntS [x2] v7.2).bind fun v10 =>
        (E.C fn_laws_eqIntS [v6.1, v10.1] v10.2).bind fun v11 =>
        (E.p.un .not v11.1).bind fun v12 =>
        condP v12
         (
          (resV (.bool false)).bind fun v13 =>
          some (v13, v11.2))
         (
          (resV (.bool true)).bind fun v14 =>
          some (v14, v11.2))))
theorem main_eq (E : Env) (x0 x1 x2 x3 : PV) (h : PHeap) : runBody (E.cx Tryd.prog kl) Tryd.f13 [x0, x1, x2, x3] h = main E x0 x1 x2 x3 h := by kernel_rfl
theorem call_eq (g : Nat → PV) (lf n : Nat) (x0 x1 x2 x3 : PV) (h : PHeap) : CL g lf (n + 1) fn_laws_FnExactLeastCarrier [x0, x1, x2, x3] h = main (env g lf n) x0 x1 x2 x3 h := by
  rw [← main_eq]
  show (match Tryd.prog.funcs[13]? with | some fn => if fn.body.isSome then runBody ⟨Tryd.prog, g, call Tryd.prog g KL lf n, KL 13, lf, std Tryd.prog⟩ fn [x0, x1, x2, x3] h else none | none => none) = _
  rw [Tryd.func13]
  kernel_rfl
end laws_FnExactLeastCarrier
namespace laws_FnExactLeastThreat
noncomputable def main (E : Env) (x0 x1 x2 x3 : PV) (h : PHeap) : Res :=
    (E.p.len 23 x2).bind fun v1 =>
    (E.p.bin .gtr 3 v1 (.int .i64 1048576)).bind fun v2 =>
    condP v2
     (
      (resV (.bool true)).bind fun v3 =>
      some (v3, h))
     (
      (E.C fn_laws_toIntS [x2] h).bind fun v4 =>
      (E.C fn_spec_LeastThreat [x0, x1, v4.1, x3] v4.2).bind fun v5 =>
      (E.C fn_laws_toIntS [x2] v5.2).bind fun v6 =>
      (E.C fn_impl_LeastThreat [x0, x1, v6.1, x3] v6.2).bind fun v7 =>
      (E.p.bin .neq 3 v7.1 v5.1).bind fun v8 =>
      condP v8
       (
        (resV (.bool false)).bind fun v9 =>
        some (v9, v7.2))
       (
        (E.C fn_laws_toIntS [x2] v7.2).bind fun v10 =>
        (E.C fn_laws_eqIntS [v6.1, v10.1] v10.2).bind fun v11 =>
        (E.p.un .not v11.1).bind fun v12 =>
        condP v12
         (
          (resV (.bool false)).bind fun v13 =>
          some (v13, v11.2))
         (
          (resV (.bool true)).bind fun v14 =>
          some (v14, v11.2))))
theorem main_eq (E : Env) (x0 x1 x2 x3 : PV) (h : PHeap) : runBody (E.cx Tryd.prog kl) Tryd.f14 [x0, x1, x2, x3] h = main E x0 x1 x2 x3 h := by kernel_rfl
theorem call_eq (g : Nat → PV) (lf n : Nat) (x0 x1 x2 x3 : PV) (h : PHeap) : CL g lf (n + 1) fn_laws_FnExactLeastThreat [x0, x1, x2, x3] h = main (env g lf n) x0 x1 x2 x3 h := by
  rw [← main_eq]
  show (match Tryd.prog.funcs[14]? with | some fn => if fn.body.isSome then runBody ⟨Tryd.prog, g, call Tryd.prog g KL lf n, KL 14, lf, std Tryd.prog⟩ fn [x0, x1, x2, x3] h else none | none => none) = _
  rw [Tryd.func14]
  kernel_rfl
end laws_FnExactLeastThreat
namespace laws_FnExactBridgesOf
noncomputable def main (E : Env) (x0 x1 x2 : PV) (h : PHeap) : Res :=
    (E.C fn_spec_BridgesOf [x0, x1, x2] h).bind fun v1 =>
    (E.C fn_impl_BridgesOf [x0, x1, x2] v1.2).bind fun v2 =>
    (E.C fn_laws_eqIntS [v2.1, v1.1] v2.2).bind fun v3 =>
    (E.p.un .not v3.1).bind fun v4 =>
    condP v4
     (
      (resV (.bool false)).bind fun v5 =>
      some (v5, v3.2))
     (
      (E.C fn_laws_markIntS [v2.1, (.int .i64 1)] v3.2).bind fun v6 =>
      (E.C fn_laws_heldIntS [v2.1, (.int .i64 1)] v6.2).bind fun v7 =>
      (E.p.bin .lss 3 v7.1 (.int .i64 0)).bind fun v8 =>
      condP v8
       (
        (resV (.bool false)).bind fun v9 =>
        some (v9, v7.2))
       (
        (E.p.bin .neq 3 v7.1 v6.1).bind fun v10 =>
        condP v10
         (
          (resV (.bool false)).bind fun v11 =>
          some (v11, v7.2))
         (
          (E.C fn_impl_BridgesOf [x0, x1, x2] v7.2).bind fun v12 =>
          (E.C fn_laws_eqIntS [v12.1, v1.1] v12.2).bind fun v13 =>
          (E.p.un .not v13.1).bind fun v14 =>
          condP v14
           (
            (resV (.bool false)).bind fun v15 =>
            some (v15, v13.2))
           (
            (E.C fn_laws_heldIntS [v2.1, (.int .i64 1)] v13.2).bind fun v16 =>
            (E.p.bin .lss 3 v16.1 (.int .i64 0)).bind fun v17 =>
            condP v17
             (
              (resV (.bool false)).bind fun v18 =>
              some (v18, v16.2))
             (
              (E.p.bin .neq 3 v16.1 v6.1).bind fun v19 =>
              condP v19
               (
                (resV (.bool false)).bind fun v20 =>
                some (v20, v16.2))
               (
                (resV (.bool true)).bind fun v21 =>
                some (v21, v16.2)))))))
theorem main_eq (E : Env) (x0 x1 x2 : PV) (h : PHeap) : runBody (E.cx Tryd.prog kl) Tryd.f15 [x0, x1, x2] h = main E x0 x1 x2 h := by kernel_rfl
theorem call_eq (g : Nat → PV) (lf n : Nat) (x0 x1 x2 : PV) (h : PHeap) : CL g lf (n + 1) fn_laws_FnExactBridgesOf [x0, x1, x2] h = main (env g lf n) x0 x1 x2 h := by
  rw [← main_eq]
  show (match Tryd.prog.funcs[15]? with | some fn => if fn.body.isSome then runBody ⟨Tryd.prog, g, call Tryd.prog g KL lf n, KL 15, lf, std Tryd.prog⟩ fn [x0, x1, x2] h else none | none => none) = _
  rw [Tryd.func15]
  kernel_rfl
end laws_FnExactBridgesOf
namespace laws_FnExactMustCells
noncomputable def main (E : Env) (x0 x1 x2 x3 : PV) (h : PHeap) : Res :=
    (E.p.len 23 x2).bind fun v1 =>
    (E.p.bin .gtr 3 v1 (.int .i64 1048576)).bind fun v2 =>
    condP v2
     (
      (resV (.bool true)).bind fun v3 =>
      some (v3, h))
     (
      (E.C fn_laws_toIntS [x2] h).bind fun v4 =>
      (E.C fn_spec_MustCells [x0, x1, v4.1, x3] v4.2).bind fun v5 =>
      (E.C fn_laws_toIntS [x2] v5.2).bind fun v6 =>
      (E.C fn_impl_MustCells [x0, x1, v6.1, x3] v6.2).bind fun v7 =>
      (E.C fn_laws_eqIntS [v7.1, v5.1] v7.2).bind fun v8 =>
      (E.p.un .not v8.1).bind fun v9 =>
      condP v9
       (
        (resV (.bool false)).bind fun v10 =>
        some (v10, v8.2))
       (
        (E.C fn_laws_toIntS [x2] v8.2).bind fun v11 =>
        (E.C fn_laws_eqIntS [v6.1, v11.1] v11.2).bind fun v12 =>
        (E.p.un .not v12.1).bind fun v13 =>
        condP v13
         (
          (resV (.bool false)).bind fun v14 =>
          some (v14, v12.2))
         (
          (E.C fn_laws_markIntS [v6.1, (.int .i64 1)] v12.2).bind fun v15 =>
          (E.p.bin .lss 3 v15.1 (.int .i64 0)).bind fun v16 =>
          (wantV v16 false).bind fun v17 =>
          (bif v17 then some (v7.1, v15.2) else some (.tup [], v15.2)).bind fun v18 =>
          (wantV v16 false).bind fun v19 =>
          (bif v19 then some (v5.1, v18.2) else some (.tup [], v18.2)).bind fun v20 =>
          (wantV v16 false).bind fun v21 =>
          (bif v21 then E.C fn_laws_eqIntS [v18.1, v20.1] v20.2 else some (.tup [], v20.2)).bind fun v22 =>
          (wantV v16 false).bind fun v23 =>
          (bif v23 then pv v22.2 (E.p.un .not v22.1) else some (.tup [], v22.2)).bind fun v24 =>
          (E.p.pick v16 (.bool true) v24.1).bind fun v25 =>
          condP v25
           (
            (resV (.bool false)).bind fun v26 =>
            some (v26, v24.2))
           (
            (E.C fn_laws_markIntS [v7.1, (.int .i64 1)] v24.2).bind fun v27 =>
            (E.C fn_laws_heldIntS [v7.1, (.int .i64 1)] v27.2).bind fun v28 =>
            (E.p.bin .lss 3 v28.1 (.int .i64 0)).bind fun v29 =>
            condP v29
             (
              (resV (.bool false)).bind fun v30 =>
              some (v30, v28.2))
             (
              (E.p.bin .neq 3 v28.1 v27.1).bind fun v31 =>
              condP v31
               (
                (resV (.bool false)).bind fun v32 =>
                some (v32, v28.2))
               (
                (E.C fn_laws_toIntS [x2] v28.2).bind fun v33 =>
                (E.C fn_impl_MustCells [x0, x1, v33.1, x3] v33.2).bind fun v34 =>
                (E.C fn_laws_eqIntS [v34.1, v5.1] v34.2).bind fun v35 =>
                (E.p.un .not v35.1).bind fun v36 =>
                condP v36
                 (
                  (resV (.bool false)).bind fun v37 =>
                  some (v37, v35.2))
                 (
                  (E.C fn_laws_heldIntS [v7.1, (.int .i64 1)] v35.2).bind fun v38 =>
                  (E.p.bin .lss 3 v38.1 (.int .i64 0)).bind fun v39 =>
                  condP v39
                   (
                    (resV (.bool false)).bind fun v40 =>
                    some (v40, v38.2))
                   (
                    (E.p.bin .neq 3 v38.1 v27.1).bind fun v41 =>
                    condP v41
                     (
                      (resV (.bool false)).bind fun v42 =>
                      some (v42, v38.2))
                     (
                      (resV (.bool true)).bind fun v43 =>
                      some (v43, v38.2))))))))))
theorem main_eq (E : Env) (x0 x1 x2 x3 : PV) (h : PHeap) : runBody (E.cx Tryd.prog kl) Tryd.f16 [x0, x1, x2, x3] h = main E x0 x1 x2 x3 h := by kernel_rfl
theorem call_eq (g : Nat → PV) (lf n : Nat) (x0 x1 x2 x3 : PV) (h : PHeap) : CL g lf (n + 1) fn_laws_FnExactMustCells [x0, x1, x2, x3] h = main (env g lf n) x0 x1 x2 x3 h := by
  rw [← main_eq]
  show (match Tryd.prog.funcs[16]? with | some fn => if fn.body.isSome then runBody ⟨Tryd.prog, g, call Tryd.prog g KL lf n, KL 16, lf, std Tryd.prog⟩ fn [x0, x1, x2, x3] h else none | none => none) = _
  rw [Tryd.func16]
  kernel_rfl
end laws_FnExactMustCells
namespace spec_DrawCarrierOk
noncomputable def main (E : Env) (x0 : PV) (h : PHeap) : Res :=
    (E.C fn_spec_l20Open [x0] h).bind fun v1 =>
    (E.C fn_spec_l20Carried [v1.1] v1.2).bind fun v2 =>
    (E.p.extract v2.1 0).bind fun v3 =>
    (E.p.extract v2.1 1).bind fun v4 =>
    (E.p.extract v2.1 2).bind fun v5 =>
    (E.p.extract v2.1 3).bind fun v6 =>
    (E.p.extract v2.1 4).bind fun v7 =>
    (resV v3).bind fun v8 =>
    (resV v4).bind fun v9 =>
    (resV v5).bind fun v10 =>
    (resV v6).bind fun v11 =>
    (resV v7).bind fun v12 =>
    some (.tup [v8, v9, v10, v11, v12], v2.2)
theorem main_eq (E : Env) (x0 : PV) (h : PHeap) : runBody (E.cx Tryd.prog kl) Tryd.f17 [x0] h = main E x0 h := by kernel_rfl
theorem call_eq (g : Nat → PV) (lf n : Nat) (x0 : PV) (h : PHeap) : CL g lf (n + 1) fn_spec_DrawCarrierOk [x0] h = main (env g lf n) x0 h := by
  rw [← main_eq]
  show (match Tryd.prog.funcs[17]? with | some fn => if fn.body.isSome then runBody ⟨Tryd.prog, g, call Tryd.prog g KL lf n, KL 17, lf, std Tryd.prog⟩ fn [x0] h else none | none => none) = _
  rw [Tryd.func17]
  kernel_rfl
end spec_DrawCarrierOk
namespace impl_CarrierOk
noncomputable def main (E : Env) (x0 x1 x2 x3 x4 : PV) (h : PHeap) : Res :=
    (E.C fn_impl_exchanged [x3] h).bind fun v1 =>
    (E.C fn_impl_setWins [x0, x1, x2, x3, v1.1, x4] v1.2).bind fun v2 =>
    (resV v2.1).bind fun v3 =>
    some (v3, v2.2)
theorem main_eq (E : Env) (x0 x1 x2 x3 x4 : PV) (h : PHeap) : runBody (E.cx Tryd.prog kl) Tryd.f18 [x0, x1, x2, x3, x4] h = main E x0 x1 x2 x3 x4 h := by kernel_rfl
theorem call_eq (g : Nat → PV) (lf n : Nat) (x0 x1 x2 x3 x4 : PV) (h : PHeap) : CL g lf (n + 1) fn_impl_CarrierOk [x0, x1, x2, x3, x4] h = main (env g lf n) x0 x1 x2 x3 x4 h := by
  rw [← main_eq]
  show (match Tryd.prog.funcs[18]? with | some fn => if fn.body.isSome then runBody ⟨Tryd.prog, g, call Tryd.prog g KL lf n, KL 18, lf, std Tryd.prog⟩ fn [x0, x1, x2, x3, x4] h else none | none => none) = _
  rw [Tryd.func18]
  kernel_rfl
end impl_CarrierOk
namespace spec_CarrierOk
noncomputable def main (E : Env) (x0 x1 x2 x3 x4 : PV) (h : PHeap) : Res :=
    (E.C fn_spec_l6Ok [x0, x1, x2, x3, x4] h).bind fun v1 =>
    (E.p.un .not v1.1).bind fun v2 =>
    condP v2
     (
      (resV (.bool false)).bind fun v3 =>
      some (v3, v1.2))
     (
      (E.C fn_spec_l6Given [x2, x3, x4] v1.2).bind fun v4 =>
      (E.C fn_spec_l1Other [x3] v4.2).bind fun v5 =>
      (E.C fn_spec_l3Winner [x0, x1, v4.1, v5.1] v5.2).bind fun v6 =>
      (E.p.bin .eql 3 v6.1 x3).bind fun v7 =>
      (resV v7).bind fun v8 =>
      some (v8, v6.2))
theorem main_eq (E : Env) (x0 x1 x2 x3 x4 : PV) (h : PHeap) : runBody (E.cx Tryd.prog kl) Tryd.f19 [x0, x1, x2, x3, x4] h = main E x0 x1 x2 x3 x4 h := by kernel_rfl
theorem call_eq (g : Nat → PV) (lf n : Nat) (x0 x1 x2 x3 x4 : PV) (h : PHeap) : CL g lf (n + 1) fn_spec_CarrierOk [x0, x1, x2, x3, x4] h = main (env g lf n) x0 x1 x2 x3 x4 h := by
  rw [← main_eq]
  show (match Tryd.prog.funcs[19]? with | some fn => if fn.body.isSome then runBody ⟨Tryd.prog, g, call Tryd.prog g KL lf n, KL 19, lf, std Tryd.prog⟩ fn [x0, x1, x2, x3, x4] h else none | none => none) = _
  rw [Tryd.func19]
  kernel_rfl
end spec_CarrierOk
namespace spec_PositionOk
noncomputable def lp0 : Code := (codeAt (bodyOf Tryd.f20) [1, 0, 1, 0, 0])
def st0 (x0 x1 x2 x7 : PV) (h : PHeap) : St := ⟨[x0, x1, x2, .junk, .junk, .junk, .junk, x7, .junk, .junk, .junk, .junk, .junk, .junk, .junk, .junk, .junk, .junk, .junk, .junk, .junk, .junk, .junk, .junk, .junk, .junk, .junk, .junk, .junk, .junk, .junk], h⟩
def sr_6 (x6 : PV) (h : PHeap) : St := ⟨[.junk, .junk, .junk, .junk, .junk, .junk, x6, .junk, .junk, .junk, .junk, .junk, .junk, .junk, .junk, .junk, .junk, .junk, .junk, .junk, .junk, .junk, .junk, .junk, .junk, .junk, .junk, .junk, .junk, .junk, .junk], h⟩
def se0_0_1_2_7_11 (x0 x1 x2 x7 x11 : PV) (h : PHeap) : St := ⟨[x0, x1, x2, .junk, .junk, .junk, .junk, x7, .junk, .junk, .junk, x11, .junk, .junk, .junk, .junk, .junk, .junk, .junk, .junk, .junk, .junk, .junk, .junk, .junk, .junk, .junk, .junk, .junk, .junk, .junk], h⟩
noncomputable def K0 (E : Env) (K : PX → St → Res) : PX → St → Res := (kBlock 0 (kSeq (ev (E.cx Tryd.prog kl) (codeAt (bodyOf Tryd.f20) [1, 1])) K))
@[simp] theorem K0_ret (E : Env) (K : PX → St → Res) (s : St) : K0 E K .ret s = K .ret s := by kernel_rfl
noncomputable def body0 (E : Env) (K : PX → St → Res) (x0 x1 x2 x7 : PV) (h : PHeap) : Res :=
    (E.p.len 23 x2).bind fun v23 =>
    (E.p.bin .lss 3 x7 v23).bind fun v24 =>
    condP v24
     (
      (E.p.indexAddr 23 x2 x7).bind fun v25 =>
      (E.p.load 3 v25 h).bind fun v26 =>
      (E.C fn_spec_l1In [v26, (.int .i64 0), (.int .i64 2)] h).bind fun v27 =>
      (E.p.un .not v27.1).bind fun v28 =>
      condP v28
       (
        K .ret (sr_6 (.bool false) v27.2))
       (
        (E.p.bin .add 3 x7 (.int .i64 1)).bind fun v29 =>
        K .normal (st0 x0 x1 x2 v29 v27.2)))
     (
      K (.exit 0) (se0_0_1_2_7_11 x0 x1 x2 x7 v24 h))
theorem body0_eq (E : Env) (K : PX → St → Res) (x0 x1 x2 x7 : PV) (h : PHeap) : ev (E.cx Tryd.prog kl) lp0 (st0 x0 x1 x2 x7 h) K = body0 E K x0 x1 x2 x7 h := by kernel_rfl
theorem after0_se0_0_1_2_7_11 (E : Env) (x0 x1 x2 x7 x11 : PV) (h : PHeap) : K0 E (kTop Tryd.prog Tryd.f20) (.exit 0) (se0_0_1_2_7_11 x0 x1 x2 x7 x11 h) =
    (E.C fn_spec_BoardOk [x0, x1] h).bind fun v8 =>
    (wantV v8.1 true).bind fun v9 =>
    (bif v9 then some (x2, v8.2) else some (.tup [], v8.2)).bind fun v10 =>
    (wantV v8.1 true).bind fun v11 =>
    (bif v11 then pv v10.2 (E.p.len 23 v10.1) else some (.tup [], v10.2)).bind fun v12 =>
    (wantV v8.1 true).bind fun v13 =>
    (bif v13 then some (x0, v12.2) else some (.tup [], v12.2)).bind fun v14 =>
    (wantV v8.1 true).bind fun v15 =>
    (bif v15 then some (x1, v14.2) else some (.tup [], v14.2)).bind fun v16 =>
    (wantV v8.1 true).bind fun v17 =>
    (bif v17 then pv v16.2 (E.p.bin .mul 3 v14.1 v16.1) else some (.tup [], v16.2)).bind fun v18 =>
    (wantV v8.1 true).bind fun v19 =>
    (bif v19 then pv v18.2 (E.p.bin .eql 3 v12.1 v18.1) else some (.tup [], v18.2)).bind fun v20 =>
    (E.p.pick v8.1 v20.1 (.bool false)).bind fun v21 =>
    (resV v21).bind fun v22 =>
    some (v22, v20.2) := by kernel_rfl
theorem top_sr_6 (x6 : PV) (h : PHeap) : kTop Tryd.prog Tryd.f20 .ret (sr_6 x6 h) =
    (resV x6).bind fun v30 =>
    some (v30, h) := by kernel_rfl
noncomputable def main (E : Env) (x0 x1 x2 : PV) (h : PHeap) : Res :=
    loopK (ev (E.cx Tryd.prog spec_PositionOk.kl) spec_PositionOk.lp0) E.lf (spec_PositionOk.st0 x0 x1 x2 (.int .i64 0) h) (spec_PositionOk.K0 E (kTop Tryd.prog Tryd.f20))
theorem main_eq (E : Env) (x0 x1 x2 : PV) (h : PHeap) : runBody (E.cx Tryd.prog kl) Tryd.f20 [x0, x1, x2] h = main E x0 x1 x2 h := by kernel_rfl
theorem call_eq (g : Nat → PV) (lf n : Nat) (x0 x1 x2 : PV) (h : PHeap) : CL g lf (n + 1) fn_spec_PositionOk [x0, x1, x2] h = main (env g lf n) x0 x1 x2 h := by
  rw [← main_eq]
  show (match Tryd.prog.funcs[20]? with | some fn => if fn.body.isSome then runBody ⟨Tryd.prog, g, call Tryd.prog g KL lf n, KL 20, lf, std Tryd.prog⟩ fn [x0, x1, x2] h else none | none => none) = _
  rw [Tryd.func20]
  kernel_rfl
end spec_PositionOk
namespace laws_alive
noncomputable def main (E : Env) (h : PHeap) : Res :=
    (E.C fn_impl_BoardOk [(.int .i64 2), (.int .i64 2)] h).bind fun v1 =>
    (wantV v1.1 true).bind fun v2 =>
    (bif v2 then E.C fn_impl_BoardOk [(.int .i64 0), (.int .i64 2)] v1.2 else some (.tup [], v1.2)).bind fun v3 =>
    (wantV v1.1 true).bind fun v4 =>
    (bif v4 then pv v3.2 (E.p.un .not v3.1) else some (.tup [], v3.2)).bind fun v5 =>
    (E.p.pick v1.1 v5.1 (.bool false)).bind fun v6 =>
    (resV v6).bind fun v7 =>
    some (v7, v5.2)
theorem main_eq (E : Env) (h : PHeap) : runBody (E.cx Tryd.prog kl) Tryd.f21 [] h = main E  h := by kernel_rfl
theorem call_eq (g : Nat → PV) (lf n : Nat) (h : PHeap) : CL g lf (n + 1) fn_laws_alive [] h = main (env g lf n)  h := by
  rw [← main_eq]
  show (match Tryd.prog.funcs[21]? with | some fn => if fn.body.isSome then runBody ⟨Tryd.prog, g, call Tryd.prog g KL lf n, KL 21, lf, std Tryd.prog⟩ fn [] h else none | none => none) = _
  rw [Tryd.func21]
  kernel_rfl
end laws_alive
namespace impl_ThreatOk
noncomputable def main (E : Env) (x0 x1 x2 x3 x4 : PV) (h : PHeap) : Res :=
    (E.C fn_impl_setWins [x0, x1, x2, x3, x3, x4] h).bind fun v1 =>
    (resV v1.1).bind fun v2 =>
    some (v2, v1.2)
theorem main_eq (E : Env) (x0 x1 x2 x3 x4 : PV) (h : PHeap) : runBody (E.cx Tryd.prog kl) Tryd.f22 [x0, x1, x2, x3, x4] h = main E x0 x1 x2 x3 x4 h := by kernel_rfl
theorem call_eq (g : Nat → PV) (lf n : Nat) (x0 x1 x2 x3 x4 : PV) (h : PHeap) : CL g lf (n + 1) fn_impl_ThreatOk [x0, x1, x2, x3, x4] h = main (env g lf n) x0 x1 x2 x3 x4 h := by
  rw [← main_eq]
  show (match Tryd.prog.funcs[22]? with | some fn => if fn.body.isSome then runBody ⟨Tryd.prog, g, call Tryd.prog g KL lf n, KL 22, lf, std Tryd.prog⟩ fn [x0, x1, x2, x3, x4] h else none | none => none) = _
  rw [Tryd.func22]
  kernel_rfl
end impl_ThreatOk
namespace impl_WinnerOf
noncomputable def main (E : Env) (x0 x1 x2 x3 : PV) (h : PHeap) : Res :=
    (E.C fn_impl_PositionOk [x0, x1, x2] h).bind fun v1 =>
    (E.p.un .not v1.1).bind fun v2 =>
    (wantV v2 false).bind fun v3 =>
    (bif v3 then some (x3, v1.2) else some (.tup [], v1.2)).bind fun v4 =>
    (wantV v2 false).bind fun v5 =>
    (bif v5 then E.C fn_impl_playerOk [v4.1] v4.2 else some (.tup [], v4.2)).bind fun v6 =>
    (wantV v2 false).bind fun v7 =>
    (bif v7 then pv v6.2 (E.p.un .not v6.1) else some (.tup [], v6.2)).bind fun v8 =>
    (E.p.pick v2 (.bool true) v8.1).bind fun v9 =>
    condP v9
     (
      (resV (.int .i64 0)).bind fun v10 =>
      some (v10, v8.2))
     (
      (E.C fn_impl_newSearch [x0, x1] v8.2).bind fun v11 =>
      (E.C fn_impl_standingOf [x2, x3] v11.2).bind fun v12 =>
      (E.C fn_impl_search_winner [v11.1, v12.1] v12.2).bind fun v13 =>
      (resV v13.1).bind fun v14 =>
      some (v14, v13.2))
theorem main_eq (E : Env) (x0 x1 x2 x3 : PV) (h : PHeap) : runBody (E.cx Tryd.prog kl) Tryd.f23 [x0, x1, x2, x3] h = main E x0 x1 x2 x3 h := by kernel_rfl
theorem call_eq (g : Nat → PV) (lf n : Nat) (x0 x1 x2 x3 : PV) (h : PHeap) : CL g lf (n + 1) fn_impl_WinnerOf [x0, x1, x2, x3] h = main (env g lf n) x0 x1 x2 x3 h := by
  rw [← main_eq]
  show (match Tryd.prog.funcs[23]? with | some fn => if fn.body.isSome then runBody ⟨Tryd.prog, g, call Tryd.prog g KL lf n, KL 23, lf, std Tryd.prog⟩ fn [x0, x1, x2, x3] h else none | none => none) = _
  rw [Tryd.func23]
  kernel_rfl
end impl_WinnerOf
namespace spec_DrawThreatOk
noncomputable def main (E : Env) (x0 : PV) (h : PHeap) : Res :=
    (E.C fn_spec_l20Open [x0] h).bind fun v1 =>
    (E.C fn_spec_l20Carried [v1.1] v1.2).bind fun v2 =>
    (E.p.extract v2.1 0).bind fun v3 =>
    (E.p.extract v2.1 1).bind fun v4 =>
    (E.p.extract v2.1 2).bind fun v5 =>
    (E.p.extract v2.1 3).bind fun v6 =>
    (E.p.extract v2.1 4).bind fun v7 =>
    (resV v3).bind fun v8 =>
    (resV v4).bind fun v9 =>
    (resV v5).bind fun v10 =>
    (resV v6).bind fun v11 =>
    (resV v7).bind fun v12 =>
    some (.tup [v8, v9, v10, v11, v12], v2.2)
theorem main_eq (E : Env) (x0 : PV) (h : PHeap) : runBody (E.cx Tryd.prog kl) Tryd.f24 [x0] h = main E x0 h := by kernel_rfl
theorem call_eq (g : Nat → PV) (lf n : Nat) (x0 : PV) (h : PHeap) : CL g lf (n + 1) fn_spec_DrawThreatOk [x0] h = main (env g lf n) x0 h := by
  rw [← main_eq]
  show (match Tryd.prog.funcs[24]? with | some fn => if fn.body.isSome then runBody ⟨Tryd.prog, g, call Tryd.prog g KL lf n, KL 24, lf, std Tryd.prog⟩ fn [x0] h else none | none => none) = _
  rw [Tryd.func24]
  kernel_rfl
end spec_DrawThreatOk
namespace spec_ThreatOk
noncomputable def main (E : Env) (x0 x1 x2 x3 x4 : PV) (h : PHeap) : Res :=
    (E.C fn_spec_l6Ok [x0, x1, x2, x3, x4] h).bind fun v1 =>
    (E.p.un .not v1.1).bind fun v2 =>
    condP v2
     (
      (resV (.bool false)).bind fun v3 =>
      some (v3, v1.2))
     (
      (E.C fn_spec_l6Given [x2, x3, x4] v1.2).bind fun v4 =>
      (E.C fn_spec_l3Winner [x0, x1, v4.1, x3] v4.2).bind fun v5 =>
      (E.p.bin .eql 3 v5.1 x3).bind fun v6 =>
      (resV v6).bind fun v7 =>
      some (v7, v5.2))
theorem main_eq (E : Env) (x0 x1 x2 x3 x4 : PV) (h : PHeap) : runBody (E.cx Tryd.prog kl) Tryd.f25 [x0, x1, x2, x3, x4] h = main E x0 x1 x2 x3 x4 h := by kernel_rfl
theorem call_eq (g : Nat → PV) (lf n : Nat) (x0 x1 x2 x3 x4 : PV) (h : PHeap) : CL g lf (n + 1) fn_spec_ThreatOk [x0, x1, x2, x3, x4] h = main (env g lf n) x0 x1 x2 x3 x4 h := by
  rw [← main_eq]
  show (match Tryd.prog.funcs[25]? with | some fn => if fn.body.isSome then runBody ⟨Tryd.prog, g, call Tryd.prog g KL lf n, KL 25, lf, std Tryd.prog⟩ fn [x0, x1, x2, x3, x4] h else none | none => none) = _
  rw [Tryd.func25]
  kernel_rfl
end spec_ThreatOk
namespace impl_WinningCells
noncomputable def main (E : Env) (x0 x1 x2 x3 : PV) (h : PHeap) : Res :=
    (E.C fn_impl_PositionOk [x0, x1, x2] h).bind fun v1 =>
    (E.p.un .not v1.1).bind fun v2 =>
    (wantV v2 false).bind fun v3 =>
    (bif v3 then some (x3, v1.2) else some (.tup [], v1.2)).bind fun v4 =>
    (wantV v2 false).bind fun v5 =>
    (bif v5 then E.C fn_impl_playerOk [v4.1] v4.2 else some (.tup [], v4.2)).bind fun v6 =>
    (wantV v2 false).bind fun v7 =>
    (bif v7 then pv v6.2 (E.p.un .not v6.1) else some (.tup [], v6.2)).bind fun v8 =>
    (E.p.pick v2 (.bool true) v8.1).bind fun v9 =>
    condP v9
     (
      (resV .nilsl).bind fun v10 =>
      some (v10, v8.2))
     (
      (E.C fn_impl_newSearch [x0, x1] v8.2).bind fun v11 =>
      (E.C fn_impl_standingOf [x2, x3] v11.2).bind fun v12 =>
      (E.C fn_impl_search_winning [v11.1, v12.1] v12.2).bind fun v13 =>
      (E.C fn_impl_cellsIn [v13.1] v13.2).bind fun v14 =>
      (resV v14.1).bind fun v15 =>
      some (v15, v14.2))
theorem main_eq (E : Env) (x0 x1 x2 x3 : PV) (h : PHeap) : runBody (E.cx Tryd.prog kl) Tryd.f26 [x0, x1, x2, x3] h = main E x0 x1 x2 x3 h := by kernel_rfl
theorem call_eq (g : Nat → PV) (lf n : Nat) (x0 x1 x2 x3 : PV) (h : PHeap) : CL g lf (n + 1) fn_impl_WinningCells [x0, x1, x2, x3] h = main (env g lf n) x0 x1 x2 x3 h := by
  rw [← main_eq]
  show (match Tryd.prog.funcs[26]? with | some fn => if fn.body.isSome then runBody ⟨Tryd.prog, g, call Tryd.prog g KL lf n, KL 26, lf, std Tryd.prog⟩ fn [x0, x1, x2, x3] h else none | none => none) = _
  rw [Tryd.func26]
  kernel_rfl
end impl_WinningCells
namespace spec_DrawLeastCarrier
noncomputable def main (E : Env) (x0 : PV) (h : PHeap) : Res :=
    (E.C fn_spec_l20Open [x0] h).bind fun v1 =>
    (E.C fn_spec_l20Few [v1.1, (.int .i64 4)] v1.2).bind fun v2 =>
    (E.p.extract v2.1 0).bind fun v3 =>
    (E.p.extract v2.1 1).bind fun v4 =>
    (E.p.extract v2.1 2).bind fun v5 =>
    (E.p.extract v2.1 3).bind fun v6 =>
    (resV v3).bind fun v7 =>
    (resV v4).bind fun v8 =>
    (resV v5).bind fun v9 =>
    (resV v6).bind fun v10 =>
    some (.tup [v7, v8, v9, v10], v2.2)
theorem main_eq (E : Env) (x0 : PV) (h : PHeap) : runBody (E.cx Tryd.prog kl) Tryd.f27 [x0] h = main E x0 h := by kernel_rfl
theorem call_eq (g : Nat → PV) (lf n : Nat) (x0 : PV) (h : PHeap) : CL g lf (n + 1) fn_spec_DrawLeastCarrier [x0] h = main (env g lf n) x0 h := by
  rw [← main_eq]
  show (match Tryd.prog.funcs[27]? with | some fn => if fn.body.isSome then runBody ⟨Tryd.prog, g, call Tryd.prog g KL lf n, KL 27, lf, std Tryd.prog⟩ fn [x0] h else none | none => none) = _
  rw [Tryd.func27]
  kernel_rfl
end spec_DrawLeastCarrier
namespace impl_LeastCarrier
noncomputable def main (E : Env) (x0 x1 x2 x3 : PV) (h : PHeap) : Res :=
    (E.C fn_impl_exchanged [x3] h).bind fun v1 =>
    (E.C fn_impl_leastSet [x0, x1, x2, x3, v1.1] v1.2).bind fun v2 =>
    (resV v2.1).bind fun v3 =>
    some (v3, v2.2)
theorem main_eq (E : Env) (x0 x1 x2 x3 : PV) (h : PHeap) : runBody (E.cx Tryd.prog kl) Tryd.f28 [x0, x1, x2, x3] h = main E x0 x1 x2 x3 h := by kernel_rfl
theorem call_eq (g : Nat → PV) (lf n : Nat) (x0 x1 x2 x3 : PV) (h : PHeap) : CL g lf (n + 1) fn_impl_LeastCarrier [x0, x1, x2, x3] h = main (env g lf n) x0 x1 x2 x3 h := by
  rw [← main_eq]
  show (match Tryd.prog.funcs[28]? with | some fn => if fn.body.isSome then runBody ⟨Tryd.prog, g, call Tryd.prog g KL lf n, KL 28, lf, std Tryd.prog⟩ fn [x0, x1, x2, x3] h else none | none => none) = _
  rw [Tryd.func28]
  kernel_rfl
end impl_LeastCarrier
namespace spec_LeastCarrier
noncomputable def lp0 : Code := (codeAt (bodyOf Tryd.f29) [1, 1, 1, 1, 0, 1, 0, 0])
def st0 (x0 x1 x2 x3 x9 x10 x11 : PV) (h : PHeap) : St := ⟨[x0, x1, x2, x3, .junk, .junk, .junk, .junk, .junk, x9, x10, x11, .junk, .junk, .junk, .junk, .junk, .junk, .junk, .junk, .junk, .junk, .junk, .junk, .junk, .junk, .junk, .junk, .junk, .junk, .junk, .junk, .junk, .junk, .junk, .junk, .junk, .junk, .junk, .junk, .junk, .junk, .junk, .junk, .junk, .junk, .junk, .junk, .junk, .junk, .junk], h⟩
def se0_0_1_2_3_9_10_11_26 (x0 x1 x2 x3 x9 x10 x11 x26 : PV) (h : PHeap) : St := ⟨[x0, x1, x2, x3, .junk, .junk, .junk, .junk, .junk, x9, x10, x11, .junk, .junk, .junk, .junk, .junk, .junk, .junk, .junk, .junk, .junk, .junk, .junk, .junk, .junk, x26, .junk, .junk, .junk, .junk, .junk, .junk, .junk, .junk, .junk, .junk, .junk, .junk, .junk, .junk, .junk, .junk, .junk, .junk, .junk, .junk, .junk, .junk, .junk, .junk], h⟩
noncomputable def K0 (E : Env) (K : PX → St → Res) : PX → St → Res := (kBlock 0 (kSeq (ev (E.cx Tryd.prog kl) (codeAt (bodyOf Tryd.f29) [1, 1, 1, 1, 1])) K))
@[simp] theorem K0_ret (E : Env) (K : PX → St → Res) (s : St) : K0 E K .ret s = K .ret s := by kernel_rfl
noncomputable def body0 (E : Env) (K : PX → St → Res) (x0 x1 x2 x3 x9 x10 x11 : PV) (h : PHeap) : Res :=
    (E.p.len 23 x10).bind fun v38 =>
    (E.p.bin .shl 3 (.int .i64 1) v38).bind fun v39 =>
    (E.p.bin .lss 3 x11 v39).bind fun v40 =>
    condP v40
     (
      (E.C fn_spec_l5Fill [x10, x11] h).bind fun v41 =>
      (E.p.bin .lss 3 x9 (.int .i64 0)).bind fun v42 =>
      (wantV v42 false).bind fun v43 =>
      (bif v43 then some (v41.1, v41.2) else some (.tup [], v41.2)).bind fun v44 =>
      (wantV v42 false).bind fun v45 =>
      (bif v45 then E.C fn_spec_l6Size [v44.1] v44.2 else some (.tup [], v44.2)).bind fun v46 =>
      (wantV v42 false).bind fun v47 =>
      (bif v47 then some (x9, v46.2) else some (.tup [], v46.2)).bind fun v48 =>
      (wantV v42 false).bind fun v49 =>
      (bif v49 then E.C fn_spec_l6Size [v48.1] v48.2 else some (.tup [], v48.2)).bind fun v50 =>
      (wantV v42 false).bind fun v51 =>
      (bif v51 then pv v50.2 (E.p.bin .lss 3 v46.1 v50.1) else some (.tup [], v50.2)).bind fun v52 =>
      (E.p.pick v42 (.bool true) v52.1).bind fun v53 =>
      (wantV v53 true).bind fun v54 =>
      (bif v54 then some (x0, v52.2) else some (.tup [], v52.2)).bind fun v55 =>
      (wantV v53 true).bind fun v56 =>
      (bif v56 then some (x1, v55.2) else some (.tup [], v55.2)).bind fun v57 =>
      (wantV v53 true).bind fun v58 =>
      (bif v58 then some (x2, v57.2) else some (.tup [], v57.2)).bind fun v59 =>
      (wantV v53 true).bind fun v60 =>
      (bif v60 then some (x3, v59.2) else some (.tup [], v59.2)).bind fun v61 =>
      (wantV v53 true).bind fun v62 =>
      (bif v62 then some (v41.1, v61.2) else some (.tup [], v61.2)).bind fun v63 =>
      (wantV v53 true).bind fun v64 =>
      (bif v64 then E.C fn_spec_CarrierOk [v55.1, v57.1, v59.1, v61.1, v63.1] v63.2 else some (.tup [], v63.2)).bind fun v65 =>
      (E.p.pick v53 v65.1 (.bool false)).bind fun v66 =>
      condP v66
       (
        (E.p.bin .add 3 x11 (.int .i64 1)).bind fun v67 =>
        K .normal (st0 x0 x1 x2 x3 v41.1 x10 v67 v65.2))
       (
        (E.p.bin .add 3 x11 (.int .i64 1)).bind fun v68 =>
        K .normal (st0 x0 x1 x2 x3 x9 x10 v68 v65.2)))
     (
      K (.exit 0) (se0_0_1_2_3_9_10_11_26 x0 x1 x2 x3 x9 x10 x11 v40 h))
theorem body0_eq (E : Env) (K : PX → St → Res) (x0 x1 x2 x3 x9 x10 x11 : PV) (h : PHeap) : ev (E.cx Tryd.prog kl) lp0 (st0 x0 x1 x2 x3 x9 x10 x11 h) K = body0 E K x0 x1 x2 x3 x9 x10 x11 h := by kernel_rfl
theorem after0_se0_0_1_2_3_9_10_11_26 (E : Env) (x0 x1 x2 x3 x9 x10 x11 x26 : PV) (h : PHeap) : K0 E (kTop Tryd.prog Tryd.f29) (.exit 0) (se0_0_1_2_3_9_10_11_26 x0 x1 x2 x3 x9 x10 x11 x26 h) =
    (resV x9).bind fun v37 =>
    some (v37, h) := by kernel_rfl
noncomputable def main (E : Env) (x0 x1 x2 x3 : PV) (h : PHeap) : Res :=
    (E.C fn_spec_l6Ok [x0, x1, x2, x3, (.int .i64 0)] h).bind fun v1 =>
    (E.p.un .not v1.1).bind fun v2 =>
    condP v2
     (
      (resV (.int .i64 (-1))).bind fun v3 =>
      some (v3, v1.2))
     (
      (E.C fn_spec_l2Set [x2, (.int .i64 0)] v1.2).bind fun v4 =>
      (E.C fn_spec_l2List [v4.1] v4.2).bind fun v5 =>
      loopK (ev (E.cx Tryd.prog spec_LeastCarrier.kl) spec_LeastCarrier.lp0) E.lf (spec_LeastCarrier.st0 x0 x1 x2 x3 (.int .i64 (-1)) v5.1 (.int .i64 0) v5.2) (spec_LeastCarrier.K0 E (kTop Tryd.prog Tryd.f29)))
theorem main_eq (E : Env) (x0 x1 x2 x3 : PV) (h : PHeap) : runBody (E.cx Tryd.prog kl) Tryd.f29 [x0, x1, x2, x3] h = main E x0 x1 x2 x3 h := by kernel_rfl
theorem call_eq (g : Nat → PV) (lf n : Nat) (x0 x1 x2 x3 : PV) (h : PHeap) : CL g lf (n + 1) fn_spec_LeastCarrier [x0, x1, x2, x3] h = main (env g lf n) x0 x1 x2 x3 h := by
  rw [← main_eq]
  show (match Tryd.prog.funcs[29]? with | some fn => if fn.body.isSome then runBody ⟨Tryd.prog, g, call Tryd.prog g KL lf n, KL 29, lf, std Tryd.prog⟩ fn [x0, x1, x2, x3] h else none | none => none) = _
  rw [Tryd.func29]
  kernel_rfl
end spec_LeastCarrier
namespace spec_DrawLeastThreat
noncomputable def main (E : Env) (x0 : PV) (h : PHeap) : Res :=
    (E.C fn_spec_l20Open [x0] h).bind fun v1 =>
    (E.C fn_spec_l20Few [v1.1, (.int .i64 4)] v1.2).bind fun v2 =>
    (E.p.extract v2.1 0).bind fun v3 =>
    (E.p.extract v2.1 1).bind fun v4 =>
    (E.p.extract v2.1 2).bind fun v5 =>
    (E.p.extract v2.1 3).bind fun v6 =>
    (resV v3).bind fun v7 =>
    (resV v4).bind fun v8 =>
    (resV v5).bind fun v9 =>
    (resV v6).bind fun v10 =>
    some (.tup [v7, v8, v9, v10], v2.2)
theorem main_eq (E : Env) (x0 : PV) (h : PHeap) : runBody (E.cx Tryd.prog kl) Tryd.f30 [x0] h = main E x0 h := by kernel_rfl
theorem call_eq (g : Nat → PV) (lf n : Nat) (x0 : PV) (h : PHeap) : CL g lf (n + 1) fn_spec_DrawLeastThreat [x0] h = main (env g lf n) x0 h := by
  rw [← main_eq]
  show (match Tryd.prog.funcs[30]? with | some fn => if fn.body.isSome then runBody ⟨Tryd.prog, g, call Tryd.prog g KL lf n, KL 30, lf, std Tryd.prog⟩ fn [x0] h else none | none => none) = _
  rw [Tryd.func30]
  kernel_rfl
end spec_DrawLeastThreat
namespace impl_LeastThreat
noncomputable def main (E : Env) (x0 x1 x2 x3 : PV) (h : PHeap) : Res :=
    (E.C fn_impl_leastSet [x0, x1, x2, x3, x3] h).bind fun v1 =>
    (resV v1.1).bind fun v2 =>
    some (v2, v1.2)
theorem main_eq (E : Env) (x0 x1 x2 x3 : PV) (h : PHeap) : runBody (E.cx Tryd.prog kl) Tryd.f31 [x0, x1, x2, x3] h = main E x0 x1 x2 x3 h := by kernel_rfl
theorem call_eq (g : Nat → PV) (lf n : Nat) (x0 x1 x2 x3 : PV) (h : PHeap) : CL g lf (n + 1) fn_impl_LeastThreat [x0, x1, x2, x3] h = main (env g lf n) x0 x1 x2 x3 h := by
  rw [← main_eq]
  show (match Tryd.prog.funcs[31]? with | some fn => if fn.body.isSome then runBody ⟨Tryd.prog, g, call Tryd.prog g KL lf n, KL 31, lf, std Tryd.prog⟩ fn [x0, x1, x2, x3] h else none | none => none) = _
  rw [Tryd.func31]
  kernel_rfl
end impl_LeastThreat
namespace spec_LeastThreat
noncomputable def lp0 : Code := (codeAt (bodyOf Tryd.f32) [1, 1, 1, 1, 0, 1, 0, 0])
def st0 (x0 x1 x2 x3 x9 x10 x11 : PV) (h : PHeap) : St := ⟨[x0, x1, x2, x3, .junk, .junk, .junk, .junk, .junk, x9, x10, x11, .junk, .junk, .junk, .junk, .junk, .junk, .junk, .junk, .junk, .junk, .junk, .junk, .junk, .junk, .junk, .junk, .junk, .junk, .junk, .junk, .junk, .junk, .junk, .junk, .junk, .junk, .junk, .junk, .junk, .junk, .junk, .junk, .junk, .junk, .junk, .junk, .junk, .junk, .junk], h⟩
def se0_0_1_2_3_9_10_11_26 (x0 x1 x2 x3 x9 x10 x11 x26 : PV) (h : PHeap) : St := ⟨[x0, x1, x2, x3, .junk, .junk, .junk, .junk, .junk, x9, x10, x11, .junk, .junk, .junk, .junk, .junk, .junk, .junk, .junk, .junk, .junk, .junk, .junk, .junk, .junk, x26, .junk, .junk, .junk, .junk, .junk, .junk, .junk, .junk, .junk, .junk, .junk, .junk, .junk, .junk, .junk, .junk, .junk, .junk, .junk, .junk, .junk, .junk, .junk, .junk], h⟩
noncomputable def K0 (E : Env) (K : PX → St → Res) : PX → St → Res := (kBlock 0 (kSeq (ev (E.cx Tryd.prog kl) (codeAt (bodyOf Tryd.f32) [1, 1, 1, 1, 1])) K))
@[simp] theorem K0_ret (E : Env) (K : PX → St → Res) (s : St) : K0 E K .ret s = K .ret s := by kernel_rfl
noncomputable def body0 (E : Env) (K : PX → St → Res) (x0 x1 x2 x3 x9 x10 x11 : PV) (h : PHeap) : Res :=
    (E.p.len 23 x10).bind fun v38 =>
    (E.p.bin .shl 3 (.int .i64 1) v38).bind fun v39 =>
    (E.p.bin .lss 3 x11 v39).bind fun v40 =>
    condP v40
     (
      (E.C fn_spec_l5Fill [x10, x11] h).bind fun v41 =>
      (E.p.bin .lss 3 x9 (.int .i64 0)).bind fun v42 =>
      (wantV v42 false).bind fun v43 =>
      (bif v43 then some (v41.1, v41.2) else some (.tup [], v41.2)).bind fun v44 =>
      (wantV v42 false).bind fun v45 =>
      (bif v45 then E.C fn_spec_l6Size [v44.1] v44.2 else some (.tup [], v44.2)).bind fun v46 =>
      (wantV v42 false).bind fun v47 =>
      (bif v47 then some (x9, v46.2) else some (.tup [], v46.2)).bind fun v48 =>
      (wantV v42 false).bind fun v49 =>
      (bif v49 then E.C fn_spec_l6Size [v48.1] v48.2 else some (.tup [], v48.2)).bind fun v50 =>
      (wantV v42 false).bind fun v51 =>
      (bif v51 then pv v50.2 (E.p.bin .lss 3 v46.1 v50.1) else some (.tup [], v50.2)).bind fun v52 =>
      (E.p.pick v42 (.bool true) v52.1).bind fun v53 =>
      (wantV v53 true).bind fun v54 =>
      (bif v54 then some (x0, v52.2) else some (.tup [], v52.2)).bind fun v55 =>
      (wantV v53 true).bind fun v56 =>
      (bif v56 then some (x1, v55.2) else some (.tup [], v55.2)).bind fun v57 =>
      (wantV v53 true).bind fun v58 =>
      (bif v58 then some (x2, v57.2) else some (.tup [], v57.2)).bind fun v59 =>
      (wantV v53 true).bind fun v60 =>
      (bif v60 then some (x3, v59.2) else some (.tup [], v59.2)).bind fun v61 =>
      (wantV v53 true).bind fun v62 =>
      (bif v62 then some (v41.1, v61.2) else some (.tup [], v61.2)).bind fun v63 =>
      (wantV v53 true).bind fun v64 =>
      (bif v64 then E.C fn_spec_ThreatOk [v55.1, v57.1, v59.1, v61.1, v63.1] v63.2 else some (.tup [], v63.2)).bind fun v65 =>
      (E.p.pick v53 v65.1 (.bool false)).bind fun v66 =>
      condP v66
       (
        (E.p.bin .add 3 x11 (.int .i64 1)).bind fun v67 =>
        K .normal (st0 x0 x1 x2 x3 v41.1 x10 v67 v65.2))
       (
        (E.p.bin .add 3 x11 (.int .i64 1)).bind fun v68 =>
        K .normal (st0 x0 x1 x2 x3 x9 x10 v68 v65.2)))
     (
      K (.exit 0) (se0_0_1_2_3_9_10_11_26 x0 x1 x2 x3 x9 x10 x11 v40 h))
theorem body0_eq (E : Env) (K : PX → St → Res) (x0 x1 x2 x3 x9 x10 x11 : PV) (h : PHeap) : ev (E.cx Tryd.prog kl) lp0 (st0 x0 x1 x2 x3 x9 x10 x11 h) K = body0 E K x0 x1 x2 x3 x9 x10 x11 h := by kernel_rfl
theorem after0_se0_0_1_2_3_9_10_11_26 (E : Env) (x0 x1 x2 x3 x9 x10 x11 x26 : PV) (h : PHeap) : K0 E (kTop Tryd.prog Tryd.f32) (.exit 0) (se0_0_1_2_3_9_10_11_26 x0 x1 x2 x3 x9 x10 x11 x26 h) =
    (resV x9).bind fun v37 =>
    some (v37, h) := by kernel_rfl
noncomputable def main (E : Env) (x0 x1 x2 x3 : PV) (h : PHeap) : Res :=
    (E.C fn_spec_l6Ok [x0, x1, x2, x3, (.int .i64 0)] h).bind fun v1 =>
    (E.p.un .not v1.1).bind fun v2 =>
    condP v2
     (
      (resV (.int .i64 (-1))).bind fun v3 =>
      some (v3, v1.2))
     (
      (E.C fn_spec_l2Set [x2, (.int .i64 0)] v1.2).bind fun v4 =>
      (E.C fn_spec_l2List [v4.1] v4.2).bind fun v5 =>
      loopK (ev (E.cx Tryd.prog spec_LeastThreat.kl) spec_LeastThreat.lp0) E.lf (spec_LeastThreat.st0 x0 x1 x2 x3 (.int .i64 (-1)) v5.1 (.int .i64 0) v5.2) (spec_LeastThreat.K0 E (kTop Tryd.prog Tryd.f32)))
theorem main_eq (E : Env) (x0 x1 x2 x3 : PV) (h : PHeap) : runBody (E.cx Tryd.prog kl) Tryd.f32 [x0, x1, x2, x3] h = main E x0 x1 x2 x3 h := by kernel_rfl
theorem call_eq (g : Nat → PV) (lf n : Nat) (x0 x1 x2 x3 : PV) (h : PHeap) : CL g lf (n + 1) fn_spec_LeastThreat [x0, x1, x2, x3] h = main (env g lf n) x0 x1 x2 x3 h := by
  rw [← main_eq]
  show (match Tryd.prog.funcs[32]? with | some fn => if fn.body.isSome then runBody ⟨Tryd.prog, g, call Tryd.prog g KL lf n, KL 32, lf, std Tryd.prog⟩ fn [x0, x1, x2, x3] h else none | none => none) = _
  rw [Tryd.func32]
  kernel_rfl
end spec_LeastThreat
namespace spec_DrawBridgesOf
noncomputable def main (E : Env) (x0 : PV) (h : PHeap) : Res :=
    (E.C fn_spec_DrawNearCells [x0] h).bind fun v1 =>
    (E.p.extract v1.1 0).bind fun v2 =>
    (E.p.extract v1.1 1).bind fun v3 =>
    (E.p.extract v1.1 2).bind fun v4 =>
    (resV v2).bind fun v5 =>
    (resV v3).bind fun v6 =>
    (resV v4).bind fun v7 =>
    some (.tup [v5, v6, v7], v1.2)
theorem main_eq (E : Env) (x0 : PV) (h : PHeap) : runBody (E.cx Tryd.prog kl) Tryd.f33 [x0] h = main E x0 h := by kernel_rfl
theorem call_eq (g : Nat → PV) (lf n : Nat) (x0 : PV) (h : PHeap) : CL g lf (n + 1) fn_spec_DrawBridgesOf [x0] h = main (env g lf n) x0 h := by
  rw [← main_eq]
  show (match Tryd.prog.funcs[33]? with | some fn => if fn.body.isSome then runBody ⟨Tryd.prog, g, call Tryd.prog g KL lf n, KL 33, lf, std Tryd.prog⟩ fn [x0] h else none | none => none) = _
  rw [Tryd.func33]
  kernel_rfl
end spec_DrawBridgesOf
namespace impl_BridgesOf
noncomputable def lp0 : Code := (codeAt (bodyOf Tryd.f34) [1, 1, 1, 1, 0, 1, 0, 0])
def st0 (x0 x1 x7 x8 x22 x23 : PV) (h : PHeap) : St := ⟨[x0, x1, .junk, .junk, .junk, .junk, .junk, x7, x8, .junk, .junk, .junk, .junk, .junk, .junk, .junk, .junk, .junk, .junk, .junk, .junk, .junk, x22, x23, .junk, .junk, .junk, .junk, .junk, .junk, .junk, .junk, .junk, .junk, .junk, .junk, .junk, .junk, .junk, .junk, .junk, .junk, .junk, .junk, .junk, .junk, .junk, .junk], h⟩
def se0_0_1_7_8_22_23_24 (x0 x1 x7 x8 x22 x23 x24 : PV) (h : PHeap) : St := ⟨[x0, x1, .junk, .junk, .junk, .junk, .junk, x7, x8, .junk, .junk, .junk, .junk, .junk, .junk, .junk, .junk, .junk, .junk, .junk, .junk, .junk, x22, x23, x24, .junk, .junk, .junk, .junk, .junk, .junk, .junk, .junk, .junk, .junk, .junk, .junk, .junk, .junk, .junk, .junk, .junk, .junk, .junk, .junk, .junk, .junk, .junk], h⟩
noncomputable def K0 (E : Env) (K : PX → St → Res) : PX → St → Res := (kBlock 0 (kSeq (ev (E.cx Tryd.prog kl) (codeAt (bodyOf Tryd.f34) [1, 1, 1, 1, 1])) K))
@[simp] theorem K0_ret (E : Env) (K : PX → St → Res) (s : St) : K0 E K .ret s = K .ret s := by kernel_rfl
noncomputable def body0 (E : Env) (K : PX → St → Res) (x0 x1 x7 x8 x22 x23 : PV) (h : PHeap) : Res :=
    (E.p.bin .lss 3 x23 x22).bind fun v35 =>
    condP v35
     (
      (E.p.bin .shr 3 x7 x23).bind fun v36 =>
      (E.p.bin .and 3 v36 (.int .i64 1)).bind fun v37 =>
      (E.p.bin .eql 3 v37 (.int .i64 0)).bind fun v38 =>
      (wantV v38 true).bind fun v39 =>
      (bif v39 then some (x7, h) else some (.tup [], h)).bind fun v40 =>
      (wantV v38 true).bind fun v41 =>
      (bif v41 then some (x0, v40.2) else some (.tup [], v40.2)).bind fun v42 =>
      (wantV v38 true).bind fun v43 =>
      (bif v43 then some (x1, v42.2) else some (.tup [], v42.2)).bind fun v44 =>
      (wantV v38 true).bind fun v45 =>
      (bif v45 then some (x23, v44.2) else some (.tup [], v44.2)).bind fun v46 =>
      (wantV v38 true).bind fun v47 =>
      (bif v47 then pv v46.2 (E.p.bin .shl 3 (.int .i64 1) v46.1) else some (.tup [], v46.2)).bind fun v48 =>
      (wantV v38 true).bind fun v49 =>
      (bif v49 then E.C fn_impl_withNear [v42.1, v44.1, v48.1] v48.2 else some (.tup [], v48.2)).bind fun v50 =>
      (wantV v38 true).bind fun v51 =>
      (bif v51 then pv v50.2 (E.p.bin .and 3 v40.1 v50.1) else some (.tup [], v50.2)).bind fun v52 =>
      (wantV v38 true).bind fun v53 =>
      (bif v53 then E.C fn_impl_countIn [v52.1] v52.2 else some (.tup [], v52.2)).bind fun v54 =>
      (wantV v38 true).bind fun v55 =>
      (bif v55 then pv v54.2 (E.p.bin .eql 3 v54.1 (.int .i64 2)) else some (.tup [], v54.2)).bind fun v56 =>
      (E.p.pick v38 v56.1 (.bool false)).bind fun v57 =>
      condP v57
       (
        (E.p.buildSlice 23 1 [(0, x23)] v56.2).bind fun v58 =>
        (E.p.append 23 23 x8 v58.1 v58.2).bind fun v59 =>
        (E.p.bin .add 3 x23 (.int .i64 1)).bind fun v60 =>
        K .normal (st0 x0 x1 x7 v59.1 x22 v60 v59.2))
       (
        (E.p.bin .add 3 x23 (.int .i64 1)).bind fun v61 =>
        K .normal (st0 x0 x1 x7 x8 x22 v61 v56.2)))
     (
      K (.exit 0) (se0_0_1_7_8_22_23_24 x0 x1 x7 x8 x22 x23 v35 h))
theorem body0_eq (E : Env) (K : PX → St → Res) (x0 x1 x7 x8 x22 x23 : PV) (h : PHeap) : ev (E.cx Tryd.prog kl) lp0 (st0 x0 x1 x7 x8 x22 x23 h) K = body0 E K x0 x1 x7 x8 x22 x23 h := by kernel_rfl
theorem after0_se0_0_1_7_8_22_23_24 (E : Env) (x0 x1 x7 x8 x22 x23 x24 : PV) (h : PHeap) : K0 E (kTop Tryd.prog Tryd.f34) (.exit 0) (se0_0_1_7_8_22_23_24 x0 x1 x7 x8 x22 x23 x24 h) =
    (resV x8).bind fun v34 =>
    some (v34, h) := by kernel_rfl
noncomputable def main (E : Env) (x0 x1 x2 : PV) (h : PHeap) : Res :=
    (E.C fn_impl_cellOk [x0, x1, x2] h).bind fun v1 =>
    (E.p.un .not v1.1).bind fun v2 =>
    condP v2
     (
      (resV .nilsl).bind fun v3 =>
      some (v3, v1.2))
     (
      (E.p.bin .shl 3 (.int .i64 1) x2).bind fun v4 =>
      (E.C fn_impl_withNear [x0, x1, v4] v1.2).bind fun v5 =>
      (E.p.bin .mul 3 x0 x1).bind fun v6 =>
      loopK (ev (E.cx Tryd.prog impl_BridgesOf.kl) impl_BridgesOf.lp0) E.lf (impl_BridgesOf.st0 x0 x1 v5.1 .nilsl v6 (.int .i64 0) v5.2) (impl_BridgesOf.K0 E (kTop Tryd.prog Tryd.f34)))
theorem main_eq (E : Env) (x0 x1 x2 : PV) (h : PHeap) : runBody (E.cx Tryd.prog kl) Tryd.f34 [x0, x1, x2] h = main E x0 x1 x2 h := by kernel_rfl
theorem call_eq (g : Nat → PV) (lf n : Nat) (x0 x1 x2 : PV) (h : PHeap) : CL g lf (n + 1) fn_impl_BridgesOf [x0, x1, x2] h = main (env g lf n) x0 x1 x2 h := by
  rw [← main_eq]
  show (match Tryd.prog.funcs[34]? with | some fn => if fn.body.isSome then runBody ⟨Tryd.prog, g, call Tryd.prog g KL lf n, KL 34, lf, std Tryd.prog⟩ fn [x0, x1, x2] h else none | none => none) = _
  rw [Tryd.func34]
  kernel_rfl
end impl_BridgesOf
namespace laws_sameInts
noncomputable def lp0 : Code := (codeAt (bodyOf Tryd.f35) [1, 1, 0, 1, 0, 0])
def st0 (x0 x1 x5 : PV) (h : PHeap) : St := ⟨[x0, x1, .junk, .junk, .junk, x5, .junk, .junk, .junk, .junk, .junk, .junk, .junk, .junk, .junk, .junk, .junk, .junk, .junk, .junk, .junk, .junk, .junk, .junk, .junk, .junk], h⟩
def sr_4 (x4 : PV) (h : PHeap) : St := ⟨[.junk, .junk, .junk, .junk, x4, .junk, .junk, .junk, .junk, .junk, .junk, .junk, .junk, .junk, .junk, .junk, .junk, .junk, .junk, .junk, .junk, .junk, .junk, .junk, .junk, .junk], h⟩
def se0_0_1_5_14 (x0 x1 x5 x14 : PV) (h : PHeap) : St := ⟨[x0, x1, .junk, .junk, .junk, x5, .junk, .junk, .junk, .junk, .junk, .junk, .junk, .junk, x14, .junk, .junk, .junk, .junk, .junk, .junk, .junk, .junk, .junk, .junk, .junk], h⟩
noncomputable def K0 (E : Env) (K : PX → St → Res) : PX → St → Res := (kBlock 0 (kSeq (ev (E.cx Tryd.prog kl) (codeAt (bodyOf Tryd.f35) [1, 1, 1])) K))
@[simp] theorem K0_ret (E : Env) (K : PX → St → Res) (s : St) : K0 E K .ret s = K .ret s := by kernel_rfl
noncomputable def body0 (E : Env) (K : PX → St → Res) (x0 x1 x5 : PV) (h : PHeap) : Res :=
    (E.p.len 23 x0).bind fun v14 =>
    (E.p.bin .lss 3 x5 v14).bind fun v15 =>
    condP v15
     (
      (E.p.indexAddr 23 x0 x5).bind fun v16 =>
      (E.p.load 3 v16 h).bind fun v17 =>
      (E.p.indexAddr 23 x1 x5).bind fun v18 =>
      (E.p.load 3 v18 h).bind fun v19 =>
      (E.p.bin .neq 3 v17 v19).bind fun v20 =>
      condP v20
       (
        K .ret (sr_4 (.bool false) h))
       (
        (E.p.bin .add 3 x5 (.int .i64 1)).bind fun v21 =>
        K .normal (st0 x0 x1 v21 h)))
     (
      K (.exit 0) (se0_0_1_5_14 x0 x1 x5 v15 h))
theorem body0_eq (E : Env) (K : PX → St → Res) (x0 x1 x5 : PV) (h : PHeap) : ev (E.cx Tryd.prog kl) lp0 (st0 x0 x1 x5 h) K = body0 E K x0 x1 x5 h := by kernel_rfl
theorem after0_se0_0_1_5_14 (E : Env) (x0 x1 x5 x14 : PV) (h : PHeap) : K0 E (kTop Tryd.prog Tryd.f35) (.exit 0) (se0_0_1_5_14 x0 x1 x5 x14 h) =
    (resV (.bool true)).bind fun v13 =>
    some (v13, h) := by kernel_rfl
theorem top_sr_4 (x4 : PV) (h : PHeap) : kTop Tryd.prog Tryd.f35 .ret (sr_4 x4 h) =
    (resV x4).bind fun v22 =>
    some (v22, h) := by kernel_rfl
noncomputable def main (E : Env) (x0 x1 : PV) (h : PHeap) : Res :=
    (E.p.len 23 x0).bind fun v1 =>
    (E.p.len 23 x1).bind fun v2 =>
    (E.p.bin .neq 3 v1 v2).bind fun v3 =>
    condP v3
     (
      (resV (.bool false)).bind fun v4 =>
      some (v4, h))
     (
      loopK (ev (E.cx Tryd.prog laws_sameInts.kl) laws_sameInts.lp0) E.lf (laws_sameInts.st0 x0 x1 (.int .i64 0) h) (laws_sameInts.K0 E (kTop Tryd.prog Tryd.f35)))
theorem main_eq (E : Env) (x0 x1 : PV) (h : PHeap) : runBody (E.cx Tryd.prog kl) Tryd.f35 [x0, x1] h = main E x0 x1 h := by kernel_rfl
theorem call_eq (g : Nat → PV) (lf n : Nat) (x0 x1 : PV) (h : PHeap) : CL g lf (n + 1) fn_laws_sameInts [x0, x1] h = main (env g lf n) x0 x1 h := by
  rw [← main_eq]
  show (match Tryd.prog.funcs[35]? with | some fn => if fn.body.isSome then runBody ⟨Tryd.prog, g, call Tryd.prog g KL lf n, KL 35, lf, std Tryd.prog⟩ fn [x0, x1] h else none | none => none) = _
  rw [Tryd.func35]
  kernel_rfl
end laws_sameInts
namespace spec_BridgesOf
noncomputable def lp0 : Code := (codeAt (bodyOf Tryd.f36) [1, 1, 1, 1, 0, 1, 0, 0])
def st0 (x2 x7 x8 x9 : PV) (h : PHeap) : St := ⟨[.junk, .junk, x2, .junk, .junk, .junk, .junk, x7, x8, x9, .junk, .junk, .junk, .junk, .junk, .junk, .junk, .junk, .junk, .junk, .junk, .junk, .junk, .junk, .junk, .junk, .junk, .junk, .junk, .junk, .junk, .junk, .junk, .junk, .junk, .junk, .junk, .junk, .junk, .junk, .junk, .junk, .junk, .junk, .junk, .junk, .junk, .junk, .junk, .junk, .junk, .junk, .junk, .junk, .junk, .junk, .junk, .junk, .junk, .junk, .junk, .junk, .junk, .junk, .junk], h⟩
def se0_2_7_8_9_31 (x2 x7 x8 x9 x31 : PV) (h : PHeap) : St := ⟨[.junk, .junk, x2, .junk, .junk, .junk, .junk, x7, x8, x9, .junk, .junk, .junk, .junk, .junk, .junk, .junk, .junk, .junk, .junk, .junk, .junk, .junk, .junk, .junk, .junk, .junk, .junk, .junk, .junk, .junk, x31, .junk, .junk, .junk, .junk, .junk, .junk, .junk, .junk, .junk, .junk, .junk, .junk, .junk, .junk, .junk, .junk, .junk, .junk, .junk, .junk, .junk, .junk, .junk, .junk, .junk, .junk, .junk, .junk, .junk, .junk, .junk, .junk, .junk], h⟩
noncomputable def K0 (E : Env) (K : PX → St → Res) : PX → St → Res := (kBlock 0 (kSeq (ev (E.cx Tryd.prog kl) (codeAt (bodyOf Tryd.f36) [1, 1, 1, 1, 1])) K))
@[simp] theorem K0_ret (E : Env) (K : PX → St → Res) (s : St) : K0 E K .ret s = K .ret s := by kernel_rfl
noncomputable def body0 (E : Env) (K : PX → St → Res) (x2 x7 x8 x9 : PV) (h : PHeap) : Res :=
    (E.p.len 23 x8).bind fun v83 =>
    (E.p.bin .lss 3 x9 v83).bind fun v84 =>
    condP v84
     (
      (E.p.bin .neq 3 x9 x2).bind fun v85 =>
      (wantV v85 true).bind fun v86 =>
      (bif v86 then some (x8, h) else some (.tup [], h)).bind fun v87 =>
      (wantV v85 true).bind fun v88 =>
      (bif v88 then some (x2, v87.2) else some (.tup [], v87.2)).bind fun v89 =>
      (wantV v85 true).bind fun v90 =>
      (bif v90 then pv v89.2 (E.p.indexAddr 23 v87.1 v89.1) else some (.tup [], v89.2)).bind fun v91 =>
      (wantV v85 true).bind fun v92 =>
      (bif v92 then some (x9, v91.2) else some (.tup [], v91.2)).bind fun v93 =>
      (wantV v85 true).bind fun v94 =>
      (bif v94 then pv v93.2 (E.p.load 3 v91.1 v93.2) else some (.tup [], v93.2)).bind fun v95 =>
      (wantV v85 true).bind fun v96 =>
      (bif v96 then pv v95.2 (E.p.bin .shr 3 v95.1 v93.1) else some (.tup [], v95.2)).bind fun v97 =>
      (wantV v85 true).bind fun v98 =>
      (bif v98 then pv v97.2 (E.p.bin .rem 3 v97.1 (.int .i64 2)) else some (.tup [], v97.2)).bind fun v99 =>
      (wantV v85 true).bind fun v100 =>
      (bif v100 then pv v99.2 (E.p.bin .eql 3 v99.1 (.int .i64 0)) else some (.tup [], v99.2)).bind fun v101 =>
      (E.p.pick v85 v101.1 (.bool false)).bind fun v102 =>
      (wantV v102 true).bind fun v103 =>
      (bif v103 then some (x8, v101.2) else some (.tup [], v101.2)).bind fun v104 =>
      (wantV v102 true).bind fun v105 =>
      (bif v105 then some (x2, v104.2) else some (.tup [], v104.2)).bind fun v106 =>
      (wantV v102 true).bind fun v107 =>
      (bif v107 then pv v106.2 (E.p.indexAddr 23 v104.1 v106.1) else some (.tup [], v106.2)).bind fun v108 =>
      (wantV v102 true).bind fun v109 =>
      (bif v109 then some (x8, v108.2) else some (.tup [], v108.2)).bind fun v110 =>
      (wantV v102 true).bind fun v111 =>
      (bif v111 then some (x9, v110.2) else some (.tup [], v110.2)).bind fun v112 =>
      (wantV v102 true).bind fun v113 =>
      (bif v113 then pv v112.2 (E.p.indexAddr 23 v110.1 v112.1) else some (.tup [], v112.2)).bind fun v114 =>
      (wantV v102 true).bind fun v115 =>
      bif v115 then (
        (E.p.load 3 v108.1 v114.2).bind fun v116 =>
        (wantV v102 true).bind fun v117 =>
        (bif v117 then pv v114.2 (E.p.load 3 v114.1 v114.2) else some (.tup [], v114.2)).bind fun v118 =>
        (wantV v102 true).bind fun v119 =>
        (bif v119 then pv v118.2 (E.p.bin .and 3 v116 v118.1) else some (.tup [], v118.2)).bind fun v120 =>
        (wantV v102 true).bind fun v121 =>
        (bif v121 then E.C fn_spec_l6Size [v120.1] v120.2 else some (.tup [], v120.2)).bind fun v122 =>
        (E.p.load 3 v108.1 v122.2).bind fun v123 =>
        ckP (plainEq v116 v123) (
        (wantV v102 true).bind fun v124 =>
        (bif v124 then pv v122.2 (E.p.bin .eql 3 v122.1 (.int .i64 2)) else some (.tup [], v122.2)).bind fun v125 =>
        (E.p.pick v102 v125.1 (.bool false)).bind fun v126 =>
        condP v126
         (
          (E.p.buildSlice 23 1 [(0, x9)] v125.2).bind fun v127 =>
          (E.p.append 23 23 x7 v127.1 v127.2).bind fun v128 =>
          (E.p.bin .add 3 x9 (.int .i64 1)).bind fun v129 =>
          K .normal (st0 x2 v128.1 x8 v129 v128.2))
         (
          (E.p.bin .add 3 x9 (.int .i64 1)).bind fun v130 =>
          K .normal (st0 x2 x7 x8 v130 v125.2))))
      else (
        (wantV v102 true).bind fun v131 =>
        (bif v131 then pv v114.2 (E.p.load 3 v114.1 v114.2) else some (.tup [], v114.2)).bind fun v132 =>
        (wantV v102 true).bind fun v133 =>
        (bif v133 then pv v132.2 (E.p.bin .and 3 (.tup []) v132.1) else some (.tup [], v132.2)).bind fun v134 =>
        (wantV v102 true).bind fun v135 =>
        (bif v135 then E.C fn_spec_l6Size [v134.1] v134.2 else some (.tup [], v134.2)).bind fun v136 =>
        (wantV v102 true).bind fun v137 =>
        (bif v137 then pv v136.2 (E.p.bin .eql 3 v136.1 (.int .i64 2)) else some (.tup [], v136.2)).bind fun v138 =>
        (E.p.pick v102 v138.1 (.bool false)).bind fun v139 =>
        condP v139
         (
          (E.p.buildSlice 23 1 [(0, x9)] v138.2).bind fun v140 =>
          (E.p.append 23 23 x7 v140.1 v140.2).bind fun v141 =>
          (E.p.bin .add 3 x9 (.int .i64 1)).bind fun v142 =>
          K .normal (st0 x2 v141.1 x8 v142 v141.2))
         (
          (E.p.bin .add 3 x9 (.int .i64 1)).bind fun v143 =>
          K .normal (st0 x2 x7 x8 v143 v138.2))))
     (
      K (.exit 0) (se0_2_7_8_9_31 x2 x7 x8 x9 v84 h))
theorem body0_eq (E : Env) (K : PX → St → Res) (x2 x7 x8 x9 : PV) (h : PHeap) : ev (E.cx Tryd.prog kl) lp0 (st0 x2 x7 x8 x9 h) K = body0 E K x2 x7 x8 x9 h := by kernel_rfl
theorem after0_se0_2_7_8_9_31 (E : Env) (x2 x7 x8 x9 x31 : PV) (h : PHeap) : K0 E (kTop Tryd.prog Tryd.f36) (.exit 0) (se0_2_7_8_9_31 x2 x7 x8 x9 x31 h) =
    (resV x7).bind fun v82 =>
    some (v82, h) := by kernel_rfl
noncomputable def main (E : Env) (x0 x1 x2 : PV) (h : PHeap) : Res :=
    (E.p.buildSlice 23 0 [] h).bind fun v1 =>
    (E.C fn_spec_BoardOk [x0, x1] v1.2).bind fun v2 =>
    (E.p.un .not v2.1).bind fun v3 =>
    (wantV v3 false).bind fun v4 =>
    (bif v4 then some (x2, v2.2) else some (.tup [], v2.2)).bind fun v5 =>
    (wantV v3 false).bind fun v6 =>
    (bif v6 then some (x0, v5.2) else some (.tup [], v5.2)).bind fun v7 =>
    (wantV v3 false).bind fun v8 =>
    (bif v8 then some (x1, v7.2) else some (.tup [], v7.2)).bind fun v9 =>
    (wantV v3 false).bind fun v10 =>
    (bif v10 then pv v9.2 (E.p.bin .mul 3 v7.1 v9.1) else some (.tup [], v9.2)).bind fun v11 =>
    (wantV v3 false).bind fun v12 =>
    (bif v12 then pv v11.2 (E.p.bin .sub 3 v11.1 (.int .i64 1)) else some (.tup [], v11.2)).bind fun v13 =>
    (wantV v3 false).bind fun v14 =>
    (bif v14 then E.C fn_spec_l1In [v5.1, (.int .i64 0), v13.1] v13.2 else some (.tup [], v13.2)).bind fun v15 =>
    (wantV v3 false).bind fun v16 =>
    (bif v16 then pv v15.2 (E.p.un .not v15.1) else some (.tup [], v15.2)).bind fun v17 =>
    (E.p.pick v3 (.bool true) v17.1).bind fun v18 =>
    condP v18
     (
      (resV v1.1).bind fun v19 =>
      some (v19, v17.2))
     (
      (E.C fn_spec_l2Masks [x0, x1] v17.2).bind fun v20 =>
      loopK (ev (E.cx Tryd.prog spec_BridgesOf.kl) spec_BridgesOf.lp0) E.lf (spec_BridgesOf.st0 x2 v1.1 v20.1 (.int .i64 0) v20.2) (spec_BridgesOf.K0 E (kTop Tryd.prog Tryd.f36)))
theorem main_eq (E : Env) (x0 x1 x2 : PV) (h : PHeap) : runBody (E.cx Tryd.prog kl) Tryd.f36 [x0, x1, x2] h = main E x0 x1 x2 h := by kernel_rfl
theorem call_eq (g : Nat → PV) (lf n : Nat) (x0 x1 x2 : PV) (h : PHeap) : CL g lf (n + 1) fn_spec_BridgesOf [x0, x1, x2] h = main (env g lf n) x0 x1 x2 h := by
  rw [← main_eq]
  show (match Tryd.prog.funcs[36]? with | some fn => if fn.body.isSome then runBody ⟨Tryd.prog, g, call Tryd.prog g KL lf n, KL 36, lf, std Tryd.prog⟩ fn [x0, x1, x2] h else none | none => none) = _
  rw [Tryd.func36]
  kernel_rfl
end spec_BridgesOf
namespace spec_BoardOk
noncomputable def main (E : Env) (x0 x1 : PV) (h : PHeap) : Res :=
    (E.C fn_spec_l1In [x0, (.int .i64 1), (.int .i64 4)] h).bind fun v1 =>
    (wantV v1.1 true).bind fun v2 =>
    (bif v2 then some (x1, v1.2) else some (.tup [], v1.2)).bind fun v3 =>
    (wantV v1.1 true).bind fun v4 =>
    (bif v4 then E.C fn_spec_l1In [v3.1, (.int .i64 1), (.int .i64 4)] v3.2 else some (.tup [], v3.2)).bind fun v5 =>
    (E.p.pick v1.1 v5.1 (.bool false)).bind fun v6 =>
    (wantV v6 true).bind fun v7 =>
    (bif v7 then some (x0, v5.2) else some (.tup [], v5.2)).bind fun v8 =>
    (wantV v6 true).bind fun v9 =>
    (bif v9 then some (x1, v8.2) else some (.tup [], v8.2)).bind fun v10 =>
    (wantV v6 true).bind fun v11 =>
    (bif v11 then pv v10.2 (E.p.bin .mul 3 v8.1 v10.1) else some (.tup [], v10.2)).bind fun v12 =>
    (wantV v6 true).bind fun v13 =>
    (bif v13 then pv v12.2 (E.p.bin .leq 3 v12.1 (.int .i64 9)) else some (.tup [], v12.2)).bind fun v14 =>
    (E.p.pick v6 v14.1 (.bool false)).bind fun v15 =>
    (resV v15).bind fun v16 =>
    some (v16, v14.2)
theorem main_eq (E : Env) (x0 x1 : PV) (h : PHeap) : runBody (E.cx Tryd.prog kl) Tryd.f37 [x0, x1] h = main E x0 x1 h := by kernel_rfl
theorem call_eq (g : Nat → PV) (lf n : Nat) (x0 x1 : PV) (h : PHeap) : CL g lf (n + 1) fn_spec_BoardOk [x0, x1] h = main (env g lf n) x0 x1 h := by
  rw [← main_eq]
  show (match Tryd.prog.funcs[37]? with | some fn => if fn.body.isSome then runBody ⟨Tryd.prog, g, call Tryd.prog g KL lf n, KL 37, lf, std Tryd.prog⟩ fn [x0, x1] h else none | none => none) = _
  rw [Tryd.func37]
  kernel_rfl
end spec_BoardOk
namespace impl_NearCells
noncomputable def lp0 : Code := (codeAt (bodyOf Tryd.f38) [1, 1, 1, 0, 1, 0, 0])
def st0 (x0 x1 x2 x7 x17 x18 : PV) (h : PHeap) : St := ⟨[x0, x1, x2, .junk, .junk, .junk, .junk, x7, .junk, .junk, .junk, .junk, .junk, .junk, .junk, .junk, .junk, x17, x18, .junk, .junk, .junk, .junk, .junk, .junk, .junk, .junk, .junk, .junk, .junk, .junk, .junk, .junk, .junk, .junk, .junk, .junk, .junk, .junk, .junk, .junk, .junk, .junk, .junk, .junk, .junk, .junk, .junk, .junk, .junk, .junk, .junk, .junk, .junk, .junk, .junk, .junk, .junk, .junk], h⟩
def se0_0_1_2_7_17_18_19 (x0 x1 x2 x7 x17 x18 x19 : PV) (h : PHeap) : St := ⟨[x0, x1, x2, .junk, .junk, .junk, .junk, x7, .junk, .junk, .junk, .junk, .junk, .junk, .junk, .junk, .junk, x17, x18, x19, .junk, .junk, .junk, .junk, .junk, .junk, .junk, .junk, .junk, .junk, .junk, .junk, .junk, .junk, .junk, .junk, .junk, .junk, .junk, .junk, .junk, .junk, .junk, .junk, .junk, .junk, .junk, .junk, .junk, .junk, .junk, .junk, .junk, .junk, .junk, .junk, .junk, .junk, .junk], h⟩
noncomputable def K0 (E : Env) (K : PX → St → Res) : PX → St → Res := (kBlock 0 (kSeq (ev (E.cx Tryd.prog kl) (codeAt (bodyOf Tryd.f38) [1, 1, 1, 1])) K))
@[simp] theorem K0_ret (E : Env) (K : PX → St → Res) (s : St) : K0 E K .ret s = K .ret s := by kernel_rfl
noncomputable def body0 (E : Env) (K : PX → St → Res) (x0 x1 x2 x7 x17 x18 : PV) (h : PHeap) : Res :=
    (E.p.bin .lss 3 x18 (.int .i64 6)).bind fun v44 =>
    condP v44
     (
      (E.p.index 66 x17 x18).bind fun v45 =>
      (E.p.alloc 65 h).bind fun v46 =>
      (E.p.store 65 v46.1 v45 v46.2).bind fun v47 =>
      (E.p.bin .quo 3 x2 x1).bind fun v48 =>
      (E.p.indexAddr 65 v46.1 (.int .i64 0)).bind fun v49 =>
      (E.p.load 3 v49 v47).bind fun v50 =>
      (E.p.bin .add 3 v48 v50).bind fun v51 =>
      (E.p.bin .rem 3 x2 x1).bind fun v52 =>
      (E.p.indexAddr 65 v46.1 (.int .i64 1)).bind fun v53 =>
      (E.p.load 3 v53 v47).bind fun v54 =>
      (E.p.bin .add 3 v52 v54).bind fun v55 =>
      (E.p.bin .geq 3 v51 (.int .i64 0)).bind fun v56 =>
      (wantV v56 true).bind fun v57 =>
      (bif v57 then some (v51, v47) else some (.tup [], v47)).bind fun v58 =>
      (wantV v56 true).bind fun v59 =>
      (bif v59 then some (x0, v58.2) else some (.tup [], v58.2)).bind fun v60 =>
      (wantV v56 true).bind fun v61 =>
      (bif v61 then pv v60.2 (E.p.bin .lss 3 v58.1 v60.1) else some (.tup [], v60.2)).bind fun v62 =>
      (E.p.pick v56 v62.1 (.bool false)).bind fun v63 =>
      (wantV v63 true).bind fun v64 =>
      (bif v64 then some (v55, v62.2) else some (.tup [], v62.2)).bind fun v65 =>
      (wantV v63 true).bind fun v66 =>
      (bif v66 then pv v65.2 (E.p.bin .geq 3 v65.1 (.int .i64 0)) else some (.tup [], v65.2)).bind fun v67 =>
      (E.p.pick v63 v67.1 (.bool false)).bind fun v68 =>
      (wantV v68 true).bind fun v69 =>
      (bif v69 then some (v55, v67.2) else some (.tup [], v67.2)).bind fun v70 =>
      (wantV v68 true).bind fun v71 =>
      (bif v71 then some (x1, v70.2) else some (.tup [], v70.2)).bind fun v72 =>
      (wantV v68 true).bind fun v73 =>
      (bif v73 then pv v72.2 (E.p.bin .lss 3 v70.1 v72.1) else some (.tup [], v72.2)).bind fun v74 =>
      (E.p.pick v68 v74.1 (.bool false)).bind fun v75 =>
      condP v75
       (
        (E.p.bin .mul 3 v51 x1).bind fun v76 =>
        (E.p.bin .add 3 v76 v55).bind fun v77 =>
        (E.p.buildSlice 23 1 [(0, v77)] v74.2).bind fun v78 =>
        (E.p.append 23 23 x7 v78.1 v78.2).bind fun v79 =>
        (E.p.bin .add 3 x18 (.int .i64 1)).bind fun v80 =>
        K .normal (st0 x0 x1 x2 v79.1 x17 v80 v79.2))
       (
        (E.p.bin .add 3 x18 (.int .i64 1)).bind fun v81 =>
        K .normal (st0 x0 x1 x2 x7 x17 v81 v74.2)))
     (
      K (.exit 0) (se0_0_1_2_7_17_18_19 x0 x1 x2 x7 x17 x18 v44 h))
theorem body0_eq (E : Env) (K : PX → St → Res) (x0 x1 x2 x7 x17 x18 : PV) (h : PHeap) : ev (E.cx Tryd.prog kl) lp0 (st0 x0 x1 x2 x7 x17 x18 h) K = body0 E K x0 x1 x2 x7 x17 x18 h := by kernel_rfl
theorem after0_se0_0_1_2_7_17_18_19 (E : Env) (x0 x1 x2 x7 x17 x18 x19 : PV) (h : PHeap) : K0 E (kTop Tryd.prog Tryd.f38) (.exit 0) (se0_0_1_2_7_17_18_19 x0 x1 x2 x7 x17 x18 x19 h) =
    (resV x7).bind fun v43 =>
    some (v43, h) := by kernel_rfl
noncomputable def main (E : Env) (x0 x1 x2 : PV) (h : PHeap) : Res :=
    (E.C fn_impl_cellOk [x0, x1, x2] h).bind fun v1 =>
    (E.p.un .not v1.1).bind fun v2 =>
    condP v2
     (
      (resV .nilsl).bind fun v3 =>
      some (v3, v1.2))
     (
      (E.p.load 66 (E.g 0) v1.2).bind fun v4 =>
      loopK (ev (E.cx Tryd.prog impl_NearCells.kl) impl_NearCells.lp0) E.lf (impl_NearCells.st0 x0 x1 x2 .nilsl v4 (.int .i64 0) v1.2) (impl_NearCells.K0 E (kTop Tryd.prog Tryd.f38)))
theorem main_eq (E : Env) (x0 x1 x2 : PV) (h : PHeap) : runBody (E.cx Tryd.prog kl) Tryd.f38 [x0, x1, x2] h = main E x0 x1 x2 h := by kernel_rfl
theorem call_eq (g : Nat → PV) (lf n : Nat) (x0 x1 x2 : PV) (h : PHeap) : CL g lf (n + 1) fn_impl_NearCells [x0, x1, x2] h = main (env g lf n) x0 x1 x2 h := by
  rw [← main_eq]
  show (match Tryd.prog.funcs[38]? with | some fn => if fn.body.isSome then runBody ⟨Tryd.prog, g, call Tryd.prog g KL lf n, KL 38, lf, std Tryd.prog⟩ fn [x0, x1, x2] h else none | none => none) = _
  rw [Tryd.func38]
  kernel_rfl
end impl_NearCells
namespace laws_hasInt
noncomputable def lp0 : Code := (codeAt (bodyOf Tryd.f39) [1, 0, 1, 0, 0])
def st0 (x0 x1 x5 : PV) (h : PHeap) : St := ⟨[x0, x1, .junk, .junk, .junk, x5, .junk, .junk, .junk, .junk, .junk, .junk, .junk, .junk, .junk, .junk, .junk, .junk], h⟩
def sr_4 (x4 : PV) (h : PHeap) : St := ⟨[.junk, .junk, .junk, .junk, x4, .junk, .junk, .junk, .junk, .junk, .junk, .junk, .junk, .junk, .junk, .junk, .junk, .junk], h⟩
def se0_0_1_5_9 (x0 x1 x5 x9 : PV) (h : PHeap) : St := ⟨[x0, x1, .junk, .junk, .junk, x5, .junk, .junk, .junk, x9, .junk, .junk, .junk, .junk, .junk, .junk, .junk, .junk], h⟩
noncomputable def K0 (E : Env) (K : PX → St → Res) : PX → St → Res := (kBlock 0 (kSeq (ev (E.cx Tryd.prog kl) (codeAt (bodyOf Tryd.f39) [1, 1])) K))
@[simp] theorem K0_ret (E : Env) (K : PX → St → Res) (s : St) : K0 E K .ret s = K .ret s := by kernel_rfl
noncomputable def body0 (E : Env) (K : PX → St → Res) (x0 x1 x5 : PV) (h : PHeap) : Res :=
    (E.p.len 23 x0).bind fun v8 =>
    (E.p.bin .lss 3 x5 v8).bind fun v9 =>
    condP v9
     (
      (E.p.indexAddr 23 x0 x5).bind fun v10 =>
      (E.p.load 3 v10 h).bind fun v11 =>
      (E.p.bin .eql 3 v11 x1).bind fun v12 =>
      condP v12
       (
        K .ret (sr_4 (.bool true) h))
       (
        (E.p.bin .add 3 x5 (.int .i64 1)).bind fun v13 =>
        K .normal (st0 x0 x1 v13 h)))
     (
      K (.exit 0) (se0_0_1_5_9 x0 x1 x5 v9 h))
theorem body0_eq (E : Env) (K : PX → St → Res) (x0 x1 x5 : PV) (h : PHeap) : ev (E.cx Tryd.prog kl) lp0 (st0 x0 x1 x5 h) K = body0 E K x0 x1 x5 h := by kernel_rfl
theorem after0_se0_0_1_5_9 (E : Env) (x0 x1 x5 x9 : PV) (h : PHeap) : K0 E (kTop Tryd.prog Tryd.f39) (.exit 0) (se0_0_1_5_9 x0 x1 x5 x9 h) =
    (resV (.bool false)).bind fun v7 =>
    some (v7, h) := by kernel_rfl
theorem top_sr_4 (x4 : PV) (h : PHeap) : kTop Tryd.prog Tryd.f39 .ret (sr_4 x4 h) =
    (resV x4).bind fun v14 =>
    some (v14, h) := by kernel_rfl
noncomputable def main (E : Env) (x0 x1 : PV) (h : PHeap) : Res :=
    loopK (ev (E.cx Tryd.prog laws_hasInt.kl) laws_hasInt.lp0) E.lf (laws_hasInt.st0 x0 x1 (.int .i64 0) h) (laws_hasInt.K0 E (kTop Tryd.prog Tryd.f39))
theorem main_eq (E : Env) (x0 x1 : PV) (h : PHeap) : runBody (E.cx Tryd.prog kl) Tryd.f39 [x0, x1] h = main E x0 x1 h := by kernel_rfl
theorem call_eq (g : Nat → PV) (lf n : Nat) (x0 x1 : PV) (h : PHeap) : CL g lf (n + 1) fn_laws_hasInt [x0, x1] h = main (env g lf n) x0 x1 h := by
  rw [← main_eq]
  show (match Tryd.prog.funcs[39]? with | some fn => if fn.body.isSome then runBody ⟨Tryd.prog, g, call Tryd.prog g KL lf n, KL 39, lf, std Tryd.prog⟩ fn [x0, x1] h else none | none => none) = _
  rw [Tryd.func39]
  kernel_rfl
end laws_hasInt
namespace laws_ascend
noncomputable def lp0 : Code := (codeAt (bodyOf Tryd.f40) [1, 0, 1, 0, 0])
def st0 (x0 x3 : PV) (h : PHeap) : St := ⟨[x0, .junk, .junk, x3, .junk, .junk, .junk, .junk, .junk, .junk, .junk, .junk, .junk, .junk, .junk, .junk, .junk, .junk, .junk, .junk], h⟩
def sr_2 (x2 : PV) (h : PHeap) : St := ⟨[.junk, .junk, x2, .junk, .junk, .junk, .junk, .junk, .junk, .junk, .junk, .junk, .junk, .junk, .junk, .junk, .junk, .junk, .junk, .junk], h⟩
def se0_0_3_7 (x0 x3 x7 : PV) (h : PHeap) : St := ⟨[x0, .junk, .junk, x3, .junk, .junk, .junk, x7, .junk, .junk, .junk, .junk, .junk, .junk, .junk, .junk, .junk, .junk, .junk, .junk], h⟩
noncomputable def K0 (E : Env) (K : PX → St → Res) : PX → St → Res := (kBlock 0 (kSeq (ev (E.cx Tryd.prog kl) (codeAt (bodyOf Tryd.f40) [1, 1])) K))
@[simp] theorem K0_ret (E : Env) (K : PX → St → Res) (s : St) : K0 E K .ret s = K .ret s := by kernel_rfl
noncomputable def body0 (E : Env) (K : PX → St → Res) (x0 x3 : PV) (h : PHeap) : Res :=
    (E.p.len 23 x0).bind fun v11 =>
    (E.p.bin .lss 3 x3 v11).bind fun v12 =>
    condP v12
     (
      (E.p.bin .sub 3 x3 (.int .i64 1)).bind fun v13 =>
      (E.p.indexAddr 23 x0 v13).bind fun v14 =>
      (E.p.load 3 v14 h).bind fun v15 =>
      (E.p.indexAddr 23 x0 x3).bind fun v16 =>
      (E.p.load 3 v16 h).bind fun v17 =>
      (E.p.bin .geq 3 v15 v17).bind fun v18 =>
      condP v18
       (
        K .ret (sr_2 (.bool false) h))
       (
        (E.p.bin .add 3 x3 (.int .i64 1)).bind fun v19 =>
        K .normal (st0 x0 v19 h)))
     (
      K (.exit 0) (se0_0_3_7 x0 x3 v12 h))
theorem body0_eq (E : Env) (K : PX → St → Res) (x0 x3 : PV) (h : PHeap) : ev (E.cx Tryd.prog kl) lp0 (st0 x0 x3 h) K = body0 E K x0 x3 h := by kernel_rfl
theorem after0_se0_0_3_7 (E : Env) (x0 x3 x7 : PV) (h : PHeap) : K0 E (kTop Tryd.prog Tryd.f40) (.exit 0) (se0_0_3_7 x0 x3 x7 h) =
    (resV (.bool true)).bind fun v10 =>
    some (v10, h) := by kernel_rfl
theorem top_sr_2 (x2 : PV) (h : PHeap) : kTop Tryd.prog Tryd.f40 .ret (sr_2 x2 h) =
    (resV x2).bind fun v20 =>
    some (v20, h) := by kernel_rfl
noncomputable def main (E : Env) (x0 : PV) (h : PHeap) : Res :=
    loopK (ev (E.cx Tryd.prog laws_ascend.kl) laws_ascend.lp0) E.lf (laws_ascend.st0 x0 (.int .i64 1) h) (laws_ascend.K0 E (kTop Tryd.prog Tryd.f40))
theorem main_eq (E : Env) (x0 : PV) (h : PHeap) : runBody (E.cx Tryd.prog kl) Tryd.f40 [x0] h = main E x0 h := by kernel_rfl
theorem call_eq (g : Nat → PV) (lf n : Nat) (x0 : PV) (h : PHeap) : CL g lf (n + 1) fn_laws_ascend [x0] h = main (env g lf n) x0 h := by
  rw [← main_eq]
  show (match Tryd.prog.funcs[40]? with | some fn => if fn.body.isSome then runBody ⟨Tryd.prog, g, call Tryd.prog g KL lf n, KL 40, lf, std Tryd.prog⟩ fn [x0] h else none | none => none) = _
  rw [Tryd.func40]
  kernel_rfl
end laws_ascend
namespace spec_DrawMustCells
noncomputable def main (E : Env) (x0 : PV) (h : PHeap) : Res :=
    (E.C fn_spec_l20Open [x0] h).bind fun v1 =>
    (E.C fn_spec_l20Few [v1.1, (.int .i64 4)] v1.2).bind fun v2 =>
    (E.p.extract v2.1 0).bind fun v3 =>
    (E.p.extract v2.1 1).bind fun v4 =>
    (E.p.extract v2.1 2).bind fun v5 =>
    (E.p.extract v2.1 3).bind fun v6 =>
    (resV v3).bind fun v7 =>
    (resV v4).bind fun v8 =>
    (resV v5).bind fun v9 =>
    (resV v6).bind fun v10 =>
    some (.tup [v7, v8, v9, v10], v2.2)
theorem main_eq (E : Env) (x0 : PV) (h : PHeap) : runBody (E.cx Tryd.prog kl) Tryd.f41 [x0] h = main E x0 h := by kernel_rfl
theorem call_eq (g : Nat → PV) (lf n : Nat) (x0 : PV) (h : PHeap) : CL g lf (n + 1) fn_spec_DrawMustCells [x0] h = main (env g lf n) x0 h := by
  rw [← main_eq]
  show (match Tryd.prog.funcs[41]? with | some fn => if fn.body.isSome then runBody ⟨Tryd.prog, g, call Tryd.prog g KL lf n, KL 41, lf, std Tryd.prog⟩ fn [x0] h else none | none => none) = _
  rw [Tryd.func41]
  kernel_rfl
end spec_DrawMustCells
namespace impl_MustCells
noncomputable def lp0 : Code := (codeAt (bodyOf Tryd.f42) [1, 1, 1, 1, 1, 1, 1, 0, 1, 0, 0])
def st0 (x9 x10 x11 x12 x40 x41 x42 : PV) (h : PHeap) : St := ⟨[.junk, .junk, .junk, .junk, .junk, .junk, .junk, .junk, .junk, x9, x10, x11, x12, .junk, .junk, .junk, .junk, .junk, .junk, .junk, .junk, .junk, .junk, .junk, .junk, .junk, .junk, .junk, .junk, .junk, .junk, .junk, .junk, .junk, .junk, .junk, .junk, .junk, .junk, .junk, x40, x41, x42, .junk, .junk, .junk, .junk, .junk, .junk, .junk, .junk, .junk, .junk, .junk, .junk, .junk, .junk], h⟩
def se0_9_10_11_12_40_41_42_43 (x9 x10 x11 x12 x40 x41 x42 x43 : PV) (h : PHeap) : St := ⟨[.junk, .junk, .junk, .junk, .junk, .junk, .junk, .junk, .junk, x9, x10, x11, x12, .junk, .junk, .junk, .junk, .junk, .junk, .junk, .junk, .junk, .junk, .junk, .junk, .junk, .junk, .junk, .junk, .junk, .junk, .junk, .junk, .junk, .junk, .junk, .junk, .junk, .junk, .junk, x40, x41, x42, x43, .junk, .junk, .junk, .junk, .junk, .junk, .junk, .junk, .junk, .junk, .junk, .junk, .junk], h⟩
noncomputable def K0 (E : Env) (K : PX → St → Res) : PX → St → Res := (kBlock 0 (kSeq (ev (E.cx Tryd.prog kl) (codeAt (bodyOf Tryd.f42) [1, 1, 1, 1, 1, 1, 1, 1])) K))
@[simp] theorem K0_ret (E : Env) (K : PX → St → Res) (s : St) : K0 E K .ret s = K .ret s := by kernel_rfl
noncomputable def body0 (E : Env) (K : PX → St → Res) (x9 x10 x11 x12 x40 x41 x42 : PV) (h : PHeap) : Res :=
    (E.p.bin .lss 3 x42 x41).bind fun v34 =>
    condP v34
     (
      (E.p.indexAddr 23 x40 x42).bind fun v35 =>
      (E.p.load 3 v35 h).bind fun v36 =>
      (E.p.load 58 x10 h).bind fun v37 =>
      (E.C fn_impl_search_winsWith [x12, v37, x9, v36] h).bind fun v38 =>
      condP v38.1
       (
        (E.p.bin .and 3 x11 v36).bind fun v39 =>
        (E.p.bin .add 3 x42 (.int .i64 1)).bind fun v40 =>
        K .normal (st0 x9 x10 v39 x12 x40 x41 v40 v38.2))
       (
        (E.p.bin .add 3 x42 (.int .i64 1)).bind fun v41 =>
        K .normal (st0 x9 x10 x11 x12 x40 x41 v41 v38.2)))
     (
      K (.exit 0) (se0_9_10_11_12_40_41_42_43 x9 x10 x11 x12 x40 x41 x42 v34 h))
theorem body0_eq (E : Env) (K : PX → St → Res) (x9 x10 x11 x12 x40 x41 x42 : PV) (h : PHeap) : ev (E.cx Tryd.prog kl) lp0 (st0 x9 x10 x11 x12 x40 x41 x42 h) K = body0 E K x9 x10 x11 x12 x40 x41 x42 h := by kernel_rfl
theorem after0_se0_9_10_11_12_40_41_42_43 (E : Env) (x9 x10 x11 x12 x40 x41 x42 x43 : PV) (h : PHeap) : K0 E (kTop Tryd.prog Tryd.f42) (.exit 0) (se0_9_10_11_12_40_41_42_43 x9 x10 x11 x12 x40 x41 x42 x43 h) =
    (E.C fn_impl_cellsIn [x11] h).bind fun v32 =>
    (resV v32.1).bind fun v33 =>
    some (v33, v32.2) := by kernel_rfl
noncomputable def main (E : Env) (x0 x1 x2 x3 : PV) (h : PHeap) : Res :=
    (E.C fn_impl_PositionOk [x0, x1, x2] h).bind fun v1 =>
    (E.p.un .not v1.1).bind fun v2 =>
    (wantV v2 false).bind fun v3 =>
    (bif v3 then some (x3, v1.2) else some (.tup [], v1.2)).bind fun v4 =>
    (wantV v2 false).bind fun v5 =>
    (bif v5 then E.C fn_impl_playerOk [v4.1] v4.2 else some (.tup [], v4.2)).bind fun v6 =>
    (wantV v2 false).bind fun v7 =>
    (bif v7 then pv v6.2 (E.p.un .not v6.1) else some (.tup [], v6.2)).bind fun v8 =>
    (E.p.pick v2 (.bool true) v8.1).bind fun v9 =>
    condP v9
     (
      (resV .nilsl).bind fun v10 =>
      some (v10, v8.2))
     (
      (E.C fn_impl_exchanged [x3] v8.2).bind fun v11 =>
      (E.C fn_impl_standingOf [x2, v11.1] v11.2).bind fun v12 =>
      (E.p.alloc 58 v12.2).bind fun v13 =>
      (E.p.store 58 v13.1 v12.1 v13.2).bind fun v14 =>
      (E.p.fieldAddr 58 v13.1 0).bind fun v15 =>
      (E.p.indexAddr 56 v15 (.int .i64 0)).bind fun v16 =>
      (E.p.load 3 v16 v14).bind fun v17 =>
      (E.C fn_impl_countIn [v17] v14).bind fun v18 =>
      (E.p.bin .gtr 3 v18.1 (.int .i64 6)).bind fun v19 =>
      condP v19
       (
        (resV .nilsl).bind fun v20 =>
        some (v20, v18.2))
       (
        (E.C fn_impl_newSearch [x0, x1] v18.2).bind fun v21 =>
        (E.C fn_impl_partsOf [v17] v21.2).bind fun v22 =>
        (E.p.len 23 v22.1).bind fun v23 =>
        loopK (ev (E.cx Tryd.prog impl_MustCells.kl) impl_MustCells.lp0) E.lf (impl_MustCells.st0 v11.1 v13.1 v17 v21.1 v22.1 v23 (.int .i64 0) v22.2) (impl_MustCells.K0 E (kTop Tryd.prog Tryd.f42))))
theorem main_eq (E : Env) (x0 x1 x2 x3 : PV) (h : PHeap) : runBody (E.cx Tryd.prog kl) Tryd.f42 [x0, x1, x2, x3] h = main E x0 x1 x2 x3 h := by kernel_rfl
theorem call_eq (g : Nat → PV) (lf n : Nat) (x0 x1 x2 x3 : PV) (h : PHeap) : CL g lf (n + 1) fn_impl_MustCells [x0, x1, x2, x3] h = main (env g lf n) x0 x1 x2 x3 h := by
  rw [← main_eq]
  show (match Tryd.prog.funcs[42]? with | some fn => if fn.body.isSome then runBody ⟨Tryd.prog, g, call Tryd.prog g KL lf n, KL 42, lf, std Tryd.prog⟩ fn [x0, x1, x2, x3] h else none | none => none) = _
  rw [Tryd.func42]
  kernel_rfl
end impl_MustCells
namespace spec_MustCells
noncomputable def lp0 : Code := (codeAt (bodyOf Tryd.f43) [1, 1, 1, 1, 0, 1, 0, 0])
def st0 (x0 x1 x2 x3 x9 x10 x11 : PV) (h : PHeap) : St := ⟨[x0, x1, x2, x3, .junk, .junk, .junk, .junk, .junk, x9, x10, x11, .junk, .junk, .junk, .junk, .junk, .junk, .junk, .junk, .junk, .junk, .junk, .junk, .junk, .junk, .junk, .junk, .junk, .junk, .junk, .junk, .junk, .junk, .junk, .junk, .junk, .junk, .junk, .junk, .junk, .junk, .junk, .junk, .junk, .junk, .junk, .junk, .junk, .junk, .junk, .junk], h⟩
def se0_0_1_2_3_9_10_11_34 (x0 x1 x2 x3 x9 x10 x11 x34 : PV) (h : PHeap) : St := ⟨[x0, x1, x2, x3, .junk, .junk, .junk, .junk, .junk, x9, x10, x11, .junk, .junk, .junk, .junk, .junk, .junk, .junk, .junk, .junk, .junk, .junk, .junk, .junk, .junk, .junk, .junk, .junk, .junk, .junk, .junk, .junk, .junk, x34, .junk, .junk, .junk, .junk, .junk, .junk, .junk, .junk, .junk, .junk, .junk, .junk, .junk, .junk, .junk, .junk, .junk], h⟩
noncomputable def K0 (E : Env) (K : PX → St → Res) : PX → St → Res := (kBlock 0 (kSeq (ev (E.cx Tryd.prog kl) (codeAt (bodyOf Tryd.f43) [1, 1, 1, 1, 1])) K))
@[simp] theorem K0_ret (E : Env) (K : PX → St → Res) (s : St) : K0 E K .ret s = K .ret s := by kernel_rfl
noncomputable def body0 (E : Env) (K : PX → St → Res) (x0 x1 x2 x3 x9 x10 x11 : PV) (h : PHeap) : Res :=
    (E.p.len 23 x10).bind fun v27 =>
    (E.p.bin .shl 3 (.int .i64 1) v27).bind fun v28 =>
    (E.p.bin .lss 3 x11 v28).bind fun v29 =>
    condP v29
     (
      (E.C fn_spec_l5Fill [x10, x11] h).bind fun v30 =>
      (E.C fn_spec_l1Other [x3] v30.2).bind fun v31 =>
      (E.C fn_spec_ThreatOk [x0, x1, x2, v31.1, v30.1] v31.2).bind fun v32 =>
      condP v32.1
       (
        (E.p.bin .and 3 x9 v30.1).bind fun v33 =>
        (E.p.bin .add 3 x11 (.int .i64 1)).bind fun v34 =>
        K .normal (st0 x0 x1 x2 x3 v33 x10 v34 v32.2))
       (
        (E.p.bin .add 3 x11 (.int .i64 1)).bind fun v35 =>
        K .normal (st0 x0 x1 x2 x3 x9 x10 v35 v32.2)))
     (
      K (.exit 0) (se0_0_1_2_3_9_10_11_34 x0 x1 x2 x3 x9 x10 x11 v29 h))
theorem body0_eq (E : Env) (K : PX → St → Res) (x0 x1 x2 x3 x9 x10 x11 : PV) (h : PHeap) : ev (E.cx Tryd.prog kl) lp0 (st0 x0 x1 x2 x3 x9 x10 x11 h) K = body0 E K x0 x1 x2 x3 x9 x10 x11 h := by kernel_rfl
theorem after0_se0_0_1_2_3_9_10_11_34 (E : Env) (x0 x1 x2 x3 x9 x10 x11 x34 : PV) (h : PHeap) : K0 E (kTop Tryd.prog Tryd.f43) (.exit 0) (se0_0_1_2_3_9_10_11_34 x0 x1 x2 x3 x9 x10 x11 x34 h) =
    (E.C fn_spec_l2List [x9] h).bind fun v25 =>
    (resV v25.1).bind fun v26 =>
    some (v26, v25.2) := by kernel_rfl
noncomputable def main (E : Env) (x0 x1 x2 x3 : PV) (h : PHeap) : Res :=
    (E.C fn_spec_l6Ok [x0, x1, x2, x3, (.int .i64 0)] h).bind fun v1 =>
    (E.p.un .not v1.1).bind fun v2 =>
    (wantV v2 false).bind fun v3 =>
    (bif v3 then some (x2, v1.2) else some (.tup [], v1.2)).bind fun v4 =>
    (wantV v2 false).bind fun v5 =>
    (bif v5 then E.C fn_spec_l2Set [v4.1, (.int .i64 0)] v4.2 else some (.tup [], v4.2)).bind fun v6 =>
    (wantV v2 false).bind fun v7 =>
    (bif v7 then E.C fn_spec_l6Size [v6.1] v6.2 else some (.tup [], v6.2)).bind fun v8 =>
    (wantV v2 false).bind fun v9 =>
    (bif v9 then pv v8.2 (E.p.bin .gtr 3 v8.1 (.int .i64 6)) else some (.tup [], v8.2)).bind fun v10 =>
    (E.p.pick v2 (.bool true) v10.1).bind fun v11 =>
    condP v11
     (
      (E.p.buildSlice 23 0 [] v10.2).bind fun v12 =>
      (resV v12.1).bind fun v13 =>
      some (v13, v12.2))
     (
      (E.C fn_spec_l2Set [x2, (.int .i64 0)] v10.2).bind fun v14 =>
      (E.C fn_spec_l2List [v14.1] v14.2).bind fun v15 =>
      loopK (ev (E.cx Tryd.prog spec_MustCells.kl) spec_MustCells.lp0) E.lf (spec_MustCells.st0 x0 x1 x2 x3 v14.1 v15.1 (.int .i64 0) v15.2) (spec_MustCells.K0 E (kTop Tryd.prog Tryd.f43)))
theorem main_eq (E : Env) (x0 x1 x2 x3 : PV) (h : PHeap) : runBody (E.cx Tryd.prog kl) Tryd.f43 [x0, x1, x2, x3] h = main E x0 x1 x2 x3 h := by kernel_rfl
theorem call_eq (g : Nat → PV) (lf n : Nat) (x0 x1 x2 x3 : PV) (h : PHeap) : CL g lf (n + 1) fn_spec_MustCells [x0, x1, x2, x3] h = main (env g lf n) x0 x1 x2 x3 h := by
  rw [← main_eq]
  show (match Tryd.prog.funcs[43]? with | some fn => if fn.body.isSome then runBody ⟨Tryd.prog, g, call Tryd.prog g KL lf n, KL 43, lf, std Tryd.prog⟩ fn [x0, x1, x2, x3] h else none | none => none) = _
  rw [Tryd.func43]
  kernel_rfl
end spec_MustCells
namespace impl_Joins
noncomputable def main (E : Env) (x0 x1 x2 x3 : PV) (h : PHeap) : Res :=
    (E.C fn_impl_PositionOk [x0, x1, x2] h).bind fun v1 =>
    (E.p.un .not v1.1).bind fun v2 =>
    (wantV v2 false).bind fun v3 =>
    (bif v3 then some (x3, v1.2) else some (.tup [], v1.2)).bind fun v4 =>
    (wantV v2 false).bind fun v5 =>
    (bif v5 then E.C fn_impl_playerOk [v4.1] v4.2 else some (.tup [], v4.2)).bind fun v6 =>
    (wantV v2 false).bind fun v7 =>
    (bif v7 then pv v6.2 (E.p.un .not v6.1) else some (.tup [], v6.2)).bind fun v8 =>
    (E.p.pick v2 (.bool true) v8.1).bind fun v9 =>
    condP v9
     (
      (resV (.bool false)).bind fun v10 =>
      some (v10, v8.2))
     (
      (E.C fn_impl_sidesOf [x0, x1, x3] v8.2).bind fun v11 =>
      (E.p.extract v11.1 0).bind fun v12 =>
      (E.p.extract v11.1 1).bind fun v13 =>
      (E.C fn_impl_setOf [x2, x3] v11.2).bind fun v14 =>
      (E.p.bin .and 3 v12 v14.1).bind fun v15 =>
      (E.C fn_impl_grown [x0, x1, v15, v14.1] v14.2).bind fun v16 =>
      (E.p.bin .and 3 v16.1 v13).bind fun v17 =>
      (E.p.bin .neq 3 v17 (.int .i64 0)).bind fun v18 =>
      (resV v18).bind fun v19 =>
      some (v19, v16.2))
theorem main_eq (E : Env) (x0 x1 x2 x3 : PV) (h : PHeap) : runBody (E.cx Tryd.prog kl) Tryd.f44 [x0, x1, x2, x3] h = main E x0 x1 x2 x3 h := by kernel_rfl
theorem call_eq (g : Nat → PV) (lf n : Nat) (x0 x1 x2 x3 : PV) (h : PHeap) : CL g lf (n + 1) fn_impl_Joins [x0, x1, x2, x3] h = main (env g lf n) x0 x1 x2 x3 h := by
  rw [← main_eq]
  show (match Tryd.prog.funcs[44]? with | some fn => if fn.body.isSome then runBody ⟨Tryd.prog, g, call Tryd.prog g KL lf n, KL 44, lf, std Tryd.prog⟩ fn [x0, x1, x2, x3] h else none | none => none) = _
  rw [Tryd.func44]
  kernel_rfl
end impl_Joins
namespace laws_toIntS
noncomputable def lp0 : Code := (codeAt (bodyOf Tryd.f45) [1, 1, 0, 1, 0, 0])
def st0 (x0 x3 x4 : PV) (h : PHeap) : St := ⟨[x0, .junk, .junk, x3, x4, .junk, .junk, .junk, .junk, .junk, .junk, .junk, .junk, .junk, .junk, .junk, .junk, .junk, .junk, .junk, .junk, .junk], h⟩
def se0_0_3_4_11 (x0 x3 x4 x11 : PV) (h : PHeap) : St := ⟨[x0, .junk, .junk, x3, x4, .junk, .junk, .junk, .junk, .junk, .junk, x11, .junk, .junk, .junk, .junk, .junk, .junk, .junk, .junk, .junk, .junk], h⟩
noncomputable def K0 (E : Env) (K : PX → St → Res) : PX → St → Res := (kBlock 0 (kSeq (ev (E.cx Tryd.prog kl) (codeAt (bodyOf Tryd.f45) [1, 1, 1])) K))
@[simp] theorem K0_ret (E : Env) (K : PX → St → Res) (s : St) : K0 E K .ret s = K .ret s := by kernel_rfl
noncomputable def body0 (E : Env) (K : PX → St → Res) (x0 x3 x4 : PV) (h : PHeap) : Res :=
    (E.p.len 23 x0).bind fun v11 =>
    (E.p.bin .lss 3 x4 v11).bind fun v12 =>
    condP v12
     (
      (E.p.indexAddr 23 x0 x4).bind fun v13 =>
      (E.p.load 3 v13 h).bind fun v14 =>
      (E.p.indexAddr 23 x3 x4).bind fun v15 =>
      (E.p.store 3 v15 v14 h).bind fun v16 =>
      (E.p.bin .add 3 x4 (.int .i64 1)).bind fun v17 =>
      K .normal (st0 x0 x3 v17 v16))
     (
      K (.exit 0) (se0_0_3_4_11 x0 x3 x4 v12 h))
theorem body0_eq (E : Env) (K : PX → St → Res) (x0 x3 x4 : PV) (h : PHeap) : ev (E.cx Tryd.prog kl) lp0 (st0 x0 x3 x4 h) K = body0 E K x0 x3 x4 h := by kernel_rfl
theorem after0_se0_0_3_4_11 (E : Env) (x0 x3 x4 x11 : PV) (h : PHeap) : K0 E (kTop Tryd.prog Tryd.f45) (.exit 0) (se0_0_3_4_11 x0 x3 x4 x11 h) =
    (resV x3).bind fun v10 =>
    some (v10, h) := by kernel_rfl
noncomputable def main (E : Env) (x0 : PV) (h : PHeap) : Res :=
    (E.p.len 23 x0).bind fun v1 =>
    (E.p.make 23 v1 v1 h).bind fun v2 =>
    loopK (ev (E.cx Tryd.prog laws_toIntS.kl) laws_toIntS.lp0) E.lf (laws_toIntS.st0 x0 v2.1 (.int .i64 0) v2.2) (laws_toIntS.K0 E (kTop Tryd.prog Tryd.f45))
theorem main_eq (E : Env) (x0 : PV) (h : PHeap) : runBody (E.cx Tryd.prog kl) Tryd.f45 [x0] h = main E x0 h := by kernel_rfl
theorem call_eq (g : Nat → PV) (lf n : Nat) (x0 : PV) (h : PHeap) : CL g lf (n + 1) fn_laws_toIntS [x0] h = main (env g lf n) x0 h := by
  rw [← main_eq]
  show (match Tryd.prog.funcs[45]? with | some fn => if fn.body.isSome then runBody ⟨Tryd.prog, g, call Tryd.prog g KL lf n, KL 45, lf, std Tryd.prog⟩ fn [x0] h else none | none => none) = _
  rw [Tryd.func45]
  kernel_rfl
end laws_toIntS
namespace laws_eqIntS
noncomputable def lp0 : Code := (codeAt (bodyOf Tryd.f46) [1, 1, 0, 1, 0, 0])
def st0 (x0 x1 x5 : PV) (h : PHeap) : St := ⟨[x0, x1, .junk, .junk, .junk, x5, .junk, .junk, .junk, .junk, .junk, .junk, .junk, .junk, .junk, .junk, .junk, .junk, .junk, .junk, .junk, .junk, .junk, .junk, .junk, .junk], h⟩
def sr_4 (x4 : PV) (h : PHeap) : St := ⟨[.junk, .junk, .junk, .junk, x4, .junk, .junk, .junk, .junk, .junk, .junk, .junk, .junk, .junk, .junk, .junk, .junk, .junk, .junk, .junk, .junk, .junk, .junk, .junk, .junk, .junk], h⟩
def se0_0_1_5_14 (x0 x1 x5 x14 : PV) (h : PHeap) : St := ⟨[x0, x1, .junk, .junk, .junk, x5, .junk, .junk, .junk, .junk, .junk, .junk, .junk, .junk, x14, .junk, .junk, .junk, .junk, .junk, .junk, .junk, .junk, .junk, .junk, .junk], h⟩
noncomputable def K0 (E : Env) (K : PX → St → Res) : PX → St → Res := (kBlock 0 (kSeq (ev (E.cx Tryd.prog kl) (codeAt (bodyOf Tryd.f46) [1, 1, 1])) K))
@[simp] theorem K0_ret (E : Env) (K : PX → St → Res) (s : St) : K0 E K .ret s = K .ret s := by kernel_rfl
noncomputable def body0 (E : Env) (K : PX → St → Res) (x0 x1 x5 : PV) (h : PHeap) : Res :=
    (E.p.len 23 x0).bind fun v14 =>
    (E.p.bin .lss 3 x5 v14).bind fun v15 =>
    condP v15
     (
      (E.p.indexAddr 23 x0 x5).bind fun v16 =>
      (E.p.load 3 v16 h).bind fun v17 =>
      (E.p.indexAddr 23 x1 x5).bind fun v18 =>
      (E.p.load 3 v18 h).bind fun v19 =>
      (E.p.bin .neq 3 v17 v19).bind fun v20 =>
      condP v20
       (
        K .ret (sr_4 (.bool false) h))
       (
        (E.p.bin .add 3 x5 (.int .i64 1)).bind fun v21 =>
        K .normal (st0 x0 x1 v21 h)))
     (
      K (.exit 0) (se0_0_1_5_14 x0 x1 x5 v15 h))
theorem body0_eq (E : Env) (K : PX → St → Res) (x0 x1 x5 : PV) (h : PHeap) : ev (E.cx Tryd.prog kl) lp0 (st0 x0 x1 x5 h) K = body0 E K x0 x1 x5 h := by kernel_rfl
theorem after0_se0_0_1_5_14 (E : Env) (x0 x1 x5 x14 : PV) (h : PHeap) : K0 E (kTop Tryd.prog Tryd.f46) (.exit 0) (se0_0_1_5_14 x0 x1 x5 x14 h) =
    (resV (.bool true)).bind fun v13 =>
    some (v13, h) := by kernel_rfl
theorem top_sr_4 (x4 : PV) (h : PHeap) : kTop Tryd.prog Tryd.f46 .ret (sr_4 x4 h) =
    (resV x4).bind fun v22 =>
    some (v22, h) := by kernel_rfl
noncomputable def main (E : Env) (x0 x1 : PV) (h : PHeap) : Res :=
    (E.p.len 23 x0).bind fun v1 =>
    (E.p.len 23 x1).bind fun v2 =>
    (E.p.bin .neq 3 v1 v2).bind fun v3 =>
    condP v3
     (
      (resV (.bool false)).bind fun v4 =>
      some (v4, h))
     (
      loopK (ev (E.cx Tryd.prog laws_eqIntS.kl) laws_eqIntS.lp0) E.lf (laws_eqIntS.st0 x0 x1 (.int .i64 0) h) (laws_eqIntS.K0 E (kTop Tryd.prog Tryd.f46)))
theorem main_eq (E : Env) (x0 x1 : PV) (h : PHeap) : runBody (E.cx Tryd.prog kl) Tryd.f46 [x0, x1] h = main E x0 x1 h := by kernel_rfl
theorem call_eq (g : Nat → PV) (lf n : Nat) (x0 x1 : PV) (h : PHeap) : CL g lf (n + 1) fn_laws_eqIntS [x0, x1] h = main (env g lf n) x0 x1 h := by
  rw [← main_eq]
  show (match Tryd.prog.funcs[46]? with | some fn => if fn.body.isSome then runBody ⟨Tryd.prog, g, call Tryd.prog g KL lf n, KL 46, lf, std Tryd.prog⟩ fn [x0, x1] h else none | none => none) = _
  rw [Tryd.func46]
  kernel_rfl
end laws_eqIntS
namespace laws_markIntS
noncomputable def lp0 : Code := (codeAt (bodyOf Tryd.f47) [1, 0, 1, 0, 0])
def st0 (x0 x1 x5 : PV) (h : PHeap) : St := ⟨[x0, x1, .junk, .junk, .junk, x5, .junk, .junk, .junk, .junk, .junk, .junk, .junk, .junk, .junk, .junk, .junk, .junk, .junk], h⟩
def se0_0_1_5_9 (x0 x1 x5 x9 : PV) (h : PHeap) : St := ⟨[x0, x1, .junk, .junk, .junk, x5, .junk, .junk, .junk, x9, .junk, .junk, .junk, .junk, .junk, .junk, .junk, .junk, .junk], h⟩
noncomputable def K0 (E : Env) (K : PX → St → Res) : PX → St → Res := (kBlock 0 (kSeq (ev (E.cx Tryd.prog kl) (codeAt (bodyOf Tryd.f47) [1, 1])) K))
@[simp] theorem K0_ret (E : Env) (K : PX → St → Res) (s : St) : K0 E K .ret s = K .ret s := by kernel_rfl
noncomputable def body0 (E : Env) (K : PX → St → Res) (x0 x1 x5 : PV) (h : PHeap) : Res :=
    (E.p.len 23 x0).bind fun v8 =>
    (E.p.bin .lss 3 x5 v8).bind fun v9 =>
    condP v9
     (
      (E.p.indexAddr 23 x0 x5).bind fun v10 =>
      (E.p.store 3 v10 x1 h).bind fun v11 =>
      (E.p.bin .add 3 x1 (.int .i64 1)).bind fun v12 =>
      (E.p.bin .add 3 x5 (.int .i64 1)).bind fun v13 =>
      K .normal (st0 x0 v12 v13 v11))
     (
      K (.exit 0) (se0_0_1_5_9 x0 x1 x5 v9 h))
theorem body0_eq (E : Env) (K : PX → St → Res) (x0 x1 x5 : PV) (h : PHeap) : ev (E.cx Tryd.prog kl) lp0 (st0 x0 x1 x5 h) K = body0 E K x0 x1 x5 h := by kernel_rfl
theorem after0_se0_0_1_5_9 (E : Env) (x0 x1 x5 x9 : PV) (h : PHeap) : K0 E (kTop Tryd.prog Tryd.f47) (.exit 0) (se0_0_1_5_9 x0 x1 x5 x9 h) =
    (resV x1).bind fun v7 =>
    some (v7, h) := by kernel_rfl
noncomputable def main (E : Env) (x0 x1 : PV) (h : PHeap) : Res :=
    loopK (ev (E.cx Tryd.prog laws_markIntS.kl) laws_markIntS.lp0) E.lf (laws_markIntS.st0 x0 x1 (.int .i64 0) h) (laws_markIntS.K0 E (kTop Tryd.prog Tryd.f47))
theorem main_eq (E : Env) (x0 x1 : PV) (h : PHeap) : runBody (E.cx Tryd.prog kl) Tryd.f47 [x0, x1] h = main E x0 x1 h := by kernel_rfl
theorem call_eq (g : Nat → PV) (lf n : Nat) (x0 x1 : PV) (h : PHeap) : CL g lf (n + 1) fn_laws_markIntS [x0, x1] h = main (env g lf n) x0 x1 h := by
  rw [← main_eq]
  show (match Tryd.prog.funcs[47]? with | some fn => if fn.body.isSome then runBody ⟨Tryd.prog, g, call Tryd.prog g KL lf n, KL 47, lf, std Tryd.prog⟩ fn [x0, x1] h else none | none => none) = _
  rw [Tryd.func47]
  kernel_rfl
end laws_markIntS
namespace laws_heldIntS
noncomputable def lp0 : Code := (codeAt (bodyOf Tryd.f48) [1, 0, 1, 0, 0])
def st0 (x0 x1 x5 : PV) (h : PHeap) : St := ⟨[x0, x1, .junk, .junk, .junk, x5, .junk, .junk, .junk, .junk, .junk, .junk, .junk, .junk, .junk, .junk, .junk, .junk, .junk, .junk, .junk], h⟩
def sr_4 (x4 : PV) (h : PHeap) : St := ⟨[.junk, .junk, .junk, .junk, x4, .junk, .junk, .junk, .junk, .junk, .junk, .junk, .junk, .junk, .junk, .junk, .junk, .junk, .junk, .junk, .junk], h⟩
def se0_0_1_5_9 (x0 x1 x5 x9 : PV) (h : PHeap) : St := ⟨[x0, x1, .junk, .junk, .junk, x5, .junk, .junk, .junk, x9, .junk, .junk, .junk, .junk, .junk, .junk, .junk, .junk, .junk, .junk, .junk], h⟩
noncomputable def K0 (E : Env) (K : PX → St → Res) : PX → St → Res := (kBlock 0 (kSeq (ev (E.cx Tryd.prog kl) (codeAt (bodyOf Tryd.f48) [1, 1])) K))
@[simp] theorem K0_ret (E : Env) (K : PX → St → Res) (s : St) : K0 E K .ret s = K .ret s := by kernel_rfl
noncomputable def body0 (E : Env) (K : PX → St → Res) (x0 x1 x5 : PV) (h : PHeap) : Res :=
    (E.p.len 23 x0).bind fun v9 =>
    (E.p.bin .lss 3 x5 v9).bind fun v10 =>
    condP v10
     (
      (E.p.indexAddr 23 x0 x5).bind fun v11 =>
      (E.p.load 3 v11 h).bind fun v12 =>
      (E.p.bin .neq 3 v12 x1).bind fun v13 =>
      condP v13
       (
        K .ret (sr_4 (.int .i64 (-1)) h))
       (
        (E.p.bin .add 3 x1 (.int .i64 1)).bind fun v14 =>
        (E.p.bin .add 3 x5 (.int .i64 1)).bind fun v15 =>
        K .normal (st0 x0 v14 v15 h)))
     (
      K (.exit 0) (se0_0_1_5_9 x0 x1 x5 v10 h))
theorem body0_eq (E : Env) (K : PX → St → Res) (x0 x1 x5 : PV) (h : PHeap) : ev (E.cx Tryd.prog kl) lp0 (st0 x0 x1 x5 h) K = body0 E K x0 x1 x5 h := by kernel_rfl
theorem after0_se0_0_1_5_9 (E : Env) (x0 x1 x5 x9 : PV) (h : PHeap) : K0 E (kTop Tryd.prog Tryd.f48) (.exit 0) (se0_0_1_5_9 x0 x1 x5 x9 h) =
    (resV x1).bind fun v8 =>
    some (v8, h) := by kernel_rfl
theorem top_sr_4 (x4 : PV) (h : PHeap) : kTop Tryd.prog Tryd.f48 .ret (sr_4 x4 h) =
    (resV x4).bind fun v16 =>
    some (v16, h) := by kernel_rfl
noncomputable def main (E : Env) (x0 x1 : PV) (h : PHeap) : Res :=
    loopK (ev (E.cx Tryd.prog laws_heldIntS.kl) laws_heldIntS.lp0) E.lf (laws_heldIntS.st0 x0 x1 (.int .i64 0) h) (laws_heldIntS.K0 E (kTop Tryd.prog Tryd.f48))
theorem main_eq (E : Env) (x0 x1 : PV) (h : PHeap) : runBody (E.cx Tryd.prog kl) Tryd.f48 [x0, x1] h = main E x0 x1 h := by kernel_rfl
theorem call_eq (g : Nat → PV) (lf n : Nat) (x0 x1 : PV) (h : PHeap) : CL g lf (n + 1) fn_laws_heldIntS [x0, x1] h = main (env g lf n) x0 x1 h := by
  rw [← main_eq]
  show (match Tryd.prog.funcs[48]? with | some fn => if fn.body.isSome then runBody ⟨Tryd.prog, g, call Tryd.prog g KL lf n, KL 48, lf, std Tryd.prog⟩ fn [x0, x1] h else none | none => none) = _
  rw [Tryd.func48]
  kernel_rfl
end laws_heldIntS
namespace spec_l20Carried
noncomputable def main (E : Env) (x0 : PV) (h : PHeap) : Res :=
    (E.C fn_spec_l20Few [x0, (.int .i64 6)] h).bind fun v1 =>
    (E.p.extract v1.1 0).bind fun v2 =>
    (E.p.extract v1.1 1).bind fun v3 =>
    (E.p.extract v1.1 2).bind fun v4 =>
    (E.p.extract v1.1 3).bind fun v5 =>
    (E.p.len 23 v4).bind fun v6 =>
    (E.p.bin .shl 3 (.int .i64 1) v6).bind fun v7 =>
    (E.p.len 23 v4).bind fun v8 =>
    (E.p.bin .shl 3 (.int .i64 1) v8).bind fun v9 =>
    (E.C fn_spec_l20Rd_pick [x0, v7] v1.2).bind fun v10 =>
    (E.C fn_spec_l20Rd_pick [x0, v9] v10.2).bind fun v11 =>
    (E.p.bin .or 3 v10.1 v11.1).bind fun v12 =>
    (E.C fn_spec_l20Rd_pick [x0, (.int .i64 60)] v11.2).bind fun v13 =>
    (E.p.bin .quo 3 v13.1 (.int .i64 59)).bind fun v14 =>
    (E.p.bin .mul 3 v14 (.int .i64 1024)).bind fun v15 =>
    (E.p.bin .add 3 v12 v15).bind fun v16 =>
    (resV v2).bind fun v17 =>
    (resV v3).bind fun v18 =>
    (resV v4).bind fun v19 =>
    (resV v5).bind fun v20 =>
    (resV v16).bind fun v21 =>
    some (.tup [v17, v18, v19, v20, v21], v13.2)
theorem main_eq (E : Env) (x0 : PV) (h : PHeap) : runBody (E.cx Tryd.prog kl) Tryd.f49 [x0] h = main E x0 h := by kernel_rfl
theorem call_eq (g : Nat → PV) (lf n : Nat) (x0 : PV) (h : PHeap) : CL g lf (n + 1) fn_spec_l20Carried [x0] h = main (env g lf n) x0 h := by
  rw [← main_eq]
  show (match Tryd.prog.funcs[49]? with | some fn => if fn.body.isSome then runBody ⟨Tryd.prog, g, call Tryd.prog g KL lf n, KL 49, lf, std Tryd.prog⟩ fn [x0] h else none | none => none) = _
  rw [Tryd.func49]
  kernel_rfl
end spec_l20Carried
namespace spec_l20Open
noncomputable def main (E : Env) (x0 : PV) (h : PHeap) : Res :=
    (E.p.len 22 x0).bind fun v1 =>
    (E.p.bin .gtr 3 v1 (.int .i64 2000)).bind fun v2 =>
    condP v2
     (
      (E.p.slice 22 x0 none (some (.int .i64 2000)) h).bind fun v3 =>
      (E.p.build 72 [(0, v3)]).bind fun v4 =>
      (E.p.box v4 h).bind fun v5 =>
      (resV v5.1).bind fun v6 =>
      some (v6, v5.2))
     (
      (E.p.build 72 [(0, x0)]).bind fun v7 =>
      (E.p.box v7 h).bind fun v8 =>
      (resV v8.1).bind fun v9 =>
      some (v9, v8.2))
theorem main_eq (E : Env) (x0 : PV) (h : PHeap) : runBody (E.cx Tryd.prog kl) Tryd.f50 [x0] h = main E x0 h := by kernel_rfl
theorem call_eq (g : Nat → PV) (lf n : Nat) (x0 : PV) (h : PHeap) : CL g lf (n + 1) fn_spec_l20Open [x0] h = main (env g lf n) x0 h := by
  rw [← main_eq]
  show (match Tryd.prog.funcs[50]? with | some fn => if fn.body.isSome then runBody ⟨Tryd.prog, g, call Tryd.prog g KL lf n, KL 50, lf, std Tryd.prog⟩ fn [x0] h else none | none => none) = _
  rw [Tryd.func50]
  kernel_rfl
end spec_l20Open
namespace impl_setWins
noncomputable def main (E : Env) (x0 x1 x2 x3 x4 x5 : PV) (h : PHeap) : Res :=
    (E.C fn_impl_PositionOk [x0, x1, x2] h).bind fun v1 =>
    (E.p.un .not v1.1).bind fun v2 =>
    (wantV v2 false).bind fun v3 =>
    (bif v3 then some (x3, v1.2) else some (.tup [], v1.2)).bind fun v4 =>
    (wantV v2 false).bind fun v5 =>
    (bif v5 then E.C fn_impl_playerOk [v4.1] v4.2 else some (.tup [], v4.2)).bind fun v6 =>
    (wantV v2 false).bind fun v7 =>
    (bif v7 then pv v6.2 (E.p.un .not v6.1) else some (.tup [], v6.2)).bind fun v8 =>
    (E.p.pick v2 (.bool true) v8.1).bind fun v9 =>
    (wantV v9 false).bind fun v10 =>
    (bif v10 then some (x0, v8.2) else some (.tup [], v8.2)).bind fun v11 =>
    (wantV v9 false).bind fun v12 =>
    (bif v12 then some (x1, v11.2) else some (.tup [], v11.2)).bind fun v13 =>
    (wantV v9 false).bind fun v14 =>
    (bif v14 then some (x5, v13.2) else some (.tup [], v13.2)).bind fun v15 =>
    (wantV v9 false).bind fun v16 =>
    (bif v16 then E.C fn_impl_setOk [v11.1, v13.1, v15.1] v15.2 else some (.tup [], v15.2)).bind fun v17 =>
    (wantV v9 false).bind fun v18 =>
    (bif v18 then pv v17.2 (E.p.un .not v17.1) else some (.tup [], v17.2)).bind fun v19 =>
    (E.p.pick v9 (.bool true) v19.1).bind fun v20 =>
    condP v20
     (
      (resV (.bool false)).bind fun v21 =>
      some (v21, v19.2))
     (
      (E.C fn_impl_newSearch [x0, x1] v19.2).bind fun v22 =>
      (E.C fn_impl_standingOf [x2, x4] v22.2).bind fun v23 =>
      (E.C fn_impl_search_winsWith [v22.1, v23.1, x3, x5] v23.2).bind fun v24 =>
      (resV v24.1).bind fun v25 =>
      some (v25, v24.2))
theorem main_eq (E : Env) (x0 x1 x2 x3 x4 x5 : PV) (h : PHeap) : runBody (E.cx Tryd.prog kl) Tryd.f51 [x0, x1, x2, x3, x4, x5] h = main E x0 x1 x2 x3 x4 x5 h := by kernel_rfl
theorem call_eq (g : Nat → PV) (lf n : Nat) (x0 x1 x2 x3 x4 x5 : PV) (h : PHeap) : CL g lf (n + 1) fn_impl_setWins [x0, x1, x2, x3, x4, x5] h = main (env g lf n) x0 x1 x2 x3 x4 x5 h := by
  rw [← main_eq]
  show (match Tryd.prog.funcs[51]? with | some fn => if fn.body.isSome then runBody ⟨Tryd.prog, g, call Tryd.prog g KL lf n, KL 51, lf, std Tryd.prog⟩ fn [x0, x1, x2, x3, x4, x5] h else none | none => none) = _
  rw [Tryd.func51]
  kernel_rfl
end impl_setWins
namespace impl_exchanged
noncomputable def main (E : Env) (x0 : PV) (h : PHeap) : Res :=
    (E.p.bin .eql 3 x0 (.int .i64 1)).bind fun v1 =>
    condP v1
     (
      (resV (.int .i64 2)).bind fun v2 =>
      some (v2, h))
     (
      (E.p.bin .eql 3 x0 (.int .i64 2)).bind fun v3 =>
      condP v3
       (
        (resV (.int .i64 1)).bind fun v4 =>
        some (v4, h))
       (
        (resV x0).bind fun v5 =>
        some (v5, h)))
theorem main_eq (E : Env) (x0 : PV) (h : PHeap) : runBody (E.cx Tryd.prog kl) Tryd.f52 [x0] h = main E x0 h := by kernel_rfl
theorem call_eq (g : Nat → PV) (lf n : Nat) (x0 : PV) (h : PHeap) : CL g lf (n + 1) fn_impl_exchanged [x0] h = main (env g lf n) x0 h := by
  rw [← main_eq]
  show (match Tryd.prog.funcs[52]? with | some fn => if fn.body.isSome then runBody ⟨Tryd.prog, g, call Tryd.prog g KL lf n, KL 52, lf, std Tryd.prog⟩ fn [x0] h else none | none => none) = _
  rw [Tryd.func52]
  kernel_rfl
end impl_exchanged
namespace spec_l6Ok
noncomputable def main (E : Env) (x0 x1 x2 x3 x4 : PV) (h : PHeap) : Res :=
    (E.C fn_spec_PositionOk [x0, x1, x2] h).bind fun v1 =>
    (wantV v1.1 true).bind fun v2 =>
    (bif v2 then some (x3, v1.2) else some (.tup [], v1.2)).bind fun v3 =>
    (wantV v1.1 true).bind fun v4 =>
    (bif v4 then E.C fn_spec_l1In [v3.1, (.int .i64 1), (.int .i64 2)] v3.2 else some (.tup [], v3.2)).bind fun v5 =>
    (E.p.pick v1.1 v5.1 (.bool false)).bind fun v6 =>
    (wantV v6 true).bind fun v7 =>
    (bif v7 then some (x4, v5.2) else some (.tup [], v5.2)).bind fun v8 =>
    (wantV v6 true).bind fun v9 =>
    (bif v9 then some (x2, v8.2) else some (.tup [], v8.2)).bind fun v10 =>
    (wantV v6 true).bind fun v11 =>
    (bif v11 then pv v10.2 (E.p.len 23 v10.1) else some (.tup [], v10.2)).bind fun v12 =>
    (wantV v6 true).bind fun v13 =>
    (bif v13 then pv v12.2 (E.p.bin .shl 3 (.int .i64 1) v12.1) else some (.tup [], v12.2)).bind fun v14 =>
    (wantV v6 true).bind fun v15 =>
    (bif v15 then pv v14.2 (E.p.bin .sub 3 v14.1 (.int .i64 1)) else some (.tup [], v14.2)).bind fun v16 =>
    (wantV v6 true).bind fun v17 =>
    (bif v17 then E.C fn_spec_l1In [v8.1, (.int .i64 0), v16.1] v16.2 else some (.tup [], v16.2)).bind fun v18 =>
    (E.p.pick v6 v18.1 (.bool false)).bind fun v19 =>
    (resV v19).bind fun v20 =>
    some (v20, v18.2)
theorem main_eq (E : Env) (x0 x1 x2 x3 x4 : PV) (h : PHeap) : runBody (E.cx Tryd.prog kl) Tryd.f53 [x0, x1, x2, x3, x4] h = main E x0 x1 x2 x3 x4 h := by kernel_rfl
theorem call_eq (g : Nat → PV) (lf n : Nat) (x0 x1 x2 x3 x4 : PV) (h : PHeap) : CL g lf (n + 1) fn_spec_l6Ok [x0, x1, x2, x3, x4] h = main (env g lf n) x0 x1 x2 x3 x4 h := by
  rw [← main_eq]
  show (match Tryd.prog.funcs[53]? with | some fn => if fn.body.isSome then runBody ⟨Tryd.prog, g, call Tryd.prog g KL lf n, KL 53, lf, std Tryd.prog⟩ fn [x0, x1, x2, x3, x4] h else none | none => none) = _
  rw [Tryd.func53]
  kernel_rfl
end spec_l6Ok
namespace spec_l3Winner
noncomputable def main (E : Env) (x0 x1 x2 x3 : PV) (h : PHeap) : Res :=
    (E.C fn_spec_l2Masks [x0, x1] h).bind fun v1 =>
    (E.C fn_spec_l2Set [x2, (.int .i64 1)] v1.2).bind fun v2 =>
    (E.C fn_spec_l2Set [x2, (.int .i64 2)] v2.2).bind fun v3 =>
    (E.p.len 23 v1.1).bind fun v4 =>
    (E.C fn_spec_l3Table [v4] v3.2).bind fun v5 =>
    (E.C fn_spec_l3Solve [x0, x1, v1.1, v2.1, v3.1, x3, v5.1] v5.2).bind fun v6 =>
    (resV v6.1).bind fun v7 =>
    some (v7, v6.2)
theorem main_eq (E : Env) (x0 x1 x2 x3 : PV) (h : PHeap) : runBody (E.cx Tryd.prog kl) Tryd.f54 [x0, x1, x2, x3] h = main E x0 x1 x2 x3 h := by kernel_rfl
theorem call_eq (g : Nat → PV) (lf n : Nat) (x0 x1 x2 x3 : PV) (h : PHeap) : CL g lf (n + 1) fn_spec_l3Winner [x0, x1, x2, x3] h = main (env g lf n) x0 x1 x2 x3 h := by
  rw [← main_eq]
  show (match Tryd.prog.funcs[54]? with | some fn => if fn.body.isSome then runBody ⟨Tryd.prog, g, call Tryd.prog g KL lf n, KL 54, lf, std Tryd.prog⟩ fn [x0, x1, x2, x3] h else none | none => none) = _
  rw [Tryd.func54]
  kernel_rfl
end spec_l3Winner
namespace spec_l6Given
noncomputable def lp0 : Code := (codeAt (bodyOf Tryd.f55) [1, 1, 0, 1, 0, 0])
def st0 (x1 x2 x7 x8 : PV) (h : PHeap) : St := ⟨[.junk, x1, x2, .junk, .junk, .junk, .junk, x7, x8, .junk, .junk, .junk, .junk, .junk, .junk, .junk, .junk, .junk, .junk, .junk, .junk, .junk, .junk, .junk, .junk, .junk, .junk, .junk, .junk, .junk, .junk, .junk, .junk, .junk, .junk, .junk], h⟩
def se0_1_2_7_8_15 (x1 x2 x7 x8 x15 : PV) (h : PHeap) : St := ⟨[.junk, x1, x2, .junk, .junk, .junk, .junk, x7, x8, .junk, .junk, .junk, .junk, .junk, .junk, x15, .junk, .junk, .junk, .junk, .junk, .junk, .junk, .junk, .junk, .junk, .junk, .junk, .junk, .junk, .junk, .junk, .junk, .junk, .junk, .junk], h⟩
noncomputable def K0 (E : Env) (K : PX → St → Res) : PX → St → Res := (kBlock 0 (kSeq (ev (E.cx Tryd.prog kl) (codeAt (bodyOf Tryd.f55) [1, 1, 1])) K))
@[simp] theorem K0_ret (E : Env) (K : PX → St → Res) (s : St) : K0 E K .ret s = K .ret s := by kernel_rfl
noncomputable def body0 (E : Env) (K : PX → St → Res) (x1 x2 x7 x8 : PV) (h : PHeap) : Res :=
    (E.p.len 23 x7).bind fun v25 =>
    (E.p.bin .lss 3 x8 v25).bind fun v26 =>
    condP v26
     (
      (E.p.indexAddr 23 x7 x8).bind fun v27 =>
      (E.p.load 3 v27 h).bind fun v28 =>
      (E.p.bin .eql 3 v28 (.int .i64 0)).bind fun v29 =>
      (wantV v29 true).bind fun v30 =>
      (bif v30 then some (x2, h) else some (.tup [], h)).bind fun v31 =>
      (wantV v29 true).bind fun v32 =>
      (bif v32 then some (x8, v31.2) else some (.tup [], v31.2)).bind fun v33 =>
      (wantV v29 true).bind fun v34 =>
      (bif v34 then pv v33.2 (E.p.bin .shr 3 v31.1 v33.1) else some (.tup [], v33.2)).bind fun v35 =>
      (wantV v29 true).bind fun v36 =>
      (bif v36 then pv v35.2 (E.p.bin .rem 3 v35.1 (.int .i64 2)) else some (.tup [], v35.2)).bind fun v37 =>
      (wantV v29 true).bind fun v38 =>
      (bif v38 then pv v37.2 (E.p.bin .eql 3 v37.1 (.int .i64 0)) else some (.tup [], v37.2)).bind fun v39 =>
      (E.p.pick v29 v39.1 (.bool false)).bind fun v40 =>
      condP v40
       (
        (E.C fn_spec_l1Other [x1] v39.2).bind fun v41 =>
        (E.p.indexAddr 23 x7 x8).bind fun v42 =>
        (E.p.store 3 v42 v41.1 v41.2).bind fun v43 =>
        (E.p.bin .add 3 x8 (.int .i64 1)).bind fun v44 =>
        K .normal (st0 x1 x2 x7 v44 v43))
       (
        (E.p.bin .add 3 x8 (.int .i64 1)).bind fun v45 =>
        K .normal (st0 x1 x2 x7 v45 v39.2)))
     (
      K (.exit 0) (se0_1_2_7_8_15 x1 x2 x7 x8 v26 h))
theorem body0_eq (E : Env) (K : PX → St → Res) (x1 x2 x7 x8 : PV) (h : PHeap) : ev (E.cx Tryd.prog kl) lp0 (st0 x1 x2 x7 x8 h) K = body0 E K x1 x2 x7 x8 h := by kernel_rfl
theorem after0_se0_1_2_7_8_15 (E : Env) (x1 x2 x7 x8 x15 : PV) (h : PHeap) : K0 E (kTop Tryd.prog Tryd.f55) (.exit 0) (se0_1_2_7_8_15 x1 x2 x7 x8 x15 h) =
    (resV x7).bind fun v24 =>
    some (v24, h) := by kernel_rfl
noncomputable def main (E : Env) (x0 x1 x2 : PV) (h : PHeap) : Res :=
    (E.p.buildSlice 23 0 [] h).bind fun v1 =>
    (E.p.append 23 23 v1.1 x0 v1.2).bind fun v2 =>
    loopK (ev (E.cx Tryd.prog spec_l6Given.kl) spec_l6Given.lp0) E.lf (spec_l6Given.st0 x1 x2 v2.1 (.int .i64 0) v2.2) (spec_l6Given.K0 E (kTop Tryd.prog Tryd.f55))
theorem main_eq (E : Env) (x0 x1 x2 : PV) (h : PHeap) : runBody (E.cx Tryd.prog kl) Tryd.f55 [x0, x1, x2] h = main E x0 x1 x2 h := by kernel_rfl
theorem call_eq (g : Nat → PV) (lf n : Nat) (x0 x1 x2 : PV) (h : PHeap) : CL g lf (n + 1) fn_spec_l6Given [x0, x1, x2] h = main (env g lf n) x0 x1 x2 h := by
  rw [← main_eq]
  show (match Tryd.prog.funcs[55]? with | some fn => if fn.body.isSome then runBody ⟨Tryd.prog, g, call Tryd.prog g KL lf n, KL 55, lf, std Tryd.prog⟩ fn [x0, x1, x2] h else none | none => none) = _
  rw [Tryd.func55]
  kernel_rfl
end spec_l6Given
namespace spec_l1Other
noncomputable def main (E : Env) (x0 : PV) (h : PHeap) : Res :=
    (E.p.bin .eql 3 x0 (.int .i64 0)).bind fun v1 =>
    condP v1
     (
      (resV (.int .i64 0)).bind fun v2 =>
      some (v2, h))
     (
      (E.p.bin .sub 3 (.int .i64 3) x0).bind fun v3 =>
      (resV v3).bind fun v4 =>
      some (v4, h))
theorem main_eq (E : Env) (x0 : PV) (h : PHeap) : runBody (E.cx Tryd.prog kl) Tryd.f56 [x0] h = main E x0 h := by kernel_rfl
theorem call_eq (g : Nat → PV) (lf n : Nat) (x0 : PV) (h : PHeap) : CL g lf (n + 1) fn_spec_l1Other [x0] h = main (env g lf n) x0 h := by
  rw [← main_eq]
  show (match Tryd.prog.funcs[56]? with | some fn => if fn.body.isSome then runBody ⟨Tryd.prog, g, call Tryd.prog g KL lf n, KL 56, lf, std Tryd.prog⟩ fn [x0] h else none | none => none) = _
  rw [Tryd.func56]
  kernel_rfl
end spec_l1Other
namespace spec_l1In
noncomputable def main (E : Env) (x0 x1 x2 : PV) (h : PHeap) : Res :=
    (E.p.bin .geq 3 x0 x1).bind fun v1 =>
    (wantV v1 true).bind fun v2 =>
    (bif v2 then some (x0, h) else some (.tup [], h)).bind fun v3 =>
    (wantV v1 true).bind fun v4 =>
    (bif v4 then some (x2, v3.2) else some (.tup [], v3.2)).bind fun v5 =>
    (wantV v1 true).bind fun v6 =>
    (bif v6 then pv v5.2 (E.p.bin .leq 3 v3.1 v5.1) else some (.tup [], v5.2)).bind fun v7 =>
    (E.p.pick v1 v7.1 (.bool false)).bind fun v8 =>
    (resV v8).bind fun v9 =>
    some (v9, v7.2)
theorem main_eq (E : Env) (x0 x1 x2 : PV) (h : PHeap) : runBody (E.cx Tryd.prog kl) Tryd.f57 [x0, x1, x2] h = main E x0 x1 x2 h := by kernel_rfl
theorem call_eq (g : Nat → PV) (lf n : Nat) (x0 x1 x2 : PV) (h : PHeap) : CL g lf (n + 1) fn_spec_l1In [x0, x1, x2] h = main (env g lf n) x0 x1 x2 h := by
  rw [← main_eq]
  show (match Tryd.prog.funcs[57]? with | some fn => if fn.body.isSome then runBody ⟨Tryd.prog, g, call Tryd.prog g KL lf n, KL 57, lf, std Tryd.prog⟩ fn [x0, x1, x2] h else none | none => none) = _
  rw [Tryd.func57]
  kernel_rfl
end spec_l1In
namespace impl_BoardOk
noncomputable def main (E : Env) (x0 x1 : PV) (h : PHeap) : Res :=
    (E.C fn_impl_sizeOk [x0] h).bind fun v1 =>
    (wantV v1.1 true).bind fun v2 =>
    (bif v2 then some (x1, v1.2) else some (.tup [], v1.2)).bind fun v3 =>
    (wantV v1.1 true).bind fun v4 =>
    (bif v4 then E.C fn_impl_sizeOk [v3.1] v3.2 else some (.tup [], v3.2)).bind fun v5 =>
    (E.p.pick v1.1 v5.1 (.bool false)).bind fun v6 =>
    (wantV v6 true).bind fun v7 =>
    (bif v7 then some (x0, v5.2) else some (.tup [], v5.2)).bind fun v8 =>
    (wantV v6 true).bind fun v9 =>
    (bif v9 then some (x1, v8.2) else some (.tup [], v8.2)).bind fun v10 =>
    (wantV v6 true).bind fun v11 =>
    (bif v11 then pv v10.2 (E.p.bin .mul 3 v8.1 v10.1) else some (.tup [], v10.2)).bind fun v12 =>
    (wantV v6 true).bind fun v13 =>
    (bif v13 then pv v12.2 (E.p.bin .leq 3 v12.1 (.int .i64 9)) else some (.tup [], v12.2)).bind fun v14 =>
    (E.p.pick v6 v14.1 (.bool false)).bind fun v15 =>
    (resV v15).bind fun v16 =>
    some (v16, v14.2)
theorem main_eq (E : Env) (x0 x1 : PV) (h : PHeap) : runBody (E.cx Tryd.prog kl) Tryd.f58 [x0, x1] h = main E x0 x1 h := by kernel_rfl
theorem call_eq (g : Nat → PV) (lf n : Nat) (x0 x1 : PV) (h : PHeap) : CL g lf (n + 1) fn_impl_BoardOk [x0, x1] h = main (env g lf n) x0 x1 h := by
  rw [← main_eq]
  show (match Tryd.prog.funcs[58]? with | some fn => if fn.body.isSome then runBody ⟨Tryd.prog, g, call Tryd.prog g KL lf n, KL 58, lf, std Tryd.prog⟩ fn [x0, x1] h else none | none => none) = _
  rw [Tryd.func58]
  kernel_rfl
end impl_BoardOk
namespace impl_PositionOk
noncomputable def lp0 : Code := (codeAt (bodyOf Tryd.f59) [1, 1, 0, 1, 0, 0])
def st0 (x21 x22 x23 : PV) (h : PHeap) : St := ⟨[.junk, .junk, .junk, .junk, .junk, .junk, .junk, .junk, .junk, .junk, .junk, .junk, .junk, .junk, .junk, .junk, .junk, .junk, .junk, .junk, .junk, x21, x22, x23, .junk, .junk, .junk, .junk, .junk, .junk, .junk], h⟩
def sr_6 (x6 : PV) (h : PHeap) : St := ⟨[.junk, .junk, .junk, .junk, .junk, .junk, x6, .junk, .junk, .junk, .junk, .junk, .junk, .junk, .junk, .junk, .junk, .junk, .junk, .junk, .junk, .junk, .junk, .junk, .junk, .junk, .junk, .junk, .junk, .junk, .junk], h⟩
def se0_21_22_23_24 (x21 x22 x23 x24 : PV) (h : PHeap) : St := ⟨[.junk, .junk, .junk, .junk, .junk, .junk, .junk, .junk, .junk, .junk, .junk, .junk, .junk, .junk, .junk, .junk, .junk, .junk, .junk, .junk, .junk, x21, x22, x23, x24, .junk, .junk, .junk, .junk, .junk, .junk], h⟩
noncomputable def K0 (E : Env) (K : PX → St → Res) : PX → St → Res := (kBlock 0 (kSeq (ev (E.cx Tryd.prog kl) (codeAt (bodyOf Tryd.f59) [1, 1, 1])) K))
@[simp] theorem K0_ret (E : Env) (K : PX → St → Res) (s : St) : K0 E K .ret s = K .ret s := by kernel_rfl
noncomputable def body0 (E : Env) (K : PX → St → Res) (x21 x22 x23 : PV) (h : PHeap) : Res :=
    (E.p.bin .lss 3 x23 x22).bind fun v25 =>
    condP v25
     (
      (E.p.indexAddr 23 x21 x23).bind fun v26 =>
      (E.p.load 3 v26 h).bind fun v27 =>
      (E.C fn_impl_contentOk [v27] h).bind fun v28 =>
      (E.p.un .not v28.1).bind fun v29 =>
      condP v29
       (
        K .ret (sr_6 (.bool false) v28.2))
       (
        (E.p.bin .add 3 x23 (.int .i64 1)).bind fun v30 =>
        K .normal (st0 x21 x22 v30 v28.2)))
     (
      K (.exit 0) (se0_21_22_23_24 x21 x22 x23 v25 h))
theorem body0_eq (E : Env) (K : PX → St → Res) (x21 x22 x23 : PV) (h : PHeap) : ev (E.cx Tryd.prog kl) lp0 (st0 x21 x22 x23 h) K = body0 E K x21 x22 x23 h := by kernel_rfl
theorem after0_se0_21_22_23_24 (E : Env) (x21 x22 x23 x24 : PV) (h : PHeap) : K0 E (kTop Tryd.prog Tryd.f59) (.exit 0) (se0_21_22_23_24 x21 x22 x23 x24 h) =
    (resV (.bool true)).bind fun v24 =>
    some (v24, h) := by kernel_rfl
theorem top_sr_6 (x6 : PV) (h : PHeap) : kTop Tryd.prog Tryd.f59 .ret (sr_6 x6 h) =
    (resV x6).bind fun v31 =>
    some (v31, h) := by kernel_rfl
noncomputable def main (E : Env) (x0 x1 x2 : PV) (h : PHeap) : Res :=
    (E.C fn_impl_BoardOk [x0, x1] h).bind fun v1 =>
    (E.p.un .not v1.1).bind fun v2 =>
    (wantV v2 false).bind fun v3 =>
    (bif v3 then some (x2, v1.2) else some (.tup [], v1.2)).bind fun v4 =>
    (wantV v2 false).bind fun v5 =>
    (bif v5 then pv v4.2 (E.p.len 23 v4.1) else some (.tup [], v4.2)).bind fun v6 =>
    (wantV v2 false).bind fun v7 =>
    (bif v7 then some (x0, v6.2) else some (.tup [], v6.2)).bind fun v8 =>
    (wantV v2 false).bind fun v9 =>
    (bif v9 then some (x1, v8.2) else some (.tup [], v8.2)).bind fun v10 =>
    (wantV v2 false).bind fun v11 =>
    (bif v11 then pv v10.2 (E.p.bin .mul 3 v8.1 v10.1) else some (.tup [], v10.2)).bind fun v12 =>
    (wantV v2 false).bind fun v13 =>
    (bif v13 then pv v12.2 (E.p.bin .neq 3 v6.1 v12.1) else some (.tup [], v12.2)).bind fun v14 =>
    (E.p.pick v2 (.bool true) v14.1).bind fun v15 =>
    condP v15
     (
      (resV (.bool false)).bind fun v16 =>
      some (v16, v14.2))
     (
      (E.p.len 23 x2).bind fun v17 =>
      loopK (ev (E.cx Tryd.prog impl_PositionOk.kl) impl_PositionOk.lp0) E.lf (impl_PositionOk.st0 x2 v17 (.int .i64 0) v14.2) (impl_PositionOk.K0 E (kTop Tryd.prog Tryd.f59)))
theorem main_eq (E : Env) (x0 x1 x2 : PV) (h : PHeap) : runBody (E.cx Tryd.prog kl) Tryd.f59 [x0, x1, x2] h = main E x0 x1 x2 h := by kernel_rfl
theorem call_eq (g : Nat → PV) (lf n : Nat) (x0 x1 x2 : PV) (h : PHeap) : CL g lf (n + 1) fn_impl_PositionOk [x0, x1, x2] h = main (env g lf n) x0 x1 x2 h := by
  rw [← main_eq]
  show (match Tryd.prog.funcs[59]? with | some fn => if fn.body.isSome then runBody ⟨Tryd.prog, g, call Tryd.prog g KL lf n, KL 59, lf, std Tryd.prog⟩ fn [x0, x1, x2] h else none | none => none) = _
  rw [Tryd.func59]
  kernel_rfl
end impl_PositionOk
namespace impl_playerOk
noncomputable def main (E : Env) (x0 : PV) (h : PHeap) : Res :=
    (E.p.bin .eql 3 x0 (.int .i64 1)).bind fun v1 =>
    (wantV v1 false).bind fun v2 =>
    (bif v2 then some (x0, h) else some (.tup [], h)).bind fun v3 =>
    (wantV v1 false).bind fun v4 =>
    (bif v4 then pv v3.2 (E.p.bin .eql 3 v3.1 (.int .i64 2)) else some (.tup [], v3.2)).bind fun v5 =>
    (E.p.pick v1 (.bool true) v5.1).bind fun v6 =>
    (resV v6).bind fun v7 =>
    some (v7, v5.2)
theorem main_eq (E : Env) (x0 : PV) (h : PHeap) : runBody (E.cx Tryd.prog kl) Tryd.f60 [x0] h = main E x0 h := by kernel_rfl
theorem call_eq (g : Nat → PV) (lf n : Nat) (x0 : PV) (h : PHeap) : CL g lf (n + 1) fn_impl_playerOk [x0] h = main (env g lf n) x0 h := by
  rw [← main_eq]
  show (match Tryd.prog.funcs[60]? with | some fn => if fn.body.isSome then runBody ⟨Tryd.prog, g, call Tryd.prog g KL lf n, KL 60, lf, std Tryd.prog⟩ fn [x0] h else none | none => none) = _
  rw [Tryd.func60]
  kernel_rfl
end impl_playerOk
namespace impl_newSearch
noncomputable def lp0 : Code := (codeAt (bodyOf Tryd.f61) [1, 1, 0, 1, 0, 0])
def st0 (x0 x1 x5 x13 x14 : PV) (h : PHeap) : St := ⟨[x0, x1, .junk, .junk, .junk, x5, .junk, .junk, .junk, .junk, .junk, .junk, .junk, x13, x14, .junk, .junk, .junk, .junk, .junk, .junk, .junk, .junk, .junk, .junk, .junk, .junk, .junk, .junk, .junk, .junk, .junk, .junk, .junk, .junk, .junk, .junk, .junk, .junk, .junk, .junk, .junk, .junk, .junk, .junk, .junk, .junk, .junk, .junk, .junk], h⟩
noncomputable def lp1 : Code := (codeAt (bodyOf Tryd.f61) [1, 1, 1, 0, 1, 0, 0])
def st1 (x0 x1 x5 x7 : PV) (h : PHeap) : St := ⟨[x0, x1, .junk, .junk, .junk, x5, .junk, x7, .junk, .junk, .junk, .junk, .junk, .junk, .junk, .junk, .junk, .junk, .junk, .junk, .junk, .junk, .junk, .junk, .junk, .junk, .junk, .junk, .junk, .junk, .junk, .junk, .junk, .junk, .junk, .junk, .junk, .junk, .junk, .junk, .junk, .junk, .junk, .junk, .junk, .junk, .junk, .junk, .junk, .junk], h⟩
def se0_0_1_5_13_14_15 (x0 x1 x5 x13 x14 x15 : PV) (h : PHeap) : St := ⟨[x0, x1, .junk, .junk, .junk, x5, .junk, .junk, .junk, .junk, .junk, .junk, .junk, x13, x14, x15, .junk, .junk, .junk, .junk, .junk, .junk, .junk, .junk, .junk, .junk, .junk, .junk, .junk, .junk, .junk, .junk, .junk, .junk, .junk, .junk, .junk, .junk, .junk, .junk, .junk, .junk, .junk, .junk, .junk, .junk, .junk, .junk, .junk, .junk], h⟩
def se2_0_1_5_7_29 (x0 x1 x5 x7 x29 : PV) (h : PHeap) : St := ⟨[x0, x1, .junk, .junk, .junk, x5, .junk, x7, .junk, .junk, .junk, .junk, .junk, .junk, .junk, .junk, .junk, .junk, .junk, .junk, .junk, .junk, .junk, .junk, .junk, .junk, .junk, .junk, .junk, x29, .junk, .junk, .junk, .junk, .junk, .junk, .junk, .junk, .junk, .junk, .junk, .junk, .junk, .junk, .junk, .junk, .junk, .junk, .junk, .junk], h⟩
noncomputable def K0 (E : Env) (K : PX → St → Res) : PX → St → Res := (kBlock 0 (kSeq (ev (E.cx Tryd.prog kl) (codeAt (bodyOf Tryd.f61) [1, 1, 1])) K))
@[simp] theorem K0_ret (E : Env) (K : PX → St → Res) (s : St) : K0 E K .ret s = K .ret s := by kernel_rfl
noncomputable def K1 (E : Env) (K : PX → St → Res) : PX → St → Res := (kBlock 2 (kSeq (ev (E.cx Tryd.prog kl) (codeAt (bodyOf Tryd.f61) [1, 1, 1, 1])) K))
@[simp] theorem K1_ret (E : Env) (K : PX → St → Res) (s : St) : K1 E K .ret s = K .ret s := by kernel_rfl
noncomputable def body0 (E : Env) (K : PX → St → Res) (x0 x1 x5 x13 x14 : PV) (h : PHeap) : Res :=
    (E.p.bin .lss 3 x14 x13).bind fun v27 =>
    condP v27
     (
      (E.p.bin .shl 3 (.int .i64 1) x14).bind fun v28 =>
      (E.p.ptr x5).bind fun v29 =>
      (E.p.fieldAddr 77 v29 0).bind fun v30 =>
      (E.C fn_impl_withNear [x0, x1, v28] h).bind fun v31 =>
      (E.p.indexAddr 75 v30 x14).bind fun v32 =>
      (E.p.store 3 v32 v31.1 v31.2).bind fun v33 =>
      (E.p.bin .add 3 x14 (.int .i64 1)).bind fun v34 =>
      K .normal (st0 x0 x1 x5 x13 v34 v33))
     (
      K (.exit 0) (se0_0_1_5_13_14_15 x0 x1 x5 x13 x14 v27 h))
theorem body0_eq (E : Env) (K : PX → St → Res) (x0 x1 x5 x13 x14 : PV) (h : PHeap) : ev (E.cx Tryd.prog kl) lp0 (st0 x0 x1 x5 x13 x14 h) K = body0 E K x0 x1 x5 x13 x14 h := by kernel_rfl
noncomputable def body1 (E : Env) (K : PX → St → Res) (x0 x1 x5 x7 : PV) (h : PHeap) : Res :=
    (E.p.bin .leq 3 x7 (.int .i64 2)).bind fun v35 =>
    condP v35
     (
      (E.p.ptr x5).bind fun v36 =>
      (E.p.fieldAddr 77 v36 1).bind fun v37 =>
      (E.p.ptr x5).bind fun v38 =>
      (E.p.fieldAddr 77 v38 2).bind fun v39 =>
      (E.C fn_impl_sidesOf [x0, x1, x7] h).bind fun v40 =>
      (E.p.extract v40.1 0).bind fun v41 =>
      (E.p.extract v40.1 1).bind fun v42 =>
      (E.p.indexAddr 56 v37 x7).bind fun v43 =>
      (E.p.store 3 v43 v41 v40.2).bind fun v44 =>
      (E.p.indexAddr 56 v39 x7).bind fun v45 =>
      (E.p.store 3 v45 v42 v44).bind fun v46 =>
      (E.p.bin .add 3 x7 (.int .i64 1)).bind fun v47 =>
      K .normal (st1 x0 x1 x5 v47 v46))
     (
      K (.exit 2) (se2_0_1_5_7_29 x0 x1 x5 x7 v35 h))
theorem body1_eq (E : Env) (K : PX → St → Res) (x0 x1 x5 x7 : PV) (h : PHeap) : ev (E.cx Tryd.prog kl) lp1 (st1 x0 x1 x5 x7 h) K = body1 E K x0 x1 x5 x7 h := by kernel_rfl
theorem after0_se0_0_1_5_13_14_15 (E : Env) (x0 x1 x5 x13 x14 x15 : PV) (h : PHeap) : K0 E (kTop Tryd.prog Tryd.f61) (.exit 0) (se0_0_1_5_13_14_15 x0 x1 x5 x13 x14 x15 h) =
    loopK (ev (E.cx Tryd.prog impl_newSearch.kl) impl_newSearch.lp1) E.lf (impl_newSearch.st1 x0 x1 x5 (.int .i64 1) h) (impl_newSearch.K1 E (kTop Tryd.prog Tryd.f61)) := by kernel_rfl
theorem after1_se2_0_1_5_7_29 (E : Env) (x0 x1 x5 x7 x29 : PV) (h : PHeap) : K1 E (kTop Tryd.prog Tryd.f61) (.exit 2) (se2_0_1_5_7_29 x0 x1 x5 x7 x29 h) =
    (resV x5).bind fun v26 =>
    some (v26, h) := by kernel_rfl
noncomputable def main (E : Env) (x0 x1 : PV) (h : PHeap) : Res :=
    (E.p.makeMap none h).bind fun v1 =>
    (E.p.build 77 [(3, v1.1)]).bind fun v2 =>
    (E.p.box v2 v1.2).bind fun v3 =>
    (E.p.bin .mul 3 x0 x1).bind fun v4 =>
    loopK (ev (E.cx Tryd.prog impl_newSearch.kl) impl_newSearch.lp0) E.lf (impl_newSearch.st0 x0 x1 v3.1 v4 (.int .i64 0) v3.2) (impl_newSearch.K0 E (kTop Tryd.prog Tryd.f61))
theorem main_eq (E : Env) (x0 x1 : PV) (h : PHeap) : runBody (E.cx Tryd.prog kl) Tryd.f61 [x0, x1] h = main E x0 x1 h := by kernel_rfl
theorem call_eq (g : Nat → PV) (lf n : Nat) (x0 x1 : PV) (h : PHeap) : CL g lf (n + 1) fn_impl_newSearch [x0, x1] h = main (env g lf n) x0 x1 h := by
  rw [← main_eq]
  show (match Tryd.prog.funcs[61]? with | some fn => if fn.body.isSome then runBody ⟨Tryd.prog, g, call Tryd.prog g KL lf n, KL 61, lf, std Tryd.prog⟩ fn [x0, x1] h else none | none => none) = _
  rw [Tryd.func61]
  kernel_rfl
end impl_newSearch
namespace impl_search_winner
noncomputable def main (E : Env) (x0 x1 : PV) (h : PHeap) : Res :=
    (E.p.box x1 h).bind fun v1 =>
    (E.p.ptr x0).bind fun v2 =>
    (E.p.fieldAddr 77 v2 3).bind fun v3 =>
    (E.p.load 74 v3 v1.2).bind fun v4 =>
    (E.p.load 58 v1.1 v1.2).bind fun v5 =>
    (E.p.lookup 74 v4 v5 true v1.2).bind fun v6 =>
    (E.p.extract v6 0).bind fun v7 =>
    (E.p.extract v6 1).bind fun v8 =>
    (E.p.un .not v8).bind fun v9 =>
    condP v9
     (
      (E.p.load 58 v1.1 v1.2).bind fun v10 =>
      (E.C fn_impl_search_solved [x0, v10] v1.2).bind fun v11 =>
      (E.p.ptr x0).bind fun v12 =>
      (E.p.fieldAddr 77 v12 3).bind fun v13 =>
      (E.p.load 74 v13 v11.2).bind fun v14 =>
      (E.p.load 58 v1.1 v11.2).bind fun v15 =>
      (E.p.update 74 v14 v15 v11.1 v11.2).bind fun v16 =>
      (resV v11.1).bind fun v17 =>
      some (v17, v16))
     (
      (resV v7).bind fun v18 =>
      some (v18, v1.2))
theorem main_eq (E : Env) (x0 x1 : PV) (h : PHeap) : runBody (E.cx Tryd.prog kl) Tryd.f62 [x0, x1] h = main E x0 x1 h := by kernel_rfl
theorem call_eq (g : Nat → PV) (lf n : Nat) (x0 x1 : PV) (h : PHeap) : CL g lf (n + 1) fn_impl_search_winner [x0, x1] h = main (env g lf n) x0 x1 h := by
  rw [← main_eq]
  show (match Tryd.prog.funcs[62]? with | some fn => if fn.body.isSome then runBody ⟨Tryd.prog, g, call Tryd.prog g KL lf n, KL 62, lf, std Tryd.prog⟩ fn [x0, x1] h else none | none => none) = _
  rw [Tryd.func62]
  kernel_rfl
end impl_search_winner
namespace impl_standingOf
noncomputable def lp0 : Code := (codeAt (bodyOf Tryd.f63) [1, 1, 0, 1, 0, 0])
def st0 (x0 x4 x5 x9 : PV) (h : PHeap) : St := ⟨[x0, .junk, .junk, .junk, x4, x5, .junk, .junk, .junk, x9, .junk, .junk, .junk, .junk, .junk, .junk, .junk, .junk, .junk, .junk], h⟩
def se0_0_4_5_9_10 (x0 x4 x5 x9 x10 : PV) (h : PHeap) : St := ⟨[x0, .junk, .junk, .junk, x4, x5, .junk, .junk, .junk, x9, x10, .junk, .junk, .junk, .junk, .junk, .junk, .junk, .junk, .junk], h⟩
noncomputable def K0 (E : Env) (K : PX → St → Res) : PX → St → Res := (kBlock 0 (kSeq (ev (E.cx Tryd.prog kl) (codeAt (bodyOf Tryd.f63) [1, 1, 1])) K))
@[simp] theorem K0_ret (E : Env) (K : PX → St → Res) (s : St) : K0 E K .ret s = K .ret s := by kernel_rfl
noncomputable def body0 (E : Env) (K : PX → St → Res) (x0 x4 x5 x9 : PV) (h : PHeap) : Res :=
    (E.p.bin .lss 3 x9 (.int .i64 3)).bind fun v14 =>
    condP v14
     (
      (E.C fn_impl_setOf [x0, x9] h).bind fun v15 =>
      (E.p.fieldAddr 58 x5 0).bind fun v16 =>
      (E.p.indexAddr 56 v16 x9).bind fun v17 =>
      (E.p.store 3 v17 v15.1 v15.2).bind fun v18 =>
      (E.p.bin .add 3 x9 (.int .i64 1)).bind fun v19 =>
      K .normal (st0 x0 x4 x5 v19 v18))
     (
      K (.exit 0) (se0_0_4_5_9_10 x0 x4 x5 x9 v14 h))
theorem body0_eq (E : Env) (K : PX → St → Res) (x0 x4 x5 x9 : PV) (h : PHeap) : ev (E.cx Tryd.prog kl) lp0 (st0 x0 x4 x5 x9 h) K = body0 E K x0 x4 x5 x9 h := by kernel_rfl
theorem after0_se0_0_4_5_9_10 (E : Env) (x0 x4 x5 x9 x10 : PV) (h : PHeap) : K0 E (kTop Tryd.prog Tryd.f63) (.exit 0) (se0_0_4_5_9_10 x0 x4 x5 x9 x10 h) =
    (E.p.load 58 x5 h).bind fun v11 =>
    (E.p.store 58 x4 v11 h).bind fun v12 =>
    (loadP Tryd.prog 58 x4 v12).bind fun v13 =>
    some (v13, v12) := by kernel_rfl
noncomputable def main (E : Env) (x0 x1 : PV) (h : PHeap) : Res :=
    (E.p.alloc 58 h).bind fun v1 =>
    (E.p.build 58 [(1, x1)]).bind fun v2 =>
    (E.p.alloc 58 v1.2).bind fun v3 =>
    (E.p.store 58 v3.1 v2 v3.2).bind fun v4 =>
    loopK (ev (E.cx Tryd.prog impl_standingOf.kl) impl_standingOf.lp0) E.lf (impl_standingOf.st0 x0 v1.1 v3.1 (.int .i64 0) v4) (impl_standingOf.K0 E (kTop Tryd.prog Tryd.f63))
theorem main_eq (E : Env) (x0 x1 : PV) (h : PHeap) : runBody (E.cx Tryd.prog kl) Tryd.f63 [x0, x1] h = main E x0 x1 h := by kernel_rfl
theorem call_eq (g : Nat → PV) (lf n : Nat) (x0 x1 : PV) (h : PHeap) : CL g lf (n + 1) fn_impl_standingOf [x0, x1] h = main (env g lf n) x0 x1 h := by
  rw [← main_eq]
  show (match Tryd.prog.funcs[63]? with | some fn => if fn.body.isSome then runBody ⟨Tryd.prog, g, call Tryd.prog g KL lf n, KL 63, lf, std Tryd.prog⟩ fn [x0, x1] h else none | none => none) = _
  rw [Tryd.func63]
  kernel_rfl
end impl_standingOf
namespace impl_cellsIn
noncomputable def lp0 : Code := (codeAt (bodyOf Tryd.f64) [1, 1, 0, 1, 0, 0])
def st0 (x0 x3 x5 : PV) (h : PHeap) : St := ⟨[x0, .junk, .junk, x3, .junk, x5, .junk, .junk, .junk, .junk, .junk, .junk, .junk, .junk, .junk, .junk, .junk, .junk, .junk], h⟩
def se0_0_3_5_6 (x0 x3 x5 x6 : PV) (h : PHeap) : St := ⟨[x0, .junk, .junk, x3, .junk, x5, x6, .junk, .junk, .junk, .junk, .junk, .junk, .junk, .junk, .junk, .junk, .junk, .junk], h⟩
noncomputable def K0 (E : Env) (K : PX → St → Res) : PX → St → Res := (kBlock 0 (kSeq (ev (E.cx Tryd.prog kl) (codeAt (bodyOf Tryd.f64) [1, 1, 1])) K))
@[simp] theorem K0_ret (E : Env) (K : PX → St → Res) (s : St) : K0 E K .ret s = K .ret s := by kernel_rfl
noncomputable def body0 (E : Env) (K : PX → St → Res) (x0 x3 x5 : PV) (h : PHeap) : Res :=
    (E.p.bin .lss 3 x5 (.int .i64 9)).bind fun v10 =>
    condP v10
     (
      (E.p.bin .shr 3 x0 x5).bind fun v11 =>
      (E.p.bin .and 3 v11 (.int .i64 1)).bind fun v12 =>
      (E.p.bin .eql 3 v12 (.int .i64 1)).bind fun v13 =>
      condP v13
       (
        (E.p.buildSlice 23 1 [(0, x5)] h).bind fun v14 =>
        (E.p.append 23 23 x3 v14.1 v14.2).bind fun v15 =>
        (E.p.bin .add 3 x5 (.int .i64 1)).bind fun v16 =>
        K .normal (st0 x0 v15.1 v16 v15.2))
       (
        (E.p.bin .add 3 x5 (.int .i64 1)).bind fun v17 =>
        K .normal (st0 x0 x3 v17 h)))
     (
      K (.exit 0) (se0_0_3_5_6 x0 x3 x5 v10 h))
theorem body0_eq (E : Env) (K : PX → St → Res) (x0 x3 x5 : PV) (h : PHeap) : ev (E.cx Tryd.prog kl) lp0 (st0 x0 x3 x5 h) K = body0 E K x0 x3 x5 h := by kernel_rfl
theorem after0_se0_0_3_5_6 (E : Env) (x0 x3 x5 x6 : PV) (h : PHeap) : K0 E (kTop Tryd.prog Tryd.f64) (.exit 0) (se0_0_3_5_6 x0 x3 x5 x6 h) =
    (resV x3).bind fun v9 =>
    some (v9, h) := by kernel_rfl
noncomputable def main (E : Env) (x0 : PV) (h : PHeap) : Res :=
    loopK (ev (E.cx Tryd.prog impl_cellsIn.kl) impl_cellsIn.lp0) E.lf (impl_cellsIn.st0 x0 .nilsl (.int .i64 0) h) (impl_cellsIn.K0 E (kTop Tryd.prog Tryd.f64))
theorem main_eq (E : Env) (x0 : PV) (h : PHeap) : runBody (E.cx Tryd.prog kl) Tryd.f64 [x0] h = main E x0 h := by kernel_rfl
theorem call_eq (g : Nat → PV) (lf n : Nat) (x0 : PV) (h : PHeap) : CL g lf (n + 1) fn_impl_cellsIn [x0] h = main (env g lf n) x0 h := by
  rw [← main_eq]
  show (match Tryd.prog.funcs[64]? with | some fn => if fn.body.isSome then runBody ⟨Tryd.prog, g, call Tryd.prog g KL lf n, KL 64, lf, std Tryd.prog⟩ fn [x0] h else none | none => none) = _
  rw [Tryd.func64]
  kernel_rfl
end impl_cellsIn
namespace impl_search_winning
noncomputable def lp0 : Code := (codeAt (bodyOf Tryd.f65) [1, 1, 1, 0, 1, 0, 0])
def st0 (x0 x3 x5 x6 : PV) (h : PHeap) : St := ⟨[x0, .junk, .junk, x3, .junk, x5, x6, .junk, .junk, .junk, .junk, .junk, .junk, .junk, .junk, .junk, .junk, .junk, .junk, .junk, .junk, .junk, .junk, .junk, .junk, .junk, .junk, .junk, .junk, .junk, .junk, .junk, .junk, .junk, .junk, .junk], h⟩
def se0_0_3_5_6_16 (x0 x3 x5 x6 x16 : PV) (h : PHeap) : St := ⟨[x0, .junk, .junk, x3, .junk, x5, x6, .junk, .junk, .junk, .junk, .junk, .junk, .junk, .junk, .junk, x16, .junk, .junk, .junk, .junk, .junk, .junk, .junk, .junk, .junk, .junk, .junk, .junk, .junk, .junk, .junk, .junk, .junk, .junk, .junk], h⟩
noncomputable def K0 (E : Env) (K : PX → St → Res) : PX → St → Res := (kBlock 0 (kSeq (ev (E.cx Tryd.prog kl) (codeAt (bodyOf Tryd.f65) [1, 1, 1, 1])) K))
@[simp] theorem K0_ret (E : Env) (K : PX → St → Res) (s : St) : K0 E K .ret s = K .ret s := by kernel_rfl
noncomputable def body0 (E : Env) (K : PX → St → Res) (x0 x3 x5 x6 : PV) (h : PHeap) : Res :=
    (E.p.bin .neq 3 x6 (.int .i64 0)).bind fun v28 =>
    condP v28
     (
      (E.C fn_impl_leastIn [x6] h).bind fun v29 =>
      (E.p.load 58 x3 v29.2).bind fun v30 =>
      (E.p.fieldAddr 58 x3 1).bind fun v31 =>
      (E.p.load 3 v31 v29.2).bind fun v32 =>
      (E.C fn_impl_standing_after [v30, v29.1] v29.2).bind fun v33 =>
      (E.p.load 3 v31 v33.2).bind fun v34 =>
      ckP (plainEq v32 v34) (
      (E.p.load 58 x3 v33.2).bind fun v35 =>
      ckP (plainEq v30 v35) (
      (E.C fn_impl_search_winner [x0, v33.1] v33.2).bind fun v36 =>
      (E.p.load 3 v31 v36.2).bind fun v37 =>
      ckP (plainEq v32 v37) (
      (E.p.load 58 x3 v36.2).bind fun v38 =>
      ckP (plainEq v30 v38) (
      (E.p.bin .eql 3 v36.1 v32).bind fun v39 =>
      condP v39
       (
        (E.p.bin .shl 3 (.int .i64 1) v29.1).bind fun v40 =>
        (E.p.bin .or 3 x5 v40).bind fun v41 =>
        (E.p.bin .sub 3 x6 (.int .i64 1)).bind fun v42 =>
        (E.p.bin .and 3 x6 v42).bind fun v43 =>
        K .normal (st0 x0 x3 v41 v43 v36.2))
       (
        (E.p.bin .sub 3 x6 (.int .i64 1)).bind fun v44 =>
        (E.p.bin .and 3 x6 v44).bind fun v45 =>
        K .normal (st0 x0 x3 x5 v45 v36.2)))))))
     (
      K (.exit 0) (se0_0_3_5_6_16 x0 x3 x5 x6 v28 h))
theorem body0_eq (E : Env) (K : PX → St → Res) (x0 x3 x5 x6 : PV) (h : PHeap) : ev (E.cx Tryd.prog kl) lp0 (st0 x0 x3 x5 x6 h) K = body0 E K x0 x3 x5 x6 h := by kernel_rfl
theorem after0_se0_0_3_5_6_16 (E : Env) (x0 x3 x5 x6 x16 : PV) (h : PHeap) : K0 E (kTop Tryd.prog Tryd.f65) (.exit 0) (se0_0_3_5_6_16 x0 x3 x5 x6 x16 h) =
    (resV x5).bind fun v27 =>
    some (v27, h) := by kernel_rfl
noncomputable def main (E : Env) (x0 x1 : PV) (h : PHeap) : Res :=
    (E.p.box x1 h).bind fun v1 =>
    (E.p.load 58 v1.1 v1.2).bind fun v2 =>
    (E.C fn_impl_search_joined [x0, v2] v1.2).bind fun v3 =>
    (E.p.bin .neq 3 v3.1 (.int .i64 0)).bind fun v4 =>
    condP v4
     (
      (resV (.int .i64 0)).bind fun v5 =>
      some (v5, v3.2))
     (
      (E.p.fieldAddr 58 v1.1 0).bind fun v6 =>
      (E.p.indexAddr 56 v6 (.int .i64 0)).bind fun v7 =>
      (E.p.load 3 v7 v3.2).bind fun v8 =>
      loopK (ev (E.cx Tryd.prog impl_search_winning.kl) impl_search_winning.lp0) E.lf (impl_search_winning.st0 x0 v1.1 (.int .i64 0) v8 v3.2) (impl_search_winning.K0 E (kTop Tryd.prog Tryd.f65)))
theorem main_eq (E : Env) (x0 x1 : PV) (h : PHeap) : runBody (E.cx Tryd.prog kl) Tryd.f65 [x0, x1] h = main E x0 x1 h := by kernel_rfl
theorem call_eq (g : Nat → PV) (lf n : Nat) (x0 x1 : PV) (h : PHeap) : CL g lf (n + 1) fn_impl_search_winning [x0, x1] h = main (env g lf n) x0 x1 h := by
  rw [← main_eq]
  show (match Tryd.prog.funcs[65]? with | some fn => if fn.body.isSome then runBody ⟨Tryd.prog, g, call Tryd.prog g KL lf n, KL 65, lf, std Tryd.prog⟩ fn [x0, x1] h else none | none => none) = _
  rw [Tryd.func65]
  kernel_rfl
end impl_search_winning
namespace spec_l20Few
noncomputable def lp0 : Code := (codeAt (bodyOf Tryd.f66) [1, 1, 1, 0, 1, 0, 0])
def st0 (x0 x1 x8 x9 x10 x11 x12 x13 : PV) (h : PHeap) : St := ⟨[x0, x1, .junk, .junk, .junk, .junk, .junk, .junk, x8, x9, x10, x11, x12, x13, .junk, .junk, .junk, .junk, .junk, .junk, .junk, .junk, .junk, .junk, .junk, .junk, .junk, .junk, .junk, .junk, .junk, .junk, .junk, .junk, .junk, .junk, .junk, .junk, .junk, .junk, .junk, .junk, .junk, .junk, .junk, .junk, .junk], h⟩
def se0_0_1_8_9_10_11_12_13_24 (x0 x1 x8 x9 x10 x11 x12 x13 x24 : PV) (h : PHeap) : St := ⟨[x0, x1, .junk, .junk, .junk, .junk, .junk, .junk, x8, x9, x10, x11, x12, x13, .junk, .junk, .junk, .junk, .junk, .junk, .junk, .junk, .junk, .junk, x24, .junk, .junk, .junk, .junk, .junk, .junk, .junk, .junk, .junk, .junk, .junk, .junk, .junk, .junk, .junk, .junk, .junk, .junk, .junk, .junk, .junk, .junk], h⟩
noncomputable def K0 (E : Env) (K : PX → St → Res) : PX → St → Res := (kBlock 0 (kSeq (ev (E.cx Tryd.prog kl) (codeAt (bodyOf Tryd.f66) [1, 1, 1, 1])) K))
@[simp] theorem K0_ret (E : Env) (K : PX → St → Res) (s : St) : K0 E K .ret s = K .ret s := by kernel_rfl
noncomputable def body0 (E : Env) (K : PX → St → Res) (x0 x1 x8 x9 x10 x11 x12 x13 : PV) (h : PHeap) : Res :=
    (E.p.len 23 x10).bind fun v24 =>
    (E.p.bin .lss 3 x13 v24).bind fun v25 =>
    condP v25
     (
      (E.p.indexAddr 23 x10 x13).bind fun v26 =>
      (E.p.load 3 v26 h).bind fun v27 =>
      (E.p.bin .eql 3 v27 (.int .i64 0)).bind fun v28 =>
      condP v28
       (
        (E.p.bin .add 3 x12 (.int .i64 1)).bind fun v29 =>
        (E.p.bin .gtr 3 v29 x1).bind fun v30 =>
        condP v30
         (
          (E.C fn_spec_l20Rd_pick [x0, (.int .i64 2)] h).bind fun v31 =>
          (E.p.bin .add 3 (.int .i64 1) v31.1).bind fun v32 =>
          (E.p.indexAddr 23 x10 x13).bind fun v33 =>
          (E.p.store 3 v33 v32 v31.2).bind fun v34 =>
          (E.p.bin .add 3 x13 (.int .i64 1)).bind fun v35 =>
          K .normal (st0 x0 x1 x8 x9 x10 x11 v29 v35 v34))
         (
          (E.p.bin .add 3 x13 (.int .i64 1)).bind fun v36 =>
          K .normal (st0 x0 x1 x8 x9 x10 x11 v29 v36 h)))
       (
        (E.p.bin .add 3 x13 (.int .i64 1)).bind fun v37 =>
        K .normal (st0 x0 x1 x8 x9 x10 x11 x12 v37 h)))
     (
      K (.exit 0) (se0_0_1_8_9_10_11_12_13_24 x0 x1 x8 x9 x10 x11 x12 x13 v25 h))
theorem body0_eq (E : Env) (K : PX → St → Res) (x0 x1 x8 x9 x10 x11 x12 x13 : PV) (h : PHeap) : ev (E.cx Tryd.prog kl) lp0 (st0 x0 x1 x8 x9 x10 x11 x12 x13 h) K = body0 E K x0 x1 x8 x9 x10 x11 x12 x13 h := by kernel_rfl
theorem after0_se0_0_1_8_9_10_11_12_13_24 (E : Env) (x0 x1 x8 x9 x10 x11 x12 x13 x24 : PV) (h : PHeap) : K0 E (kTop Tryd.prog Tryd.f66) (.exit 0) (se0_0_1_8_9_10_11_12_13_24 x0 x1 x8 x9 x10 x11 x12 x13 x24 h) =
    (resV x8).bind fun v20 =>
    (resV x9).bind fun v21 =>
    (resV x10).bind fun v22 =>
    (resV x11).bind fun v23 =>
    some (.tup [v20, v21, v22, v23], h) := by kernel_rfl
noncomputable def main (E : Env) (x0 x1 : PV) (h : PHeap) : Res :=
    (E.C fn_spec_l20Sided [x0, (.int .i64 14)] h).bind fun v1 =>
    (E.p.extract v1.1 0).bind fun v2 =>
    (E.p.extract v1.1 1).bind fun v3 =>
    (E.p.extract v1.1 2).bind fun v4 =>
    (E.p.extract v1.1 3).bind fun v5 =>
    loopK (ev (E.cx Tryd.prog spec_l20Few.kl) spec_l20Few.lp0) E.lf (spec_l20Few.st0 x0 x1 v2 v3 v4 v5 (.int .i64 0) (.int .i64 0) v1.2) (spec_l20Few.K0 E (kTop Tryd.prog Tryd.f66))
theorem main_eq (E : Env) (x0 x1 : PV) (h : PHeap) : runBody (E.cx Tryd.prog kl) Tryd.f66 [x0, x1] h = main E x0 x1 h := by kernel_rfl
theorem call_eq (g : Nat → PV) (lf n : Nat) (x0 x1 : PV) (h : PHeap) : CL g lf (n + 1) fn_spec_l20Few [x0, x1] h = main (env g lf n) x0 x1 h := by
  rw [← main_eq]
  show (match Tryd.prog.funcs[66]? with | some fn => if fn.body.isSome then runBody ⟨Tryd.prog, g, call Tryd.prog g KL lf n, KL 66, lf, std Tryd.prog⟩ fn [x0, x1] h else none | none => none) = _
  rw [Tryd.func66]
  kernel_rfl
end spec_l20Few
namespace impl_leastSet
noncomputable def lp0 : Code := (codeAt (bodyOf Tryd.f67) [1, 1, 1, 1, 0, 1, 0, 0])
def st0 (x3 x11 x12 x34 x35 x36 : PV) (h : PHeap) : St := ⟨[.junk, .junk, .junk, x3, .junk, .junk, .junk, .junk, .junk, .junk, .junk, x11, x12, .junk, .junk, .junk, .junk, .junk, .junk, .junk, .junk, .junk, .junk, .junk, .junk, .junk, .junk, .junk, .junk, .junk, .junk, .junk, .junk, .junk, x34, x35, x36, .junk, .junk, .junk, .junk, .junk, .junk, .junk, .junk, .junk, .junk], h⟩
def sr_10 (x10 : PV) (h : PHeap) : St := ⟨[.junk, .junk, .junk, .junk, .junk, .junk, .junk, .junk, .junk, .junk, x10, .junk, .junk, .junk, .junk, .junk, .junk, .junk, .junk, .junk, .junk, .junk, .junk, .junk, .junk, .junk, .junk, .junk, .junk, .junk, .junk, .junk, .junk, .junk, .junk, .junk, .junk, .junk, .junk, .junk, .junk, .junk, .junk, .junk, .junk, .junk, .junk], h⟩
def se0_3_11_12_34_35_36_37 (x3 x11 x12 x34 x35 x36 x37 : PV) (h : PHeap) : St := ⟨[.junk, .junk, .junk, x3, .junk, .junk, .junk, .junk, .junk, .junk, .junk, x11, x12, .junk, .junk, .junk, .junk, .junk, .junk, .junk, .junk, .junk, .junk, .junk, .junk, .junk, .junk, .junk, .junk, .junk, .junk, .junk, .junk, .junk, x34, x35, x36, x37, .junk, .junk, .junk, .junk, .junk, .junk, .junk, .junk, .junk], h⟩
noncomputable def K0 (E : Env) (K : PX → St → Res) : PX → St → Res := (kBlock 0 (kSeq (ev (E.cx Tryd.prog kl) (codeAt (bodyOf Tryd.f67) [1, 1, 1, 1, 1])) K))
@[simp] theorem K0_ret (E : Env) (K : PX → St → Res) (s : St) : K0 E K .ret s = K .ret s := by kernel_rfl
noncomputable def body0 (E : Env) (K : PX → St → Res) (x3 x11 x12 x34 x35 x36 : PV) (h : PHeap) : Res :=
    (E.p.bin .lss 3 x36 x35).bind fun v27 =>
    condP v27
     (
      (E.p.indexAddr 23 x34 x36).bind fun v28 =>
      (E.p.load 3 v28 h).bind fun v29 =>
      (E.p.load 58 x12 h).bind fun v30 =>
      (E.C fn_impl_search_winsWith [x11, v30, x3, v29] h).bind fun v31 =>
      condP v31.1
       (
        K .ret (sr_10 v29 v31.2))
       (
        (E.p.bin .add 3 x36 (.int .i64 1)).bind fun v32 =>
        K .normal (st0 x3 x11 x12 x34 x35 v32 v31.2)))
     (
      K (.exit 0) (se0_3_11_12_34_35_36_37 x3 x11 x12 x34 x35 x36 v27 h))
theorem body0_eq (E : Env) (K : PX → St → Res) (x3 x11 x12 x34 x35 x36 : PV) (h : PHeap) : ev (E.cx Tryd.prog kl) lp0 (st0 x3 x11 x12 x34 x35 x36 h) K = body0 E K x3 x11 x12 x34 x35 x36 h := by kernel_rfl
theorem after0_se0_3_11_12_34_35_36_37 (E : Env) (x3 x11 x12 x34 x35 x36 x37 : PV) (h : PHeap) : K0 E (kTop Tryd.prog Tryd.f67) (.exit 0) (se0_3_11_12_34_35_36_37 x3 x11 x12 x34 x35 x36 x37 h) =
    (resV (.int .i64 (-1))).bind fun v26 =>
    some (v26, h) := by kernel_rfl
theorem top_sr_10 (x10 : PV) (h : PHeap) : kTop Tryd.prog Tryd.f67 .ret (sr_10 x10 h) =
    (resV x10).bind fun v33 =>
    some (v33, h) := by kernel_rfl
noncomputable def main (E : Env) (x0 x1 x2 x3 x4 : PV) (h : PHeap) : Res :=
    (E.C fn_impl_PositionOk [x0, x1, x2] h).bind fun v1 =>
    (E.p.un .not v1.1).bind fun v2 =>
    (wantV v2 false).bind fun v3 =>
    (bif v3 then some (x3, v1.2) else some (.tup [], v1.2)).bind fun v4 =>
    (wantV v2 false).bind fun v5 =>
    (bif v5 then E.C fn_impl_playerOk [v4.1] v4.2 else some (.tup [], v4.2)).bind fun v6 =>
    (wantV v2 false).bind fun v7 =>
    (bif v7 then pv v6.2 (E.p.un .not v6.1) else some (.tup [], v6.2)).bind fun v8 =>
    (E.p.pick v2 (.bool true) v8.1).bind fun v9 =>
    condP v9
     (
      (resV (.int .i64 (-1))).bind fun v10 =>
      some (v10, v8.2))
     (
      (E.C fn_impl_newSearch [x0, x1] v8.2).bind fun v11 =>
      (E.C fn_impl_standingOf [x2, x4] v11.2).bind fun v12 =>
      (E.p.alloc 58 v12.2).bind fun v13 =>
      (E.p.store 58 v13.1 v12.1 v13.2).bind fun v14 =>
      (E.p.fieldAddr 58 v13.1 0).bind fun v15 =>
      (E.p.indexAddr 56 v15 (.int .i64 0)).bind fun v16 =>
      (E.p.load 3 v16 v14).bind fun v17 =>
      (E.C fn_impl_partsBySize [v17] v14).bind fun v18 =>
      (E.p.len 23 v18.1).bind fun v19 =>
      loopK (ev (E.cx Tryd.prog impl_leastSet.kl) impl_leastSet.lp0) E.lf (impl_leastSet.st0 x3 v11.1 v13.1 v18.1 v19 (.int .i64 0) v18.2) (impl_leastSet.K0 E (kTop Tryd.prog Tryd.f67)))
theorem main_eq (E : Env) (x0 x1 x2 x3 x4 : PV) (h : PHeap) : runBody (E.cx Tryd.prog kl) Tryd.f67 [x0, x1, x2, x3, x4] h = main E x0 x1 x2 x3 x4 h := by kernel_rfl
theorem call_eq (g : Nat → PV) (lf n : Nat) (x0 x1 x2 x3 x4 : PV) (h : PHeap) : CL g lf (n + 1) fn_impl_leastSet [x0, x1, x2, x3, x4] h = main (env g lf n) x0 x1 x2 x3 x4 h := by
  rw [← main_eq]
  show (match Tryd.prog.funcs[67]? with | some fn => if fn.body.isSome then runBody ⟨Tryd.prog, g, call Tryd.prog g KL lf n, KL 67, lf, std Tryd.prog⟩ fn [x0, x1, x2, x3, x4] h else none | none => none) = _
  rw [Tryd.func67]
  kernel_rfl
end impl_leastSet
namespace spec_l2List
noncomputable def lp0 : Code := (codeAt (bodyOf Tryd.f68) [1, 1, 0, 1, 0, 0])
def st0 (x0 x3 x4 : PV) (h : PHeap) : St := ⟨[x0, .junk, .junk, x3, x4, .junk, .junk, .junk, .junk, .junk, .junk, .junk, .junk, .junk, .junk, .junk, .junk, .junk, .junk, .junk, .junk, .junk], h⟩
def se0_0_3_4_9 (x0 x3 x4 x9 : PV) (h : PHeap) : St := ⟨[x0, .junk, .junk, x3, x4, .junk, .junk, .junk, .junk, x9, .junk, .junk, .junk, .junk, .junk, .junk, .junk, .junk, .junk, .junk, .junk, .junk], h⟩
noncomputable def K0 (E : Env) (K : PX → St → Res) : PX → St → Res := (kBlock 0 (kSeq (ev (E.cx Tryd.prog kl) (codeAt (bodyOf Tryd.f68) [1, 1, 1])) K))
@[simp] theorem K0_ret (E : Env) (K : PX → St → Res) (s : St) : K0 E K .ret s = K .ret s := by kernel_rfl
noncomputable def body0 (E : Env) (K : PX → St → Res) (x0 x3 x4 : PV) (h : PHeap) : Res :=
    (E.p.bin .shr 3 x0 x4).bind fun v12 =>
    (E.p.bin .gtr 3 v12 (.int .i64 0)).bind fun v13 =>
    condP v13
     (
      (E.p.bin .shr 3 x0 x4).bind fun v14 =>
      (E.p.bin .rem 3 v14 (.int .i64 2)).bind fun v15 =>
      (E.p.bin .eql 3 v15 (.int .i64 1)).bind fun v16 =>
      condP v16
       (
        (E.p.buildSlice 23 1 [(0, x4)] h).bind fun v17 =>
        (E.p.append 23 23 x3 v17.1 v17.2).bind fun v18 =>
        (E.p.bin .add 3 x4 (.int .i64 1)).bind fun v19 =>
        K .normal (st0 x0 v18.1 v19 v18.2))
       (
        (E.p.bin .add 3 x4 (.int .i64 1)).bind fun v20 =>
        K .normal (st0 x0 x3 v20 h)))
     (
      K (.exit 0) (se0_0_3_4_9 x0 x3 x4 v13 h))
theorem body0_eq (E : Env) (K : PX → St → Res) (x0 x3 x4 : PV) (h : PHeap) : ev (E.cx Tryd.prog kl) lp0 (st0 x0 x3 x4 h) K = body0 E K x0 x3 x4 h := by kernel_rfl
theorem after0_se0_0_3_4_9 (E : Env) (x0 x3 x4 x9 : PV) (h : PHeap) : K0 E (kTop Tryd.prog Tryd.f68) (.exit 0) (se0_0_3_4_9 x0 x3 x4 x9 h) =
    (resV x3).bind fun v11 =>
    some (v11, h) := by kernel_rfl
noncomputable def main (E : Env) (x0 : PV) (h : PHeap) : Res :=
    (E.p.buildSlice 23 0 [] h).bind fun v1 =>
    loopK (ev (E.cx Tryd.prog spec_l2List.kl) spec_l2List.lp0) E.lf (spec_l2List.st0 x0 v1.1 (.int .i64 0) v1.2) (spec_l2List.K0 E (kTop Tryd.prog Tryd.f68))
theorem main_eq (E : Env) (x0 : PV) (h : PHeap) : runBody (E.cx Tryd.prog kl) Tryd.f68 [x0] h = main E x0 h := by kernel_rfl
theorem call_eq (g : Nat → PV) (lf n : Nat) (x0 : PV) (h : PHeap) : CL g lf (n + 1) fn_spec_l2List [x0] h = main (env g lf n) x0 h := by
  rw [← main_eq]
  show (match Tryd.prog.funcs[68]? with | some fn => if fn.body.isSome then runBody ⟨Tryd.prog, g, call Tryd.prog g KL lf n, KL 68, lf, std Tryd.prog⟩ fn [x0] h else none | none => none) = _
  rw [Tryd.func68]
  kernel_rfl
end spec_l2List
namespace spec_l2Set
noncomputable def lp0 : Code := (codeAt (bodyOf Tryd.f69) [1, 1, 0, 1, 0, 0])
def st0 (x0 x1 x5 x6 : PV) (h : PHeap) : St := ⟨[x0, x1, .junk, .junk, .junk, x5, x6, .junk, .junk, .junk, .junk, .junk, .junk, .junk, .junk, .junk, .junk, .junk, .junk, .junk, .junk, .junk, .junk, .junk], h⟩
def se0_0_1_5_6_10 (x0 x1 x5 x6 x10 : PV) (h : PHeap) : St := ⟨[x0, x1, .junk, .junk, .junk, x5, x6, .junk, .junk, .junk, x10, .junk, .junk, .junk, .junk, .junk, .junk, .junk, .junk, .junk, .junk, .junk, .junk, .junk], h⟩
noncomputable def K0 (E : Env) (K : PX → St → Res) : PX → St → Res := (kBlock 0 (kSeq (ev (E.cx Tryd.prog kl) (codeAt (bodyOf Tryd.f69) [1, 1, 1])) K))
@[simp] theorem K0_ret (E : Env) (K : PX → St → Res) (s : St) : K0 E K .ret s = K .ret s := by kernel_rfl
noncomputable def body0 (E : Env) (K : PX → St → Res) (x0 x1 x5 x6 : PV) (h : PHeap) : Res :=
    (E.p.len 23 x0).bind fun v11 =>
    (E.p.bin .lss 3 x6 v11).bind fun v12 =>
    condP v12
     (
      (E.p.indexAddr 23 x0 x6).bind fun v13 =>
      (E.p.load 3 v13 h).bind fun v14 =>
      (E.p.bin .eql 3 v14 x1).bind fun v15 =>
      condP v15
       (
        (E.p.bin .shl 3 (.int .i64 1) x6).bind fun v16 =>
        (E.p.bin .or 3 x5 v16).bind fun v17 =>
        (E.p.bin .add 3 x6 (.int .i64 1)).bind fun v18 =>
        K .normal (st0 x0 x1 v17 v18 h))
       (
        (E.p.bin .add 3 x6 (.int .i64 1)).bind fun v19 =>
        K .normal (st0 x0 x1 x5 v19 h)))
     (
      K (.exit 0) (se0_0_1_5_6_10 x0 x1 x5 x6 v12 h))
theorem body0_eq (E : Env) (K : PX → St → Res) (x0 x1 x5 x6 : PV) (h : PHeap) : ev (E.cx Tryd.prog kl) lp0 (st0 x0 x1 x5 x6 h) K = body0 E K x0 x1 x5 x6 h := by kernel_rfl
theorem after0_se0_0_1_5_6_10 (E : Env) (x0 x1 x5 x6 x10 : PV) (h : PHeap) : K0 E (kTop Tryd.prog Tryd.f69) (.exit 0) (se0_0_1_5_6_10 x0 x1 x5 x6 x10 h) =
    (resV x5).bind fun v10 =>
    some (v10, h) := by kernel_rfl
noncomputable def main (E : Env) (x0 x1 : PV) (h : PHeap) : Res :=
    loopK (ev (E.cx Tryd.prog spec_l2Set.kl) spec_l2Set.lp0) E.lf (spec_l2Set.st0 x0 x1 (.int .i64 0) (.int .i64 0) h) (spec_l2Set.K0 E (kTop Tryd.prog Tryd.f69))
theorem main_eq (E : Env) (x0 x1 : PV) (h : PHeap) : runBody (E.cx Tryd.prog kl) Tryd.f69 [x0, x1] h = main E x0 x1 h := by kernel_rfl
theorem call_eq (g : Nat → PV) (lf n : Nat) (x0 x1 : PV) (h : PHeap) : CL g lf (n + 1) fn_spec_l2Set [x0, x1] h = main (env g lf n) x0 x1 h := by
  rw [← main_eq]
  show (match Tryd.prog.funcs[69]? with | some fn => if fn.body.isSome then runBody ⟨Tryd.prog, g, call Tryd.prog g KL lf n, KL 69, lf, std Tryd.prog⟩ fn [x0, x1] h else none | none => none) = _
  rw [Tryd.func69]
  kernel_rfl
end spec_l2Set
namespace spec_l5Fill
noncomputable def lp0 : Code := (codeAt (bodyOf Tryd.f70) [1, 1, 0, 1, 0, 0])
def st0 (x0 x1 x5 x6 : PV) (h : PHeap) : St := ⟨[x0, x1, .junk, .junk, .junk, x5, x6, .junk, .junk, .junk, .junk, .junk, .junk, .junk, .junk, .junk, .junk, .junk, .junk, .junk, .junk, .junk, .junk, .junk, .junk], h⟩
def se0_0_1_5_6_10 (x0 x1 x5 x6 x10 : PV) (h : PHeap) : St := ⟨[x0, x1, .junk, .junk, .junk, x5, x6, .junk, .junk, .junk, x10, .junk, .junk, .junk, .junk, .junk, .junk, .junk, .junk, .junk, .junk, .junk, .junk, .junk, .junk], h⟩
noncomputable def K0 (E : Env) (K : PX → St → Res) : PX → St → Res := (kBlock 0 (kSeq (ev (E.cx Tryd.prog kl) (codeAt (bodyOf Tryd.f70) [1, 1, 1])) K))
@[simp] theorem K0_ret (E : Env) (K : PX → St → Res) (s : St) : K0 E K .ret s = K .ret s := by kernel_rfl
noncomputable def body0 (E : Env) (K : PX → St → Res) (x0 x1 x5 x6 : PV) (h : PHeap) : Res :=
    (E.p.len 23 x0).bind fun v11 =>
    (E.p.bin .lss 3 x6 v11).bind fun v12 =>
    condP v12
     (
      (E.p.bin .shr 3 x1 x6).bind fun v13 =>
      (E.p.bin .rem 3 v13 (.int .i64 2)).bind fun v14 =>
      (E.p.indexAddr 23 x0 x6).bind fun v15 =>
      (E.p.load 3 v15 h).bind fun v16 =>
      (E.p.bin .shl 3 v14 v16).bind fun v17 =>
      (E.p.bin .or 3 x5 v17).bind fun v18 =>
      (E.p.bin .add 3 x6 (.int .i64 1)).bind fun v19 =>
      K .normal (st0 x0 x1 v18 v19 h))
     (
      K (.exit 0) (se0_0_1_5_6_10 x0 x1 x5 x6 v12 h))
theorem body0_eq (E : Env) (K : PX → St → Res) (x0 x1 x5 x6 : PV) (h : PHeap) : ev (E.cx Tryd.prog kl) lp0 (st0 x0 x1 x5 x6 h) K = body0 E K x0 x1 x5 x6 h := by kernel_rfl
theorem after0_se0_0_1_5_6_10 (E : Env) (x0 x1 x5 x6 x10 : PV) (h : PHeap) : K0 E (kTop Tryd.prog Tryd.f70) (.exit 0) (se0_0_1_5_6_10 x0 x1 x5 x6 x10 h) =
    (resV x5).bind fun v10 =>
    some (v10, h) := by kernel_rfl
noncomputable def main (E : Env) (x0 x1 : PV) (h : PHeap) : Res :=
    loopK (ev (E.cx Tryd.prog spec_l5Fill.kl) spec_l5Fill.lp0) E.lf (spec_l5Fill.st0 x0 x1 (.int .i64 0) (.int .i64 0) h) (spec_l5Fill.K0 E (kTop Tryd.prog Tryd.f70))
theorem main_eq (E : Env) (x0 x1 : PV) (h : PHeap) : runBody (E.cx Tryd.prog kl) Tryd.f70 [x0, x1] h = main E x0 x1 h := by kernel_rfl
theorem call_eq (g : Nat → PV) (lf n : Nat) (x0 x1 : PV) (h : PHeap) : CL g lf (n + 1) fn_spec_l5Fill [x0, x1] h = main (env g lf n) x0 x1 h := by
  rw [← main_eq]
  show (match Tryd.prog.funcs[70]? with | some fn => if fn.body.isSome then runBody ⟨Tryd.prog, g, call Tryd.prog g KL lf n, KL 70, lf, std Tryd.prog⟩ fn [x0, x1] h else none | none => none) = _
  rw [Tryd.func70]
  kernel_rfl
end spec_l5Fill
namespace spec_l6Size
noncomputable def main (E : Env) (x0 : PV) (h : PHeap) : Res :=
    (E.C fn_spec_l2List [x0] h).bind fun v1 =>
    (E.p.len 23 v1.1).bind fun v2 =>
    (resV v2).bind fun v3 =>
    some (v3, v1.2)
theorem main_eq (E : Env) (x0 : PV) (h : PHeap) : runBody (E.cx Tryd.prog kl) Tryd.f71 [x0] h = main E x0 h := by kernel_rfl
theorem call_eq (g : Nat → PV) (lf n : Nat) (x0 : PV) (h : PHeap) : CL g lf (n + 1) fn_spec_l6Size [x0] h = main (env g lf n) x0 h := by
  rw [← main_eq]
  show (match Tryd.prog.funcs[71]? with | some fn => if fn.body.isSome then runBody ⟨Tryd.prog, g, call Tryd.prog g KL lf n, KL 71, lf, std Tryd.prog⟩ fn [x0] h else none | none => none) = _
  rw [Tryd.func71]
  kernel_rfl
end spec_l6Size
namespace spec_DrawNearCells
noncomputable def main (E : Env) (x0 : PV) (h : PHeap) : Res :=
    (E.C fn_spec_l20Open [x0] h).bind fun v1 =>
    (E.C fn_spec_l20Board [v1.1, (.int .i64 14)] v1.2).bind fun v2 =>
    (E.p.extract v2.1 0).bind fun v3 =>
    (E.p.extract v2.1 1).bind fun v4 =>
    (E.p.bin .mul 3 v3 v4).bind fun v5 =>
    (E.p.max v5 [(.int .i64 1)]).bind fun v6 =>
    (E.C fn_spec_l20Rd_pick [v1.1, v6] v2.2).bind fun v7 =>
    (E.C fn_spec_l20Rd_pick [v1.1, (.int .i64 40)] v7.2).bind fun v8 =>
    (E.p.bin .quo 3 v8.1 (.int .i64 39)).bind fun v9 =>
    (E.p.bin .mul 3 v9 (.int .i64 9)).bind fun v10 =>
    (E.p.bin .add 3 v7.1 v10).bind fun v11 =>
    (E.C fn_spec_l20Rd_pick [v1.1, (.int .i64 40)] v8.2).bind fun v12 =>
    (E.p.bin .quo 3 v12.1 (.int .i64 39)).bind fun v13 =>
    (E.p.bin .mul 3 v13 (.int .i64 20)).bind fun v14 =>
    (E.p.bin .sub 3 v11 v14).bind fun v15 =>
    (resV v3).bind fun v16 =>
    (resV v4).bind fun v17 =>
    (resV v15).bind fun v18 =>
    some (.tup [v16, v17, v18], v12.2)
theorem main_eq (E : Env) (x0 : PV) (h : PHeap) : runBody (E.cx Tryd.prog kl) Tryd.f72 [x0] h = main E x0 h := by kernel_rfl
theorem call_eq (g : Nat → PV) (lf n : Nat) (x0 : PV) (h : PHeap) : CL g lf (n + 1) fn_spec_DrawNearCells [x0] h = main (env g lf n) x0 h := by
  rw [← main_eq]
  show (match Tryd.prog.funcs[72]? with | some fn => if fn.body.isSome then runBody ⟨Tryd.prog, g, call Tryd.prog g KL lf n, KL 72, lf, std Tryd.prog⟩ fn [x0] h else none | none => none) = _
  rw [Tryd.func72]
  kernel_rfl
end spec_DrawNearCells
namespace impl_cellOk
noncomputable def main (E : Env) (x0 x1 x2 : PV) (h : PHeap) : Res :=
    (E.C fn_impl_BoardOk [x0, x1] h).bind fun v1 =>
    (wantV v1.1 true).bind fun v2 =>
    (bif v2 then some (x2, v1.2) else some (.tup [], v1.2)).bind fun v3 =>
    (wantV v1.1 true).bind fun v4 =>
    (bif v4 then pv v3.2 (E.p.bin .geq 3 v3.1 (.int .i64 0)) else some (.tup [], v3.2)).bind fun v5 =>
    (E.p.pick v1.1 v5.1 (.bool false)).bind fun v6 =>
    (wantV v6 true).bind fun v7 =>
    (bif v7 then some (x2, v5.2) else some (.tup [], v5.2)).bind fun v8 =>
    (wantV v6 true).bind fun v9 =>
    (bif v9 then some (x0, v8.2) else some (.tup [], v8.2)).bind fun v10 =>
    (wantV v6 true).bind fun v11 =>
    (bif v11 then some (x1, v10.2) else some (.tup [], v10.2)).bind fun v12 =>
    (wantV v6 true).bind fun v13 =>
    (bif v13 then pv v12.2 (E.p.bin .mul 3 v10.1 v12.1) else some (.tup [], v12.2)).bind fun v14 =>
    (wantV v6 true).bind fun v15 =>
    (bif v15 then pv v14.2 (E.p.bin .lss 3 v8.1 v14.1) else some (.tup [], v14.2)).bind fun v16 =>
    (E.p.pick v6 v16.1 (.bool false)).bind fun v17 =>
    (resV v17).bind fun v18 =>
    some (v18, v16.2)
theorem main_eq (E : Env) (x0 x1 x2 : PV) (h : PHeap) : runBody (E.cx Tryd.prog kl) Tryd.f73 [x0, x1, x2] h = main E x0 x1 x2 h := by kernel_rfl
theorem call_eq (g : Nat → PV) (lf n : Nat) (x0 x1 x2 : PV) (h : PHeap) : CL g lf (n + 1) fn_impl_cellOk [x0, x1, x2] h = main (env g lf n) x0 x1 x2 h := by
  rw [← main_eq]
  show (match Tryd.prog.funcs[73]? with | some fn => if fn.body.isSome then runBody ⟨Tryd.prog, g, call Tryd.prog g KL lf n, KL 73, lf, std Tryd.prog⟩ fn [x0, x1, x2] h else none | none => none) = _
  rw [Tryd.func73]
  kernel_rfl
end impl_cellOk
namespace impl_withNear
noncomputable def lp0 : Code := (codeAt (bodyOf Tryd.f74) [1, 1, 0, 1, 0, 0])
def st0 (x0 x1 x2 x7 x14 x15 : PV) (h : PHeap) : St := ⟨[x0, x1, x2, .junk, .junk, .junk, .junk, x7, .junk, .junk, .junk, .junk, .junk, .junk, x14, x15, .junk, .junk, .junk, .junk, .junk, .junk, .junk, .junk, .junk, .junk, .junk, .junk, .junk, .junk, .junk, .junk, .junk, .junk, .junk, .junk, .junk, .junk, .junk], h⟩
noncomputable def lp1 : Code := (codeAt (bodyOf Tryd.f74) [1, 1, 0, 1, 0, 0, 1, 1, 0, 0, 1, 1, 1, 0, 0])
def st1 (x0 x1 x2 x7 x14 x15 x26 x27 x28 : PV) (h : PHeap) : St := ⟨[x0, x1, x2, .junk, .junk, .junk, .junk, x7, .junk, .junk, .junk, .junk, .junk, .junk, x14, x15, .junk, .junk, .junk, .junk, .junk, .junk, .junk, .junk, .junk, .junk, x26, x27, x28, .junk, .junk, .junk, .junk, .junk, .junk, .junk, .junk, .junk, .junk], h⟩
def se0_0_1_2_7_14_15_16 (x0 x1 x2 x7 x14 x15 x16 : PV) (h : PHeap) : St := ⟨[x0, x1, x2, .junk, .junk, .junk, .junk, x7, .junk, .junk, .junk, .junk, .junk, .junk, x14, x15, x16, .junk, .junk, .junk, .junk, .junk, .junk, .junk, .junk, .junk, .junk, .junk, .junk, .junk, .junk, .junk, .junk, .junk, .junk, .junk, .junk, .junk, .junk], h⟩
def se2_0_1_2_7_14_15_26_27_28_29 (x0 x1 x2 x7 x14 x15 x26 x27 x28 x29 : PV) (h : PHeap) : St := ⟨[x0, x1, x2, .junk, .junk, .junk, .junk, x7, .junk, .junk, .junk, .junk, .junk, .junk, x14, x15, .junk, .junk, .junk, .junk, .junk, .junk, .junk, .junk, .junk, .junk, x26, x27, x28, x29, .junk, .junk, .junk, .junk, .junk, .junk, .junk, .junk, .junk], h⟩
noncomputable def K0 (E : Env) (K : PX → St → Res) : PX → St → Res := (kBlock 0 (kSeq (ev (E.cx Tryd.prog kl) (codeAt (bodyOf Tryd.f74) [1, 1, 1])) K))
@[simp] theorem K0_ret (E : Env) (K : PX → St → Res) (s : St) : K0 E K .ret s = K .ret s := by kernel_rfl
noncomputable def K1 (E : Env) (K : PX → St → Res) : PX → St → Res := (kBlock 2 (kBlock 1 (kSeq (ev (E.cx Tryd.prog kl) (codeAt (bodyOf Tryd.f74) [1, 1, 0, 1, 0, 0, 1, 1, 1])) K)))
@[simp] theorem K1_ret (E : Env) (K : PX → St → Res) (s : St) : K1 E K .ret s = K .ret s := by kernel_rfl
noncomputable def body0 (E : Env) (K : PX → St → Res) (x0 x1 x2 x7 x14 x15 : PV) (h : PHeap) : Res :=
    (E.p.bin .lss 3 x15 x14).bind fun v17 =>
    condP v17
     (
      (E.p.bin .shr 3 x2 x15).bind fun v18 =>
      (E.p.bin .and 3 v18 (.int .i64 1)).bind fun v19 =>
      (E.p.bin .eql 3 v19 (.int .i64 0)).bind fun v20 =>
      condP v20
       (
        (E.p.bin .add 3 x15 (.int .i64 1)).bind fun v21 =>
        K .normal (st0 x0 x1 x2 x7 x14 v21 h))
       (
        (E.C fn_impl_NearCells [x0, x1, x15] h).bind fun v22 =>
        (E.p.len 23 v22.1).bind fun v23 =>
        loopK (ev (E.cx Tryd.prog impl_withNear.kl) impl_withNear.lp1) E.lf (impl_withNear.st1 x0 x1 x2 x7 x14 x15 v22.1 v23 (.int .i64 0) v22.2) (impl_withNear.K1 E K)))
     (
      K (.exit 0) (se0_0_1_2_7_14_15_16 x0 x1 x2 x7 x14 x15 v17 h))
theorem body0_eq (E : Env) (K : PX → St → Res) (x0 x1 x2 x7 x14 x15 : PV) (h : PHeap) : ev (E.cx Tryd.prog kl) lp0 (st0 x0 x1 x2 x7 x14 x15 h) K = body0 E K x0 x1 x2 x7 x14 x15 h := by kernel_rfl
noncomputable def body1 (E : Env) (K : PX → St → Res) (x0 x1 x2 x7 x14 x15 x26 x27 x28 : PV) (h : PHeap) : Res :=
    (E.p.bin .lss 3 x28 x27).bind fun v24 =>
    condP v24
     (
      (E.p.indexAddr 23 x26 x28).bind fun v25 =>
      (E.p.load 3 v25 h).bind fun v26 =>
      (E.p.bin .shl 3 (.int .i64 1) v26).bind fun v27 =>
      (E.p.bin .or 3 x7 v27).bind fun v28 =>
      (E.p.bin .add 3 x28 (.int .i64 1)).bind fun v29 =>
      K .normal (st1 x0 x1 x2 v28 x14 x15 x26 x27 v29 h))
     (
      K (.exit 2) (se2_0_1_2_7_14_15_26_27_28_29 x0 x1 x2 x7 x14 x15 x26 x27 x28 v24 h))
theorem body1_eq (E : Env) (K : PX → St → Res) (x0 x1 x2 x7 x14 x15 x26 x27 x28 : PV) (h : PHeap) : ev (E.cx Tryd.prog kl) lp1 (st1 x0 x1 x2 x7 x14 x15 x26 x27 x28 h) K = body1 E K x0 x1 x2 x7 x14 x15 x26 x27 x28 h := by kernel_rfl
theorem after0_se0_0_1_2_7_14_15_16 (E : Env) (x0 x1 x2 x7 x14 x15 x16 : PV) (h : PHeap) : K0 E (kTop Tryd.prog Tryd.f74) (.exit 0) (se0_0_1_2_7_14_15_16 x0 x1 x2 x7 x14 x15 x16 h) =
    (resV x7).bind fun v15 =>
    some (v15, h) := by kernel_rfl
theorem after1_se2_0_1_2_7_14_15_26_27_28_29 (E : Env) (K : PX → St → Res) (x0 x1 x2 x7 x14 x15 x26 x27 x28 x29 : PV) (h : PHeap) : K1 E K (.exit 2) (se2_0_1_2_7_14_15_26_27_28_29 x0 x1 x2 x7 x14 x15 x26 x27 x28 x29 h) =
    (E.p.bin .add 3 x15 (.int .i64 1)).bind fun v16 =>
    K .normal (st0 x0 x1 x2 x7 x14 v16 h) := by kernel_rfl
noncomputable def main (E : Env) (x0 x1 x2 : PV) (h : PHeap) : Res :=
    (E.p.bin .mul 3 x0 x1).bind fun v1 =>
    loopK (ev (E.cx Tryd.prog impl_withNear.kl) impl_withNear.lp0) E.lf (impl_withNear.st0 x0 x1 x2 x2 v1 (.int .i64 0) h) (impl_withNear.K0 E (kTop Tryd.prog Tryd.f74))
theorem main_eq (E : Env) (x0 x1 x2 : PV) (h : PHeap) : runBody (E.cx Tryd.prog kl) Tryd.f74 [x0, x1, x2] h = main E x0 x1 x2 h := by kernel_rfl
theorem call_eq (g : Nat → PV) (lf n : Nat) (x0 x1 x2 : PV) (h : PHeap) : CL g lf (n + 1) fn_impl_withNear [x0, x1, x2] h = main (env g lf n) x0 x1 x2 h := by
  rw [← main_eq]
  show (match Tryd.prog.funcs[74]? with | some fn => if fn.body.isSome then runBody ⟨Tryd.prog, g, call Tryd.prog g KL lf n, KL 74, lf, std Tryd.prog⟩ fn [x0, x1, x2] h else none | none => none) = _
  rw [Tryd.func74]
  kernel_rfl
end impl_withNear
namespace impl_countIn
noncomputable def main (E : Env) (x0 : PV) (h : PHeap) : Res :=
    (E.p.conv 3 82 x0).bind fun v1 =>
    (E.C fn_bits_OnesCount [v1] h).bind fun v2 =>
    (resV v2.1).bind fun v3 =>
    some (v3, v2.2)
theorem main_eq (E : Env) (x0 : PV) (h : PHeap) : runBody (E.cx Tryd.prog kl) Tryd.f75 [x0] h = main E x0 h := by kernel_rfl
theorem call_eq (g : Nat → PV) (lf n : Nat) (x0 : PV) (h : PHeap) : CL g lf (n + 1) fn_impl_countIn [x0] h = main (env g lf n) x0 h := by
  rw [← main_eq]
  show (match Tryd.prog.funcs[75]? with | some fn => if fn.body.isSome then runBody ⟨Tryd.prog, g, call Tryd.prog g KL lf n, KL 75, lf, std Tryd.prog⟩ fn [x0] h else none | none => none) = _
  rw [Tryd.func75]
  kernel_rfl
end impl_countIn
namespace spec_l2Masks
noncomputable def lp0 : Code := (codeAt (bodyOf Tryd.f76) [1, 1, 0, 1, 0, 0])
def st0 (x0 x1 x5 x6 : PV) (h : PHeap) : St := ⟨[x0, x1, .junk, .junk, .junk, x5, x6, .junk, .junk, .junk, .junk, .junk, .junk, .junk, .junk, .junk, .junk, .junk, .junk, .junk, .junk, .junk, .junk, .junk, .junk, .junk, .junk, .junk, .junk, .junk, .junk, .junk, .junk, .junk, .junk, .junk, .junk, .junk, .junk, .junk], h⟩
noncomputable def lp1 : Code := (codeAt (bodyOf Tryd.f76) [1, 1, 0, 1, 0, 0, 1, 0, 0, 1, 1, 0, 1, 0, 0])
def st1 (x0 x1 x5 x6 x7 x8 x9 : PV) (h : PHeap) : St := ⟨[x0, x1, .junk, .junk, .junk, x5, x6, x7, x8, x9, .junk, .junk, .junk, .junk, .junk, .junk, .junk, .junk, .junk, .junk, .junk, .junk, .junk, .junk, .junk, .junk, .junk, .junk, .junk, .junk, .junk, .junk, .junk, .junk, .junk, .junk, .junk, .junk, .junk, .junk], h⟩
def se0_0_1_5_6_15 (x0 x1 x5 x6 x15 : PV) (h : PHeap) : St := ⟨[x0, x1, .junk, .junk, .junk, x5, x6, .junk, .junk, .junk, .junk, .junk, .junk, .junk, .junk, x15, .junk, .junk, .junk, .junk, .junk, .junk, .junk, .junk, .junk, .junk, .junk, .junk, .junk, .junk, .junk, .junk, .junk, .junk, .junk, .junk, .junk, .junk, .junk, .junk], h⟩
def se2_0_1_5_6_7_8_9_25 (x0 x1 x5 x6 x7 x8 x9 x25 : PV) (h : PHeap) : St := ⟨[x0, x1, .junk, .junk, .junk, x5, x6, x7, x8, x9, .junk, .junk, .junk, .junk, .junk, .junk, .junk, .junk, .junk, .junk, .junk, .junk, .junk, .junk, .junk, x25, .junk, .junk, .junk, .junk, .junk, .junk, .junk, .junk, .junk, .junk, .junk, .junk, .junk, .junk], h⟩
noncomputable def K0 (E : Env) (K : PX → St → Res) : PX → St → Res := (kBlock 0 (kSeq (ev (E.cx Tryd.prog kl) (codeAt (bodyOf Tryd.f76) [1, 1, 1])) K))
@[simp] theorem K0_ret (E : Env) (K : PX → St → Res) (s : St) : K0 E K .ret s = K .ret s := by kernel_rfl
noncomputable def K1 (E : Env) (K : PX → St → Res) : PX → St → Res := (kBlock 2 (kSeq (ev (E.cx Tryd.prog kl) (codeAt (bodyOf Tryd.f76) [1, 1, 0, 1, 0, 0, 1, 0, 0, 1, 1, 1])) (kBlock 1 (kSeq (ev (E.cx Tryd.prog kl) (codeAt (bodyOf Tryd.f76) [1, 1, 0, 1, 0, 0, 1, 1])) K))))
@[simp] theorem K1_ret (E : Env) (K : PX → St → Res) (s : St) : K1 E K .ret s = K .ret s := by kernel_rfl
noncomputable def body0 (E : Env) (K : PX → St → Res) (x0 x1 x5 x6 : PV) (h : PHeap) : Res :=
    (E.p.bin .mul 3 x0 x1).bind fun v16 =>
    (E.p.bin .lss 3 x6 v16).bind fun v17 =>
    condP v17
     (
      (E.C fn_spec_l1Near [x0, x1, x6] h).bind fun v18 =>
      loopK (ev (E.cx Tryd.prog spec_l2Masks.kl) spec_l2Masks.lp1) E.lf (spec_l2Masks.st1 x0 x1 x5 x6 (.int .i64 0) v18.1 (.int .i64 0) v18.2) (spec_l2Masks.K1 E K))
     (
      K (.exit 0) (se0_0_1_5_6_15 x0 x1 x5 x6 v17 h))
theorem body0_eq (E : Env) (K : PX → St → Res) (x0 x1 x5 x6 : PV) (h : PHeap) : ev (E.cx Tryd.prog kl) lp0 (st0 x0 x1 x5 x6 h) K = body0 E K x0 x1 x5 x6 h := by kernel_rfl
noncomputable def body1 (E : Env) (K : PX → St → Res) (x0 x1 x5 x6 x7 x8 x9 : PV) (h : PHeap) : Res :=
    (E.p.len 23 x8).bind fun v19 =>
    (E.p.bin .lss 3 x9 v19).bind fun v20 =>
    condP v20
     (
      (E.p.indexAddr 23 x8 x9).bind fun v21 =>
      (E.p.load 3 v21 h).bind fun v22 =>
      (E.p.bin .shl 3 (.int .i64 1) v22).bind fun v23 =>
      (E.p.bin .or 3 x7 v23).bind fun v24 =>
      (E.p.bin .add 3 x9 (.int .i64 1)).bind fun v25 =>
      K .normal (st1 x0 x1 x5 x6 v24 x8 v25 h))
     (
      K (.exit 2) (se2_0_1_5_6_7_8_9_25 x0 x1 x5 x6 x7 x8 x9 v20 h))
theorem body1_eq (E : Env) (K : PX → St → Res) (x0 x1 x5 x6 x7 x8 x9 : PV) (h : PHeap) : ev (E.cx Tryd.prog kl) lp1 (st1 x0 x1 x5 x6 x7 x8 x9 h) K = body1 E K x0 x1 x5 x6 x7 x8 x9 h := by kernel_rfl
theorem after0_se0_0_1_5_6_15 (E : Env) (x0 x1 x5 x6 x15 : PV) (h : PHeap) : K0 E (kTop Tryd.prog Tryd.f76) (.exit 0) (se0_0_1_5_6_15 x0 x1 x5 x6 x15 h) =
    (resV x5).bind fun v12 =>
    some (v12, h) := by kernel_rfl
theorem after1_se2_0_1_5_6_7_8_9_25 (E : Env) (K : PX → St → Res) (x0 x1 x5 x6 x7 x8 x9 x25 : PV) (h : PHeap) : K1 E K (.exit 2) (se2_0_1_5_6_7_8_9_25 x0 x1 x5 x6 x7 x8 x9 x25 h) =
    (E.p.buildSlice 23 1 [(0, x7)] h).bind fun v13 =>
    (E.p.append 23 23 x5 v13.1 v13.2).bind fun v14 =>
    (E.p.bin .add 3 x6 (.int .i64 1)).bind fun v15 =>
    K .normal (st0 x0 x1 v14.1 v15 v14.2) := by kernel_rfl
noncomputable def main (E : Env) (x0 x1 : PV) (h : PHeap) : Res :=
    (E.p.buildSlice 23 0 [] h).bind fun v1 =>
    loopK (ev (E.cx Tryd.prog spec_l2Masks.kl) spec_l2Masks.lp0) E.lf (spec_l2Masks.st0 x0 x1 v1.1 (.int .i64 0) v1.2) (spec_l2Masks.K0 E (kTop Tryd.prog Tryd.f76))
theorem main_eq (E : Env) (x0 x1 : PV) (h : PHeap) : runBody (E.cx Tryd.prog kl) Tryd.f76 [x0, x1] h = main E x0 x1 h := by kernel_rfl
theorem call_eq (g : Nat → PV) (lf n : Nat) (x0 x1 : PV) (h : PHeap) : CL g lf (n + 1) fn_spec_l2Masks [x0, x1] h = main (env g lf n) x0 x1 h := by
  rw [← main_eq]
  show (match Tryd.prog.funcs[76]? with | some fn => if fn.body.isSome then runBody ⟨Tryd.prog, g, call Tryd.prog g KL lf n, KL 76, lf, std Tryd.prog⟩ fn [x0, x1] h else none | none => none) = _
  rw [Tryd.func76]
  kernel_rfl
end spec_l2Masks
namespace impl_partsOf
noncomputable def lp0 : Code := (codeAt (bodyOf Tryd.f77) [1, 1, 0, 1, 0, 0])
def st0 (x0 x3 x4 : PV) (h : PHeap) : St := ⟨[x0, .junk, .junk, x3, x4, .junk, .junk, .junk, .junk, .junk, .junk, .junk, .junk, .junk, .junk, .junk, .junk, .junk, .junk, .junk, .junk], h⟩
def se0_0_3_4_8 (x0 x3 x4 x8 : PV) (h : PHeap) : St := ⟨[x0, .junk, .junk, x3, x4, .junk, .junk, .junk, x8, .junk, .junk, .junk, .junk, .junk, .junk, .junk, .junk, .junk, .junk, .junk, .junk], h⟩
noncomputable def K0 (E : Env) (K : PX → St → Res) : PX → St → Res := (kBlock 0 (kSeq (ev (E.cx Tryd.prog kl) (codeAt (bodyOf Tryd.f77) [1, 1, 1])) K))
@[simp] theorem K0_ret (E : Env) (K : PX → St → Res) (s : St) : K0 E K .ret s = K .ret s := by kernel_rfl
noncomputable def body0 (E : Env) (K : PX → St → Res) (x0 x3 x4 : PV) (h : PHeap) : Res :=
    (E.p.bin .neq 3 x4 x0).bind fun v10 =>
    condP v10
     (
      (E.p.un .xor x0).bind fun v11 =>
      (E.p.bin .or 3 x4 v11).bind fun v12 =>
      (E.p.bin .add 3 v12 (.int .i64 1)).bind fun v13 =>
      (E.p.bin .and 3 v13 x0).bind fun v14 =>
      (E.p.buildSlice 23 1 [(0, v14)] h).bind fun v15 =>
      (E.p.append 23 23 x3 v15.1 v15.2).bind fun v16 =>
      K .normal (st0 x0 v16.1 v14 v16.2))
     (
      K (.exit 0) (se0_0_3_4_8 x0 x3 x4 v10 h))
theorem body0_eq (E : Env) (K : PX → St → Res) (x0 x3 x4 : PV) (h : PHeap) : ev (E.cx Tryd.prog kl) lp0 (st0 x0 x3 x4 h) K = body0 E K x0 x3 x4 h := by kernel_rfl
theorem after0_se0_0_3_4_8 (E : Env) (x0 x3 x4 x8 : PV) (h : PHeap) : K0 E (kTop Tryd.prog Tryd.f77) (.exit 0) (se0_0_3_4_8 x0 x3 x4 x8 h) =
    (resV x3).bind fun v9 =>
    some (v9, h) := by kernel_rfl
noncomputable def main (E : Env) (x0 : PV) (h : PHeap) : Res :=
    (E.p.buildSlice 23 1 [(0, (.int .i64 0))] h).bind fun v1 =>
    loopK (ev (E.cx Tryd.prog impl_partsOf.kl) impl_partsOf.lp0) E.lf (impl_partsOf.st0 x0 v1.1 (.int .i64 0) v1.2) (impl_partsOf.K0 E (kTop Tryd.prog Tryd.f77))
theorem main_eq (E : Env) (x0 : PV) (h : PHeap) : runBody (E.cx Tryd.prog kl) Tryd.f77 [x0] h = main E x0 h := by kernel_rfl
theorem call_eq (g : Nat → PV) (lf n : Nat) (x0 : PV) (h : PHeap) : CL g lf (n + 1) fn_impl_partsOf [x0] h = main (env g lf n) x0 h := by
  rw [← main_eq]
  show (match Tryd.prog.funcs[77]? with | some fn => if fn.body.isSome then runBody ⟨Tryd.prog, g, call Tryd.prog g KL lf n, KL 77, lf, std Tryd.prog⟩ fn [x0] h else none | none => none) = _
  rw [Tryd.func77]
  kernel_rfl
end impl_partsOf
namespace impl_search_winsWith
noncomputable def main (E : Env) (x0 x1 x2 x3 : PV) (h : PHeap) : Res :=
    (E.p.box x1 h).bind fun v1 =>
    (E.p.load 58 v1.1 v1.2).bind fun v2 =>
    (E.C fn_impl_exchanged [x2] v1.2).bind fun v3 =>
    (E.p.load 58 v1.1 v3.2).bind fun v4 =>
    ckP (plainEq v2 v4) (
    (E.C fn_impl_standing_filledOutside [v2, x3, v3.1] v3.2).bind fun v5 =>
    (E.p.load 58 v1.1 v5.2).bind fun v6 =>
    ckP (plainEq v2 v6) (
    (E.C fn_impl_search_winner [x0, v5.1] v5.2).bind fun v7 =>
    (E.p.load 58 v1.1 v7.2).bind fun v8 =>
    ckP (plainEq v2 v8) (
    (E.p.bin .eql 3 v7.1 x2).bind fun v9 =>
    (resV v9).bind fun v10 =>
    some (v10, v7.2))))
theorem main_eq (E : Env) (x0 x1 x2 x3 : PV) (h : PHeap) : runBody (E.cx Tryd.prog kl) Tryd.f78 [x0, x1, x2, x3] h = main E x0 x1 x2 x3 h := by kernel_rfl
theorem call_eq (g : Nat → PV) (lf n : Nat) (x0 x1 x2 x3 : PV) (h : PHeap) : CL g lf (n + 1) fn_impl_search_winsWith [x0, x1, x2, x3] h = main (env g lf n) x0 x1 x2 x3 h := by
  rw [← main_eq]
  show (match Tryd.prog.funcs[78]? with | some fn => if fn.body.isSome then runBody ⟨Tryd.prog, g, call Tryd.prog g KL lf n, KL 78, lf, std Tryd.prog⟩ fn [x0, x1, x2, x3] h else none | none => none) = _
  rw [Tryd.func78]
  kernel_rfl
end impl_search_winsWith
namespace impl_sidesOf
noncomputable def lp0 : Code := (codeAt (bodyOf Tryd.f79) [1, 1, 0, 1, 0, 0])
def st0 (x0 x1 x2 x8 x9 x15 x16 : PV) (h : PHeap) : St := ⟨[x0, x1, x2, .junk, .junk, .junk, .junk, .junk, x8, x9, .junk, .junk, .junk, .junk, .junk, x15, x16, .junk, .junk, .junk, .junk, .junk, .junk, .junk, .junk, .junk, .junk, .junk, .junk, .junk, .junk, .junk, .junk, .junk, .junk, .junk, .junk, .junk, .junk, .junk, .junk, .junk, .junk, .junk, .junk, .junk, .junk], h⟩
def se0_0_1_2_8_9_15_16_17 (x0 x1 x2 x8 x9 x15 x16 x17 : PV) (h : PHeap) : St := ⟨[x0, x1, x2, .junk, .junk, .junk, .junk, .junk, x8, x9, .junk, .junk, .junk, .junk, .junk, x15, x16, x17, .junk, .junk, .junk, .junk, .junk, .junk, .junk, .junk, .junk, .junk, .junk, .junk, .junk, .junk, .junk, .junk, .junk, .junk, .junk, .junk, .junk, .junk, .junk, .junk, .junk, .junk, .junk, .junk, .junk], h⟩
noncomputable def K0 (E : Env) (K : PX → St → Res) : PX → St → Res := (kBlock 0 (kSeq (ev (E.cx Tryd.prog kl) (codeAt (bodyOf Tryd.f79) [1, 1, 1])) K))
@[simp] theorem K0_ret (E : Env) (K : PX → St → Res) (s : St) : K0 E K .ret s = K .ret s := by kernel_rfl
noncomputable def body0 (E : Env) (K : PX → St → Res) (x0 x1 x2 x8 x9 x15 x16 : PV) (h : PHeap) : Res :=
    (E.p.bin .lss 3 x16 x15).bind fun v36 =>
    condP v36
     (
      (E.p.bin .quo 3 x16 x1).bind fun v37 =>
      (E.p.bin .sub 3 x0 (.int .i64 1)).bind fun v38 =>
      (E.p.bin .eql 3 x2 (.int .i64 2)).bind fun v39 =>
      condP v39
       (
        (E.p.bin .rem 3 x16 x1).bind fun v40 =>
        (E.p.bin .sub 3 x1 (.int .i64 1)).bind fun v41 =>
        (E.p.bin .eql 3 v40 (.int .i64 0)).bind fun v42 =>
        condP v42
         (
          (E.p.bin .shl 3 (.int .i64 1) x16).bind fun v43 =>
          (E.p.bin .or 3 x8 v43).bind fun v44 =>
          (E.p.bin .eql 3 v40 v41).bind fun v45 =>
          condP v45
           (
            (E.p.bin .shl 3 (.int .i64 1) x16).bind fun v46 =>
            (E.p.bin .or 3 x9 v46).bind fun v47 =>
            (E.p.bin .add 3 x16 (.int .i64 1)).bind fun v48 =>
            K .normal (st0 x0 x1 x2 v44 v47 x15 v48 h))
           (
            (E.p.bin .add 3 x16 (.int .i64 1)).bind fun v49 =>
            K .normal (st0 x0 x1 x2 v44 x9 x15 v49 h)))
         (
          (E.p.bin .eql 3 v40 v41).bind fun v50 =>
          condP v50
           (
            (E.p.bin .shl 3 (.int .i64 1) x16).bind fun v51 =>
            (E.p.bin .or 3 x9 v51).bind fun v52 =>
            (E.p.bin .add 3 x16 (.int .i64 1)).bind fun v53 =>
            K .normal (st0 x0 x1 x2 x8 v52 x15 v53 h))
           (
            (E.p.bin .add 3 x16 (.int .i64 1)).bind fun v54 =>
            K .normal (st0 x0 x1 x2 x8 x9 x15 v54 h))))
       (
        (E.p.bin .eql 3 v37 (.int .i64 0)).bind fun v55 =>
        condP v55
         (
          (E.p.bin .shl 3 (.int .i64 1) x16).bind fun v56 =>
          (E.p.bin .or 3 x8 v56).bind fun v57 =>
          (E.p.bin .eql 3 v37 v38).bind fun v58 =>
          condP v58
           (
            (E.p.bin .shl 3 (.int .i64 1) x16).bind fun v59 =>
            (E.p.bin .or 3 x9 v59).bind fun v60 =>
            (E.p.bin .add 3 x16 (.int .i64 1)).bind fun v61 =>
            K .normal (st0 x0 x1 x2 v57 v60 x15 v61 h))
           (
            (E.p.bin .add 3 x16 (.int .i64 1)).bind fun v62 =>
            K .normal (st0 x0 x1 x2 v57 x9 x15 v62 h)))
         (
          (E.p.bin .eql 3 v37 v38).bind fun v63 =>
          condP v63
           (
            (E.p.bin .shl 3 (.int .i64 1) x16).bind fun v64 =>
            (E.p.bin .or 3 x9 v64).bind fun v65 =>
            (E.p.bin .add 3 x16 (.int .i64 1)).bind fun v66 =>
            K .normal (st0 x0 x1 x2 x8 v65 x15 v66 h))
           (
            (E.p.bin .add 3 x16 (.int .i64 1)).bind fun v67 =>
            K .normal (st0 x0 x1 x2 x8 x9 x15 v67 h)))))
     (
      K (.exit 0) (se0_0_1_2_8_9_15_16_17 x0 x1 x2 x8 x9 x15 x16 v36 h))
theorem body0_eq (E : Env) (K : PX → St → Res) (x0 x1 x2 x8 x9 x15 x16 : PV) (h : PHeap) : ev (E.cx Tryd.prog kl) lp0 (st0 x0 x1 x2 x8 x9 x15 x16 h) K = body0 E K x0 x1 x2 x8 x9 x15 x16 h := by kernel_rfl
theorem after0_se0_0_1_2_8_9_15_16_17 (E : Env) (x0 x1 x2 x8 x9 x15 x16 x17 : PV) (h : PHeap) : K0 E (kTop Tryd.prog Tryd.f79) (.exit 0) (se0_0_1_2_8_9_15_16_17 x0 x1 x2 x8 x9 x15 x16 x17 h) =
    (resV x8).bind fun v34 =>
    (resV x9).bind fun v35 =>
    some (.tup [v34, v35], h) := by kernel_rfl
noncomputable def main (E : Env) (x0 x1 x2 : PV) (h : PHeap) : Res :=
    (E.p.bin .mul 3 x0 x1).bind fun v1 =>
    loopK (ev (E.cx Tryd.prog impl_sidesOf.kl) impl_sidesOf.lp0) E.lf (impl_sidesOf.st0 x0 x1 x2 (.int .i64 0) (.int .i64 0) v1 (.int .i64 0) h) (impl_sidesOf.K0 E (kTop Tryd.prog Tryd.f79))
theorem main_eq (E : Env) (x0 x1 x2 : PV) (h : PHeap) : runBody (E.cx Tryd.prog kl) Tryd.f79 [x0, x1, x2] h = main E x0 x1 x2 h := by kernel_rfl
theorem call_eq (g : Nat → PV) (lf n : Nat) (x0 x1 x2 : PV) (h : PHeap) : CL g lf (n + 1) fn_impl_sidesOf [x0, x1, x2] h = main (env g lf n) x0 x1 x2 h := by
  rw [← main_eq]
  show (match Tryd.prog.funcs[79]? with | some fn => if fn.body.isSome then runBody ⟨Tryd.prog, g, call Tryd.prog g KL lf n, KL 79, lf, std Tryd.prog⟩ fn [x0, x1, x2] h else none | none => none) = _
  rw [Tryd.func79]
  kernel_rfl
end impl_sidesOf
namespace impl_setOf
noncomputable def lp0 : Code := (codeAt (bodyOf Tryd.f80) [1, 1, 0, 1, 0, 0])
def st0 (x1 x5 x8 x9 x10 : PV) (h : PHeap) : St := ⟨[.junk, x1, .junk, .junk, .junk, x5, .junk, .junk, x8, x9, x10, .junk, .junk, .junk, .junk, .junk, .junk, .junk, .junk, .junk, .junk, .junk, .junk, .junk], h⟩
def se0_1_5_8_9_10_11 (x1 x5 x8 x9 x10 x11 : PV) (h : PHeap) : St := ⟨[.junk, x1, .junk, .junk, .junk, x5, .junk, .junk, x8, x9, x10, x11, .junk, .junk, .junk, .junk, .junk, .junk, .junk, .junk, .junk, .junk, .junk, .junk], h⟩
noncomputable def K0 (E : Env) (K : PX → St → Res) : PX → St → Res := (kBlock 0 (kSeq (ev (E.cx Tryd.prog kl) (codeAt (bodyOf Tryd.f80) [1, 1, 1])) K))
@[simp] theorem K0_ret (E : Env) (K : PX → St → Res) (s : St) : K0 E K .ret s = K .ret s := by kernel_rfl
noncomputable def body0 (E : Env) (K : PX → St → Res) (x1 x5 x8 x9 x10 : PV) (h : PHeap) : Res :=
    (E.p.bin .lss 3 x10 x9).bind fun v11 =>
    condP v11
     (
      (E.p.indexAddr 23 x8 x10).bind fun v12 =>
      (E.p.load 3 v12 h).bind fun v13 =>
      (E.p.bin .eql 3 v13 x1).bind fun v14 =>
      condP v14
       (
        (E.p.bin .shl 3 (.int .i64 1) x10).bind fun v15 =>
        (E.p.bin .or 3 x5 v15).bind fun v16 =>
        (E.p.bin .add 3 x10 (.int .i64 1)).bind fun v17 =>
        K .normal (st0 x1 v16 x8 x9 v17 h))
       (
        (E.p.bin .add 3 x10 (.int .i64 1)).bind fun v18 =>
        K .normal (st0 x1 x5 x8 x9 v18 h)))
     (
      K (.exit 0) (se0_1_5_8_9_10_11 x1 x5 x8 x9 x10 v11 h))
theorem body0_eq (E : Env) (K : PX → St → Res) (x1 x5 x8 x9 x10 : PV) (h : PHeap) : ev (E.cx Tryd.prog kl) lp0 (st0 x1 x5 x8 x9 x10 h) K = body0 E K x1 x5 x8 x9 x10 h := by kernel_rfl
theorem after0_se0_1_5_8_9_10_11 (E : Env) (x1 x5 x8 x9 x10 x11 : PV) (h : PHeap) : K0 E (kTop Tryd.prog Tryd.f80) (.exit 0) (se0_1_5_8_9_10_11 x1 x5 x8 x9 x10 x11 h) =
    (resV x5).bind fun v10 =>
    some (v10, h) := by kernel_rfl
noncomputable def main (E : Env) (x0 x1 : PV) (h : PHeap) : Res :=
    (E.p.len 23 x0).bind fun v1 =>
    loopK (ev (E.cx Tryd.prog impl_setOf.kl) impl_setOf.lp0) E.lf (impl_setOf.st0 x1 (.int .i64 0) x0 v1 (.int .i64 0) h) (impl_setOf.K0 E (kTop Tryd.prog Tryd.f80))
theorem main_eq (E : Env) (x0 x1 : PV) (h : PHeap) : runBody (E.cx Tryd.prog kl) Tryd.f80 [x0, x1] h = main E x0 x1 h := by kernel_rfl
theorem call_eq (g : Nat → PV) (lf n : Nat) (x0 x1 : PV) (h : PHeap) : CL g lf (n + 1) fn_impl_setOf [x0, x1] h = main (env g lf n) x0 x1 h := by
  rw [← main_eq]
  show (match Tryd.prog.funcs[80]? with | some fn => if fn.body.isSome then runBody ⟨Tryd.prog, g, call Tryd.prog g KL lf n, KL 80, lf, std Tryd.prog⟩ fn [x0, x1] h else none | none => none) = _
  rw [Tryd.func80]
  kernel_rfl
end impl_setOf
namespace impl_grown
noncomputable def lp0 : Code := (codeAt (bodyOf Tryd.f81) [1, 0, 1, 0, 0])
def st0 (x0 x1 x2 x3 x9 : PV) (h : PHeap) : St := ⟨[x0, x1, x2, x3, .junk, .junk, .junk, .junk, .junk, x9, .junk, .junk, .junk, .junk, .junk, .junk, .junk, .junk, .junk, .junk, .junk, .junk, .junk, .junk, .junk], h⟩
def se0_0_1_2_3_9_12 (x0 x1 x2 x3 x9 x12 : PV) (h : PHeap) : St := ⟨[x0, x1, x2, x3, .junk, .junk, .junk, .junk, .junk, x9, .junk, .junk, x12, .junk, .junk, .junk, .junk, .junk, .junk, .junk, .junk, .junk, .junk, .junk, .junk], h⟩
noncomputable def K0 (E : Env) (K : PX → St → Res) : PX → St → Res := (kBlock 0 (kSeq (ev (E.cx Tryd.prog kl) (codeAt (bodyOf Tryd.f81) [1, 1])) K))
@[simp] theorem K0_ret (E : Env) (K : PX → St → Res) (s : St) : K0 E K .ret s = K .ret s := by kernel_rfl
noncomputable def body0 (E : Env) (K : PX → St → Res) (x0 x1 x2 x3 x9 : PV) (h : PHeap) : Res :=
    (E.p.bin .neq 3 x9 (.int .i64 0)).bind fun v7 =>
    condP v7
     (
      (E.C fn_impl_withNear [x0, x1, x9] h).bind fun v8 =>
      (E.p.bin .and 3 v8.1 x3).bind fun v9 =>
      (E.p.bin .andNot 3 v9 x2).bind fun v10 =>
      (E.p.bin .or 3 x2 v10).bind fun v11 =>
      K .normal (st0 x0 x1 v11 x3 v10 v8.2))
     (
      K (.exit 0) (se0_0_1_2_3_9_12 x0 x1 x2 x3 x9 v7 h))
theorem body0_eq (E : Env) (K : PX → St → Res) (x0 x1 x2 x3 x9 : PV) (h : PHeap) : ev (E.cx Tryd.prog kl) lp0 (st0 x0 x1 x2 x3 x9 h) K = body0 E K x0 x1 x2 x3 x9 h := by kernel_rfl
theorem after0_se0_0_1_2_3_9_12 (E : Env) (x0 x1 x2 x3 x9 x12 : PV) (h : PHeap) : K0 E (kTop Tryd.prog Tryd.f81) (.exit 0) (se0_0_1_2_3_9_12 x0 x1 x2 x3 x9 x12 h) =
    (resV x2).bind fun v6 =>
    some (v6, h) := by kernel_rfl
noncomputable def main (E : Env) (x0 x1 x2 x3 : PV) (h : PHeap) : Res :=
    loopK (ev (E.cx Tryd.prog impl_grown.kl) impl_grown.lp0) E.lf (impl_grown.st0 x0 x1 x2 x3 x2 h) (impl_grown.K0 E (kTop Tryd.prog Tryd.f81))
theorem main_eq (E : Env) (x0 x1 x2 x3 : PV) (h : PHeap) : runBody (E.cx Tryd.prog kl) Tryd.f81 [x0, x1, x2, x3] h = main E x0 x1 x2 x3 h := by kernel_rfl
theorem call_eq (g : Nat → PV) (lf n : Nat) (x0 x1 x2 x3 : PV) (h : PHeap) : CL g lf (n + 1) fn_impl_grown [x0, x1, x2, x3] h = main (env g lf n) x0 x1 x2 x3 h := by
  rw [← main_eq]
  show (match Tryd.prog.funcs[81]? with | some fn => if fn.body.isSome then runBody ⟨Tryd.prog, g, call Tryd.prog g KL lf n, KL 81, lf, std Tryd.prog⟩ fn [x0, x1, x2, x3] h else none | none => none) = _
  rw [Tryd.func81]
  kernel_rfl
end impl_grown
namespace spec_l20Rd_pick
noncomputable def main (E : Env) (x0 x1 : PV) (h : PHeap) : Res :=
    (E.p.ptr x0).bind fun v1 =>
    (E.p.fieldAddr 72 v1 1).bind fun v2 =>
    (E.p.load 3 v2 h).bind fun v3 =>
    (E.p.bin .add 3 v3 (.int .i64 1)).bind fun v4 =>
    (E.p.ptr x0).bind fun v5 =>
    (E.p.fieldAddr 72 v5 1).bind fun v6 =>
    (E.p.store 3 v6 v4 h).bind fun v7 =>
    (E.p.bin .lss 3 x1 (.int .i64 1)).bind fun v8 =>
    (wantV v8 false).bind fun v9 =>
    (bif v9 then some (x0, v7) else some (.tup [], v7)).bind fun v10 =>
    (wantV v8 false).bind fun v11 =>
    (bif v11 then pv v10.2 (E.p.ptr v10.1) else some (.tup [], v10.2)).bind fun v12 =>
    (wantV v8 false).bind fun v13 =>
    (bif v13 then pv v12.2 (E.p.fieldAddr 72 v12.1 0) else some (.tup [], v12.2)).bind fun v14 =>
    (wantV v8 false).bind fun v15 =>
    (bif v15 then pv v14.2 (E.p.load 22 v14.1 v14.2) else some (.tup [], v14.2)).bind fun v16 =>
    (wantV v8 false).bind fun v17 =>
    (bif v17 then pv v16.2 (E.p.len 22 v16.1) else some (.tup [], v16.2)).bind fun v18 =>
    (wantV v8 false).bind fun v19 =>
    (bif v19 then pv v18.2 (E.p.bin .eql 3 v18.1 (.int .i64 0)) else some (.tup [], v18.2)).bind fun v20 =>
    (E.p.pick v8 (.bool true) v20.1).bind fun v21 =>
    condP v21
     (
      (resV (.int .i64 0)).bind fun v22 =>
      some (v22, v20.2))
     (
      (E.p.ptr x0).bind fun v23 =>
      (E.p.fieldAddr 72 v23 1).bind fun v24 =>
      (E.p.load 3 v24 v20.2).bind fun v25 =>
      (E.p.bin .sub 3 v25 (.int .i64 1)).bind fun v26 =>
      (E.p.ptr x0).bind fun v27 =>
      (E.p.fieldAddr 72 v27 0).bind fun v28 =>
      (E.p.load 22 v28 v20.2).bind fun v29 =>
      (E.p.len 22 v29).bind fun v30 =>
      (E.p.bin .lss 3 v26 v30).bind fun v31 =>
      condP v31
       (
        (E.p.ptr x0).bind fun v32 =>
        (E.p.fieldAddr 72 v32 0).bind fun v33 =>
        (E.p.load 22 v33 v20.2).bind fun v34 =>
        (E.p.indexAddr 22 v34 v26).bind fun v35 =>
        (E.p.load 5 v35 v20.2).bind fun v36 =>
        (E.p.conv 5 3 v36).bind fun v37 =>
        (E.p.bin .rem 3 v37 x1).bind fun v38 =>
        (resV v38).bind fun v39 =>
        some (v39, v20.2))
       (
        (E.p.ptr x0).bind fun v40 =>
        (E.p.fieldAddr 72 v40 0).bind fun v41 =>
        (E.p.load 22 v41 v20.2).bind fun v42 =>
        (E.p.ptr x0).bind fun v43 =>
        (E.p.fieldAddr 72 v43 0).bind fun v44 =>
        (E.p.load 22 v44 v20.2).bind fun v45 =>
        (E.p.len 22 v45).bind fun v46 =>
        (E.p.bin .rem 3 v26 v46).bind fun v47 =>
        (E.p.indexAddr 22 v42 v47).bind fun v48 =>
        (E.p.load 5 v48 v20.2).bind fun v49 =>
        (E.p.conv 5 3 v49).bind fun v50 =>
        (E.p.bin .mul 3 v50 (.int .i64 131)).bind fun v51 =>
        (E.p.ptr x0).bind fun v52 =>
        (E.p.fieldAddr 72 v52 0).bind fun v53 =>
        (E.p.load 22 v53 v20.2).bind fun v54 =>
        (E.p.bin .mul 3 v26 (.int .i64 7)).bind fun v55 =>
        (E.p.bin .add 3 v55 (.int .i64 3)).bind fun v56 =>
        (E.p.ptr x0).bind fun v57 =>
        (E.p.fieldAddr 72 v57 0).bind fun v58 =>
        (E.p.load 22 v58 v20.2).bind fun v59 =>
        (E.p.len 22 v59).bind fun v60 =>
        (E.p.bin .rem 3 v56 v60).bind fun v61 =>
        (E.p.indexAddr 22 v54 v61).bind fun v62 =>
        (E.p.load 5 v62 v20.2).bind fun v63 =>
        (E.p.conv 5 3 v63).bind fun v64 =>
        (E.p.bin .mul 3 v64 (.int .i64 1117)).bind fun v65 =>
        (E.p.bin .add 3 v51 v65).bind fun v66 =>
        (E.p.bin .mul 3 v26 (.int .i64 29)).bind fun v67 =>
        (E.p.bin .add 3 v66 v67).bind fun v68 =>
        (E.p.ptr x0).bind fun v69 =>
        (E.p.fieldAddr 72 v69 0).bind fun v70 =>
        (E.p.load 22 v70 v20.2).bind fun v71 =>
        (E.p.len 22 v71).bind fun v72 =>
        (E.p.bin .quo 3 v26 v72).bind fun v73 =>
        (E.p.bin .mul 3 v73 (.int .i64 53)).bind fun v74 =>
        (E.p.bin .add 3 v68 v74).bind fun v75 =>
        (E.p.bin .quo 3 v75 (.int .i64 64)).bind fun v76 =>
        (E.p.bin .xor 3 v75 v76).bind fun v77 =>
        (E.p.bin .rem 3 v77 x1).bind fun v78 =>
        (resV v78).bind fun v79 =>
        some (v79, v20.2)))
theorem main_eq (E : Env) (x0 x1 : PV) (h : PHeap) : runBody (E.cx Tryd.prog kl) Tryd.f82 [x0, x1] h = main E x0 x1 h := by kernel_rfl
theorem call_eq (g : Nat → PV) (lf n : Nat) (x0 x1 : PV) (h : PHeap) : CL g lf (n + 1) fn_spec_l20Rd_pick [x0, x1] h = main (env g lf n) x0 x1 h := by
  rw [← main_eq]
  show (match Tryd.prog.funcs[82]? with | some fn => if fn.body.isSome then runBody ⟨Tryd.prog, g, call Tryd.prog g KL lf n, KL 82, lf, std Tryd.prog⟩ fn [x0, x1] h else none | none => none) = _
  rw [Tryd.func82]
  kernel_rfl
end spec_l20Rd_pick
namespace impl_setOk
noncomputable def main (E : Env) (x0 x1 x2 : PV) (h : PHeap) : Res :=
    (E.p.bin .geq 3 x2 (.int .i64 0)).bind fun v1 =>
    (wantV v1 true).bind fun v2 =>
    (bif v2 then some (x2, h) else some (.tup [], h)).bind fun v3 =>
    (wantV v1 true).bind fun v4 =>
    (bif v4 then some (x0, v3.2) else some (.tup [], v3.2)).bind fun v5 =>
    (wantV v1 true).bind fun v6 =>
    (bif v6 then some (x1, v5.2) else some (.tup [], v5.2)).bind fun v7 =>
    (wantV v1 true).bind fun v8 =>
    (bif v8 then pv v7.2 (E.p.bin .mul 3 v5.1 v7.1) else some (.tup [], v7.2)).bind fun v9 =>
    (wantV v1 true).bind fun v10 =>
    (bif v10 then pv v9.2 (E.p.bin .shl 3 (.int .i64 1) v9.1) else some (.tup [], v9.2)).bind fun v11 =>
    (wantV v1 true).bind fun v12 =>
    (bif v12 then pv v11.2 (E.p.bin .lss 3 v3.1 v11.1) else some (.tup [], v11.2)).bind fun v13 =>
    (E.p.pick v1 v13.1 (.bool false)).bind fun v14 =>
    (resV v14).bind fun v15 =>
    some (v15, v13.2)
theorem main_eq (E : Env) (x0 x1 x2 : PV) (h : PHeap) : runBody (E.cx Tryd.prog kl) Tryd.f83 [x0, x1, x2] h = main E x0 x1 x2 h := by kernel_rfl
theorem call_eq (g : Nat → PV) (lf n : Nat) (x0 x1 x2 : PV) (h : PHeap) : CL g lf (n + 1) fn_impl_setOk [x0, x1, x2] h = main (env g lf n) x0 x1 x2 h := by
  rw [← main_eq]
  show (match Tryd.prog.funcs[83]? with | some fn => if fn.body.isSome then runBody ⟨Tryd.prog, g, call Tryd.prog g KL lf n, KL 83, lf, std Tryd.prog⟩ fn [x0, x1, x2] h else none | none => none) = _
  rw [Tryd.func83]
  kernel_rfl
end impl_setOk
end Go.Proofs.YtmhflbomploidaaDoor.G

