/- Texts of this seat, in their order, put together by program. -/
import Derived.Test.YtkbnngklbfnkiaaDoorK7
import Derived.Test.YtkbnngklbfnkiaaDoorProg
import Derived.KernelRfl
set_option linter.unusedSimpArgs false
set_option linter.unusedVariables false
/- Of each function of this seat's program its plain form over the interpreter, written by program; each equation is the kernel's. -/
set_option linter.unusedVariables false
set_option maxRecDepth 100000
namespace Go.Proofs.YtkbnngklbfnkiaaDoor.G
open Go Go.Ip Go.Proofs

namespace laws_FnMoveOk
noncomputable def main (E : Env) (x0 : PV) (h : PHeap) : Res :=
    (E.p.len 22 x0).bind fun v1 =>
    (E.p.bin .gtr 3 v1 (.int .i64 1048576)).bind fun v2 =>
    condP v2
     (
      (resV (.bool true)).bind fun v3 =>
      some (v3, h))
     (
      (E.C fn_spec_DrawMoveOk [x0] h).bind fun v4 =>
      (E.p.extract v4.1 0).bind fun v5 =>
      (E.p.extract v4.1 1).bind fun v6 =>
      (E.p.extract v4.1 2).bind fun v7 =>
      (E.p.extract v4.1 3).bind fun v8 =>
      (E.p.extract v4.1 4).bind fun v9 =>
      (E.C fn_impl_MoveOk [v5, v6, v7, v8, v9] v4.2).bind fun v10 =>
      (E.C fn_spec_MoveOk [v5, v6, v7, v8, v9] v10.2).bind fun v11 =>
      (E.p.bin .neq 4 v10.1 v11.1).bind fun v12 =>
      condP v12
       (
        (resV (.bool false)).bind fun v13 =>
        some (v13, v11.2))
       (
        (E.p.bin .gtr 3 v9 (.int .i64 2)).bind fun v14 =>
        condP v14
         (
          (E.p.un .not v10.1).bind fun v15 =>
          (wantV v15 true).bind fun v16 =>
          (bif v16 then E.C fn_laws_alive [] v11.2 else some (.tup [], v11.2)).bind fun v17 =>
          (E.p.pick v15 v17.1 (.bool false)).bind fun v18 =>
          (resV v18).bind fun v19 =>
          some (v19, v17.2))
         (
          (E.p.bin .sub 3 (.int .i64 3) v9).bind fun v20 =>
          (E.C fn_impl_MoveOk [v5, v6, v7, v8, v20] v11.2).bind fun v21 =>
          (E.p.bin .eql 4 v21.1 v10.1).bind fun v22 =>
          (wantV v22 true).bind fun v23 =>
          (bif v23 then some (v10.1, v21.2) else some (.tup [], v21.2)).bind fun v24 =>
          (wantV v22 true).bind fun v25 =>
          (bif v25 then pv v24.2 (E.p.un .not v24.1) else some (.tup [], v24.2)).bind fun v26 =>
          (wantV v22 true).bind fun v27 =>
          (bif v27 then some (v26.1, v26.2) else some (.tup [], v26.2)).bind fun v28 =>
          (wantV v28.1 false).bind fun v29 =>
          (bif v29 then some (v5, v28.2) else some (.tup [], v28.2)).bind fun v30 =>
          (wantV v28.1 false).bind fun v31 =>
          (bif v31 then some (v6, v30.2) else some (.tup [], v30.2)).bind fun v32 =>
          (wantV v28.1 false).bind fun v33 =>
          (bif v33 then some (v7, v32.2) else some (.tup [], v32.2)).bind fun v34 =>
          (wantV v28.1 false).bind fun v35 =>
          (bif v35 then some (v9, v34.2) else some (.tup [], v34.2)).bind fun v36 =>
          (wantV v28.1 false).bind fun v37 =>
          (bif v37 then E.C fn_impl_Joins [v30.1, v32.1, v34.1, v36.1] v36.2 else some (.tup [], v36.2)).bind fun v38 =>
          (wantV v28.1 false).bind fun v39 =>
          (bif v39 then pv v38.2 (E.p.un .not v38.1) else some (.tup [], v38.2)).bind fun v40 =>
          (wantV v28.1 false).bind fun v41 =>
          (bif v41 then some (v40.1, v40.2) else some (.tup [], v40.2)).bind fun v42 =>
          (wantV v42.1 true).bind fun v43 =>
          (bif v43 then some (v5, v42.2) else some (.tup [], v42.2)).bind fun v44 =>
          (wantV v42.1 true).bind fun v45 =>
          (bif v45 then some (v6, v44.2) else some (.tup [], v44.2)).bind fun v46 =>
          (wantV v42.1 true).bind fun v47 =>
          (bif v47 then some (v7, v46.2) else some (.tup [], v46.2)).bind fun v48 =>
          (wantV v42.1 true).bind fun v49 =>
          (bif v49 then some (v20, v48.2) else some (.tup [], v48.2)).bind fun v50 =>
          (wantV v42.1 true).bind fun v51 =>
          (bif v51 then E.C fn_impl_Joins [v44.1, v46.1, v48.1, v50.1] v50.2 else some (.tup [], v50.2)).bind fun v52 =>
          (wantV v42.1 true).bind fun v53 =>
          (bif v53 then pv v52.2 (E.p.un .not v52.1) else some (.tup [], v52.2)).bind fun v54 =>
          (wantV v28.1 false).bind fun v55 =>
          (bif v55 then pv v54.2 (E.p.pick v42.1 v54.1 (.bool false)) else some (.tup [], v54.2)).bind fun v56 =>
          (wantV v22 true).bind fun v57 =>
          (bif v57 then pv v56.2 (E.p.pick v28.1 (.bool true) v56.1) else some (.tup [], v56.2)).bind fun v58 =>
          (E.p.pick v22 v58.1 (.bool false)).bind fun v59 =>
          (wantV v59 true).bind fun v60 =>
          (bif v60 then E.C fn_laws_alive [] v58.2 else some (.tup [], v58.2)).bind fun v61 =>
          (E.p.pick v59 v61.1 (.bool false)).bind fun v62 =>
          (resV v62).bind fun v63 =>
          some (v63, v61.2))))
theorem main_eq (E : Env) (x0 : PV) (h : PHeap) : runBody (E.cx Tryd.prog kl) Tryd.f3 [x0] h = main E x0 h := by kernel_rfl
theorem call_eq (g : Nat → PV) (lf n : Nat) (x0 : PV) (h : PHeap) : CL g lf (n + 1) fn_laws_FnMoveOk [x0] h = main (env g lf n) x0 h := by
  rw [← main_eq]
  show (match Tryd.prog.funcs[3]? with | some fn => if fn.body.isSome then runBody ⟨Tryd.prog, g, call Tryd.prog g KL lf n, KL 3, lf, std Tryd.prog⟩ fn [x0] h else none | none => none) = _
  rw [Tryd.func3]
  kernel_rfl
end laws_FnMoveOk
namespace laws_FnPlayed
noncomputable def main (E : Env) (x0 : PV) (h : PHeap) : Res :=
    (E.p.len 22 x0).bind fun v1 =>
    (E.p.bin .gtr 3 v1 (.int .i64 1048576)).bind fun v2 =>
    condP v2
     (
      (resV (.bool true)).bind fun v3 =>
      some (v3, h))
     (
      (E.C fn_spec_DrawPlayed [x0] h).bind fun v4 =>
      (E.p.extract v4.1 0).bind fun v5 =>
      (E.p.extract v4.1 1).bind fun v6 =>
      (E.p.extract v4.1 2).bind fun v7 =>
      (E.p.extract v4.1 3).bind fun v8 =>
      (E.p.extract v4.1 4).bind fun v9 =>
      (E.C fn_impl_Played [v5, v6, v7, v8, v9] v4.2).bind fun v10 =>
      (E.p.extract v10.1 0).bind fun v11 =>
      (E.p.extract v10.1 1).bind fun v12 =>
      (E.C fn_spec_Played [v5, v6, v7, v8, v9] v10.2).bind fun v13 =>
      (E.p.extract v13.1 0).bind fun v14 =>
      (E.p.extract v13.1 1).bind fun v15 =>
      (E.C fn_laws_sameInts [v11, v14] v13.2).bind fun v16 =>
      (E.p.un .not v16.1).bind fun v17 =>
      (wantV v17 false).bind fun v18 =>
      (bif v18 then some (v12, v16.2) else some (.tup [], v16.2)).bind fun v19 =>
      (wantV v17 false).bind fun v20 =>
      (bif v20 then some (v15, v19.2) else some (.tup [], v19.2)).bind fun v21 =>
      (wantV v17 false).bind fun v22 =>
      (bif v22 then pv v21.2 (E.p.bin .neq 4 v19.1 v21.1) else some (.tup [], v21.2)).bind fun v23 =>
      (E.p.pick v17 (.bool true) v23.1).bind fun v24 =>
      condP v24
       (
        (resV (.bool false)).bind fun v25 =>
        some (v25, v23.2))
       (
        (E.p.un .not v12).bind fun v26 =>
        condP v26
         (
          (E.p.len 23 v11).bind fun v27 =>
          (E.p.bin .eql 3 v27 (.int .i64 0)).bind fun v28 =>
          (wantV v28 true).bind fun v29 =>
          (bif v29 then some (v5, v23.2) else some (.tup [], v23.2)).bind fun v30 =>
          (wantV v28 true).bind fun v31 =>
          (bif v31 then some (v6, v30.2) else some (.tup [], v30.2)).bind fun v32 =>
          (wantV v28 true).bind fun v33 =>
          (bif v33 then some (v7, v32.2) else some (.tup [], v32.2)).bind fun v34 =>
          (wantV v28 true).bind fun v35 =>
          (bif v35 then some (v8, v34.2) else some (.tup [], v34.2)).bind fun v36 =>
          (wantV v28 true).bind fun v37 =>
          (bif v37 then some (v9, v36.2) else some (.tup [], v36.2)).bind fun v38 =>
          (wantV v28 true).bind fun v39 =>
          (bif v39 then E.C fn_impl_MoveOk [v30.1, v32.1, v34.1, v36.1, v38.1] v38.2 else some (.tup [], v38.2)).bind fun v40 =>
          (wantV v28 true).bind fun v41 =>
          (bif v41 then pv v40.2 (E.p.un .not v40.1) else some (.tup [], v40.2)).bind fun v42 =>
          (E.p.pick v28 v42.1 (.bool false)).bind fun v43 =>
          (wantV v43 true).bind fun v44 =>
          (bif v44 then E.C fn_laws_alive [] v42.2 else some (.tup [], v42.2)).bind fun v45 =>
          (E.p.pick v43 v45.1 (.bool false)).bind fun v46 =>
          (resV v46).bind fun v47 =>
          some (v47, v45.2))
         (
          (E.C fn_impl_PositionOk [v5, v6, v11] v23.2).bind fun v48 =>
          (wantV v48.1 true).bind fun v49 =>
          (bif v49 then some (v5, v48.2) else some (.tup [], v48.2)).bind fun v50 =>
          (wantV v48.1 true).bind fun v51 =>
          (bif v51 then some (v6, v50.2) else some (.tup [], v50.2)).bind fun v52 =>
          (wantV v48.1 true).bind fun v53 =>
          (bif v53 then some (v11, v52.2) else some (.tup [], v52.2)).bind fun v54 =>
          (wantV v48.1 true).bind fun v55 =>
          (bif v55 then E.C fn_impl_CellsOf [v50.1, v52.1, v54.1, (.int .i64 0)] v54.2 else some (.tup [], v54.2)).bind fun v56 =>
          (wantV v48.1 true).bind fun v57 =>
          (bif v57 then pv v56.2 (E.p.len 23 v56.1) else some (.tup [], v56.2)).bind fun v58 =>
          (wantV v48.1 true).bind fun v59 =>
          (bif v59 then pv v58.2 (E.p.bin .add 3 v58.1 (.int .i64 1)) else some (.tup [], v58.2)).bind fun v60 =>
          (wantV v48.1 true).bind fun v61 =>
          (bif v61 then some (v5, v60.2) else some (.tup [], v60.2)).bind fun v62 =>
          (wantV v48.1 true).bind fun v63 =>
          (bif v63 then some (v6, v62.2) else some (.tup [], v62.2)).bind fun v64 =>
          (wantV v48.1 true).bind fun v65 =>
          (bif v65 then some (v7, v64.2) else some (.tup [], v64.2)).bind fun v66 =>
          (wantV v48.1 true).bind fun v67 =>
          (bif v67 then E.C fn_impl_CellsOf [v62.1, v64.1, v66.1, (.int .i64 0)] v66.2 else some (.tup [], v66.2)).bind fun v68 =>
          (wantV v48.1 true).bind fun v69 =>
          (bif v69 then pv v68.2 (E.p.len 23 v68.1) else some (.tup [], v68.2)).bind fun v70 =>
          (wantV v48.1 true).bind fun v71 =>
          (bif v71 then pv v70.2 (E.p.bin .eql 3 v60.1 v70.1) else some (.tup [], v70.2)).bind fun v72 =>
          (E.p.pick v48.1 v72.1 (.bool false)).bind fun v73 =>
          (wantV v73 true).bind fun v74 =>
          (bif v74 then some (v5, v72.2) else some (.tup [], v72.2)).bind fun v75 =>
          (wantV v73 true).bind fun v76 =>
          (bif v76 then some (v6, v75.2) else some (.tup [], v75.2)).bind fun v77 =>
          (wantV v73 true).bind fun v78 =>
          (bif v78 then some (v11, v77.2) else some (.tup [], v77.2)).bind fun v79 =>
          (wantV v73 true).bind fun v80 =>
          (bif v80 then some (v9, v79.2) else some (.tup [], v79.2)).bind fun v81 =>
          (wantV v73 true).bind fun v82 =>
          (bif v82 then pv v81.2 (E.p.bin .sub 3 (.int .i64 3) v81.1) else some (.tup [], v81.2)).bind fun v83 =>
          (wantV v73 true).bind fun v84 =>
          (bif v84 then E.C fn_impl_Joins [v75.1, v77.1, v79.1, v83.1] v83.2 else some (.tup [], v83.2)).bind fun v85 =>
          (wantV v73 true).bind fun v86 =>
          (bif v86 then pv v85.2 (E.p.un .not v85.1) else some (.tup [], v85.2)).bind fun v87 =>
          (E.p.pick v73 v87.1 (.bool false)).bind fun v88 =>
          (resV v88).bind fun v89 =>
          some (v89, v87.2))))
theorem main_eq (E : Env) (x0 : PV) (h : PHeap) : runBody (E.cx Tryd.prog kl) Tryd.f4 [x0] h = main E x0 h := by kernel_rfl
theorem call_eq (g : Nat → PV) (lf n : Nat) (x0 : PV) (h : PHeap) : CL g lf (n + 1) fn_laws_FnPlayed [x0] h = main (env g lf n) x0 h := by
  rw [← main_eq]
  show (match Tryd.prog.funcs[4]? with | some fn => if fn.body.isSome then runBody ⟨Tryd.prog, g, call Tryd.prog g KL lf n, KL 4, lf, std Tryd.prog⟩ fn [x0] h else none | none => none) = _
  rw [Tryd.func4]
  kernel_rfl
end laws_FnPlayed
namespace laws_FnWinnerOf
noncomputable def main (E : Env) (x0 : PV) (h : PHeap) : Res :=
    (E.p.len 22 x0).bind fun v1 =>
    (E.p.bin .gtr 3 v1 (.int .i64 1048576)).bind fun v2 =>
    condP v2
     (
      (resV (.bool true)).bind fun v3 =>
      some (v3, h))
     (
      (E.C fn_spec_DrawWinnerOf [x0] h).bind fun v4 =>
      (E.p.extract v4.1 0).bind fun v5 =>
      (E.p.extract v4.1 1).bind fun v6 =>
      (E.p.extract v4.1 2).bind fun v7 =>
      (E.p.extract v4.1 3).bind fun v8 =>
      (E.C fn_impl_WinnerOf [v5, v6, v7, v8] v4.2).bind fun v9 =>
      (E.C fn_spec_WinnerOf [v5, v6, v7, v8] v9.2).bind fun v10 =>
      (E.p.bin .neq 3 v9.1 v10.1).bind fun v11 =>
      condP v11
       (
        (resV (.bool false)).bind fun v12 =>
        some (v12, v10.2))
       (
        (E.C fn_spec_PositionOk [v5, v6, v7] v10.2).bind fun v13 =>
        (E.p.un .not v13.1).bind fun v14 =>
        (wantV v14 false).bind fun v15 =>
        (bif v15 then some (v8, v13.2) else some (.tup [], v13.2)).bind fun v16 =>
        (wantV v14 false).bind fun v17 =>
        (bif v17 then pv v16.2 (E.p.bin .gtr 3 v16.1 (.int .i64 2)) else some (.tup [], v16.2)).bind fun v18 =>
        (E.p.pick v14 (.bool true) v18.1).bind fun v19 =>
        condP v19
         (
          (E.p.bin .eql 3 v9.1 (.int .i64 0)).bind fun v20 =>
          (wantV v20 true).bind fun v21 =>
          (bif v21 then E.C fn_laws_alive [] v18.2 else some (.tup [], v18.2)).bind fun v22 =>
          (E.p.pick v20 v22.1 (.bool false)).bind fun v23 =>
          (resV v23).bind fun v24 =>
          some (v24, v22.2))
         (
          (E.p.bin .neq 3 v9.1 (.int .i64 1)).bind fun v25 =>
          (wantV v25 true).bind fun v26 =>
          (bif v26 then some (v9.1, v18.2) else some (.tup [], v18.2)).bind fun v27 =>
          (wantV v25 true).bind fun v28 =>
          (bif v28 then pv v27.2 (E.p.bin .neq 3 v27.1 (.int .i64 2)) else some (.tup [], v27.2)).bind fun v29 =>
          (E.p.pick v25 v29.1 (.bool false)).bind fun v30 =>
          condP v30
           (
            (resV (.bool false)).bind fun v31 =>
            some (v31, v29.2))
           (
            (E.C fn_impl_CellsOf [v5, v6, v7, (.int .i64 0)] v29.2).bind fun v32 =>
            (E.p.len 23 v32.1).bind fun v33 =>
            (E.p.bin .gtr 3 v33 (.int .i64 0)).bind fun v34 =>
            condP v34
             (
              (E.p.buildSlice 23 0 [] v32.2).bind fun v35 =>
              (E.p.append 23 23 v35.1 v7 v35.2).bind fun v36 =>
              (E.p.indexAddr 23 v32.1 (.int .i64 0)).bind fun v37 =>
              (E.p.load 3 v37 v36.2).bind fun v38 =>
              (E.p.indexAddr 23 v36.1 v38).bind fun v39 =>
              (E.p.store 3 v39 v9.1 v36.2).bind fun v40 =>
              (E.C fn_impl_WinnerOf [v5, v6, v36.1, v8] v40).bind fun v41 =>
              (E.p.bin .neq 3 v41.1 v9.1).bind fun v42 =>
              condP v42
               (
                (resV (.bool false)).bind fun v43 =>
                some (v43, v41.2))
               (
                (E.p.bin .eql 3 v9.1 v8).bind fun v44 =>
                (wantV v44 false).bind fun v45 =>
                (bif v45 then some (v5, v41.2) else some (.tup [], v41.2)).bind fun v46 =>
                (wantV v44 false).bind fun v47 =>
                (bif v47 then some (v6, v46.2) else some (.tup [], v46.2)).bind fun v48 =>
                (wantV v44 false).bind fun v49 =>
                (bif v49 then some (v7, v48.2) else some (.tup [], v48.2)).bind fun v50 =>
                (wantV v44 false).bind fun v51 =>
                (bif v51 then some (v9.1, v50.2) else some (.tup [], v50.2)).bind fun v52 =>
                (wantV v44 false).bind fun v53 =>
                (bif v53 then E.C fn_impl_WinnerOf [v46.1, v48.1, v50.1, v52.1] v52.2 else some (.tup [], v52.2)).bind fun v54 =>
                (wantV v44 false).bind fun v55 =>
                (bif v55 then some (v9.1, v54.2) else some (.tup [], v54.2)).bind fun v56 =>
                (wantV v44 false).bind fun v57 =>
                (bif v57 then pv v56.2 (E.p.bin .eql 3 v54.1 v56.1) else some (.tup [], v56.2)).bind fun v58 =>
                (E.p.pick v44 (.bool true) v58.1).bind fun v59 =>
                (wantV v59 true).bind fun v60 =>
                (bif v60 then some (v5, v58.2) else some (.tup [], v58.2)).bind fun v61 =>
                (wantV v59 true).bind fun v62 =>
                (bif v62 then some (v6, v61.2) else some (.tup [], v61.2)).bind fun v63 =>
                (wantV v59 true).bind fun v64 =>
                (bif v64 then some (v5, v63.2) else some (.tup [], v63.2)).bind fun v65 =>
                (wantV v59 true).bind fun v66 =>
                (bif v66 then some (v6, v65.2) else some (.tup [], v65.2)).bind fun v67 =>
                (wantV v59 true).bind fun v68 =>
                (bif v68 then some (v7, v67.2) else some (.tup [], v67.2)).bind fun v69 =>
                (wantV v59 true).bind fun v70 =>
                (bif v70 then E.C fn_impl_HalfTurned [v65.1, v67.1, v69.1] v69.2 else some (.tup [], v69.2)).bind fun v71 =>
                (wantV v59 true).bind fun v72 =>
                (bif v72 then some (v8, v71.2) else some (.tup [], v71.2)).bind fun v73 =>
                (wantV v59 true).bind fun v74 =>
                (bif v74 then E.C fn_impl_WinnerOf [v61.1, v63.1, v71.1, v73.1] v73.2 else some (.tup [], v73.2)).bind fun v75 =>
                (wantV v59 true).bind fun v76 =>
                (bif v76 then some (v9.1, v75.2) else some (.tup [], v75.2)).bind fun v77 =>
                (wantV v59 true).bind fun v78 =>
                (bif v78 then pv v77.2 (E.p.bin .eql 3 v75.1 v77.1) else some (.tup [], v77.2)).bind fun v79 =>
                (E.p.pick v59 v79.1 (.bool false)).bind fun v80 =>
                (wantV v80 true).bind fun v81 =>
                (bif v81 then some (v6, v79.2) else some (.tup [], v79.2)).bind fun v82 =>
                (wantV v80 true).bind fun v83 =>
                (bif v83 then some (v5, v82.2) else some (.tup [], v82.2)).bind fun v84 =>
                (wantV v80 true).bind fun v85 =>
                (bif v85 then some (v5, v84.2) else some (.tup [], v84.2)).bind fun v86 =>
                (wantV v80 true).bind fun v87 =>
                (bif v87 then some (v6, v86.2) else some (.tup [], v86.2)).bind fun v88 =>
                (wantV v80 true).bind fun v89 =>
                (bif v89 then some (v7, v88.2) else some (.tup [], v88.2)).bind fun v90 =>
                (wantV v80 true).bind fun v91 =>
                (bif v91 then E.C fn_impl_Mirrored [v86.1, v88.1, v90.1] v90.2 else some (.tup [], v90.2)).bind fun v92 =>
                (wantV v80 true).bind fun v93 =>
                (bif v93 then some ((.int .i64 3), v92.2) else some (.tup [], v92.2)).bind fun v94 =>
                (wantV v80 true).bind fun v95 =>
                (bif v95 then some (v8, v94.2) else some (.tup [], v94.2)).bind fun v96 =>
                (wantV v80 true).bind fun v97 =>
                (bif v97 then pv v96.2 (E.p.bin .sub 3 v94.1 v96.1) else some (.tup [], v96.2)).bind fun v98 =>
                (wantV v80 true).bind fun v99 =>
                (bif v99 then E.C fn_impl_WinnerOf [v82.1, v84.1, v92.1, v98.1] v98.2 else some (.tup [], v98.2)).bind fun v100 =>
                (wantV v80 true).bind fun v101 =>
                (bif v101 then some ((.int .i64 3), v100.2) else some (.tup [], v100.2)).bind fun v102 =>
                (wantV v80 true).bind fun v103 =>
                (bif v103 then some (v9.1, v102.2) else some (.tup [], v102.2)).bind fun v104 =>
                (wantV v80 true).bind fun v105 =>
                (bif v105 then pv v104.2 (E.p.bin .sub 3 v102.1 v104.1) else some (.tup [], v104.2)).bind fun v106 =>
                (wantV v80 true).bind fun v107 =>
                (bif v107 then pv v106.2 (E.p.bin .eql 3 v100.1 v106.1) else some (.tup [], v106.2)).bind fun v108 =>
                (E.p.pick v80 v108.1 (.bool false)).bind fun v109 =>
                (resV v109).bind fun v110 =>
                some (v110, v108.2)))
             (
              (E.p.bin .eql 3 v9.1 v8).bind fun v111 =>
              (wantV v111 false).bind fun v112 =>
              (bif v112 then some (v5, v32.2) else some (.tup [], v32.2)).bind fun v113 =>
              (wantV v111 false).bind fun v114 =>
              (bif v114 then some (v6, v113.2) else some (.tup [], v113.2)).bind fun v115 =>
              (wantV v111 false).bind fun v116 =>
              (bif v116 then some (v7, v115.2) else some (.tup [], v115.2)).bind fun v117 =>
              (wantV v111 false).bind fun v118 =>
              (bif v118 then some (v9.1, v117.2) else some (.tup [], v117.2)).bind fun v119 =>
              (wantV v111 false).bind fun v120 =>
              (bif v120 then E.C fn_impl_WinnerOf [v113.1, v115.1, v117.1, v119.1] v119.2 else some (.tup [], v119.2)).bind fun v121 =>
              (wantV v111 false).bind fun v122 =>
              (bif v122 then some (v9.1, v121.2) else some (.tup [], v121.2)).bind fun v123 =>
              (wantV v111 false).bind fun v124 =>
              (bif v124 then pv v123.2 (E.p.bin .eql 3 v121.1 v123.1) else some (.tup [], v123.2)).bind fun v125 =>
              (E.p.pick v111 (.bool true) v125.1).bind fun v126 =>
              (wantV v126 true).bind fun v127 =>
              (bif v127 then some (v5, v125.2) else some (.tup [], v125.2)).bind fun v128 =>
              (wantV v126 true).bind fun v129 =>
              (bif v129 then some (v6, v128.2) else some (.tup [], v128.2)).bind fun v130 =>
              (wantV v126 true).bind fun v131 =>
              (bif v131 then some (v5, v130.2) else some (.tup [], v130.2)).bind fun v132 =>
              (wantV v126 true).bind fun v133 =>
              (bif v133 then some (v6, v132.2) else some (.tup [], v132.2)).bind fun v134 =>
              (wantV v126 true).bind fun v135 =>
              (bif v135 then some (v7, v134.2) else some (.tup [], v134.2)).bind fun v136 =>
              (wantV v126 true).bind fun v137 =>
              (bif v137 then E.C fn_impl_HalfTurned [v132.1, v134.1, v136.1] v136.2 else some (.tup [], v136.2)).bind fun v138 =>
              (wantV v126 true).bind fun v139 =>
              (bif v139 then some (v8, v138.2) else some (.tup [], v138.2)).bind fun v140 =>
              (wantV v126 true).bind fun v141 =>
              (bif v141 then E.C fn_impl_WinnerOf [v128.1, v130.1, v138.1, v140.1] v140.2 else some (.tup [], v140.2)).bind fun v142 =>
              (wantV v126 true).bind fun v143 =>
              (bif v143 then some (v9.1, v142.2) else some (.tup [], v142.2)).bind fun v144 =>
              (wantV v126 true).bind fun v145 =>
              (bif v145 then pv v144.2 (E.p.bin .eql 3 v142.1 v144.1) else some (.tup [], v144.2)).bind fun v146 =>
              (E.p.pick v126 v146.1 (.bool false)).bind fun v147 =>
              (wantV v147 true).bind fun v148 =>
              (bif v148 then some (v6, v146.2) else some (.tup [], v146.2)).bind fun v149 =>
              (wantV v147 true).bind fun v150 =>
              (bif v150 then some (v5, v149.2) else some (.tup [], v149.2)).bind fun v151 =>
              (wantV v147 true).bind fun v152 =>
              (bif v152 then some (v5, v151.2) else some (.tup [], v151.2)).bind fun v153 =>
              (wantV v147 true).bind fun v154 =>
              (bif v154 then some (v6, v153.2) else some (.tup [], v153.2)).bind fun v155 =>
              (wantV v147 true).bind fun v156 =>
              (bif v156 then some (v7, v155.2) else some (.tup [], v155.2)).bind fun v157 =>
              (wantV v147 true).bind fun v158 =>
              (bif v158 then E.C fn_impl_Mirrored [v153.1, v155.1, v157.1] v157.2 else some (.tup [], v157.2)).bind fun v159 =>
              (wantV v147 true).bind fun v160 =>
              (bif v160 then some ((.int .i64 3), v159.2) else some (.tup [], v159.2)).bind fun v161 =>
              (wantV v147 true).bind fun v162 =>
              (bif v162 then some (v8, v161.2) else some (.tup [], v161.2)).bind fun v163 =>
              (wantV v147 true).bind fun v164 =>
              (bif v164 then pv v163.2 (E.p.bin .sub 3 v161.1 v163.1) else some (.tup [], v163.2)).bind fun v165 =>
              (wantV v147 true).bind fun v166 =>
              (bif v166 then E.C fn_impl_WinnerOf [v149.1, v151.1, v159.1, v165.1] v165.2 else some (.tup [], v165.2)).bind fun v167 =>
              (wantV v147 true).bind fun v168 =>
              (bif v168 then some ((.int .i64 3), v167.2) else some (.tup [], v167.2)).bind fun v169 =>
              (wantV v147 true).bind fun v170 =>
              (bif v170 then some (v9.1, v169.2) else some (.tup [], v169.2)).bind fun v171 =>
              (wantV v147 true).bind fun v172 =>
              (bif v172 then pv v171.2 (E.p.bin .sub 3 v169.1 v171.1) else some (.tup [], v171.2)).bind fun v173 =>
              (wantV v147 true).bind fun v174 =>
              (bif v174 then pv v173.2 (E.p.bin .eql 3 v167.1 v173.1) else some (.tup [], v173.2)).bind fun v175 =>
              (E.p.pick v147 v175.1 (.bool false)).bind fun v176 =>
              (resV v176).bind fun v177 =>
              some (v177, v175.2))))))
theorem main_eq (E : Env) (x0 : PV) (h : PHeap) : runBody (E.cx Tryd.prog kl) Tryd.f5 [x0] h = main E x0 h := by kernel_rfl
theorem call_eq (g : Nat → PV) (lf n : Nat) (x0 : PV) (h : PHeap) : CL g lf (n + 1) fn_laws_FnWinnerOf [x0] h = main (env g lf n) x0 h := by
  rw [← main_eq]
  show (match Tryd.prog.funcs[5]? with | some fn => if fn.body.isSome then runBody ⟨Tryd.prog, g, call Tryd.prog g KL lf n, KL 5, lf, std Tryd.prog⟩ fn [x0] h else none | none => none) = _
  rw [Tryd.func5]
  kernel_rfl
end laws_FnWinnerOf
namespace laws_FnWinningCells
noncomputable def lp0 : Code := (codeAt (bodyOf Tryd.f6) [1, 1, 1, 1, 1, 1, 1, 0, 1, 0, 0])
def st0 (x3 x4 x5 x6 x7 x8 x9 : PV) (h : PHeap) : St := ⟨[.junk, .junk, .junk, x3, x4, x5, x6, x7, x8, x9, .junk, .junk, .junk, .junk, .junk, .junk, .junk, .junk, .junk, .junk, .junk, .junk, .junk, .junk, .junk, .junk, .junk, .junk, .junk, .junk, .junk, .junk, .junk, .junk, .junk, .junk, .junk, .junk, .junk, .junk, .junk, .junk, .junk, .junk, .junk, .junk, .junk, .junk, .junk, .junk, .junk, .junk, .junk, .junk, .junk, .junk, .junk, .junk, .junk, .junk, .junk, .junk, .junk, .junk, .junk, .junk, .junk, .junk, .junk, .junk, .junk, .junk, .junk, .junk, .junk, .junk, .junk, .junk, .junk, .junk, .junk, .junk, .junk, .junk, .junk, .junk, .junk, .junk, .junk, .junk, .junk, .junk, .junk, .junk, .junk, .junk, .junk, .junk, .junk, .junk, .junk, .junk, .junk, .junk, .junk, .junk, .junk, .junk, .junk, .junk, .junk, .junk, .junk, .junk, .junk, .junk, .junk, .junk, .junk, .junk, .junk], h⟩
def sr_2 (x2 : PV) (h : PHeap) : St := ⟨[.junk, .junk, x2, .junk, .junk, .junk, .junk, .junk, .junk, .junk, .junk, .junk, .junk, .junk, .junk, .junk, .junk, .junk, .junk, .junk, .junk, .junk, .junk, .junk, .junk, .junk, .junk, .junk, .junk, .junk, .junk, .junk, .junk, .junk, .junk, .junk, .junk, .junk, .junk, .junk, .junk, .junk, .junk, .junk, .junk, .junk, .junk, .junk, .junk, .junk, .junk, .junk, .junk, .junk, .junk, .junk, .junk, .junk, .junk, .junk, .junk, .junk, .junk, .junk, .junk, .junk, .junk, .junk, .junk, .junk, .junk, .junk, .junk, .junk, .junk, .junk, .junk, .junk, .junk, .junk, .junk, .junk, .junk, .junk, .junk, .junk, .junk, .junk, .junk, .junk, .junk, .junk, .junk, .junk, .junk, .junk, .junk, .junk, .junk, .junk, .junk, .junk, .junk, .junk, .junk, .junk, .junk, .junk, .junk, .junk, .junk, .junk, .junk, .junk, .junk, .junk, .junk, .junk, .junk, .junk, .junk], h⟩
def se0_3_4_5_6_7_8_9_56 (x3 x4 x5 x6 x7 x8 x9 x56 : PV) (h : PHeap) : St := ⟨[.junk, .junk, .junk, x3, x4, x5, x6, x7, x8, x9, .junk, .junk, .junk, .junk, .junk, .junk, .junk, .junk, .junk, .junk, .junk, .junk, .junk, .junk, .junk, .junk, .junk, .junk, .junk, .junk, .junk, .junk, .junk, .junk, .junk, .junk, .junk, .junk, .junk, .junk, .junk, .junk, .junk, .junk, .junk, .junk, .junk, .junk, .junk, .junk, .junk, .junk, .junk, .junk, .junk, .junk, x56, .junk, .junk, .junk, .junk, .junk, .junk, .junk, .junk, .junk, .junk, .junk, .junk, .junk, .junk, .junk, .junk, .junk, .junk, .junk, .junk, .junk, .junk, .junk, .junk, .junk, .junk, .junk, .junk, .junk, .junk, .junk, .junk, .junk, .junk, .junk, .junk, .junk, .junk, .junk, .junk, .junk, .junk, .junk, .junk, .junk, .junk, .junk, .junk, .junk, .junk, .junk, .junk, .junk, .junk, .junk, .junk, .junk, .junk, .junk, .junk, .junk, .junk, .junk, .junk], h⟩
noncomputable def K0 (E : Env) (K : PX → St → Res) : PX → St → Res := (kBlock 0 (kSeq (ev (E.cx Tryd.prog kl) (codeAt (bodyOf Tryd.f6) [1, 1, 1, 1, 1, 1, 1, 1])) K))
@[simp] theorem K0_ret (E : Env) (K : PX → St → Res) (s : St) : K0 E K .ret s = K .ret s := by kernel_rfl
noncomputable def body0 (E : Env) (K : PX → St → Res) (x3 x4 x5 x6 x7 x8 x9 : PV) (h : PHeap) : Res :=
    (E.p.len 23 x5).bind fun v109 =>
    (E.p.bin .lss 3 x9 v109).bind fun v110 =>
    condP v110
     (
      (E.C fn_impl_Played [x3, x4, x5, x9, x6] h).bind fun v111 =>
      (E.p.extract v111.1 0).bind fun v112 =>
      (E.p.extract v111.1 1).bind fun v113 =>
      (wantV v113 true).bind fun v114 =>
      (bif v114 then some (x3, v111.2) else some (.tup [], v111.2)).bind fun v115 =>
      (wantV v113 true).bind fun v116 =>
      (bif v116 then some (x4, v115.2) else some (.tup [], v115.2)).bind fun v117 =>
      (wantV v113 true).bind fun v118 =>
      (bif v118 then some (v112, v117.2) else some (.tup [], v117.2)).bind fun v119 =>
      (wantV v113 true).bind fun v120 =>
      (bif v120 then some (x8, v119.2) else some (.tup [], v119.2)).bind fun v121 =>
      (wantV v113 true).bind fun v122 =>
      (bif v122 then E.C fn_impl_WinnerOf [v115.1, v117.1, v119.1, v121.1] v121.2 else some (.tup [], v121.2)).bind fun v123 =>
      (wantV v113 true).bind fun v124 =>
      (bif v124 then some (x6, v123.2) else some (.tup [], v123.2)).bind fun v125 =>
      (wantV v113 true).bind fun v126 =>
      (bif v126 then pv v125.2 (E.p.bin .eql 3 v123.1 v125.1) else some (.tup [], v125.2)).bind fun v127 =>
      (E.p.pick v113 v127.1 (.bool false)).bind fun v128 =>
      (E.C fn_laws_hasInt [x7, x9] v127.2).bind fun v129 =>
      (E.p.bin .neq 4 v128 v129.1).bind fun v130 =>
      condP v130
       (
        K .ret (sr_2 (.bool false) v129.2))
       (
        (E.p.bin .add 3 x9 (.int .i64 1)).bind fun v131 =>
        K .normal (st0 x3 x4 x5 x6 x7 x8 v131 v129.2)))
     (
      K (.exit 0) (se0_3_4_5_6_7_8_9_56 x3 x4 x5 x6 x7 x8 x9 v110 h))
theorem body0_eq (E : Env) (K : PX → St → Res) (x3 x4 x5 x6 x7 x8 x9 : PV) (h : PHeap) : ev (E.cx Tryd.prog kl) lp0 (st0 x3 x4 x5 x6 x7 x8 x9 h) K = body0 E K x3 x4 x5 x6 x7 x8 x9 h := by kernel_rfl
theorem after0_se0_3_4_5_6_7_8_9_56 (E : Env) (x3 x4 x5 x6 x7 x8 x9 x56 : PV) (h : PHeap) : K0 E (kTop Tryd.prog Tryd.f6) (.exit 0) (se0_3_4_5_6_7_8_9_56 x3 x4 x5 x6 x7 x8 x9 x56 h) =
    (E.C fn_impl_Joins [x3, x4, x5, x6] h).bind fun v51 =>
    (wantV v51.1 false).bind fun v52 =>
    (bif v52 then some (x3, v51.2) else some (.tup [], v51.2)).bind fun v53 =>
    (wantV v51.1 false).bind fun v54 =>
    (bif v54 then some (x4, v53.2) else some (.tup [], v53.2)).bind fun v55 =>
    (wantV v51.1 false).bind fun v56 =>
    (bif v56 then some (x5, v55.2) else some (.tup [], v55.2)).bind fun v57 =>
    (wantV v51.1 false).bind fun v58 =>
    (bif v58 then some (x8, v57.2) else some (.tup [], v57.2)).bind fun v59 =>
    (wantV v51.1 false).bind fun v60 =>
    (bif v60 then E.C fn_impl_Joins [v53.1, v55.1, v57.1, v59.1] v59.2 else some (.tup [], v59.2)).bind fun v61 =>
    (E.p.pick v51.1 (.bool true) v61.1).bind fun v62 =>
    (E.C fn_laws_ascend [x7] v61.2).bind fun v63 =>
    (wantV v63.1 true).bind fun v64 =>
    (bif v64 then some (v62, v63.2) else some (.tup [], v63.2)).bind fun v65 =>
    (wantV v63.1 true).bind fun v66 =>
    (bif v66 then some (v65.1, v65.2) else some (.tup [], v65.2)).bind fun v67 =>
    (wantV v67.1 false).bind fun v68 =>
    (bif v68 then some (x7, v67.2) else some (.tup [], v67.2)).bind fun v69 =>
    (wantV v67.1 false).bind fun v70 =>
    (bif v70 then pv v69.2 (E.p.len 23 v69.1) else some (.tup [], v69.2)).bind fun v71 =>
    (wantV v67.1 false).bind fun v72 =>
    (bif v72 then pv v71.2 (E.p.bin .gtr 3 v71.1 (.int .i64 0)) else some (.tup [], v71.2)).bind fun v73 =>
    (wantV v67.1 false).bind fun v74 =>
    (bif v74 then some (x3, v73.2) else some (.tup [], v73.2)).bind fun v75 =>
    (wantV v67.1 false).bind fun v76 =>
    (bif v76 then some (x4, v75.2) else some (.tup [], v75.2)).bind fun v77 =>
    (wantV v67.1 false).bind fun v78 =>
    (bif v78 then some (x5, v77.2) else some (.tup [], v77.2)).bind fun v79 =>
    (wantV v67.1 false).bind fun v80 =>
    (bif v80 then some (x6, v79.2) else some (.tup [], v79.2)).bind fun v81 =>
    (wantV v67.1 false).bind fun v82 =>
    (bif v82 then E.C fn_impl_WinnerOf [v75.1, v77.1, v79.1, v81.1] v81.2 else some (.tup [], v81.2)).bind fun v83 =>
    (wantV v67.1 false).bind fun v84 =>
    (bif v84 then some (x6, v83.2) else some (.tup [], v83.2)).bind fun v85 =>
    (wantV v67.1 false).bind fun v86 =>
    (bif v86 then pv v85.2 (E.p.bin .eql 3 v83.1 v85.1) else some (.tup [], v85.2)).bind fun v87 =>
    (wantV v67.1 false).bind fun v88 =>
    (bif v88 then pv v87.2 (E.p.bin .eql 4 v73.1 v87.1) else some (.tup [], v87.2)).bind fun v89 =>
    (wantV v63.1 true).bind fun v90 =>
    (bif v90 then pv v89.2 (E.p.pick v67.1 (.bool true) v89.1) else some (.tup [], v89.2)).bind fun v91 =>
    (E.p.pick v63.1 v91.1 (.bool false)).bind fun v92 =>
    (wantV v92 true).bind fun v93 =>
    (bif v93 then some (v62, v91.2) else some (.tup [], v91.2)).bind fun v94 =>
    (wantV v92 true).bind fun v95 =>
    (bif v95 then pv v94.2 (E.p.un .not v94.1) else some (.tup [], v94.2)).bind fun v96 =>
    (wantV v92 true).bind fun v97 =>
    (bif v97 then some (v96.1, v96.2) else some (.tup [], v96.2)).bind fun v98 =>
    (wantV v98.1 false).bind fun v99 =>
    (bif v99 then some (x7, v98.2) else some (.tup [], v98.2)).bind fun v100 =>
    (wantV v98.1 false).bind fun v101 =>
    (bif v101 then pv v100.2 (E.p.len 23 v100.1) else some (.tup [], v100.2)).bind fun v102 =>
    (wantV v98.1 false).bind fun v103 =>
    (bif v103 then pv v102.2 (E.p.bin .eql 3 v102.1 (.int .i64 0)) else some (.tup [], v102.2)).bind fun v104 =>
    (wantV v92 true).bind fun v105 =>
    (bif v105 then pv v104.2 (E.p.pick v98.1 (.bool true) v104.1) else some (.tup [], v104.2)).bind fun v106 =>
    (E.p.pick v92 v106.1 (.bool false)).bind fun v107 =>
    (resV v107).bind fun v108 =>
    some (v108, v106.2) := by kernel_rfl
theorem top_sr_2 (x2 : PV) (h : PHeap) : kTop Tryd.prog Tryd.f6 .ret (sr_2 x2 h) =
    (resV x2).bind fun v132 =>
    some (v132, h) := by kernel_rfl
noncomputable def main (E : Env) (x0 : PV) (h : PHeap) : Res :=
    (E.p.len 22 x0).bind fun v1 =>
    (E.p.bin .gtr 3 v1 (.int .i64 1048576)).bind fun v2 =>
    condP v2
     (
      (resV (.bool true)).bind fun v3 =>
      some (v3, h))
     (
      (E.C fn_spec_DrawWinningCells [x0] h).bind fun v4 =>
      (E.p.extract v4.1 0).bind fun v5 =>
      (E.p.extract v4.1 1).bind fun v6 =>
      (E.p.extract v4.1 2).bind fun v7 =>
      (E.p.extract v4.1 3).bind fun v8 =>
      (E.C fn_impl_WinningCells [v5, v6, v7, v8] v4.2).bind fun v9 =>
      (E.C fn_spec_WinningCells [v5, v6, v7, v8] v9.2).bind fun v10 =>
      (E.C fn_laws_sameInts [v9.1, v10.1] v10.2).bind fun v11 =>
      (E.p.un .not v11.1).bind fun v12 =>
      condP v12
       (
        (resV (.bool false)).bind fun v13 =>
        some (v13, v11.2))
       (
        (E.C fn_spec_PositionOk [v5, v6, v7] v11.2).bind fun v14 =>
        (E.p.un .not v14.1).bind fun v15 =>
        (wantV v15 false).bind fun v16 =>
        (bif v16 then some (v8, v14.2) else some (.tup [], v14.2)).bind fun v17 =>
        (wantV v15 false).bind fun v18 =>
        (bif v18 then pv v17.2 (E.p.bin .gtr 3 v17.1 (.int .i64 2)) else some (.tup [], v17.2)).bind fun v19 =>
        (E.p.pick v15 (.bool true) v19.1).bind fun v20 =>
        condP v20
         (
          (E.p.len 23 v9.1).bind fun v21 =>
          (E.p.bin .eql 3 v21 (.int .i64 0)).bind fun v22 =>
          (wantV v22 true).bind fun v23 =>
          (bif v23 then E.C fn_laws_alive [] v19.2 else some (.tup [], v19.2)).bind fun v24 =>
          (E.p.pick v22 v24.1 (.bool false)).bind fun v25 =>
          (resV v25).bind fun v26 =>
          some (v26, v24.2))
         (
          (E.p.bin .sub 3 (.int .i64 3) v8).bind fun v27 =>
          loopK (ev (E.cx Tryd.prog laws_FnWinningCells.kl) laws_FnWinningCells.lp0) E.lf (laws_FnWinningCells.st0 v5 v6 v7 v8 v9.1 v27 (.int .i64 0) v19.2) (laws_FnWinningCells.K0 E (kTop Tryd.prog Tryd.f6)))))
theorem main_eq (E : Env) (x0 : PV) (h : PHeap) : runBody (E.cx Tryd.prog kl) Tryd.f6 [x0] h = main E x0 h := by kernel_rfl
theorem call_eq (g : Nat → PV) (lf n : Nat) (x0 : PV) (h : PHeap) : CL g lf (n + 1) fn_laws_FnWinningCells [x0] h = main (env g lf n) x0 h := by
  rw [← main_eq]
  show (match Tryd.prog.funcs[6]? with | some fn => if fn.body.isSome then runBody ⟨Tryd.prog, g, call Tryd.prog g KL lf n, KL 6, lf, std Tryd.prog⟩ fn [x0] h else none | none => none) = _
  rw [Tryd.func6]
  kernel_rfl
end laws_FnWinningCells
namespace laws_FnLinePlayed
noncomputable def lp0 : Code := (codeAt (bodyOf Tryd.f7) [1, 1, 1, 1, 1, 1, 1, 1, 0, 1, 0, 0])
def st0 (x3 x4 x5 x6 x7 x8 x9 x10 : PV) (h : PHeap) : St := ⟨[.junk, .junk, .junk, x3, x4, x5, x6, x7, x8, x9, x10, .junk, .junk, .junk, .junk, .junk, .junk, .junk, .junk, .junk, .junk, .junk, .junk, .junk, .junk, .junk, .junk, .junk, .junk, .junk, .junk, .junk, .junk, .junk, .junk, .junk, .junk, .junk, .junk, .junk, .junk, .junk, .junk, .junk, .junk, .junk, .junk, .junk, .junk, .junk, .junk, .junk, .junk, .junk, .junk, .junk, .junk, .junk, .junk, .junk, .junk, .junk, .junk, .junk, .junk, .junk, .junk, .junk, .junk, .junk, .junk, .junk, .junk, .junk, .junk, .junk, .junk, .junk, .junk, .junk, .junk, .junk, .junk, .junk, .junk, .junk, .junk, .junk, .junk, .junk, .junk, .junk, .junk, .junk, .junk, .junk, .junk], h⟩
def sr_2 (x2 : PV) (h : PHeap) : St := ⟨[.junk, .junk, x2, .junk, .junk, .junk, .junk, .junk, .junk, .junk, .junk, .junk, .junk, .junk, .junk, .junk, .junk, .junk, .junk, .junk, .junk, .junk, .junk, .junk, .junk, .junk, .junk, .junk, .junk, .junk, .junk, .junk, .junk, .junk, .junk, .junk, .junk, .junk, .junk, .junk, .junk, .junk, .junk, .junk, .junk, .junk, .junk, .junk, .junk, .junk, .junk, .junk, .junk, .junk, .junk, .junk, .junk, .junk, .junk, .junk, .junk, .junk, .junk, .junk, .junk, .junk, .junk, .junk, .junk, .junk, .junk, .junk, .junk, .junk, .junk, .junk, .junk, .junk, .junk, .junk, .junk, .junk, .junk, .junk, .junk, .junk, .junk, .junk, .junk, .junk, .junk, .junk, .junk, .junk, .junk, .junk, .junk], h⟩
def se0_3_4_5_6_7_8_9_10_59 (x3 x4 x5 x6 x7 x8 x9 x10 x59 : PV) (h : PHeap) : St := ⟨[.junk, .junk, .junk, x3, x4, x5, x6, x7, x8, x9, x10, .junk, .junk, .junk, .junk, .junk, .junk, .junk, .junk, .junk, .junk, .junk, .junk, .junk, .junk, .junk, .junk, .junk, .junk, .junk, .junk, .junk, .junk, .junk, .junk, .junk, .junk, .junk, .junk, .junk, .junk, .junk, .junk, .junk, .junk, .junk, .junk, .junk, .junk, .junk, .junk, .junk, .junk, .junk, .junk, .junk, .junk, .junk, .junk, x59, .junk, .junk, .junk, .junk, .junk, .junk, .junk, .junk, .junk, .junk, .junk, .junk, .junk, .junk, .junk, .junk, .junk, .junk, .junk, .junk, .junk, .junk, .junk, .junk, .junk, .junk, .junk, .junk, .junk, .junk, .junk, .junk, .junk, .junk, .junk, .junk, .junk], h⟩
noncomputable def K0 (E : Env) (K : PX → St → Res) : PX → St → Res := (kBlock 0 (kSeq (ev (E.cx Tryd.prog kl) (codeAt (bodyOf Tryd.f7) [1, 1, 1, 1, 1, 1, 1, 1, 1])) K))
@[simp] theorem K0_ret (E : Env) (K : PX → St → Res) (s : St) : K0 E K .ret s = K .ret s := by kernel_rfl
noncomputable def body0 (E : Env) (K : PX → St → Res) (x3 x4 x5 x6 x7 x8 x9 x10 : PV) (h : PHeap) : Res :=
    (E.p.len 23 x7).bind fun v58 =>
    (E.p.bin .lss 3 x10 v58).bind fun v59 =>
    condP v59
     (
      (E.p.indexAddr 23 x7 x10).bind fun v60 =>
      (E.p.load 3 v60 h).bind fun v61 =>
      (E.C fn_impl_Played [x3, x4, x8, v61, x9] h).bind fun v62 =>
      (E.p.extract v62.1 0).bind fun v63 =>
      (E.p.extract v62.1 1).bind fun v64 =>
      (E.p.un .not v64).bind fun v65 =>
      condP v65
       (
        K .ret (sr_2 (.bool false) v62.2))
       (
        (E.p.bin .sub 3 (.int .i64 3) x9).bind fun v66 =>
        (E.p.bin .add 3 x10 (.int .i64 1)).bind fun v67 =>
        K .normal (st0 x3 x4 x5 x6 x7 v63 v66 v67 v62.2)))
     (
      K (.exit 0) (se0_3_4_5_6_7_8_9_10_59 x3 x4 x5 x6 x7 x8 x9 x10 v59 h))
theorem body0_eq (E : Env) (K : PX → St → Res) (x3 x4 x5 x6 x7 x8 x9 x10 : PV) (h : PHeap) : ev (E.cx Tryd.prog kl) lp0 (st0 x3 x4 x5 x6 x7 x8 x9 x10 h) K = body0 E K x3 x4 x5 x6 x7 x8 x9 x10 h := by kernel_rfl
theorem after0_se0_3_4_5_6_7_8_9_10_59 (E : Env) (x3 x4 x5 x6 x7 x8 x9 x10 x59 : PV) (h : PHeap) : K0 E (kTop Tryd.prog Tryd.f7) (.exit 0) (se0_3_4_5_6_7_8_9_10_59 x3 x4 x5 x6 x7 x8 x9 x10 x59 h) =
    (E.C fn_impl_WinnerOf [x3, x4, x5, x6] h).bind fun v39 =>
    (E.p.bin .eql 3 v39.1 (.int .i64 1)).bind fun v40 =>
    (wantV v40 false).bind fun v41 =>
    (bif v41 then some (v39.1, v39.2) else some (.tup [], v39.2)).bind fun v42 =>
    (wantV v40 false).bind fun v43 =>
    (bif v43 then pv v42.2 (E.p.bin .eql 3 v42.1 (.int .i64 2)) else some (.tup [], v42.2)).bind fun v44 =>
    (E.p.pick v40 (.bool true) v44.1).bind fun v45 =>
    (wantV v45 true).bind fun v46 =>
    (bif v46 then some (x3, v44.2) else some (.tup [], v44.2)).bind fun v47 =>
    (wantV v45 true).bind fun v48 =>
    (bif v48 then some (x4, v47.2) else some (.tup [], v47.2)).bind fun v49 =>
    (wantV v45 true).bind fun v50 =>
    (bif v50 then some (x8, v49.2) else some (.tup [], v49.2)).bind fun v51 =>
    (wantV v45 true).bind fun v52 =>
    (bif v52 then some (v39.1, v51.2) else some (.tup [], v51.2)).bind fun v53 =>
    (wantV v45 true).bind fun v54 =>
    (bif v54 then E.C fn_impl_Joins [v47.1, v49.1, v51.1, v53.1] v53.2 else some (.tup [], v53.2)).bind fun v55 =>
    (E.p.pick v45 v55.1 (.bool false)).bind fun v56 =>
    (resV v56).bind fun v57 =>
    some (v57, v55.2) := by kernel_rfl
theorem top_sr_2 (x2 : PV) (h : PHeap) : kTop Tryd.prog Tryd.f7 .ret (sr_2 x2 h) =
    (resV x2).bind fun v68 =>
    some (v68, h) := by kernel_rfl
noncomputable def main (E : Env) (x0 : PV) (h : PHeap) : Res :=
    (E.p.len 22 x0).bind fun v1 =>
    (E.p.bin .gtr 3 v1 (.int .i64 1048576)).bind fun v2 =>
    condP v2
     (
      (resV (.bool true)).bind fun v3 =>
      some (v3, h))
     (
      (E.C fn_spec_DrawLinePlayed [x0] h).bind fun v4 =>
      (E.p.extract v4.1 0).bind fun v5 =>
      (E.p.extract v4.1 1).bind fun v6 =>
      (E.p.extract v4.1 2).bind fun v7 =>
      (E.p.extract v4.1 3).bind fun v8 =>
      (E.C fn_impl_LinePlayed [v5, v6, v7, v8] v4.2).bind fun v9 =>
      (E.C fn_spec_LinePlayed [v5, v6, v7, v8] v9.2).bind fun v10 =>
      (E.C fn_laws_sameInts [v9.1, v10.1] v10.2).bind fun v11 =>
      (E.p.un .not v11.1).bind fun v12 =>
      condP v12
       (
        (resV (.bool false)).bind fun v13 =>
        some (v13, v11.2))
       (
        (E.C fn_spec_PositionOk [v5, v6, v7] v11.2).bind fun v14 =>
        (E.p.un .not v14.1).bind fun v15 =>
        (wantV v15 false).bind fun v16 =>
        (bif v16 then some (v8, v14.2) else some (.tup [], v14.2)).bind fun v17 =>
        (wantV v15 false).bind fun v18 =>
        (bif v18 then pv v17.2 (E.p.bin .gtr 3 v17.1 (.int .i64 2)) else some (.tup [], v17.2)).bind fun v19 =>
        (E.p.pick v15 (.bool true) v19.1).bind fun v20 =>
        condP v20
         (
          (E.p.len 23 v9.1).bind fun v21 =>
          (E.p.bin .eql 3 v21 (.int .i64 0)).bind fun v22 =>
          (wantV v22 true).bind fun v23 =>
          (bif v23 then E.C fn_laws_alive [] v19.2 else some (.tup [], v19.2)).bind fun v24 =>
          (E.p.pick v22 v24.1 (.bool false)).bind fun v25 =>
          (resV v25).bind fun v26 =>
          some (v26, v24.2))
         (
          (E.p.buildSlice 23 0 [] v19.2).bind fun v27 =>
          (E.p.append 23 23 v27.1 v7 v27.2).bind fun v28 =>
          loopK (ev (E.cx Tryd.prog laws_FnLinePlayed.kl) laws_FnLinePlayed.lp0) E.lf (laws_FnLinePlayed.st0 v5 v6 v7 v8 v9.1 v28.1 v8 (.int .i64 0) v28.2) (laws_FnLinePlayed.K0 E (kTop Tryd.prog Tryd.f7)))))
theorem main_eq (E : Env) (x0 : PV) (h : PHeap) : runBody (E.cx Tryd.prog kl) Tryd.f7 [x0] h = main E x0 h := by kernel_rfl
theorem call_eq (g : Nat → PV) (lf n : Nat) (x0 : PV) (h : PHeap) : CL g lf (n + 1) fn_laws_FnLinePlayed [x0] h = main (env g lf n) x0 h := by
  rw [← main_eq]
  show (match Tryd.prog.funcs[7]? with | some fn => if fn.body.isSome then runBody ⟨Tryd.prog, g, call Tryd.prog g KL lf n, KL 7, lf, std Tryd.prog⟩ fn [x0] h else none | none => none) = _
  rw [Tryd.func7]
  kernel_rfl
end laws_FnLinePlayed
namespace laws_FnAnswers
noncomputable def lp0 : Code := (codeAt (bodyOf Tryd.f8) [1, 1, 1, 1, 1, 1, 0, 1, 0, 0])
def st0 (x3 x4 x5 x6 x7 x8 : PV) (h : PHeap) : St := ⟨[.junk, .junk, .junk, x3, x4, x5, x6, x7, x8, .junk, .junk, .junk, .junk, .junk, .junk, .junk, .junk, .junk, .junk, .junk, .junk, .junk, .junk, .junk, .junk, .junk, .junk, .junk, .junk, .junk, .junk, .junk, .junk, .junk, .junk, .junk, .junk, .junk, .junk, .junk, .junk, .junk, .junk, .junk, .junk, .junk, .junk, .junk, .junk, .junk, .junk, .junk, .junk, .junk, .junk, .junk, .junk, .junk, .junk, .junk, .junk, .junk, .junk, .junk, .junk, .junk, .junk, .junk, .junk, .junk, .junk, .junk, .junk, .junk, .junk, .junk, .junk, .junk, .junk, .junk, .junk, .junk, .junk, .junk, .junk, .junk, .junk, .junk, .junk], h⟩
def sr_2 (x2 : PV) (h : PHeap) : St := ⟨[.junk, .junk, x2, .junk, .junk, .junk, .junk, .junk, .junk, .junk, .junk, .junk, .junk, .junk, .junk, .junk, .junk, .junk, .junk, .junk, .junk, .junk, .junk, .junk, .junk, .junk, .junk, .junk, .junk, .junk, .junk, .junk, .junk, .junk, .junk, .junk, .junk, .junk, .junk, .junk, .junk, .junk, .junk, .junk, .junk, .junk, .junk, .junk, .junk, .junk, .junk, .junk, .junk, .junk, .junk, .junk, .junk, .junk, .junk, .junk, .junk, .junk, .junk, .junk, .junk, .junk, .junk, .junk, .junk, .junk, .junk, .junk, .junk, .junk, .junk, .junk, .junk, .junk, .junk, .junk, .junk, .junk, .junk, .junk, .junk, .junk, .junk, .junk, .junk], h⟩
def se0_3_4_5_6_7_8_66 (x3 x4 x5 x6 x7 x8 x66 : PV) (h : PHeap) : St := ⟨[.junk, .junk, .junk, x3, x4, x5, x6, x7, x8, .junk, .junk, .junk, .junk, .junk, .junk, .junk, .junk, .junk, .junk, .junk, .junk, .junk, .junk, .junk, .junk, .junk, .junk, .junk, .junk, .junk, .junk, .junk, .junk, .junk, .junk, .junk, .junk, .junk, .junk, .junk, .junk, .junk, .junk, .junk, .junk, .junk, .junk, .junk, .junk, .junk, .junk, .junk, .junk, .junk, .junk, .junk, .junk, .junk, .junk, .junk, .junk, .junk, .junk, .junk, .junk, .junk, x66, .junk, .junk, .junk, .junk, .junk, .junk, .junk, .junk, .junk, .junk, .junk, .junk, .junk, .junk, .junk, .junk, .junk, .junk, .junk, .junk, .junk, .junk], h⟩
noncomputable def K0 (E : Env) (K : PX → St → Res) : PX → St → Res := (kBlock 0 (kSeq (ev (E.cx Tryd.prog kl) (codeAt (bodyOf Tryd.f8) [1, 1, 1, 1, 1, 1, 1])) K))
@[simp] theorem K0_ret (E : Env) (K : PX → St → Res) (s : St) : K0 E K .ret s = K .ret s := by kernel_rfl
noncomputable def body0 (E : Env) (K : PX → St → Res) (x3 x4 x5 x6 x7 x8 : PV) (h : PHeap) : Res :=
    (E.p.len 23 x5).bind fun v64 =>
    (E.p.bin .lss 3 x8 v64).bind fun v65 =>
    condP v65
     (
      (E.C fn_impl_Played [x3, x4, x5, x8, x7] h).bind fun v66 =>
      (E.p.extract v66.1 0).bind fun v67 =>
      (E.p.extract v66.1 1).bind fun v68 =>
      (wantV v68 true).bind fun v69 =>
      (bif v69 then some (x3, v66.2) else some (.tup [], v66.2)).bind fun v70 =>
      (wantV v68 true).bind fun v71 =>
      (bif v71 then some (x4, v70.2) else some (.tup [], v70.2)).bind fun v72 =>
      (wantV v68 true).bind fun v73 =>
      (bif v73 then some (v67, v72.2) else some (.tup [], v72.2)).bind fun v74 =>
      (wantV v68 true).bind fun v75 =>
      (bif v75 then some (x6, v74.2) else some (.tup [], v74.2)).bind fun v76 =>
      (wantV v68 true).bind fun v77 =>
      (bif v77 then E.C fn_impl_WinnerOf [v70.1, v72.1, v74.1, v76.1] v76.2 else some (.tup [], v76.2)).bind fun v78 =>
      (wantV v68 true).bind fun v79 =>
      (bif v79 then some (x6, v78.2) else some (.tup [], v78.2)).bind fun v80 =>
      (wantV v68 true).bind fun v81 =>
      (bif v81 then pv v80.2 (E.p.bin .neq 3 v78.1 v80.1) else some (.tup [], v80.2)).bind fun v82 =>
      (E.p.pick v68 v82.1 (.bool false)).bind fun v83 =>
      condP v83
       (
        K .ret (sr_2 (.bool false) v82.2))
       (
        (E.p.bin .add 3 x8 (.int .i64 1)).bind fun v84 =>
        K .normal (st0 x3 x4 x5 x6 x7 v84 v82.2)))
     (
      K (.exit 0) (se0_3_4_5_6_7_8_66 x3 x4 x5 x6 x7 x8 v65 h))
theorem body0_eq (E : Env) (K : PX → St → Res) (x3 x4 x5 x6 x7 x8 : PV) (h : PHeap) : ev (E.cx Tryd.prog kl) lp0 (st0 x3 x4 x5 x6 x7 x8 h) K = body0 E K x3 x4 x5 x6 x7 x8 h := by kernel_rfl
theorem after0_se0_3_4_5_6_7_8_66 (E : Env) (x3 x4 x5 x6 x7 x8 x66 : PV) (h : PHeap) : K0 E (kTop Tryd.prog Tryd.f8) (.exit 0) (se0_3_4_5_6_7_8_66 x3 x4 x5 x6 x7 x8 x66 h) =
    (E.C fn_laws_alive [] h).bind fun v62 =>
    (resV v62.1).bind fun v63 =>
    some (v63, v62.2) := by kernel_rfl
theorem top_sr_2 (x2 : PV) (h : PHeap) : kTop Tryd.prog Tryd.f8 .ret (sr_2 x2 h) =
    (resV x2).bind fun v85 =>
    some (v85, h) := by kernel_rfl
noncomputable def main (E : Env) (x0 : PV) (h : PHeap) : Res :=
    (E.p.len 22 x0).bind fun v1 =>
    (E.p.bin .gtr 3 v1 (.int .i64 1048576)).bind fun v2 =>
    condP v2
     (
      (resV (.bool true)).bind fun v3 =>
      some (v3, h))
     (
      (E.C fn_spec_DrawWinningCells [x0] h).bind fun v4 =>
      (E.p.extract v4.1 0).bind fun v5 =>
      (E.p.extract v4.1 1).bind fun v6 =>
      (E.p.extract v4.1 2).bind fun v7 =>
      (E.p.extract v4.1 3).bind fun v8 =>
      (E.C fn_spec_PositionOk [v5, v6, v7] v4.2).bind fun v9 =>
      (E.p.un .not v9.1).bind fun v10 =>
      (wantV v10 false).bind fun v11 =>
      (bif v11 then some (v8, v9.2) else some (.tup [], v9.2)).bind fun v12 =>
      (wantV v10 false).bind fun v13 =>
      (bif v13 then pv v12.2 (E.p.bin .gtr 3 v12.1 (.int .i64 2)) else some (.tup [], v12.2)).bind fun v14 =>
      (E.p.pick v10 (.bool true) v14.1).bind fun v15 =>
      condP v15
       (
        (E.C fn_impl_WinningCells [v5, v6, v7, v8] v14.2).bind fun v16 =>
        (E.p.len 23 v16.1).bind fun v17 =>
        (E.p.bin .eql 3 v17 (.int .i64 0)).bind fun v18 =>
        (wantV v18 true).bind fun v19 =>
        (bif v19 then E.C fn_laws_alive [] v16.2 else some (.tup [], v16.2)).bind fun v20 =>
        (E.p.pick v18 v20.1 (.bool false)).bind fun v21 =>
        (resV v21).bind fun v22 =>
        some (v22, v20.2))
       (
        (E.p.bin .sub 3 (.int .i64 3) v8).bind fun v23 =>
        (E.C fn_impl_WinnerOf [v5, v6, v7, v23] v14.2).bind fun v24 =>
        (E.p.bin .neq 3 v24.1 v8).bind fun v25 =>
        condP v25
         (
          (E.C fn_impl_WinningCells [v5, v6, v7, v23] v24.2).bind fun v26 =>
          (E.p.len 23 v26.1).bind fun v27 =>
          (E.p.bin .gtr 3 v27 (.int .i64 0)).bind fun v28 =>
          (wantV v28 false).bind fun v29 =>
          (bif v29 then some (v5, v26.2) else some (.tup [], v26.2)).bind fun v30 =>
          (wantV v28 false).bind fun v31 =>
          (bif v31 then some (v6, v30.2) else some (.tup [], v30.2)).bind fun v32 =>
          (wantV v28 false).bind fun v33 =>
          (bif v33 then some (v7, v32.2) else some (.tup [], v32.2)).bind fun v34 =>
          (wantV v28 false).bind fun v35 =>
          (bif v35 then some (v23, v34.2) else some (.tup [], v34.2)).bind fun v36 =>
          (wantV v28 false).bind fun v37 =>
          (bif v37 then E.C fn_impl_Joins [v30.1, v32.1, v34.1, v36.1] v36.2 else some (.tup [], v36.2)).bind fun v38 =>
          (E.p.pick v28 (.bool true) v38.1).bind fun v39 =>
          (resV v39).bind fun v40 =>
          some (v40, v38.2))
         (
          loopK (ev (E.cx Tryd.prog laws_FnAnswers.kl) laws_FnAnswers.lp0) E.lf (laws_FnAnswers.st0 v5 v6 v7 v8 v23 (.int .i64 0) v24.2) (laws_FnAnswers.K0 E (kTop Tryd.prog Tryd.f8)))))
theorem main_eq (E : Env) (x0 : PV) (h : PHeap) : runBody (E.cx Tryd.prog kl) Tryd.f8 [x0] h = main E x0 h := by kernel_rfl
theorem call_eq (g : Nat → PV) (lf n : Nat) (x0 : PV) (h : PHeap) : CL g lf (n + 1) fn_laws_FnAnswers [x0] h = main (env g lf n) x0 h := by
  rw [← main_eq]
  show (match Tryd.prog.funcs[8]? with | some fn => if fn.body.isSome then runBody ⟨Tryd.prog, g, call Tryd.prog g KL lf n, KL 8, lf, std Tryd.prog⟩ fn [x0] h else none | none => none) = _
  rw [Tryd.func8]
  kernel_rfl
end laws_FnAnswers
namespace laws_FnWinsGrow
noncomputable def lp0 : Code := (codeAt (bodyOf Tryd.f9) [1, 1, 1, 1, 1, 1, 1, 1, 1, 1, 0, 1, 0, 0])
def st0 (x7 x8 x10 x11 : PV) (h : PHeap) : St := ⟨[.junk, .junk, .junk, .junk, .junk, .junk, .junk, x7, x8, .junk, x10, x11, .junk, .junk, .junk, .junk, .junk, .junk, .junk, .junk, .junk, .junk, .junk, .junk, .junk, .junk, .junk, .junk, .junk, .junk, .junk, .junk, .junk, .junk, .junk, .junk, .junk, .junk, .junk, .junk, .junk, .junk, .junk, .junk, .junk, .junk, .junk, .junk, .junk, .junk, .junk, .junk, .junk, .junk, .junk, .junk, .junk, .junk, .junk, .junk, .junk, .junk, .junk, .junk, .junk, .junk, .junk, .junk, .junk, .junk, .junk, .junk, .junk, .junk, .junk, .junk, .junk, .junk, .junk, .junk, .junk, .junk, .junk, .junk, .junk, .junk, .junk, .junk, .junk, .junk, .junk, .junk, .junk, .junk, .junk, .junk, .junk, .junk, .junk, .junk, .junk], h⟩
def sr_2 (x2 : PV) (h : PHeap) : St := ⟨[.junk, .junk, x2, .junk, .junk, .junk, .junk, .junk, .junk, .junk, .junk, .junk, .junk, .junk, .junk, .junk, .junk, .junk, .junk, .junk, .junk, .junk, .junk, .junk, .junk, .junk, .junk, .junk, .junk, .junk, .junk, .junk, .junk, .junk, .junk, .junk, .junk, .junk, .junk, .junk, .junk, .junk, .junk, .junk, .junk, .junk, .junk, .junk, .junk, .junk, .junk, .junk, .junk, .junk, .junk, .junk, .junk, .junk, .junk, .junk, .junk, .junk, .junk, .junk, .junk, .junk, .junk, .junk, .junk, .junk, .junk, .junk, .junk, .junk, .junk, .junk, .junk, .junk, .junk, .junk, .junk, .junk, .junk, .junk, .junk, .junk, .junk, .junk, .junk, .junk, .junk, .junk, .junk, .junk, .junk, .junk, .junk, .junk, .junk, .junk, .junk], h⟩
def se0_7_8_10_11_80 (x7 x8 x10 x11 x80 : PV) (h : PHeap) : St := ⟨[.junk, .junk, .junk, .junk, .junk, .junk, .junk, x7, x8, .junk, x10, x11, .junk, .junk, .junk, .junk, .junk, .junk, .junk, .junk, .junk, .junk, .junk, .junk, .junk, .junk, .junk, .junk, .junk, .junk, .junk, .junk, .junk, .junk, .junk, .junk, .junk, .junk, .junk, .junk, .junk, .junk, .junk, .junk, .junk, .junk, .junk, .junk, .junk, .junk, .junk, .junk, .junk, .junk, .junk, .junk, .junk, .junk, .junk, .junk, .junk, .junk, .junk, .junk, .junk, .junk, .junk, .junk, .junk, .junk, .junk, .junk, .junk, .junk, .junk, .junk, .junk, .junk, .junk, .junk, x80, .junk, .junk, .junk, .junk, .junk, .junk, .junk, .junk, .junk, .junk, .junk, .junk, .junk, .junk, .junk, .junk, .junk, .junk, .junk, .junk], h⟩
noncomputable def K0 (E : Env) (K : PX → St → Res) : PX → St → Res := (kBlock 0 (kSeq (ev (E.cx Tryd.prog kl) (codeAt (bodyOf Tryd.f9) [1, 1, 1, 1, 1, 1, 1, 1, 1, 1, 1])) K))
@[simp] theorem K0_ret (E : Env) (K : PX → St → Res) (s : St) : K0 E K .ret s = K .ret s := by kernel_rfl
noncomputable def body0 (E : Env) (K : PX → St → Res) (x7 x8 x10 x11 : PV) (h : PHeap) : Res :=
    (E.p.len 23 x7).bind fun v67 =>
    (E.p.bin .lss 3 x11 v67).bind fun v68 =>
    condP v68
     (
      (E.p.indexAddr 23 x7 x11).bind fun v69 =>
      (E.p.load 3 v69 h).bind fun v70 =>
      (E.p.indexAddr 23 x8 (.int .i64 0)).bind fun v71 =>
      (E.p.load 3 v71 h).bind fun v72 =>
      (E.p.bin .neq 3 v70 v72).bind fun v73 =>
      (wantV v73 true).bind fun v74 =>
      (bif v74 then some (x10, h) else some (.tup [], h)).bind fun v75 =>
      (wantV v73 true).bind fun v76 =>
      (bif v76 then some (x7, v75.2) else some (.tup [], v75.2)).bind fun v77 =>
      (wantV v73 true).bind fun v78 =>
      (bif v78 then some (x11, v77.2) else some (.tup [], v77.2)).bind fun v79 =>
      (wantV v73 true).bind fun v80 =>
      (bif v80 then pv v79.2 (E.p.indexAddr 23 v77.1 v79.1) else some (.tup [], v79.2)).bind fun v81 =>
      (wantV v73 true).bind fun v82 =>
      (bif v82 then pv v81.2 (E.p.load 3 v81.1 v81.2) else some (.tup [], v81.2)).bind fun v83 =>
      (wantV v73 true).bind fun v84 =>
      (bif v84 then E.C fn_laws_hasInt [v75.1, v83.1] v83.2 else some (.tup [], v83.2)).bind fun v85 =>
      (E.p.load 3 v71 v85.2).bind fun v86 =>
      ckP (plainEq v72 v86) (
      (E.p.load 3 v69 v85.2).bind fun v87 =>
      ckP (plainEq v70 v87) (
      (wantV v73 true).bind fun v88 =>
      (bif v88 then pv v85.2 (E.p.un .not v85.1) else some (.tup [], v85.2)).bind fun v89 =>
      (E.p.pick v73 v89.1 (.bool false)).bind fun v90 =>
      condP v90
       (
        K .ret (sr_2 (.bool false) v89.2))
       (
        (E.p.bin .add 3 x11 (.int .i64 1)).bind fun v91 =>
        K .normal (st0 x7 x8 x10 v91 v89.2)))))
     (
      K (.exit 0) (se0_7_8_10_11_80 x7 x8 x10 x11 v68 h))
theorem body0_eq (E : Env) (K : PX → St → Res) (x7 x8 x10 x11 : PV) (h : PHeap) : ev (E.cx Tryd.prog kl) lp0 (st0 x7 x8 x10 x11 h) K = body0 E K x7 x8 x10 x11 h := by kernel_rfl
theorem after0_se0_7_8_10_11_80 (E : Env) (x7 x8 x10 x11 x80 : PV) (h : PHeap) : K0 E (kTop Tryd.prog Tryd.f9) (.exit 0) (se0_7_8_10_11_80 x7 x8 x10 x11 x80 h) =
    (E.C fn_laws_alive [] h).bind fun v65 =>
    (resV v65.1).bind fun v66 =>
    some (v66, v65.2) := by kernel_rfl
theorem top_sr_2 (x2 : PV) (h : PHeap) : kTop Tryd.prog Tryd.f9 .ret (sr_2 x2 h) =
    (resV x2).bind fun v92 =>
    some (v92, h) := by kernel_rfl
noncomputable def main (E : Env) (x0 : PV) (h : PHeap) : Res :=
    (E.p.len 22 x0).bind fun v1 =>
    (E.p.bin .gtr 3 v1 (.int .i64 1048576)).bind fun v2 =>
    condP v2
     (
      (resV (.bool true)).bind fun v3 =>
      some (v3, h))
     (
      (E.C fn_spec_DrawWinningCells [x0] h).bind fun v4 =>
      (E.p.extract v4.1 0).bind fun v5 =>
      (E.p.extract v4.1 1).bind fun v6 =>
      (E.p.extract v4.1 2).bind fun v7 =>
      (E.p.extract v4.1 3).bind fun v8 =>
      (E.C fn_impl_WinningCells [v5, v6, v7, v8] v4.2).bind fun v9 =>
      (E.C fn_impl_CellsOf [v5, v6, v7, (.int .i64 0)] v9.2).bind fun v10 =>
      (E.p.len 23 v9.1).bind fun v11 =>
      (E.p.bin .eql 3 v11 (.int .i64 0)).bind fun v12 =>
      (wantV v12 false).bind fun v13 =>
      (bif v13 then some (v10.1, v10.2) else some (.tup [], v10.2)).bind fun v14 =>
      (wantV v12 false).bind fun v15 =>
      (bif v15 then pv v14.2 (E.p.len 23 v14.1) else some (.tup [], v14.2)).bind fun v16 =>
      (wantV v12 false).bind fun v17 =>
      (bif v17 then pv v16.2 (E.p.bin .eql 3 v16.1 (.int .i64 0)) else some (.tup [], v16.2)).bind fun v18 =>
      (E.p.pick v12 (.bool true) v18.1).bind fun v19 =>
      condP v19
       (
        (E.C fn_spec_WinningCells [v5, v6, v7, v8] v18.2).bind fun v20 =>
        (E.p.len 23 v20.1).bind fun v21 =>
        (E.p.len 23 v9.1).bind fun v22 =>
        (E.p.bin .eql 3 v21 v22).bind fun v23 =>
        (wantV v23 true).bind fun v24 =>
        (bif v24 then E.C fn_laws_alive [] v20.2 else some (.tup [], v20.2)).bind fun v25 =>
        (E.p.pick v23 v25.1 (.bool false)).bind fun v26 =>
        (resV v26).bind fun v27 =>
        some (v27, v25.2))
       (
        (E.p.buildSlice 23 0 [] v18.2).bind fun v28 =>
        (E.p.append 23 23 v28.1 v7 v28.2).bind fun v29 =>
        (E.p.indexAddr 23 v10.1 (.int .i64 0)).bind fun v30 =>
        (E.p.load 3 v30 v29.2).bind fun v31 =>
        (E.p.indexAddr 23 v29.1 v31).bind fun v32 =>
        (E.p.store 3 v32 v8 v29.2).bind fun v33 =>
        (E.C fn_impl_Joins [v5, v6, v29.1, v8] v33).bind fun v34 =>
        condP v34.1
         (
          (E.C fn_impl_WinningCells [v5, v6, v29.1, v8] v34.2).bind fun v35 =>
          (E.p.len 23 v35.1).bind fun v36 =>
          (E.p.bin .eql 3 v36 (.int .i64 0)).bind fun v37 =>
          (resV v37).bind fun v38 =>
          some (v38, v35.2))
         (
          (E.C fn_impl_WinningCells [v5, v6, v29.1, v8] v34.2).bind fun v39 =>
          loopK (ev (E.cx Tryd.prog laws_FnWinsGrow.kl) laws_FnWinsGrow.lp0) E.lf (laws_FnWinsGrow.st0 v9.1 v10.1 v39.1 (.int .i64 0) v39.2) (laws_FnWinsGrow.K0 E (kTop Tryd.prog Tryd.f9)))))
theorem main_eq (E : Env) (x0 : PV) (h : PHeap) : runBody (E.cx Tryd.prog kl) Tryd.f9 [x0] h = main E x0 h := by kernel_rfl
theorem call_eq (g : Nat → PV) (lf n : Nat) (x0 : PV) (h : PHeap) : CL g lf (n + 1) fn_laws_FnWinsGrow [x0] h = main (env g lf n) x0 h := by
  rw [← main_eq]
  show (match Tryd.prog.funcs[9]? with | some fn => if fn.body.isSome then runBody ⟨Tryd.prog, g, call Tryd.prog g KL lf n, KL 9, lf, std Tryd.prog⟩ fn [x0] h else none | none => none) = _
  rw [Tryd.func9]
  kernel_rfl
end laws_FnWinsGrow
namespace laws_FnExactMoveOk
noncomputable def main (E : Env) (x0 x1 x2 x3 x4 : PV) (h : PHeap) : Res :=
    (E.p.len 23 x2).bind fun v1 =>
    (E.p.bin .gtr 3 v1 (.int .i64 1048576)).bind fun v2 =>
    condP v2
     (
      (resV (.bool true)).bind fun v3 =>
      some (v3, h))
     (
      (E.C fn_laws_toIntS [x2] h).bind fun v4 =>
      (E.C fn_spec_MoveOk [x0, x1, v4.1, x3, x4] v4.2).bind fun v5 =>
      (E.C fn_laws_toIntS [x2] v5.2).bind fun v6 =>
      (E.C fn_impl_MoveOk [x0, x1, v6.1, x3, x4] v6.2).bind fun v7 =>
      (E.p.bin .neq 4 v7.1 v5.1).bind fun v8 =>
      condP v8
       (
        (resV (.bool false)).bind fun v9 =>
        some (v9, v7.2))
       (
        (E.C fn_laws_toIntS [x2] v7.2).bind fun v10 =>
        (E.C fn_laws_eqIntS [v6.1, v10.1] v10.2).bind fun v11 =>
        (E.p.un .not v11.1).bind fun v12 =>
        condP v12
         (
          (resV (.bool false)).bind fun v13 =>
          some (v13, v11.2))
         (
          (resV (.bool true)).bind fun v14 =>
          some (v14, v11.2))))
theorem main_eq (E : Env) (x0 x1 x2 x3 x4 : PV) (h : PHeap) : runBody (E.cx Tryd.prog kl) Tryd.f10 [x0, x1, x2, x3, x4] h = main E x0 x1 x2 x3 x4 h := by kernel_rfl
theorem call_eq (g : Nat → PV) (lf n : Nat) (x0 x1 x2 x3 x4 : PV) (h : PHeap) : CL g lf (n + 1) fn_laws_FnExactMoveOk [x0, x1, x2, x3, x4] h = main (env g lf n) x0 x1 x2 x3 x4 h := by
  rw [← main_eq]
  show (match Tryd.prog.funcs[10]? with | some fn => if fn.body.isSome then runBody ⟨Tryd.prog, g, call Tryd.prog g KL lf n, KL 10, lf, std Tryd.prog⟩ fn [x0, x1, x2, x3, x4] h else none | none => none) = _
  rw [Tryd.func10]
  kernel_rfl
end laws_FnExactMoveOk
namespace laws_FnExactPlayed
noncomputable def main (E : Env) (x0 x1 x2 x3 x4 : PV) (h : PHeap) : Res :=
    (E.p.len 23 x2).bind fun v1 =>
    (E.p.bin .gtr 3 v1 (.int .i64 1048576)).bind fun v2 =>
    condP v2
     (
      (resV (.bool true)).bind fun v3 =>
      some (v3, h))
     (
      (E.C fn_laws_toIntS [x2] h).bind fun v4 =>
      (E.C fn_spec_Played [x0, x1, v4.1, x3, x4] v4.2).bind fun v5 =>
      (E.p.extract v5.1 0).bind fun v6 =>
      (E.p.extract v5.1 1).bind fun v7 =>
      (E.C fn_laws_toIntS [x2] v5.2).bind fun v8 =>
      (E.C fn_impl_Played [x0, x1, v8.1, x3, x4] v8.2).bind fun v9 =>
      (E.p.extract v9.1 0).bind fun v10 =>
      (E.p.extract v9.1 1).bind fun v11 =>
      (E.C fn_laws_eqIntS [v10, v6] v9.2).bind fun v12 =>
      (E.p.un .not v12.1).bind fun v13 =>
      (wantV v13 false).bind fun v14 =>
      (bif v14 then some (v11, v12.2) else some (.tup [], v12.2)).bind fun v15 =>
      (wantV v13 false).bind fun v16 =>
      (bif v16 then some (v7, v15.2) else some (.tup [], v15.2)).bind fun v17 =>
      (wantV v13 false).bind fun v18 =>
      (bif v18 then pv v17.2 (E.p.bin .neq 4 v15.1 v17.1) else some (.tup [], v17.2)).bind fun v19 =>
      (E.p.pick v13 (.bool true) v19.1).bind fun v20 =>
      condP v20
       (
        (resV (.bool false)).bind fun v21 =>
        some (v21, v19.2))
       (
        (E.C fn_laws_toIntS [x2] v19.2).bind fun v22 =>
        (E.C fn_laws_eqIntS [v8.1, v22.1] v22.2).bind fun v23 =>
        (E.p.un .not v23.1).bind fun v24 =>
        condP v24
         (
          (resV (.bool false)).bind fun v25 =>
          some (v25, v23.2))
         (
          (E.C fn_laws_markIntS [v8.1, (.int .i64 1)] v23.2).bind fun v26 =>
          (E.p.bin .lss 3 v26.1 (.int .i64 0)).bind fun v27 =>
          (wantV v27 false).bind fun v28 =>
          (bif v28 then some (v10, v26.2) else some (.tup [], v26.2)).bind fun v29 =>
          (wantV v27 false).bind fun v30 =>
          (bif v30 then some (v6, v29.2) else some (.tup [], v29.2)).bind fun v31 =>
          (wantV v27 false).bind fun v32 =>
          (bif v32 then E.C fn_laws_eqIntS [v29.1, v31.1] v31.2 else some (.tup [], v31.2)).bind fun v33 =>
          (wantV v27 false).bind fun v34 =>
          (bif v34 then pv v33.2 (E.p.un .not v33.1) else some (.tup [], v33.2)).bind fun v35 =>
          (E.p.pick v27 (.bool true) v35.1).bind fun v36 =>
          (wantV v36 false).bind fun v37 =>
          (bif v37 then some (v11, v35.2) else some (.tup [], v35.2)).bind fun v38 =>
          (wantV v36 false).bind fun v39 =>
          (bif v39 then some (v7, v38.2) else some (.tup [], v38.2)).bind fun v40 =>
          (wantV v36 false).bind fun v41 =>
          (bif v41 then pv v40.2 (E.p.bin .neq 4 v38.1 v40.1) else some (.tup [], v40.2)).bind fun v42 =>
          (E.p.pick v36 (.bool true) v42.1).bind fun v43 =>
          condP v43
           (
            (resV (.bool false)).bind fun v44 =>
            some (v44, v42.2))
           (
            (E.C fn_laws_markIntS [v10, (.int .i64 1)] v42.2).bind fun v45 =>
            (E.C fn_laws_heldIntS [v10, (.int .i64 1)] v45.2).bind fun v46 =>
            (E.p.bin .lss 3 v46.1 (.int .i64 0)).bind fun v47 =>
            condP v47
             (
              (resV (.bool false)).bind fun v48 =>
              some (v48, v46.2))
             (
              (E.p.bin .neq 3 v46.1 v45.1).bind fun v49 =>
              condP v49
               (
                (resV (.bool false)).bind fun v50 =>
                some (v50, v46.2))
               (
                (E.C fn_laws_toIntS [x2] v46.2).bind fun v51 =>
                (E.C fn_impl_Played [x0, x1, v51.1, x3, x4] v51.2).bind fun v52 =>
                (E.p.extract v52.1 0).bind fun v53 =>
                (E.p.extract v52.1 1).bind fun v54 =>
                (E.C fn_laws_eqIntS [v53, v6] v52.2).bind fun v55 =>
                (E.p.un .not v55.1).bind fun v56 =>
                (wantV v56 false).bind fun v57 =>
                (bif v57 then some (v54, v55.2) else some (.tup [], v55.2)).bind fun v58 =>
                (wantV v56 false).bind fun v59 =>
                (bif v59 then some (v7, v58.2) else some (.tup [], v58.2)).bind fun v60 =>
                (wantV v56 false).bind fun v61 =>
                (bif v61 then pv v60.2 (E.p.bin .neq 4 v58.1 v60.1) else some (.tup [], v60.2)).bind fun v62 =>
                (E.p.pick v56 (.bool true) v62.1).bind fun v63 =>
                condP v63
                 (
                  (resV (.bool false)).bind fun v64 =>
                  some (v64, v62.2))
                 (
                  (E.C fn_laws_heldIntS [v10, (.int .i64 1)] v62.2).bind fun v65 =>
                  (E.p.bin .lss 3 v65.1 (.int .i64 0)).bind fun v66 =>
                  condP v66
                   (
                    (resV (.bool false)).bind fun v67 =>
                    some (v67, v65.2))
                   (
                    (E.p.bin .neq 3 v65.1 v45.1).bind fun v68 =>
                    condP v68
                     (
                      (resV (.bool false)).bind fun v69 =>
                      some (v69, v65.2))
                     (
                      (resV (.bool true)).bind fun v70 =>
                      some (v70, v65.2))))))))))
theorem main_eq (E : Env) (x0 x1 x2 x3 x4 : PV) (h : PHeap) : runBody (E.cx Tryd.prog kl) Tryd.f11 [x0, x1, x2, x3, x4] h = main E x0 x1 x2 x3 x4 h := by kernel_rfl
theorem call_eq (g : Nat → PV) (lf n : Nat) (x0 x1 x2 x3 x4 : PV) (h : PHeap) : CL g lf (n + 1) fn_laws_FnExactPlayed [x0, x1, x2, x3, x4] h = main (env g lf n) x0 x1 x2 x3 x4 h := by
  rw [← main_eq]
  show (match Tryd.prog.funcs[11]? with | some fn => if fn.body.isSome then runBody ⟨Tryd.prog, g, call Tryd.prog g KL lf n, KL 11, lf, std Tryd.prog⟩ fn [x0, x1, x2, x3, x4] h else none | none => none) = _
  rw [Tryd.func11]
  kernel_rfl
end laws_FnExactPlayed
namespace laws_FnExactWinnerOf
noncomputable def main (E : Env) (x0 x1 x2 x3 : PV) (h : PHeap) : Res :=
    (E.p.len 23 x2).bind fun v1 =>
    (E.p.bin .gtr 3 v1 (.int .i64 1048576)).bind fun v2 =>
    condP v2
     (
      (resV (.bool true)).bind fun v3 =>
      some (v3, h))
     (
      (E.C fn_laws_toIntS [x2] h).bind fun v4 =>
      (E.C fn_spec_WinnerOf [x0, x1, v4.1, x3] v4.2).bind fun v5 =>
      (E.C fn_laws_toIntS [x2] v5.2).bind fun v6 =>
      (E.C fn_impl_WinnerOf [x0, x1, v6.1, x3] v6.2).bind fun v7 =>
      (E.p.bin .neq 3 v7.1 v5.1).bind fun v8 =>
      condP v8
       (
        (resV (.bool false)).bind fun v9 =>
        some (v9, v7.2))
       (
        (E.C fn_laws_toIntS [x2] v7.2).bind fun v10 =>
        (E.C fn_laws_eqIntS [v6.1, v10.1] v10.2).bind fun v11 =>
        (E.p.un .not v11.1).bind fun v12 =>
        condP v12
         (
          (resV (.bool false)).bind fun v13 =>
          some (v13, v11.2))
         (
          (resV (.bool true)).bind fun v14 =>
          some (v14, v11.2))))
theorem main_eq (E : Env) (x0 x1 x2 x3 : PV) (h : PHeap) : runBody (E.cx Tryd.prog kl) Tryd.f12 [x0, x1, x2, x3] h = main E x0 x1 x2 x3 h := by kernel_rfl
theorem call_eq (g : Nat → PV) (lf n : Nat) (x0 x1 x2 x3 : PV) (h : PHeap) : CL g lf (n + 1) fn_laws_FnExactWinnerOf [x0, x1, x2, x3] h = main (env g lf n) x0 x1 x2 x3 h := by
  rw [← main_eq]
  show (match Tryd.prog.funcs[12]? with | some fn => if fn.body.isSome then runBody ⟨Tryd.prog, g, call Tryd.prog g KL lf n, KL 12, lf, std Tryd.prog⟩ fn [x0, x1, x2, x3] h else none | none => none) = _
  rw [Tryd.func12]
  kernel_rfl
end laws_FnExactWinnerOf
namespace laws_FnExactWinningCells
noncomputable def main (E : Env) (x0 x1 x2 x3 : PV) (h : PHeap) : Res :=
    (E.p.len 23 x2).bind fun v1 =>
    (E.p.bin .gtr 3 v1 (.int .i64 1048576)).bind fun v2 =>
    condP v2
     (
      (resV (.bool true)).bind fun v3 =>
      some (v3, h))
     (
      (E.C fn_laws_toIntS [x2] h).bind fun v4 =>
      (E.C fn_spec_WinningCells [x0, x1, v4.1, x3] v4.2).bind fun v5 =>
      (E.C fn_laws_toIntS [x2] v5.2).bind fun v6 =>
      (E.C fn_impl_WinningCells [x0, x1, v6.1, x3] v6.2).bind fun v7 =>
      (E.C fn_laws_eqIntS [v7.1, v5.1] v7.2).bind fun v8 =>
      (E.p.un .not v8.1).bind fun v9 =>
      condP v9
       (
        (resV (.bool false)).bind fun v10 =>
        some (v10, v8.2))
       (
        (E.C fn_laws_toIntS [x2] v8.2).bind fun v11 =>
        (E.C fn_laws_eqIntS [v6.1, v11.1] v11.2).bind fun v12 =>
        (E.p.un .not v12.1).bind fun v13 =>
        condP v13
         (
          (resV (.bool false)).bind fun v14 =>
          some (v14, v12.2))
         (
          (E.C fn_laws_markIntS [v6.1, (.int .i64 1)] v12.2).bind fun v15 =>
          (E.p.bin .lss 3 v15.1 (.int .i64 0)).bind fun v16 =>
          (wantV v16 false).bind fun v17 =>
          (bif v17 then some (v7.1, v15.2) else some (.tup [], v15.2)).bind fun v18 =>
          (wantV v16 false).bind fun v19 =>
          (bif v19 then some (v5.1, v18.2) else some (.tup [], v18.2)).bind fun v20 =>
          (wantV v16 false).bind fun v21 =>
          (bif v21 then E.C fn_laws_eqIntS [v18.1, v20.1] v20.2 else some (.tup [], v20.2)).bind fun v22 =>
          (wantV v16 false).bind fun v23 =>
          (bif v23 then pv v22.2 (E.p.un .not v22.1) else some (.tup [], v22.2)).bind fun v24 =>
          (E.p.pick v16 (.bool true) v24.1).bind fun v25 =>
          condP v25
           (
            (resV (.bool false)).bind fun v26 =>
            some (v26, v24.2))
           (
            (E.C fn_laws_markIntS [v7.1, (.int .i64 1)] v24.2).bind fun v27 =>
            (E.C fn_laws_heldIntS [v7.1, (.int .i64 1)] v27.2).bind fun v28 =>
            (E.p.bin .lss 3 v28.1 (.int .i64 0)).bind fun v29 =>
            condP v29
             (
              (resV (.bool false)).bind fun v30 =>
              some (v30, v28.2))
             (
              (E.p.bin .neq 3 v28.1 v27.1).bind fun v31 =>
              condP v31
               (
                (resV (.bool false)).bind fun v32 =>
                some (v32, v28.2))
               (
                (E.C fn_laws_toIntS [x2] v28.2).bind fun v33 =>
                (E.C fn_impl_WinningCells [x0, x1, v33.1, x3] v33.2).bind fun v34 =>
                (E.C fn_laws_eqIntS [v34.1, v5.1] v34.2).bind fun v35 =>
                (E.p.un .not v35.1).bind fun v36 =>
                condP v36
                 (
                  (resV (.bool false)).bind fun v37 =>
                  some (v37, v35.2))
                 (
                  (E.C fn_laws_heldIntS [v7.1, (.int .i64 1)] v35.2).bind fun v38 =>
                  (E.p.bin .lss 3 v38.1 (.int .i64 0)).bind fun v39 =>
                  condP v39
                   (
                    (resV (.bool false)).bind fun v40 =>
                    some (v40, v38.2))
                   (
                    (E.p.bin .neq 3 v38.1 v27.1).bind fun v41 =>
                    condP v41
                     (
                      (resV (.bool false)).bind fun v42 =>
                      some (v42, v38.2))
                     (
                      (resV (.bool true)).bind fun v43 =>
                      some (v43, v38.2))))))))))
theorem main_eq (E : Env) (x0 x1 x2 x3 : PV) (h : PHeap) : runBody (E.cx Tryd.prog kl) Tryd.f13 [x0, x1, x2, x3] h = main E x0 x1 x2 x3 h := by kernel_rfl
theorem call_eq (g : Nat → PV) (lf n : Nat) (x0 x1 x2 x3 : PV) (h : PHeap) : CL g lf (n + 1) fn_laws_FnExactWinningCells [x0, x1, x2, x3] h = main (env g lf n) x0 x1 x2 x3 h := by
  rw [← main_eq]
  show (match Tryd.prog.funcs[13]? with | some fn => if fn.body.isSome then runBody ⟨Tryd.prog, g, call Tryd.prog g KL lf n, KL 13, lf, std Tryd.prog⟩ fn [x0, x1, x2, x3] h else none | none => none) = _
  rw [Tryd.func13]
  kernel_rfl
end laws_FnExactWinningCells
namespace laws_FnExactLinePlayed
noncomputable def main (E : Env) (x0 x1 x2 x3 : PV) (h : PHeap) : Res :=
    (E.p.len 23 x2).bind fun v1 =>
    (E.p.bin .gtr 3 v1 (.int .i64 1048576)).bind fun v2 =>
    condP v2
     (
      (resV (.bool true)).bind fun v3 =>
      some (v3, h))
     (
      (E.C fn_laws_toIntS [x2] h).bind fun v4 =>
      (E.C fn_spec_LinePlayed [x0, x1, v4.1, x3] v4.2).bind fun v5 =>
      (E.C fn_laws_toIntS [x2] v5.2).bind fun v6 =>
      (E.C fn_impl_LinePlayed [x0, x1, v6.1, x3] v6.2).bind fun v7 =>
      (E.C fn_laws_eqIntS [v7.1, v5.1] v7.2).bind fun v8 =>
      (E.p.un .not v8.1).bind fun v9 =>
      condP v9
       (
        (resV (.bool false)).bind fun v10 =>
        some (v10, v8.2))
       (
        (E.C fn_laws_toIntS [x2] v8.2).bind fun v11 =>
        (E.C fn_laws_eqIntS [v6.1, v11.1] v11.2).bind fun v12 =>
        (E.p.un .not v12.1).bind fun v13 =>
        condP v13
         (
          (resV (.bool false)).bind fun v14 =>
          some (v14, v12.2))
         (
          (E.C fn_laws_markIntS [v6.1, (.int .i64 1)] v12.2).bind fun v15 =>
          (E.p.bin .lss 3 v15.1 (.int .i64 0)).bind fun v16 =>
          (wantV v16 false).bind fun v17 =>
          (bif v17 then some (v7.1, v15.2) else some (.tup [], v15.2)).bind fun v18 =>
          (wantV v16 false).bind fun v19 =>
          (bif v19 then some (v5.1, v18.2) else some (.tup [], v18.2)).bind fun v20 =>
          (wantV v16 false).bind fun v21 =>
          (bif v21 then E.C fn_laws_eqIntS [v18.1, v20.1] v20.2 else some (.tup [], v20.2)).bind fun v22 =>
          (wantV v16 false).bind fun v23 =>
          (bif v23 then pv v22.2 (E.p.un .not v22.1) else some (.tup [], v22.2)).bind fun v24 =>
          (E.p.pick v16 (.bool true) v24.1).bind fun v25 =>
          condP v25
           (
            (resV (.bool false)).bind fun v26 =>
            some (v26, v24.2))
           (
            (E.C fn_laws_markIntS [v7.1, (.int .i64 1)] v24.2).bind fun v27 =>
            (E.C fn_laws_heldIntS [v7.1, (.int .i64 1)] v27.2).bind fun v28 =>
            (E.p.bin .lss 3 v28.1 (.int .i64 0)).bind fun v29 =>
            condP v29
             (
              (resV (.bool false)).bind fun v30 =>
              some (v30, v28.2))
             (
              (E.p.bin .neq 3 v28.1 v27.1).bind fun v31 =>
              condP v31
               (
                (resV (.bool false)).bind fun v32 =>
                some (v32, v28.2))
               (
                (E.C fn_laws_toIntS [x2] v28.2).bind fun v33 =>
                (E.C fn_impl_LinePlayed [x0, x1, v33.1, x3] v33.2).bind fun v34 =>
                (E.C fn_laws_eqIntS [v34.1, v5.1] v34.2).bind fun v35 =>
                (E.p.un .not v35.1).bind fun v36 =>
                condP v36
                 (
                  (resV (.bool false)).bind fun v37 =>
                  some (v37, v35.2))
                 (
                  (E.C fn_laws_heldIntS [v7.1, (.int .i64 1)] v35.2).bind fun v38 =>
                  (E.p.bin .lss 3 v38.1 (.int .i64 0)).bind fun v39 =>
                  condP v39
                   (
                    (resV (.bool false)).bind fun v40 =>
                    some (v40, v38.2))
                   (
                    (E.p.bin .neq 3 v38.1 v27.1).bind fun v41 =>
                    condP v41
                     (
                      (resV (.bool false)).bind fun v42 =>
                      some (v42, v38.2))
                     (
                      (resV (.bool true)).bind fun v43 =>
                      some (v43, v38.2))))))))))
theorem main_eq (E : Env) (x0 x1 x2 x3 : PV) (h : PHeap) : runBody (E.cx Tryd.prog kl) Tryd.f14 [x0, x1, x2, x3] h = main E x0 x1 x2 x3 h := by kernel_rfl
theorem call_eq (g : Nat → PV) (lf n : Nat) (x0 x1 x2 x3 : PV) (h : PHeap) : CL g lf (n + 1) fn_laws_FnExactLinePlayed [x0, x1, x2, x3] h = main (env g lf n) x0 x1 x2 x3 h := by
  rw [← main_eq]
  show (match Tryd.prog.funcs[14]? with | some fn => if fn.body.isSome then runBody ⟨Tryd.prog, g, call Tryd.prog g KL lf n, KL 14, lf, std Tryd.prog⟩ fn [x0, x1, x2, x3] h else none | none => none) = _
  rw [Tryd.func14]
  kernel_rfl
end laws_FnExactLinePlayed
namespace spec_DrawMoveOk
noncomputable def main (E : Env) (x0 : PV) (h : PHeap) : Res :=
    (E.C fn_spec_l20Open [x0] h).bind fun v1 =>
    (E.C fn_spec_l20Move [v1.1] v1.2).bind fun v2 =>
    (E.p.extract v2.1 0).bind fun v3 =>
    (E.p.extract v2.1 1).bind fun v4 =>
    (E.p.extract v2.1 2).bind fun v5 =>
    (E.p.extract v2.1 3).bind fun v6 =>
    (E.p.extract v2.1 4).bind fun v7 =>
    (resV v3).bind fun v8 =>
    (resV v4).bind fun v9 =>
    (resV v5).bind fun v10 =>
    (resV v6).bind fun v11 =>
    (resV v7).bind fun v12 =>
    some (.tup [v8, v9, v10, v11, v12], v2.2)
theorem main_eq (E : Env) (x0 : PV) (h : PHeap) : runBody (E.cx Tryd.prog kl) Tryd.f15 [x0] h = main E x0 h := by kernel_rfl
theorem call_eq (g : Nat → PV) (lf n : Nat) (x0 : PV) (h : PHeap) : CL g lf (n + 1) fn_spec_DrawMoveOk [x0] h = main (env g lf n) x0 h := by
  rw [← main_eq]
  show (match Tryd.prog.funcs[15]? with | some fn => if fn.body.isSome then runBody ⟨Tryd.prog, g, call Tryd.prog g KL lf n, KL 15, lf, std Tryd.prog⟩ fn [x0] h else none | none => none) = _
  rw [Tryd.func15]
  kernel_rfl
end spec_DrawMoveOk
namespace impl_MoveOk
noncomputable def main (E : Env) (x0 x1 x2 x3 x4 : PV) (h : PHeap) : Res :=
    (E.C fn_impl_PositionOk [x0, x1, x2] h).bind fun v1 =>
    (E.p.un .not v1.1).bind fun v2 =>
    (wantV v2 false).bind fun v3 =>
    (bif v3 then some (x4, v1.2) else some (.tup [], v1.2)).bind fun v4 =>
    (wantV v2 false).bind fun v5 =>
    (bif v5 then E.C fn_impl_playerOk [v4.1] v4.2 else some (.tup [], v4.2)).bind fun v6 =>
    (wantV v2 false).bind fun v7 =>
    (bif v7 then pv v6.2 (E.p.un .not v6.1) else some (.tup [], v6.2)).bind fun v8 =>
    (E.p.pick v2 (.bool true) v8.1).bind fun v9 =>
    (wantV v9 false).bind fun v10 =>
    (bif v10 then some (x0, v8.2) else some (.tup [], v8.2)).bind fun v11 =>
    (wantV v9 false).bind fun v12 =>
    (bif v12 then some (x1, v11.2) else some (.tup [], v11.2)).bind fun v13 =>
    (wantV v9 false).bind fun v14 =>
    (bif v14 then some (x3, v13.2) else some (.tup [], v13.2)).bind fun v15 =>
    (wantV v9 false).bind fun v16 =>
    (bif v16 then E.C fn_impl_cellOk [v11.1, v13.1, v15.1] v15.2 else some (.tup [], v15.2)).bind fun v17 =>
    (wantV v9 false).bind fun v18 =>
    (bif v18 then pv v17.2 (E.p.un .not v17.1) else some (.tup [], v17.2)).bind fun v19 =>
    (E.p.pick v9 (.bool true) v19.1).bind fun v20 =>
    condP v20
     (
      (resV (.bool false)).bind fun v21 =>
      some (v21, v19.2))
     (
      (E.p.indexAddr 23 x2 x3).bind fun v22 =>
      (E.p.load 3 v22 v19.2).bind fun v23 =>
      (E.p.bin .eql 3 v23 (.int .i64 0)).bind fun v24 =>
      (wantV v24 true).bind fun v25 =>
      (bif v25 then some (x0, v19.2) else some (.tup [], v19.2)).bind fun v26 =>
      (wantV v24 true).bind fun v27 =>
      (bif v27 then some (x1, v26.2) else some (.tup [], v26.2)).bind fun v28 =>
      (wantV v24 true).bind fun v29 =>
      (bif v29 then some (x2, v28.2) else some (.tup [], v28.2)).bind fun v30 =>
      (wantV v24 true).bind fun v31 =>
      (bif v31 then E.C fn_impl_Joins [v26.1, v28.1, v30.1, (.int .i64 1)] v30.2 else some (.tup [], v30.2)).bind fun v32 =>
      (wantV v24 true).bind fun v33 =>
      (bif v33 then pv v32.2 (E.p.un .not v32.1) else some (.tup [], v32.2)).bind fun v34 =>
      (E.p.pick v24 v34.1 (.bool false)).bind fun v35 =>
      (wantV v35 true).bind fun v36 =>
      (bif v36 then some (x0, v34.2) else some (.tup [], v34.2)).bind fun v37 =>
      (wantV v35 true).bind fun v38 =>
      (bif v38 then some (x1, v37.2) else some (.tup [], v37.2)).bind fun v39 =>
      (wantV v35 true).bind fun v40 =>
      (bif v40 then some (x2, v39.2) else some (.tup [], v39.2)).bind fun v41 =>
      (wantV v35 true).bind fun v42 =>
      (bif v42 then E.C fn_impl_Joins [v37.1, v39.1, v41.1, (.int .i64 2)] v41.2 else some (.tup [], v41.2)).bind fun v43 =>
      (wantV v35 true).bind fun v44 =>
      (bif v44 then pv v43.2 (E.p.un .not v43.1) else some (.tup [], v43.2)).bind fun v45 =>
      (E.p.pick v35 v45.1 (.bool false)).bind fun v46 =>
      (resV v46).bind fun v47 =>
      some (v47, v45.2))
theorem main_eq (E : Env) (x0 x1 x2 x3 x4 : PV) (h : PHeap) : runBody (E.cx Tryd.prog kl) Tryd.f16 [x0, x1, x2, x3, x4] h = main E x0 x1 x2 x3 x4 h := by kernel_rfl
theorem call_eq (g : Nat → PV) (lf n : Nat) (x0 x1 x2 x3 x4 : PV) (h : PHeap) : CL g lf (n + 1) fn_impl_MoveOk [x0, x1, x2, x3, x4] h = main (env g lf n) x0 x1 x2 x3 x4 h := by
  rw [← main_eq]
  show (match Tryd.prog.funcs[16]? with | some fn => if fn.body.isSome then runBody ⟨Tryd.prog, g, call Tryd.prog g KL lf n, KL 16, lf, std Tryd.prog⟩ fn [x0, x1, x2, x3, x4] h else none | none => none) = _
  rw [Tryd.func16]
  kernel_rfl
end impl_MoveOk
namespace spec_MoveOk
noncomputable def main (E : Env) (x0 x1 x2 x3 x4 : PV) (h : PHeap) : Res :=
    (E.C fn_spec_PositionOk [x0, x1, x2] h).bind fun v1 =>
    (E.p.un .not v1.1).bind fun v2 =>
    (wantV v2 false).bind fun v3 =>
    (bif v3 then some (x4, v1.2) else some (.tup [], v1.2)).bind fun v4 =>
    (wantV v2 false).bind fun v5 =>
    (bif v5 then E.C fn_spec_l1In [v4.1, (.int .i64 1), (.int .i64 2)] v4.2 else some (.tup [], v4.2)).bind fun v6 =>
    (wantV v2 false).bind fun v7 =>
    (bif v7 then pv v6.2 (E.p.un .not v6.1) else some (.tup [], v6.2)).bind fun v8 =>
    (E.p.pick v2 (.bool true) v8.1).bind fun v9 =>
    (wantV v9 false).bind fun v10 =>
    (bif v10 then some (x3, v8.2) else some (.tup [], v8.2)).bind fun v11 =>
    (wantV v9 false).bind fun v12 =>
    (bif v12 then some (x2, v11.2) else some (.tup [], v11.2)).bind fun v13 =>
    (wantV v9 false).bind fun v14 =>
    (bif v14 then pv v13.2 (E.p.len 23 v13.1) else some (.tup [], v13.2)).bind fun v15 =>
    (wantV v9 false).bind fun v16 =>
    (bif v16 then pv v15.2 (E.p.bin .sub 3 v15.1 (.int .i64 1)) else some (.tup [], v15.2)).bind fun v17 =>
    (wantV v9 false).bind fun v18 =>
    (bif v18 then E.C fn_spec_l1In [v11.1, (.int .i64 0), v17.1] v17.2 else some (.tup [], v17.2)).bind fun v19 =>
    (wantV v9 false).bind fun v20 =>
    (bif v20 then pv v19.2 (E.p.un .not v19.1) else some (.tup [], v19.2)).bind fun v21 =>
    (E.p.pick v9 (.bool true) v21.1).bind fun v22 =>
    condP v22
     (
      (resV (.bool false)).bind fun v23 =>
      some (v23, v21.2))
     (
      (E.p.indexAddr 23 x2 x3).bind fun v24 =>
      (E.p.load 3 v24 v21.2).bind fun v25 =>
      (E.p.bin .eql 3 v25 (.int .i64 0)).bind fun v26 =>
      (wantV v26 true).bind fun v27 =>
      (bif v27 then some (x0, v21.2) else some (.tup [], v21.2)).bind fun v28 =>
      (wantV v26 true).bind fun v29 =>
      (bif v29 then some (x1, v28.2) else some (.tup [], v28.2)).bind fun v30 =>
      (wantV v26 true).bind fun v31 =>
      (bif v31 then some (x2, v30.2) else some (.tup [], v30.2)).bind fun v32 =>
      (wantV v26 true).bind fun v33 =>
      (bif v33 then E.C fn_spec_Joins [v28.1, v30.1, v32.1, (.int .i64 1)] v32.2 else some (.tup [], v32.2)).bind fun v34 =>
      (wantV v26 true).bind fun v35 =>
      (bif v35 then pv v34.2 (E.p.un .not v34.1) else some (.tup [], v34.2)).bind fun v36 =>
      (E.p.pick v26 v36.1 (.bool false)).bind fun v37 =>
      (wantV v37 true).bind fun v38 =>
      (bif v38 then some (x0, v36.2) else some (.tup [], v36.2)).bind fun v39 =>
      (wantV v37 true).bind fun v40 =>
      (bif v40 then some (x1, v39.2) else some (.tup [], v39.2)).bind fun v41 =>
      (wantV v37 true).bind fun v42 =>
      (bif v42 then some (x2, v41.2) else some (.tup [], v41.2)).bind fun v43 =>
      (wantV v37 true).bind fun v44 =>
      (bif v44 then E.C fn_spec_Joins [v39.1, v41.1, v43.1, (.int .i64 2)] v43.2 else some (.tup [], v43.2)).bind fun v45 =>
      (wantV v37 true).bind fun v46 =>
      (bif v46 then pv v45.2 (E.p.un .not v45.1) else some (.tup [], v45.2)).bind fun v47 =>
      (E.p.pick v37 v47.1 (.bool false)).bind fun v48 =>
      (resV v48).bind fun v49 =>
      some (v49, v47.2))
theorem main_eq (E : Env) (x0 x1 x2 x3 x4 : PV) (h : PHeap) : runBody (E.cx Tryd.prog kl) Tryd.f17 [x0, x1, x2, x3, x4] h = main E x0 x1 x2 x3 x4 h := by kernel_rfl
theorem call_eq (g : Nat → PV) (lf n : Nat) (x0 x1 x2 x3 x4 : PV) (h : PHeap) : CL g lf (n + 1) fn_spec_MoveOk [x0, x1, x2, x3, x4] h = main (env g lf n) x0 x1 x2 x3 x4 h := by
  rw [← main_eq]
  show (match Tryd.prog.funcs[17]? with | some fn => if fn.body.isSome then runBody ⟨Tryd.prog, g, call Tryd.prog g KL lf n, KL 17, lf, std Tryd.prog⟩ fn [x0, x1, x2, x3, x4] h else none | none => none) = _
  rw [Tryd.func17]
  kernel_rfl
end spec_MoveOk
namespace laws_alive
noncomputable def main (E : Env) (h : PHeap) : Res :=
    (E.C fn_impl_BoardOk [(.int .i64 2), (.int .i64 2)] h).bind fun v1 =>
    (wantV v1.1 true).bind fun v2 =>
    (bif v2 then E.C fn_impl_BoardOk [(.int .i64 0), (.int .i64 2)] v1.2 else some (.tup [], v1.2)).bind fun v3 =>
    (wantV v1.1 true).bind fun v4 =>
    (bif v4 then pv v3.2 (E.p.un .not v3.1) else some (.tup [], v3.2)).bind fun v5 =>
    (E.p.pick v1.1 v5.1 (.bool false)).bind fun v6 =>
    (resV v6).bind fun v7 =>
    some (v7, v5.2)
theorem main_eq (E : Env) (h : PHeap) : runBody (E.cx Tryd.prog kl) Tryd.f18 [] h = main E  h := by kernel_rfl
theorem call_eq (g : Nat → PV) (lf n : Nat) (h : PHeap) : CL g lf (n + 1) fn_laws_alive [] h = main (env g lf n)  h := by
  rw [← main_eq]
  show (match Tryd.prog.funcs[18]? with | some fn => if fn.body.isSome then runBody ⟨Tryd.prog, g, call Tryd.prog g KL lf n, KL 18, lf, std Tryd.prog⟩ fn [] h else none | none => none) = _
  rw [Tryd.func18]
  kernel_rfl
end laws_alive
namespace impl_Joins
noncomputable def main (E : Env) (x0 x1 x2 x3 : PV) (h : PHeap) : Res :=
    (E.C fn_impl_PositionOk [x0, x1, x2] h).bind fun v1 =>
    (E.p.un .not v1.1).bind fun v2 =>
    (wantV v2 false).bind fun v3 =>
    (bif v3 then some (x3, v1.2) else some (.tup [], v1.2)).bind fun v4 =>
    (wantV v2 false).bind fun v5 =>
    (bif v5 then E.C fn_impl_playerOk [v4.1] v4.2 else some (.tup [], v4.2)).bind fun v6 =>
    (wantV v2 false).bind fun v7 =>
    (bif v7 then pv v6.2 (E.p.un .not v6.1) else some (.tup [], v6.2)).bind fun v8 =>
    (E.p.pick v2 (.bool true) v8.1).bind fun v9 =>
    condP v9
     (
      (resV (.bool false)).bind fun v10 =>
      some (v10, v8.2))
     (
      (E.C fn_impl_sidesOf [x0, x1, x3] v8.2).bind fun v11 =>
      (E.p.extract v11.1 0).bind fun v12 =>
      (E.p.extract v11.1 1).bind fun v13 =>
      (E.C fn_impl_setOf [x2, x3] v11.2).bind fun v14 =>
      (E.p.bin .and 3 v12 v14.1).bind fun v15 =>
      (E.C fn_impl_grown [x0, x1, v15, v14.1] v14.2).bind fun v16 =>
      (E.p.bin .and 3 v16.1 v13).bind fun v17 =>
      (E.p.bin .neq 3 v17 (.int .i64 0)).bind fun v18 =>
      (resV v18).bind fun v19 =>
      some (v19, v16.2))
theorem main_eq (E : Env) (x0 x1 x2 x3 : PV) (h : PHeap) : runBody (E.cx Tryd.prog kl) Tryd.f19 [x0, x1, x2, x3] h = main E x0 x1 x2 x3 h := by kernel_rfl
theorem call_eq (g : Nat → PV) (lf n : Nat) (x0 x1 x2 x3 : PV) (h : PHeap) : CL g lf (n + 1) fn_impl_Joins [x0, x1, x2, x3] h = main (env g lf n) x0 x1 x2 x3 h := by
  rw [← main_eq]
  show (match Tryd.prog.funcs[19]? with | some fn => if fn.body.isSome then runBody ⟨Tryd.prog, g, call Tryd.prog g KL lf n, KL 19, lf, std Tryd.prog⟩ fn [x0, x1, x2, x3] h else none | none => none) = _
  rw [Tryd.func19]
  kernel_rfl
end impl_Joins
namespace spec_DrawPlayed
noncomputable def main (E : Env) (x0 : PV) (h : PHeap) : Res :=
    (E.C fn_spec_l20Open [x0] h).bind fun v1 =>
    (E.C fn_spec_l20Move [v1.1] v1.2).bind fun v2 =>
    (E.p.extract v2.1 0).bind fun v3 =>
    (E.p.extract v2.1 1).bind fun v4 =>
    (E.p.extract v2.1 2).bind fun v5 =>
    (E.p.extract v2.1 3).bind fun v6 =>
    (E.p.extract v2.1 4).bind fun v7 =>
    (resV v3).bind fun v8 =>
    (resV v4).bind fun v9 =>
    (resV v5).bind fun v10 =>
    (resV v6).bind fun v11 =>
    (resV v7).bind fun v12 =>
    some (.tup [v8, v9, v10, v11, v12], v2.2)
theorem main_eq (E : Env) (x0 : PV) (h : PHeap) : runBody (E.cx Tryd.prog kl) Tryd.f20 [x0] h = main E x0 h := by kernel_rfl
theorem call_eq (g : Nat → PV) (lf n : Nat) (x0 : PV) (h : PHeap) : CL g lf (n + 1) fn_spec_DrawPlayed [x0] h = main (env g lf n) x0 h := by
  rw [← main_eq]
  show (match Tryd.prog.funcs[20]? with | some fn => if fn.body.isSome then runBody ⟨Tryd.prog, g, call Tryd.prog g KL lf n, KL 20, lf, std Tryd.prog⟩ fn [x0] h else none | none => none) = _
  rw [Tryd.func20]
  kernel_rfl
end spec_DrawPlayed
namespace impl_Played
noncomputable def main (E : Env) (x0 x1 x2 x3 x4 : PV) (h : PHeap) : Res :=
    (E.C fn_impl_MoveOk [x0, x1, x2, x3, x4] h).bind fun v1 =>
    (E.p.un .not v1.1).bind fun v2 =>
    condP v2
     (
      (resV .nilsl).bind fun v3 =>
      (resV (.bool false)).bind fun v4 =>
      some (.tup [v3, v4], v1.2))
     (
      (E.C fn_slices_Clone___int_int_ [x2] v1.2).bind fun v5 =>
      (E.p.indexAddr 23 v5.1 x3).bind fun v6 =>
      (E.p.store 3 v6 x4 v5.2).bind fun v7 =>
      (resV v5.1).bind fun v8 =>
      (resV (.bool true)).bind fun v9 =>
      some (.tup [v8, v9], v7))
theorem main_eq (E : Env) (x0 x1 x2 x3 x4 : PV) (h : PHeap) : runBody (E.cx Tryd.prog kl) Tryd.f21 [x0, x1, x2, x3, x4] h = main E x0 x1 x2 x3 x4 h := by kernel_rfl
theorem call_eq (g : Nat → PV) (lf n : Nat) (x0 x1 x2 x3 x4 : PV) (h : PHeap) : CL g lf (n + 1) fn_impl_Played [x0, x1, x2, x3, x4] h = main (env g lf n) x0 x1 x2 x3 x4 h := by
  rw [← main_eq]
  show (match Tryd.prog.funcs[21]? with | some fn => if fn.body.isSome then runBody ⟨Tryd.prog, g, call Tryd.prog g KL lf n, KL 21, lf, std Tryd.prog⟩ fn [x0, x1, x2, x3, x4] h else none | none => none) = _
  rw [Tryd.func21]
  kernel_rfl
end impl_Played
namespace spec_Played
noncomputable def main (E : Env) (x0 x1 x2 x3 x4 : PV) (h : PHeap) : Res :=
    (E.C fn_spec_MoveOk [x0, x1, x2, x3, x4] h).bind fun v1 =>
    (E.p.un .not v1.1).bind fun v2 =>
    condP v2
     (
      (E.p.buildSlice 23 0 [] v1.2).bind fun v3 =>
      (resV v3.1).bind fun v4 =>
      (resV (.bool false)).bind fun v5 =>
      some (.tup [v4, v5], v3.2))
     (
      (E.p.buildSlice 23 0 [] v1.2).bind fun v6 =>
      (E.p.append 23 23 v6.1 x2 v6.2).bind fun v7 =>
      (E.p.indexAddr 23 v7.1 x3).bind fun v8 =>
      (E.p.store 3 v8 x4 v7.2).bind fun v9 =>
      (resV v7.1).bind fun v10 =>
      (resV (.bool true)).bind fun v11 =>
      some (.tup [v10, v11], v9))
theorem main_eq (E : Env) (x0 x1 x2 x3 x4 : PV) (h : PHeap) : runBody (E.cx Tryd.prog kl) Tryd.f22 [x0, x1, x2, x3, x4] h = main E x0 x1 x2 x3 x4 h := by kernel_rfl
theorem call_eq (g : Nat → PV) (lf n : Nat) (x0 x1 x2 x3 x4 : PV) (h : PHeap) : CL g lf (n + 1) fn_spec_Played [x0, x1, x2, x3, x4] h = main (env g lf n) x0 x1 x2 x3 x4 h := by
  rw [← main_eq]
  show (match Tryd.prog.funcs[22]? with | some fn => if fn.body.isSome then runBody ⟨Tryd.prog, g, call Tryd.prog g KL lf n, KL 22, lf, std Tryd.prog⟩ fn [x0, x1, x2, x3, x4] h else none | none => none) = _
  rw [Tryd.func22]
  kernel_rfl
end spec_Played
namespace laws_sameInts
noncomputable def lp0 : Code := (codeAt (bodyOf Tryd.f23) [1, 1, 0, 1, 0, 0])
def st0 (x0 x1 x5 : PV) (h : PHeap) : St := ⟨[x0, x1, .junk, .junk, .junk, x5, .junk, .junk, .junk, .junk, .junk, .junk, .junk, .junk, .junk, .junk, .junk, .junk, .junk, .junk, .junk, .junk, .junk, .junk, .junk, .junk], h⟩
def sr_4 (x4 : PV) (h : PHeap) : St := ⟨[.junk, .junk, .junk, .junk, x4, .junk, .junk, .junk, .junk, .junk, .junk, .junk, .junk, .junk, .junk, .junk, .junk, .junk, .junk, .junk, .junk, .junk, .junk, .junk, .junk, .junk], h⟩
def se0_0_1_5_14 (x0 x1 x5 x14 : PV) (h : PHeap) : St := ⟨[x0, x1, .junk, .junk, .junk, x5, .junk, .junk, .junk, .junk, .junk, .junk, .junk, .junk, x14, .junk, .junk, .junk, .junk, .junk, .junk, .junk, .junk, .junk, .junk, .junk], h⟩
noncomputable def K0 (E : Env) (K : PX → St → Res) : PX → St → Res := (kBlock 0 (kSeq (ev (E.cx Tryd.prog kl) (codeAt (bodyOf Tryd.f23) [1, 1, 1])) K))
@[simp] theorem K0_ret (E : Env) (K : PX → St → Res) (s : St) : K0 E K .ret s = K .ret s := by kernel_rfl
noncomputable def body0 (E : Env) (K : PX → St → Res) (x0 x1 x5 : PV) (h : PHeap) : Res :=
    (E.p.len 23 x0).bind fun v14 =>
    (E.p.bin .lss 3 x5 v14).bind fun v15 =>
    condP v15
     (
      (E.p.indexAddr 23 x0 x5).bind fun v16 =>
      (E.p.load 3 v16 h).bind fun v17 =>
      (E.p.indexAddr 23 x1 x5).bind fun v18 =>
      (E.p.load 3 v18 h).bind fun v19 =>
      (E.p.bin .neq 3 v17 v19).bind fun v20 =>
      condP v20
       (
        K .ret (sr_4 (.bool false) h))
       (
        (E.p.bin .add 3 x5 (.int .i64 1)).bind fun v21 =>
        K .normal (st0 x0 x1 v21 h)))
     (
      K (.exit 0) (se0_0_1_5_14 x0 x1 x5 v15 h))
theorem body0_eq (E : Env) (K : PX → St → Res) (x0 x1 x5 : PV) (h : PHeap) : ev (E.cx Tryd.prog kl) lp0 (st0 x0 x1 x5 h) K = body0 E K x0 x1 x5 h := by kernel_rfl
theorem after0_se0_0_1_5_14 (E : Env) (x0 x1 x5 x14 : PV) (h : PHeap) : K0 E (kTop Tryd.prog Tryd.f23) (.exit 0) (se0_0_1_5_14 x0 x1 x5 x14 h) =
    (resV (.bool true)).bind fun v13 =>
    some (v13, h) := by kernel_rfl
theorem top_sr_4 (x4 : PV) (h : PHeap) : kTop Tryd.prog Tryd.f23 .ret (sr_4 x4 h) =
    (resV x4).bind fun v22 =>
    some (v22, h) := by kernel_rfl
noncomputable def main (E : Env) (x0 x1 : PV) (h : PHeap) : Res :=
    (E.p.len 23 x0).bind fun v1 =>
    (E.p.len 23 x1).bind fun v2 =>
    (E.p.bin .neq 3 v1 v2).bind fun v3 =>
    condP v3
     (
      (resV (.bool false)).bind fun v4 =>
      some (v4, h))
     (
      loopK (ev (E.cx Tryd.prog laws_sameInts.kl) laws_sameInts.lp0) E.lf (laws_sameInts.st0 x0 x1 (.int .i64 0) h) (laws_sameInts.K0 E (kTop Tryd.prog Tryd.f23)))
theorem main_eq (E : Env) (x0 x1 : PV) (h : PHeap) : runBody (E.cx Tryd.prog kl) Tryd.f23 [x0, x1] h = main E x0 x1 h := by kernel_rfl
theorem call_eq (g : Nat → PV) (lf n : Nat) (x0 x1 : PV) (h : PHeap) : CL g lf (n + 1) fn_laws_sameInts [x0, x1] h = main (env g lf n) x0 x1 h := by
  rw [← main_eq]
  show (match Tryd.prog.funcs[23]? with | some fn => if fn.body.isSome then runBody ⟨Tryd.prog, g, call Tryd.prog g KL lf n, KL 23, lf, std Tryd.prog⟩ fn [x0, x1] h else none | none => none) = _
  rw [Tryd.func23]
  kernel_rfl
end laws_sameInts
namespace impl_PositionOk
noncomputable def lp0 : Code := (codeAt (bodyOf Tryd.f24) [1, 1, 0, 1, 0, 0])
def st0 (x21 x22 x23 : PV) (h : PHeap) : St := ⟨[.junk, .junk, .junk, .junk, .junk, .junk, .junk, .junk, .junk, .junk, .junk, .junk, .junk, .junk, .junk, .junk, .junk, .junk, .junk, .junk, .junk, x21, x22, x23, .junk, .junk, .junk, .junk, .junk, .junk, .junk], h⟩
def sr_6 (x6 : PV) (h : PHeap) : St := ⟨[.junk, .junk, .junk, .junk, .junk, .junk, x6, .junk, .junk, .junk, .junk, .junk, .junk, .junk, .junk, .junk, .junk, .junk, .junk, .junk, .junk, .junk, .junk, .junk, .junk, .junk, .junk, .junk, .junk, .junk, .junk], h⟩
def se0_21_22_23_24 (x21 x22 x23 x24 : PV) (h : PHeap) : St := ⟨[.junk, .junk, .junk, .junk, .junk, .junk, .junk, .junk, .junk, .junk, .junk, .junk, .junk, .junk, .junk, .junk, .junk, .junk, .junk, .junk, .junk, x21, x22, x23, x24, .junk, .junk, .junk, .junk, .junk, .junk], h⟩
noncomputable def K0 (E : Env) (K : PX → St → Res) : PX → St → Res := (kBlock 0 (kSeq (ev (E.cx Tryd.prog kl) (codeAt (bodyOf Tryd.f24) [1, 1, 1])) K))
@[simp] theorem K0_ret (E : Env) (K : PX → St → Res) (s : St) : K0 E K .ret s = K .ret s := by kernel_rfl
noncomputable def body0 (E : Env) (K : PX → St → Res) (x21 x22 x23 : PV) (h : PHeap) : Res :=
    (E.p.bin .lss 3 x23 x22).bind fun v25 =>
    condP v25
     (
      (E.p.indexAddr 23 x21 x23).bind fun v26 =>
      (E.p.load 3 v26 h).bind fun v27 =>
      (E.C fn_impl_contentOk [v27] h).bind fun v28 =>
      (E.p.un .not v28.1).bind fun v29 =>
      condP v29
       (
        K .ret (sr_6 (.bool false) v28.2))
       (
        (E.p.bin .add 3 x23 (.int .i64 1)).bind fun v30 =>
        K .normal (st0 x21 x22 v30 v28.2)))
     (
      K (.exit 0) (se0_21_22_23_24 x21 x22 x23 v25 h))
theorem body0_eq (E : Env) (K : PX → St → Res) (x21 x22 x23 : PV) (h : PHeap) : ev (E.cx Tryd.prog kl) lp0 (st0 x21 x22 x23 h) K = body0 E K x21 x22 x23 h := by kernel_rfl
theorem after0_se0_21_22_23_24 (E : Env) (x21 x22 x23 x24 : PV) (h : PHeap) : K0 E (kTop Tryd.prog Tryd.f24) (.exit 0) (se0_21_22_23_24 x21 x22 x23 x24 h) =
    (resV (.bool true)).bind fun v24 =>
    some (v24, h) := by kernel_rfl
theorem top_sr_6 (x6 : PV) (h : PHeap) : kTop Tryd.prog Tryd.f24 .ret (sr_6 x6 h) =
    (resV x6).bind fun v31 =>
    some (v31, h) := by kernel_rfl
noncomputable def main (E : Env) (x0 x1 x2 : PV) (h : PHeap) : Res :=
    (E.C fn_impl_BoardOk [x0, x1] h).bind fun v1 =>
    (E.p.un .not v1.1).bind fun v2 =>
    (wantV v2 false).bind fun v3 =>
    (bif v3 then some (x2, v1.2) else some (.tup [], v1.2)).bind fun v4 =>
    (wantV v2 false).bind fun v5 =>
    (bif v5 then pv v4.2 (E.p.len 23 v4.1) else some (.tup [], v4.2)).bind fun v6 =>
    (wantV v2 false).bind fun v7 =>
    (bif v7 then some (x0, v6.2) else some (.tup [], v6.2)).bind fun v8 =>
    (wantV v2 false).bind fun v9 =>
    (bif v9 then some (x1, v8.2) else some (.tup [], v8.2)).bind fun v10 =>
    (wantV v2 false).bind fun v11 =>
    (bif v11 then pv v10.2 (E.p.bin .mul 3 v8.1 v10.1) else some (.tup [], v10.2)).bind fun v12 =>
    (wantV v2 false).bind fun v13 =>
    (bif v13 then pv v12.2 (E.p.bin .neq 3 v6.1 v12.1) else some (.tup [], v12.2)).bind fun v14 =>
    (E.p.pick v2 (.bool true) v14.1).bind fun v15 =>
    condP v15
     (
      (resV (.bool false)).bind fun v16 =>
      some (v16, v14.2))
     (
      (E.p.len 23 x2).bind fun v17 =>
      loopK (ev (E.cx Tryd.prog impl_PositionOk.kl) impl_PositionOk.lp0) E.lf (impl_PositionOk.st0 x2 v17 (.int .i64 0) v14.2) (impl_PositionOk.K0 E (kTop Tryd.prog Tryd.f24)))
theorem main_eq (E : Env) (x0 x1 x2 : PV) (h : PHeap) : runBody (E.cx Tryd.prog kl) Tryd.f24 [x0, x1, x2] h = main E x0 x1 x2 h := by kernel_rfl
theorem call_eq (g : Nat → PV) (lf n : Nat) (x0 x1 x2 : PV) (h : PHeap) : CL g lf (n + 1) fn_impl_PositionOk [x0, x1, x2] h = main (env g lf n) x0 x1 x2 h := by
  rw [← main_eq]
  show (match Tryd.prog.funcs[24]? with | some fn => if fn.body.isSome then runBody ⟨Tryd.prog, g, call Tryd.prog g KL lf n, KL 24, lf, std Tryd.prog⟩ fn [x0, x1, x2] h else none | none => none) = _
  rw [Tryd.func24]
  kernel_rfl
end impl_PositionOk
namespace impl_CellsOf
noncomputable def lp0 : Code := (codeAt (bodyOf Tryd.f25) [1, 1, 1, 0, 1, 0, 0])
def st0 (x3 x9 x22 x23 x24 : PV) (h : PHeap) : St := ⟨[.junk, .junk, .junk, x3, .junk, .junk, .junk, .junk, .junk, x9, .junk, .junk, .junk, .junk, .junk, .junk, .junk, .junk, .junk, .junk, .junk, .junk, x22, x23, x24, .junk, .junk, .junk, .junk, .junk, .junk, .junk, .junk, .junk, .junk, .junk, .junk, .junk], h⟩
def se0_3_9_22_23_24_25 (x3 x9 x22 x23 x24 x25 : PV) (h : PHeap) : St := ⟨[.junk, .junk, .junk, x3, .junk, .junk, .junk, .junk, .junk, x9, .junk, .junk, .junk, .junk, .junk, .junk, .junk, .junk, .junk, .junk, .junk, .junk, x22, x23, x24, x25, .junk, .junk, .junk, .junk, .junk, .junk, .junk, .junk, .junk, .junk, .junk, .junk], h⟩
noncomputable def K0 (E : Env) (K : PX → St → Res) : PX → St → Res := (kBlock 0 (kSeq (ev (E.cx Tryd.prog kl) (codeAt (bodyOf Tryd.f25) [1, 1, 1, 1])) K))
@[simp] theorem K0_ret (E : Env) (K : PX → St → Res) (s : St) : K0 E K .ret s = K .ret s := by kernel_rfl
noncomputable def body0 (E : Env) (K : PX → St → Res) (x3 x9 x22 x23 x24 : PV) (h : PHeap) : Res :=
    (E.p.bin .lss 3 x24 x23).bind fun v21 =>
    condP v21
     (
      (E.p.indexAddr 23 x22 x24).bind fun v22 =>
      (E.p.load 3 v22 h).bind fun v23 =>
      (E.p.bin .eql 3 v23 x3).bind fun v24 =>
      condP v24
       (
        (E.p.buildSlice 23 1 [(0, x24)] h).bind fun v25 =>
        (E.p.append 23 23 x9 v25.1 v25.2).bind fun v26 =>
        (E.p.bin .add 3 x24 (.int .i64 1)).bind fun v27 =>
        K .normal (st0 x3 v26.1 x22 x23 v27 v26.2))
       (
        (E.p.bin .add 3 x24 (.int .i64 1)).bind fun v28 =>
        K .normal (st0 x3 x9 x22 x23 v28 h)))
     (
      K (.exit 0) (se0_3_9_22_23_24_25 x3 x9 x22 x23 x24 v21 h))
theorem body0_eq (E : Env) (K : PX → St → Res) (x3 x9 x22 x23 x24 : PV) (h : PHeap) : ev (E.cx Tryd.prog kl) lp0 (st0 x3 x9 x22 x23 x24 h) K = body0 E K x3 x9 x22 x23 x24 h := by kernel_rfl
theorem after0_se0_3_9_22_23_24_25 (E : Env) (x3 x9 x22 x23 x24 x25 : PV) (h : PHeap) : K0 E (kTop Tryd.prog Tryd.f25) (.exit 0) (se0_3_9_22_23_24_25 x3 x9 x22 x23 x24 x25 h) =
    (resV x9).bind fun v20 =>
    some (v20, h) := by kernel_rfl
noncomputable def main (E : Env) (x0 x1 x2 x3 : PV) (h : PHeap) : Res :=
    (E.C fn_impl_PositionOk [x0, x1, x2] h).bind fun v1 =>
    (E.p.un .not v1.1).bind fun v2 =>
    (wantV v2 false).bind fun v3 =>
    (bif v3 then some (x3, v1.2) else some (.tup [], v1.2)).bind fun v4 =>
    (wantV v2 false).bind fun v5 =>
    (bif v5 then E.C fn_impl_contentOk [v4.1] v4.2 else some (.tup [], v4.2)).bind fun v6 =>
    (wantV v2 false).bind fun v7 =>
    (bif v7 then pv v6.2 (E.p.un .not v6.1) else some (.tup [], v6.2)).bind fun v8 =>
    (E.p.pick v2 (.bool true) v8.1).bind fun v9 =>
    condP v9
     (
      (resV .nilsl).bind fun v10 =>
      some (v10, v8.2))
     (
      (E.p.len 23 x2).bind fun v11 =>
      loopK (ev (E.cx Tryd.prog impl_CellsOf.kl) impl_CellsOf.lp0) E.lf (impl_CellsOf.st0 x3 .nilsl x2 v11 (.int .i64 0) v8.2) (impl_CellsOf.K0 E (kTop Tryd.prog Tryd.f25)))
theorem main_eq (E : Env) (x0 x1 x2 x3 : PV) (h : PHeap) : runBody (E.cx Tryd.prog kl) Tryd.f25 [x0, x1, x2, x3] h = main E x0 x1 x2 x3 h := by kernel_rfl
theorem call_eq (g : Nat → PV) (lf n : Nat) (x0 x1 x2 x3 : PV) (h : PHeap) : CL g lf (n + 1) fn_impl_CellsOf [x0, x1, x2, x3] h = main (env g lf n) x0 x1 x2 x3 h := by
  rw [← main_eq]
  show (match Tryd.prog.funcs[25]? with | some fn => if fn.body.isSome then runBody ⟨Tryd.prog, g, call Tryd.prog g KL lf n, KL 25, lf, std Tryd.prog⟩ fn [x0, x1, x2, x3] h else none | none => none) = _
  rw [Tryd.func25]
  kernel_rfl
end impl_CellsOf
namespace spec_DrawWinnerOf
noncomputable def main (E : Env) (x0 : PV) (h : PHeap) : Res :=
    (E.C fn_spec_l20Open [x0] h).bind fun v1 =>
    (E.C fn_spec_l20Few [v1.1, (.int .i64 8)] v1.2).bind fun v2 =>
    (E.p.extract v2.1 0).bind fun v3 =>
    (E.p.extract v2.1 1).bind fun v4 =>
    (E.p.extract v2.1 2).bind fun v5 =>
    (E.p.extract v2.1 3).bind fun v6 =>
    (resV v3).bind fun v7 =>
    (resV v4).bind fun v8 =>
    (resV v5).bind fun v9 =>
    (resV v6).bind fun v10 =>
    some (.tup [v7, v8, v9, v10], v2.2)
theorem main_eq (E : Env) (x0 : PV) (h : PHeap) : runBody (E.cx Tryd.prog kl) Tryd.f26 [x0] h = main E x0 h := by kernel_rfl
theorem call_eq (g : Nat → PV) (lf n : Nat) (x0 : PV) (h : PHeap) : CL g lf (n + 1) fn_spec_DrawWinnerOf [x0] h = main (env g lf n) x0 h := by
  rw [← main_eq]
  show (match Tryd.prog.funcs[26]? with | some fn => if fn.body.isSome then runBody ⟨Tryd.prog, g, call Tryd.prog g KL lf n, KL 26, lf, std Tryd.prog⟩ fn [x0] h else none | none => none) = _
  rw [Tryd.func26]
  kernel_rfl
end spec_DrawWinnerOf
namespace impl_WinnerOf
noncomputable def main (E : Env) (x0 x1 x2 x3 : PV) (h : PHeap) : Res :=
    (E.C fn_impl_PositionOk [x0, x1, x2] h).bind fun v1 =>
    (E.p.un .not v1.1).bind fun v2 =>
    (wantV v2 false).bind fun v3 =>
    (bif v3 then some (x3, v1.2) else some (.tup [], v1.2)).bind fun v4 =>
    (wantV v2 false).bind fun v5 =>
    (bif v5 then E.C fn_impl_playerOk [v4.1] v4.2 else some (.tup [], v4.2)).bind fun v6 =>
    (wantV v2 false).bind fun v7 =>
    (bif v7 then pv v6.2 (E.p.un .not v6.1) else some (.tup [], v6.2)).bind fun v8 =>
    (E.p.pick v2 (.bool true) v8.1).bind fun v9 =>
    condP v9
     (
      (resV (.int .i64 0)).bind fun v10 =>
      some (v10, v8.2))
     (
      (E.C fn_impl_newSearch [x0, x1] v8.2).bind fun v11 =>
      (E.C fn_impl_standingOf [x2, x3] v11.2).bind fun v12 =>
      (E.C fn_impl_search_winner [v11.1, v12.1] v12.2).bind fun v13 =>
      (resV v13.1).bind fun v14 =>
      some (v14, v13.2))
theorem main_eq (E : Env) (x0 x1 x2 x3 : PV) (h : PHeap) : runBody (E.cx Tryd.prog kl) Tryd.f27 [x0, x1, x2, x3] h = main E x0 x1 x2 x3 h := by kernel_rfl
theorem call_eq (g : Nat → PV) (lf n : Nat) (x0 x1 x2 x3 : PV) (h : PHeap) : CL g lf (n + 1) fn_impl_WinnerOf [x0, x1, x2, x3] h = main (env g lf n) x0 x1 x2 x3 h := by
  rw [← main_eq]
  show (match Tryd.prog.funcs[27]? with | some fn => if fn.body.isSome then runBody ⟨Tryd.prog, g, call Tryd.prog g KL lf n, KL 27, lf, std Tryd.prog⟩ fn [x0, x1, x2, x3] h else none | none => none) = _
  rw [Tryd.func27]
  kernel_rfl
end impl_WinnerOf
namespace spec_WinnerOf
noncomputable def main (E : Env) (x0 x1 x2 x3 : PV) (h : PHeap) : Res :=
    (E.C fn_spec_PositionOk [x0, x1, x2] h).bind fun v1 =>
    (E.p.un .not v1.1).bind fun v2 =>
    (wantV v2 false).bind fun v3 =>
    (bif v3 then some (x3, v1.2) else some (.tup [], v1.2)).bind fun v4 =>
    (wantV v2 false).bind fun v5 =>
    (bif v5 then E.C fn_spec_l1In [v4.1, (.int .i64 1), (.int .i64 2)] v4.2 else some (.tup [], v4.2)).bind fun v6 =>
    (wantV v2 false).bind fun v7 =>
    (bif v7 then pv v6.2 (E.p.un .not v6.1) else some (.tup [], v6.2)).bind fun v8 =>
    (E.p.pick v2 (.bool true) v8.1).bind fun v9 =>
    condP v9
     (
      (resV (.int .i64 0)).bind fun v10 =>
      some (v10, v8.2))
     (
      (E.C fn_spec_l3Winner [x0, x1, x2, x3] v8.2).bind fun v11 =>
      (resV v11.1).bind fun v12 =>
      some (v12, v11.2))
theorem main_eq (E : Env) (x0 x1 x2 x3 : PV) (h : PHeap) : runBody (E.cx Tryd.prog kl) Tryd.f28 [x0, x1, x2, x3] h = main E x0 x1 x2 x3 h := by kernel_rfl
theorem call_eq (g : Nat → PV) (lf n : Nat) (x0 x1 x2 x3 : PV) (h : PHeap) : CL g lf (n + 1) fn_spec_WinnerOf [x0, x1, x2, x3] h = main (env g lf n) x0 x1 x2 x3 h := by
  rw [← main_eq]
  show (match Tryd.prog.funcs[28]? with | some fn => if fn.body.isSome then runBody ⟨Tryd.prog, g, call Tryd.prog g KL lf n, KL 28, lf, std Tryd.prog⟩ fn [x0, x1, x2, x3] h else none | none => none) = _
  rw [Tryd.func28]
  kernel_rfl
end spec_WinnerOf
namespace spec_PositionOk
noncomputable def lp0 : Code := (codeAt (bodyOf Tryd.f29) [1, 0, 1, 0, 0])
def st0 (x0 x1 x2 x7 : PV) (h : PHeap) : St := ⟨[x0, x1, x2, .junk, .junk, .junk, .junk, x7, .junk, .junk, .junk, .junk, .junk, .junk, .junk, .junk, .junk, .junk, .junk, .junk, .junk, .junk, .junk, .junk, .junk, .junk, .junk, .junk, .junk, .junk, .junk], h⟩
def sr_6 (x6 : PV) (h : PHeap) : St := ⟨[.junk, .junk, .junk, .junk, .junk, .junk, x6, .junk, .junk, .junk, .junk, .junk, .junk, .junk, .junk, .junk, .junk, .junk, .junk, .junk, .junk, .junk, .junk, .junk, .junk, .junk, .junk, .junk, .junk, .junk, .junk], h⟩
def se0_0_1_2_7_11 (x0 x1 x2 x7 x11 : PV) (h : PHeap) : St := ⟨[x0, x1, x2, .junk, .junk, .junk, .junk, x7, .junk, .junk, .junk, x11, .junk, .junk, .junk, .junk, .junk, .junk, .junk, .junk, .junk, .junk, .junk, .junk, .junk, .junk, .junk, .junk, .junk, .junk, .junk], h⟩
noncomputable def K0 (E : Env) (K : PX → St → Res) : PX → St → Res := (kBlock 0 (kSeq (ev (E.cx Tryd.prog kl) (codeAt (bodyOf Tryd.f29) [1, 1])) K))
@[simp] theorem K0_ret (E : Env) (K : PX → St → Res) (s : St) : K0 E K .ret s = K .ret s := by kernel_rfl
noncomputable def body0 (E : Env) (K : PX → St → Res) (x0 x1 x2 x7 : PV) (h : PHeap) : Res :=
    (E.p.len 23 x2).bind fun v23 =>
    (E.p.bin .lss 3 x7 v23).bind fun v24 =>
    condP v24
     (
      (E.p.indexAddr 23 x2 x7).bind fun v25 =>
      (E.p.load 3 v25 h).bind fun v26 =>
      (E.C fn_spec_l1In [v26, (.int .i64 0), (.int .i64 2)] h).bind fun v27 =>
      (E.p.un .not v27.1).bind fun v28 =>
      condP v28
       (
        K .ret (sr_6 (.bool false) v27.2))
       (
        (E.p.bin .add 3 x7 (.int .i64 1)).bind fun v29 =>
        K .normal (st0 x0 x1 x2 v29 v27.2)))
     (
      K (.exit 0) (se0_0_1_2_7_11 x0 x1 x2 x7 v24 h))
theorem body0_eq (E : Env) (K : PX → St → Res) (x0 x1 x2 x7 : PV) (h : PHeap) : ev (E.cx Tryd.prog kl) lp0 (st0 x0 x1 x2 x7 h) K = body0 E K x0 x1 x2 x7 h := by kernel_rfl
theorem after0_se0_0_1_2_7_11 (E : Env) (x0 x1 x2 x7 x11 : PV) (h : PHeap) : K0 E (kTop Tryd.prog Tryd.f29) (.exit 0) (se0_0_1_2_7_11 x0 x1 x2 x7 x11 h) =
    (E.C fn_spec_BoardOk [x0, x1] h).bind fun v8 =>
    (wantV v8.1 true).bind fun v9 =>
    (bif v9 then some (x2, v8.2) else some (.tup [], v8.2)).bind fun v10 =>
    (wantV v8.1 true).bind fun v11 =>
    (bif v11 then pv v10.2 (E.p.len 23 v10.1) else some (.tup [], v10.2)).bind fun v12 =>
    (wantV v8.1 true).bind fun v13 =>
    (bif v13 then some (x0, v12.2) else some (.tup [], v12.2)).bind fun v14 =>
    (wantV v8.1 true).bind fun v15 =>
    (bif v15 then some (x1, v14.2) else some (.tup [], v14.2)).bind fun v16 =>
    (wantV v8.1 true).bind fun v17 =>
    (bif v17 then pv v16.2 (E.p.bin .mul 3 v14.1 v16.1) else some (.tup [], v16.2)).bind fun v18 =>
    (wantV v8.1 true).bind fun v19 =>
    (bif v19 then pv v18.2 (E.p.bin .eql 3 v12.1 v18.1) else some (.tup [], v18.2)).bind fun v20 =>
    (E.p.pick v8.1 v20.1 (.bool false)).bind fun v21 =>
    (resV v21).bind fun v22 =>
    some (v22, v20.2) := by kernel_rfl
theorem top_sr_6 (x6 : PV) (h : PHeap) : kTop Tryd.prog Tryd.f29 .ret (sr_6 x6 h) =
    (resV x6).bind fun v30 =>
    some (v30, h) := by kernel_rfl
noncomputable def main (E : Env) (x0 x1 x2 : PV) (h : PHeap) : Res :=
    loopK (ev (E.cx Tryd.prog spec_PositionOk.kl) spec_PositionOk.lp0) E.lf (spec_PositionOk.st0 x0 x1 x2 (.int .i64 0) h) (spec_PositionOk.K0 E (kTop Tryd.prog Tryd.f29))
theorem main_eq (E : Env) (x0 x1 x2 : PV) (h : PHeap) : runBody (E.cx Tryd.prog kl) Tryd.f29 [x0, x1, x2] h = main E x0 x1 x2 h := by kernel_rfl
theorem call_eq (g : Nat → PV) (lf n : Nat) (x0 x1 x2 : PV) (h : PHeap) : CL g lf (n + 1) fn_spec_PositionOk [x0, x1, x2] h = main (env g lf n) x0 x1 x2 h := by
  rw [← main_eq]
  show (match Tryd.prog.funcs[29]? with | some fn => if fn.body.isSome then runBody ⟨Tryd.prog, g, call Tryd.prog g KL lf n, KL 29, lf, std Tryd.prog⟩ fn [x0, x1, x2] h else none | none => none) = _
  rw [Tryd.func29]
  kernel_rfl
end spec_PositionOk
namespace impl_HalfTurned
noncomputable def lp0 : Code := (codeAt (bodyOf Tryd.f30) [1, 1, 1, 0, 1, 0, 0])
def st0 (x2 x7 x18 x19 x20 : PV) (h : PHeap) : St := ⟨[.junk, .junk, x2, .junk, .junk, .junk, .junk, x7, .junk, .junk, .junk, .junk, .junk, .junk, .junk, .junk, .junk, .junk, x18, x19, x20, .junk, .junk, .junk, .junk, .junk, .junk, .junk, .junk, .junk, .junk, .junk, .junk, .junk, .junk], h⟩
def se0_2_7_18_19_20_21 (x2 x7 x18 x19 x20 x21 : PV) (h : PHeap) : St := ⟨[.junk, .junk, x2, .junk, .junk, .junk, .junk, x7, .junk, .junk, .junk, .junk, .junk, .junk, .junk, .junk, .junk, .junk, x18, x19, x20, x21, .junk, .junk, .junk, .junk, .junk, .junk, .junk, .junk, .junk, .junk, .junk, .junk, .junk], h⟩
noncomputable def K0 (E : Env) (K : PX → St → Res) : PX → St → Res := (kBlock 0 (kSeq (ev (E.cx Tryd.prog kl) (codeAt (bodyOf Tryd.f30) [1, 1, 1, 1])) K))
@[simp] theorem K0_ret (E : Env) (K : PX → St → Res) (s : St) : K0 E K .ret s = K .ret s := by kernel_rfl
noncomputable def body0 (E : Env) (K : PX → St → Res) (x2 x7 x18 x19 x20 : PV) (h : PHeap) : Res :=
    (E.p.bin .lss 3 x20 x19).bind fun v17 =>
    condP v17
     (
      (E.p.indexAddr 23 x18 x20).bind fun v18 =>
      (E.p.load 3 v18 h).bind fun v19 =>
      (E.p.len 23 x2).bind fun v20 =>
      (E.p.bin .sub 3 v20 (.int .i64 1)).bind fun v21 =>
      (E.p.bin .sub 3 v21 x20).bind fun v22 =>
      (E.p.indexAddr 23 x7 v22).bind fun v23 =>
      (E.p.store 3 v23 v19 h).bind fun v24 =>
      (E.p.bin .add 3 x20 (.int .i64 1)).bind fun v25 =>
      K .normal (st0 x2 x7 x18 x19 v25 v24))
     (
      K (.exit 0) (se0_2_7_18_19_20_21 x2 x7 x18 x19 x20 v17 h))
theorem body0_eq (E : Env) (K : PX → St → Res) (x2 x7 x18 x19 x20 : PV) (h : PHeap) : ev (E.cx Tryd.prog kl) lp0 (st0 x2 x7 x18 x19 x20 h) K = body0 E K x2 x7 x18 x19 x20 h := by kernel_rfl
theorem after0_se0_2_7_18_19_20_21 (E : Env) (x2 x7 x18 x19 x20 x21 : PV) (h : PHeap) : K0 E (kTop Tryd.prog Tryd.f30) (.exit 0) (se0_2_7_18_19_20_21 x2 x7 x18 x19 x20 x21 h) =
    (resV x7).bind fun v16 =>
    some (v16, h) := by kernel_rfl
noncomputable def main (E : Env) (x0 x1 x2 : PV) (h : PHeap) : Res :=
    (E.C fn_impl_PositionOk [x0, x1, x2] h).bind fun v1 =>
    (E.p.un .not v1.1).bind fun v2 =>
    condP v2
     (
      (resV .nilsl).bind fun v3 =>
      some (v3, v1.2))
     (
      (E.p.len 23 x2).bind fun v4 =>
      (E.p.make 23 v4 v4 v1.2).bind fun v5 =>
      (E.p.len 23 x2).bind fun v6 =>
      loopK (ev (E.cx Tryd.prog impl_HalfTurned.kl) impl_HalfTurned.lp0) E.lf (impl_HalfTurned.st0 x2 v5.1 x2 v6 (.int .i64 0) v5.2) (impl_HalfTurned.K0 E (kTop Tryd.prog Tryd.f30)))
theorem main_eq (E : Env) (x0 x1 x2 : PV) (h : PHeap) : runBody (E.cx Tryd.prog kl) Tryd.f30 [x0, x1, x2] h = main E x0 x1 x2 h := by kernel_rfl
theorem call_eq (g : Nat → PV) (lf n : Nat) (x0 x1 x2 : PV) (h : PHeap) : CL g lf (n + 1) fn_impl_HalfTurned [x0, x1, x2] h = main (env g lf n) x0 x1 x2 h := by
  rw [← main_eq]
  show (match Tryd.prog.funcs[30]? with | some fn => if fn.body.isSome then runBody ⟨Tryd.prog, g, call Tryd.prog g KL lf n, KL 30, lf, std Tryd.prog⟩ fn [x0, x1, x2] h else none | none => none) = _
  rw [Tryd.func30]
  kernel_rfl
end impl_HalfTurned
namespace impl_Mirrored
noncomputable def lp0 : Code := (codeAt (bodyOf Tryd.f31) [1, 1, 1, 0, 1, 0, 0])
def st0 (x0 x1 x7 x18 x19 x20 : PV) (h : PHeap) : St := ⟨[x0, x1, .junk, .junk, .junk, .junk, .junk, x7, .junk, .junk, .junk, .junk, .junk, .junk, .junk, .junk, .junk, .junk, x18, x19, x20, .junk, .junk, .junk, .junk, .junk, .junk, .junk, .junk, .junk, .junk, .junk, .junk, .junk, .junk], h⟩
def se0_0_1_7_18_19_20_21 (x0 x1 x7 x18 x19 x20 x21 : PV) (h : PHeap) : St := ⟨[x0, x1, .junk, .junk, .junk, .junk, .junk, x7, .junk, .junk, .junk, .junk, .junk, .junk, .junk, .junk, .junk, .junk, x18, x19, x20, x21, .junk, .junk, .junk, .junk, .junk, .junk, .junk, .junk, .junk, .junk, .junk, .junk, .junk], h⟩
noncomputable def K0 (E : Env) (K : PX → St → Res) : PX → St → Res := (kBlock 0 (kSeq (ev (E.cx Tryd.prog kl) (codeAt (bodyOf Tryd.f31) [1, 1, 1, 1])) K))
@[simp] theorem K0_ret (E : Env) (K : PX → St → Res) (s : St) : K0 E K .ret s = K .ret s := by kernel_rfl
noncomputable def body0 (E : Env) (K : PX → St → Res) (x0 x1 x7 x18 x19 x20 : PV) (h : PHeap) : Res :=
    (E.p.bin .lss 3 x20 x19).bind fun v16 =>
    condP v16
     (
      (E.p.indexAddr 23 x18 x20).bind fun v17 =>
      (E.p.load 3 v17 h).bind fun v18 =>
      (E.C fn_impl_mirroredCell [x0, x1, x20] h).bind fun v19 =>
      (E.C fn_impl_exchanged [v18] v19.2).bind fun v20 =>
      (E.p.indexAddr 23 x7 v19.1).bind fun v21 =>
      (E.p.store 3 v21 v20.1 v20.2).bind fun v22 =>
      (E.p.bin .add 3 x20 (.int .i64 1)).bind fun v23 =>
      K .normal (st0 x0 x1 x7 x18 x19 v23 v22))
     (
      K (.exit 0) (se0_0_1_7_18_19_20_21 x0 x1 x7 x18 x19 x20 v16 h))
theorem body0_eq (E : Env) (K : PX → St → Res) (x0 x1 x7 x18 x19 x20 : PV) (h : PHeap) : ev (E.cx Tryd.prog kl) lp0 (st0 x0 x1 x7 x18 x19 x20 h) K = body0 E K x0 x1 x7 x18 x19 x20 h := by kernel_rfl
theorem after0_se0_0_1_7_18_19_20_21 (E : Env) (x0 x1 x7 x18 x19 x20 x21 : PV) (h : PHeap) : K0 E (kTop Tryd.prog Tryd.f31) (.exit 0) (se0_0_1_7_18_19_20_21 x0 x1 x7 x18 x19 x20 x21 h) =
    (resV x7).bind fun v15 =>
    some (v15, h) := by kernel_rfl
noncomputable def main (E : Env) (x0 x1 x2 : PV) (h : PHeap) : Res :=
    (E.C fn_impl_PositionOk [x0, x1, x2] h).bind fun v1 =>
    (E.p.un .not v1.1).bind fun v2 =>
    condP v2
     (
      (resV .nilsl).bind fun v3 =>
      some (v3, v1.2))
     (
      (E.p.len 23 x2).bind fun v4 =>
      (E.p.make 23 v4 v4 v1.2).bind fun v5 =>
      (E.p.len 23 x2).bind fun v6 =>
      loopK (ev (E.cx Tryd.prog impl_Mirrored.kl) impl_Mirrored.lp0) E.lf (impl_Mirrored.st0 x0 x1 v5.1 x2 v6 (.int .i64 0) v5.2) (impl_Mirrored.K0 E (kTop Tryd.prog Tryd.f31)))
theorem main_eq (E : Env) (x0 x1 x2 : PV) (h : PHeap) : runBody (E.cx Tryd.prog kl) Tryd.f31 [x0, x1, x2] h = main E x0 x1 x2 h := by kernel_rfl
theorem call_eq (g : Nat → PV) (lf n : Nat) (x0 x1 x2 : PV) (h : PHeap) : CL g lf (n + 1) fn_impl_Mirrored [x0, x1, x2] h = main (env g lf n) x0 x1 x2 h := by
  rw [← main_eq]
  show (match Tryd.prog.funcs[31]? with | some fn => if fn.body.isSome then runBody ⟨Tryd.prog, g, call Tryd.prog g KL lf n, KL 31, lf, std Tryd.prog⟩ fn [x0, x1, x2] h else none | none => none) = _
  rw [Tryd.func31]
  kernel_rfl
end impl_Mirrored
namespace spec_DrawWinningCells
noncomputable def main (E : Env) (x0 : PV) (h : PHeap) : Res :=
    (E.C fn_spec_l20Open [x0] h).bind fun v1 =>
    (E.C fn_spec_l20Few [v1.1, (.int .i64 7)] v1.2).bind fun v2 =>
    (E.p.extract v2.1 0).bind fun v3 =>
    (E.p.extract v2.1 1).bind fun v4 =>
    (E.p.extract v2.1 2).bind fun v5 =>
    (E.p.extract v2.1 3).bind fun v6 =>
    (resV v3).bind fun v7 =>
    (resV v4).bind fun v8 =>
    (resV v5).bind fun v9 =>
    (resV v6).bind fun v10 =>
    some (.tup [v7, v8, v9, v10], v2.2)
theorem main_eq (E : Env) (x0 : PV) (h : PHeap) : runBody (E.cx Tryd.prog kl) Tryd.f32 [x0] h = main E x0 h := by kernel_rfl
theorem call_eq (g : Nat → PV) (lf n : Nat) (x0 : PV) (h : PHeap) : CL g lf (n + 1) fn_spec_DrawWinningCells [x0] h = main (env g lf n) x0 h := by
  rw [← main_eq]
  show (match Tryd.prog.funcs[32]? with | some fn => if fn.body.isSome then runBody ⟨Tryd.prog, g, call Tryd.prog g KL lf n, KL 32, lf, std Tryd.prog⟩ fn [x0] h else none | none => none) = _
  rw [Tryd.func32]
  kernel_rfl
end spec_DrawWinningCells
namespace impl_WinningCells
noncomputable def main (E : Env) (x0 x1 x2 x3 : PV) (h : PHeap) : Res :=
    (E.C fn_impl_PositionOk [x0, x1, x2] h).bind fun v1 =>
    (E.p.un .not v1.1).bind fun v2 =>
    (wantV v2 false).bind fun v3 =>
    (bif v3 then some (x3, v1.2) else some (.tup [], v1.2)).bind fun v4 =>
    (wantV v2 false).bind fun v5 =>
    (bif v5 then E.C fn_impl_playerOk [v4.1] v4.2 else some (.tup [], v4.2)).bind fun v6 =>
    (wantV v2 false).bind fun v7 =>
    (bif v7 then pv v6.2 (E.p.un .not v6.1) else some (.tup [], v6.2)).bind fun v8 =>
    (E.p.pick v2 (.bool true) v8.1).bind fun v9 =>
    condP v9
     (
      (resV .nilsl).bind fun v10 =>
      some (v10, v8.2))
     (
      (E.C fn_impl_newSearch [x0, x1] v8.2).bind fun v11 =>
      (E.C fn_impl_standingOf [x2, x3] v11.2).bind fun v12 =>
      (E.C fn_impl_search_winning [v11.1, v12.1] v12.2).bind fun v13 =>
      (E.C fn_impl_cellsIn [v13.1] v13.2).bind fun v14 =>
      (resV v14.1).bind fun v15 =>
      some (v15, v14.2))
theorem main_eq (E : Env) (x0 x1 x2 x3 : PV) (h : PHeap) : runBody (E.cx Tryd.prog kl) Tryd.f33 [x0, x1, x2, x3] h = main E x0 x1 x2 x3 h := by kernel_rfl
theorem call_eq (g : Nat → PV) (lf n : Nat) (x0 x1 x2 x3 : PV) (h : PHeap) : CL g lf (n + 1) fn_impl_WinningCells [x0, x1, x2, x3] h = main (env g lf n) x0 x1 x2 x3 h := by
  rw [← main_eq]
  show (match Tryd.prog.funcs[33]? with | some fn => if fn.body.isSome then runBody ⟨Tryd.prog, g, call Tryd.prog g KL lf n, KL 33, lf, std Tryd.prog⟩ fn [x0, x1, x2, x3] h else none | none => none) = _
  rw [Tryd.func33]
  kernel_rfl
end impl_WinningCells
namespace spec_WinningCells
noncomputable def lp0 : Code := (codeAt (bodyOf Tryd.f34) [1, 1, 0, 1, 0, 0])
def st0 (x0 x1 x2 x3 x9 x10 : PV) (h : PHeap) : St := ⟨[x0, x1, x2, x3, .junk, .junk, .junk, .junk, .junk, x9, x10, .junk, .junk, .junk, .junk, .junk, .junk, .junk, .junk, .junk, .junk, .junk, .junk, .junk, .junk, .junk, .junk, .junk, .junk, .junk, .junk, .junk, .junk, .junk, .junk, .junk, .junk, .junk, .junk, .junk, .junk, .junk, .junk, .junk, .junk], h⟩
def se0_0_1_2_3_9_10_17 (x0 x1 x2 x3 x9 x10 x17 : PV) (h : PHeap) : St := ⟨[x0, x1, x2, x3, .junk, .junk, .junk, .junk, .junk, x9, x10, .junk, .junk, .junk, .junk, .junk, .junk, x17, .junk, .junk, .junk, .junk, .junk, .junk, .junk, .junk, .junk, .junk, .junk, .junk, .junk, .junk, .junk, .junk, .junk, .junk, .junk, .junk, .junk, .junk, .junk, .junk, .junk, .junk, .junk], h⟩
noncomputable def K0 (E : Env) (K : PX → St → Res) : PX → St → Res := (kBlock 0 (kSeq (ev (E.cx Tryd.prog kl) (codeAt (bodyOf Tryd.f34) [1, 1, 1])) K))
@[simp] theorem K0_ret (E : Env) (K : PX → St → Res) (s : St) : K0 E K .ret s = K .ret s := by kernel_rfl
noncomputable def body0 (E : Env) (K : PX → St → Res) (x0 x1 x2 x3 x9 x10 : PV) (h : PHeap) : Res :=
    (E.p.len 23 x2).bind fun v29 =>
    (E.p.bin .lss 3 x10 v29).bind fun v30 =>
    condP v30
     (
      (E.C fn_spec_Played [x0, x1, x2, x10, x3] h).bind fun v31 =>
      (E.p.extract v31.1 0).bind fun v32 =>
      (E.p.extract v31.1 1).bind fun v33 =>
      (wantV v33 true).bind fun v34 =>
      (bif v34 then some (x0, v31.2) else some (.tup [], v31.2)).bind fun v35 =>
      (wantV v33 true).bind fun v36 =>
      (bif v36 then some (x1, v35.2) else some (.tup [], v35.2)).bind fun v37 =>
      (wantV v33 true).bind fun v38 =>
      (bif v38 then some (v32, v37.2) else some (.tup [], v37.2)).bind fun v39 =>
      (wantV v33 true).bind fun v40 =>
      (bif v40 then some (x3, v39.2) else some (.tup [], v39.2)).bind fun v41 =>
      (wantV v33 true).bind fun v42 =>
      (bif v42 then E.C fn_spec_l1Other [v41.1] v41.2 else some (.tup [], v41.2)).bind fun v43 =>
      (wantV v33 true).bind fun v44 =>
      (bif v44 then E.C fn_spec_l3Winner [v35.1, v37.1, v39.1, v43.1] v43.2 else some (.tup [], v43.2)).bind fun v45 =>
      (wantV v33 true).bind fun v46 =>
      (bif v46 then some (x3, v45.2) else some (.tup [], v45.2)).bind fun v47 =>
      (wantV v33 true).bind fun v48 =>
      (bif v48 then pv v47.2 (E.p.bin .eql 3 v45.1 v47.1) else some (.tup [], v47.2)).bind fun v49 =>
      (E.p.pick v33 v49.1 (.bool false)).bind fun v50 =>
      condP v50
       (
        (E.p.buildSlice 23 1 [(0, x10)] v49.2).bind fun v51 =>
        (E.p.append 23 23 x9 v51.1 v51.2).bind fun v52 =>
        (E.p.bin .add 3 x10 (.int .i64 1)).bind fun v53 =>
        K .normal (st0 x0 x1 x2 x3 v52.1 v53 v52.2))
       (
        (E.p.bin .add 3 x10 (.int .i64 1)).bind fun v54 =>
        K .normal (st0 x0 x1 x2 x3 x9 v54 v49.2)))
     (
      K (.exit 0) (se0_0_1_2_3_9_10_17 x0 x1 x2 x3 x9 x10 v30 h))
theorem body0_eq (E : Env) (K : PX → St → Res) (x0 x1 x2 x3 x9 x10 : PV) (h : PHeap) : ev (E.cx Tryd.prog kl) lp0 (st0 x0 x1 x2 x3 x9 x10 h) K = body0 E K x0 x1 x2 x3 x9 x10 h := by kernel_rfl
theorem after0_se0_0_1_2_3_9_10_17 (E : Env) (x0 x1 x2 x3 x9 x10 x17 : PV) (h : PHeap) : K0 E (kTop Tryd.prog Tryd.f34) (.exit 0) (se0_0_1_2_3_9_10_17 x0 x1 x2 x3 x9 x10 x17 h) =
    (resV x9).bind fun v28 =>
    some (v28, h) := by kernel_rfl
noncomputable def main (E : Env) (x0 x1 x2 x3 : PV) (h : PHeap) : Res :=
    (E.p.buildSlice 23 0 [] h).bind fun v1 =>
    loopK (ev (E.cx Tryd.prog spec_WinningCells.kl) spec_WinningCells.lp0) E.lf (spec_WinningCells.st0 x0 x1 x2 x3 v1.1 (.int .i64 0) v1.2) (spec_WinningCells.K0 E (kTop Tryd.prog Tryd.f34))
theorem main_eq (E : Env) (x0 x1 x2 x3 : PV) (h : PHeap) : runBody (E.cx Tryd.prog kl) Tryd.f34 [x0, x1, x2, x3] h = main E x0 x1 x2 x3 h := by kernel_rfl
theorem call_eq (g : Nat → PV) (lf n : Nat) (x0 x1 x2 x3 : PV) (h : PHeap) : CL g lf (n + 1) fn_spec_WinningCells [x0, x1, x2, x3] h = main (env g lf n) x0 x1 x2 x3 h := by
  rw [← main_eq]
  show (match Tryd.prog.funcs[34]? with | some fn => if fn.body.isSome then runBody ⟨Tryd.prog, g, call Tryd.prog g KL lf n, KL 34, lf, std Tryd.prog⟩ fn [x0, x1, x2, x3] h else none | none => none) = _
  rw [Tryd.func34]
  kernel_rfl
end spec_WinningCells
namespace laws_hasInt
noncomputable def lp0 : Code := (codeAt (bodyOf Tryd.f35) [1, 0, 1, 0, 0])
def st0 (x0 x1 x5 : PV) (h : PHeap) : St := ⟨[x0, x1, .junk, .junk, .junk, x5, .junk, .junk, .junk, .junk, .junk, .junk, .junk, .junk, .junk, .junk, .junk, .junk], h⟩
def sr_4 (x4 : PV) (h : PHeap) : St := ⟨[.junk, .junk, .junk, .junk, x4, .junk, .junk, .junk, .junk, .junk, .junk, .junk, .junk, .junk, .junk, .junk, .junk, .junk], h⟩
def se0_0_1_5_9 (x0 x1 x5 x9 : PV) (h : PHeap) : St := ⟨[x0, x1, .junk, .junk, .junk, x5, .junk, .junk, .junk, x9, .junk, .junk, .junk, .junk, .junk, .junk, .junk, .junk], h⟩
noncomputable def K0 (E : Env) (K : PX → St → Res) : PX → St → Res := (kBlock 0 (kSeq (ev (E.cx Tryd.prog kl) (codeAt (bodyOf Tryd.f35) [1, 1])) K))
@[simp] theorem K0_ret (E : Env) (K : PX → St → Res) (s : St) : K0 E K .ret s = K .ret s := by kernel_rfl
noncomputable def body0 (E : Env) (K : PX → St → Res) (x0 x1 x5 : PV) (h : PHeap) : Res :=
    (E.p.len 23 x0).bind fun v8 =>
    (E.p.bin .lss 3 x5 v8).bind fun v9 =>
    condP v9
     (
      (E.p.indexAddr 23 x0 x5).bind fun v10 =>
      (E.p.load 3 v10 h).bind fun v11 =>
      (E.p.bin .eql 3 v11 x1).bind fun v12 =>
      condP v12
       (
        K .ret (sr_4 (.bool true) h))
       (
        (E.p.bin .add 3 x5 (.int .i64 1)).bind fun v13 =>
        K .normal (st0 x0 x1 v13 h)))
     (
      K (.exit 0) (se0_0_1_5_9 x0 x1 x5 v9 h))
theorem body0_eq (E : Env) (K : PX → St → Res) (x0 x1 x5 : PV) (h : PHeap) : ev (E.cx Tryd.prog kl) lp0 (st0 x0 x1 x5 h) K = body0 E K x0 x1 x5 h := by kernel_rfl
theorem after0_se0_0_1_5_9 (E : Env) (x0 x1 x5 x9 : PV) (h : PHeap) : K0 E (kTop Tryd.prog Tryd.f35) (.exit 0) (se0_0_1_5_9 x0 x1 x5 x9 h) =
    (resV (.bool false)).bind fun v7 =>
    some (v7, h) := by kernel_rfl
theorem top_sr_4 (x4 : PV) (h : PHeap) : kTop Tryd.prog Tryd.f35 .ret (sr_4 x4 h) =
    (resV x4).bind fun v14 =>
    some (v14, h) := by kernel_rfl
noncomputable def main (E : Env) (x0 x1 : PV) (h : PHeap) : Res :=
    loopK (ev (E.cx Tryd.prog laws_hasInt.kl) laws_hasInt.lp0) E.lf (laws_hasInt.st0 x0 x1 (.int .i64 0) h) (laws_hasInt.K0 E (kTop Tryd.prog Tryd.f35))
theorem main_eq (E : Env) (x0 x1 : PV) (h : PHeap) : runBody (E.cx Tryd.prog kl) Tryd.f35 [x0, x1] h = main E x0 x1 h := by kernel_rfl
theorem call_eq (g : Nat → PV) (lf n : Nat) (x0 x1 : PV) (h : PHeap) : CL g lf (n + 1) fn_laws_hasInt [x0, x1] h = main (env g lf n) x0 x1 h := by
  rw [← main_eq]
  show (match Tryd.prog.funcs[35]? with | some fn => if fn.body.isSome then runBody ⟨Tryd.prog, g, call Tryd.prog g KL lf n, KL 35, lf, std Tryd.prog⟩ fn [x0, x1] h else none | none => none) = _
  rw [Tryd.func35]
  kernel_rfl
end laws_hasInt
namespace laws_ascend
noncomputable def lp0 : Code := (codeAt (bodyOf Tryd.f36) [1, 0, 1, 0, 0])
def st0 (x0 x3 : PV) (h : PHeap) : St := ⟨[x0, .junk, .junk, x3, .junk, .junk, .junk, .junk, .junk, .junk, .junk, .junk, .junk, .junk, .junk, .junk, .junk, .junk, .junk, .junk], h⟩
def sr_2 (x2 : PV) (h : PHeap) : St := ⟨[.junk, .junk, x2, .junk, .junk, .junk, .junk, .junk, .junk, .junk, .junk, .junk, .junk, .junk, .junk, .junk, .junk, .junk, .junk, .junk], h⟩
def se0_0_3_7 (x0 x3 x7 : PV) (h : PHeap) : St := ⟨[x0, .junk, .junk, x3, .junk, .junk, .junk, x7, .junk, .junk, .junk, .junk, .junk, .junk, .junk, .junk, .junk, .junk, .junk, .junk], h⟩
noncomputable def K0 (E : Env) (K : PX → St → Res) : PX → St → Res := (kBlock 0 (kSeq (ev (E.cx Tryd.prog kl) (codeAt (bodyOf Tryd.f36) [1, 1])) K))
@[simp] theorem K0_ret (E : Env) (K : PX → St → Res) (s : St) : K0 E K .ret s = K .ret s := by kernel_rfl
noncomputable def body0 (E : Env) (K : PX → St → Res) (x0 x3 : PV) (h : PHeap) : Res :=
    (E.p.len 23 x0).bind fun v11 =>
    (E.p.bin .lss 3 x3 v11).bind fun v12 =>
    condP v12
     (
      (E.p.bin .sub 3 x3 (.int .i64 1)).bind fun v13 =>
      (E.p.indexAddr 23 x0 v13).bind fun v14 =>
      (E.p.load 3 v14 h).bind fun v15 =>
      (E.p.indexAddr 23 x0 x3).bind fun v16 =>
      (E.p.load 3 v16 h).bind fun v17 =>
      (E.p.bin .geq 3 v15 v17).bind fun v18 =>
      condP v18
       (
        K .ret (sr_2 (.bool false) h))
       (
        (E.p.bin .add 3 x3 (.int .i64 1)).bind fun v19 =>
        K .normal (st0 x0 v19 h)))
     (
      K (.exit 0) (se0_0_3_7 x0 x3 v12 h))
theorem body0_eq (E : Env) (K : PX → St → Res) (x0 x3 : PV) (h : PHeap) : ev (E.cx Tryd.prog kl) lp0 (st0 x0 x3 h) K = body0 E K x0 x3 h := by kernel_rfl
theorem after0_se0_0_3_7 (E : Env) (x0 x3 x7 : PV) (h : PHeap) : K0 E (kTop Tryd.prog Tryd.f36) (.exit 0) (se0_0_3_7 x0 x3 x7 h) =
    (resV (.bool true)).bind fun v10 =>
    some (v10, h) := by kernel_rfl
theorem top_sr_2 (x2 : PV) (h : PHeap) : kTop Tryd.prog Tryd.f36 .ret (sr_2 x2 h) =
    (resV x2).bind fun v20 =>
    some (v20, h) := by kernel_rfl
noncomputable def main (E : Env) (x0 : PV) (h : PHeap) : Res :=
    loopK (ev (E.cx Tryd.prog laws_ascend.kl) laws_ascend.lp0) E.lf (laws_ascend.st0 x0 (.int .i64 1) h) (laws_ascend.K0 E (kTop Tryd.prog Tryd.f36))
theorem main_eq (E : Env) (x0 : PV) (h : PHeap) : runBody (E.cx Tryd.prog kl) Tryd.f36 [x0] h = main E x0 h := by kernel_rfl
theorem call_eq (g : Nat → PV) (lf n : Nat) (x0 : PV) (h : PHeap) : CL g lf (n + 1) fn_laws_ascend [x0] h = main (env g lf n) x0 h := by
  rw [← main_eq]
  show (match Tryd.prog.funcs[36]? with | some fn => if fn.body.isSome then runBody ⟨Tryd.prog, g, call Tryd.prog g KL lf n, KL 36, lf, std Tryd.prog⟩ fn [x0] h else none | none => none) = _
  rw [Tryd.func36]
  kernel_rfl
end laws_ascend
namespace spec_DrawLinePlayed
noncomputable def main (E : Env) (x0 : PV) (h : PHeap) : Res :=
    (E.C fn_spec_l20Open [x0] h).bind fun v1 =>
    (E.C fn_spec_l20Few [v1.1, (.int .i64 6)] v1.2).bind fun v2 =>
    (E.p.extract v2.1 0).bind fun v3 =>
    (E.p.extract v2.1 1).bind fun v4 =>
    (E.p.extract v2.1 2).bind fun v5 =>
    (E.p.extract v2.1 3).bind fun v6 =>
    (resV v3).bind fun v7 =>
    (resV v4).bind fun v8 =>
    (resV v5).bind fun v9 =>
    (resV v6).bind fun v10 =>
    some (.tup [v7, v8, v9, v10], v2.2)
theorem main_eq (E : Env) (x0 : PV) (h : PHeap) : runBody (E.cx Tryd.prog kl) Tryd.f37 [x0] h = main E x0 h := by kernel_rfl
theorem call_eq (g : Nat → PV) (lf n : Nat) (x0 : PV) (h : PHeap) : CL g lf (n + 1) fn_spec_DrawLinePlayed [x0] h = main (env g lf n) x0 h := by
  rw [← main_eq]
  show (match Tryd.prog.funcs[37]? with | some fn => if fn.body.isSome then runBody ⟨Tryd.prog, g, call Tryd.prog g KL lf n, KL 37, lf, std Tryd.prog⟩ fn [x0] h else none | none => none) = _
  rw [Tryd.func37]
  kernel_rfl
end spec_DrawLinePlayed
namespace impl_LinePlayed
noncomputable def lp0 : Code := (codeAt (bodyOf Tryd.f38) [1, 1, 1, 1, 0, 1, 0, 0])
def st0 (x9 x10 x11 : PV) (h : PHeap) : St := ⟨[.junk, .junk, .junk, .junk, .junk, .junk, .junk, .junk, .junk, x9, x10, x11, .junk, .junk, .junk, .junk, .junk, .junk, .junk, .junk, .junk, .junk, .junk, .junk, .junk, .junk, .junk, .junk, .junk, .junk, .junk, .junk, .junk, .junk, .junk, .junk, .junk, .junk, .junk, .junk, .junk, .junk, .junk, .junk, .junk, .junk, .junk, .junk, .junk, .junk, .junk, .junk, .junk, .junk, .junk, .junk, .junk, .junk, .junk], h⟩
def se0_9_10_11_39 (x9 x10 x11 x39 : PV) (h : PHeap) : St := ⟨[.junk, .junk, .junk, .junk, .junk, .junk, .junk, .junk, .junk, x9, x10, x11, .junk, .junk, .junk, .junk, .junk, .junk, .junk, .junk, .junk, .junk, .junk, .junk, .junk, .junk, .junk, .junk, .junk, .junk, .junk, .junk, .junk, .junk, .junk, .junk, .junk, .junk, .junk, x39, .junk, .junk, .junk, .junk, .junk, .junk, .junk, .junk, .junk, .junk, .junk, .junk, .junk, .junk, .junk, .junk, .junk, .junk, .junk], h⟩
noncomputable def K0 (E : Env) (K : PX → St → Res) : PX → St → Res := (kBlock 0 (kSeq (ev (E.cx Tryd.prog kl) (codeAt (bodyOf Tryd.f38) [1, 1, 1, 1, 1])) K))
@[simp] theorem K0_ret (E : Env) (K : PX → St → Res) (s : St) : K0 E K .ret s = K .ret s := by kernel_rfl
noncomputable def body0 (E : Env) (K : PX → St → Res) (x9 x10 x11 : PV) (h : PHeap) : Res :=
    (E.p.fieldAddr 58 x11 0).bind fun v53 =>
    (E.p.indexAddr 56 v53 (.int .i64 0)).bind fun v54 =>
    (E.p.load 3 v54 h).bind fun v55 =>
    (E.p.bin .neq 3 v55 (.int .i64 0)).bind fun v56 =>
    (wantV v56 true).bind fun v57 =>
    (bif v57 then some (x9, h) else some (.tup [], h)).bind fun v58 =>
    (wantV v56 true).bind fun v59 =>
    (bif v59 then pv v58.2 (E.p.load 58 x11 v58.2) else some (.tup [], v58.2)).bind fun v60 =>
    (wantV v56 true).bind fun v61 =>
    (bif v61 then E.C fn_impl_search_joined [v58.1, v60.1] v60.2 else some (.tup [], v60.2)).bind fun v62 =>
    (wantV v56 true).bind fun v63 =>
    (bif v63 then pv v62.2 (E.p.bin .eql 3 v62.1 (.int .i64 0)) else some (.tup [], v62.2)).bind fun v64 =>
    (E.p.pick v56 v64.1 (.bool false)).bind fun v65 =>
    condP v65
     (
      (E.p.load 58 x11 v64.2).bind fun v66 =>
      (E.C fn_impl_search_winning [x9, v66] v64.2).bind fun v67 =>
      (E.p.bin .eql 3 v67.1 (.int .i64 0)).bind fun v68 =>
      condP v68
       (
        (E.p.fieldAddr 58 x11 0).bind fun v69 =>
        (E.p.indexAddr 56 v69 (.int .i64 0)).bind fun v70 =>
        (E.p.load 3 v70 v67.2).bind fun v71 =>
        (E.C fn_impl_leastIn [v71] v67.2).bind fun v72 =>
        (E.p.buildSlice 23 1 [(0, v72.1)] v72.2).bind fun v73 =>
        (E.p.append 23 23 x10 v73.1 v73.2).bind fun v74 =>
        (E.p.load 58 x11 v74.2).bind fun v75 =>
        (E.C fn_impl_standing_after [v75, v72.1] v74.2).bind fun v76 =>
        (E.p.store 58 x11 v76.1 v76.2).bind fun v77 =>
        (E.p.load 58 x11 v77).bind fun v78 =>
        (E.p.alloc 58 v77).bind fun v79 =>
        (E.p.store 58 v79.1 v78 v79.2).bind fun v80 =>
        K .normal (st0 x9 v74.1 v79.1 v80))
       (
        (E.C fn_impl_leastIn [v67.1] v67.2).bind fun v81 =>
        (E.p.buildSlice 23 1 [(0, v81.1)] v81.2).bind fun v82 =>
        (E.p.append 23 23 x10 v82.1 v82.2).bind fun v83 =>
        (E.p.load 58 x11 v83.2).bind fun v84 =>
        (E.C fn_impl_standing_after [v84, v81.1] v83.2).bind fun v85 =>
        (E.p.store 58 x11 v85.1 v85.2).bind fun v86 =>
        (E.p.load 58 x11 v86).bind fun v87 =>
        (E.p.alloc 58 v86).bind fun v88 =>
        (E.p.store 58 v88.1 v87 v88.2).bind fun v89 =>
        K .normal (st0 x9 v83.1 v88.1 v89)))
     (
      K (.exit 0) (se0_9_10_11_39 x9 x10 x11 v65 v64.2))
theorem body0_eq (E : Env) (K : PX → St → Res) (x9 x10 x11 : PV) (h : PHeap) : ev (E.cx Tryd.prog kl) lp0 (st0 x9 x10 x11 h) K = body0 E K x9 x10 x11 h := by kernel_rfl
theorem after0_se0_9_10_11_39 (E : Env) (x9 x10 x11 x39 : PV) (h : PHeap) : K0 E (kTop Tryd.prog Tryd.f38) (.exit 0) (se0_9_10_11_39 x9 x10 x11 x39 h) =
    (resV x10).bind fun v52 =>
    some (v52, h) := by kernel_rfl
noncomputable def main (E : Env) (x0 x1 x2 x3 : PV) (h : PHeap) : Res :=
    (E.C fn_impl_PositionOk [x0, x1, x2] h).bind fun v1 =>
    (E.p.un .not v1.1).bind fun v2 =>
    (wantV v2 false).bind fun v3 =>
    (bif v3 then some (x3, v1.2) else some (.tup [], v1.2)).bind fun v4 =>
    (wantV v2 false).bind fun v5 =>
    (bif v5 then E.C fn_impl_playerOk [v4.1] v4.2 else some (.tup [], v4.2)).bind fun v6 =>
    (wantV v2 false).bind fun v7 =>
    (bif v7 then pv v6.2 (E.p.un .not v6.1) else some (.tup [], v6.2)).bind fun v8 =>
    (E.p.pick v2 (.bool true) v8.1).bind fun v9 =>
    condP v9
     (
      (resV .nilsl).bind fun v10 =>
      some (v10, v8.2))
     (
      (E.C fn_impl_newSearch [x0, x1] v8.2).bind fun v11 =>
      (E.C fn_impl_standingOf [x2, x3] v11.2).bind fun v12 =>
      (E.p.alloc 58 v12.2).bind fun v13 =>
      (E.p.store 58 v13.1 v12.1 v13.2).bind fun v14 =>
      loopK (ev (E.cx Tryd.prog impl_LinePlayed.kl) impl_LinePlayed.lp0) E.lf (impl_LinePlayed.st0 v11.1 .nilsl v13.1 v14) (impl_LinePlayed.K0 E (kTop Tryd.prog Tryd.f38)))
theorem main_eq (E : Env) (x0 x1 x2 x3 : PV) (h : PHeap) : runBody (E.cx Tryd.prog kl) Tryd.f38 [x0, x1, x2, x3] h = main E x0 x1 x2 x3 h := by kernel_rfl
theorem call_eq (g : Nat → PV) (lf n : Nat) (x0 x1 x2 x3 : PV) (h : PHeap) : CL g lf (n + 1) fn_impl_LinePlayed [x0, x1, x2, x3] h = main (env g lf n) x0 x1 x2 x3 h := by
  rw [← main_eq]
  show (match Tryd.prog.funcs[38]? with | some fn => if fn.body.isSome then runBody ⟨Tryd.prog, g, call Tryd.prog g KL lf n, KL 38, lf, std Tryd.prog⟩ fn [x0, x1, x2, x3] h else none | none => none) = _
  rw [Tryd.func38]
  kernel_rfl
end impl_LinePlayed
namespace spec_LinePlayed
noncomputable def lp0 : Code := (codeAt (bodyOf Tryd.f39) [1, 1, 1, 1, 0, 0, 0])
def st0 (x0 x1 x3 x9 x10 : PV) (h : PHeap) : St := ⟨[x0, x1, .junk, x3, .junk, .junk, .junk, .junk, .junk, x9, x10, .junk, .junk, .junk, .junk, .junk, .junk, .junk, .junk, .junk, .junk, .junk, .junk, .junk, .junk, .junk, .junk, .junk, .junk, .junk, .junk, .junk, .junk, .junk, .junk, .junk, .junk, .junk, .junk, .junk, .junk, .junk, .junk, .junk, .junk, .junk, .junk, .junk, .junk, .junk, .junk, .junk, .junk, .junk, .junk, .junk, .junk, .junk, .junk, .junk, .junk, .junk, .junk, .junk, .junk, .junk, .junk, .junk, .junk, .junk, .junk, .junk], h⟩
def se0_0_1_3_9_10_44 (x0 x1 x3 x9 x10 x44 : PV) (h : PHeap) : St := ⟨[x0, x1, .junk, x3, .junk, .junk, .junk, .junk, .junk, x9, x10, .junk, .junk, .junk, .junk, .junk, .junk, .junk, .junk, .junk, .junk, .junk, .junk, .junk, .junk, .junk, .junk, .junk, .junk, .junk, .junk, .junk, .junk, .junk, .junk, .junk, .junk, .junk, .junk, .junk, .junk, .junk, .junk, .junk, x44, .junk, .junk, .junk, .junk, .junk, .junk, .junk, .junk, .junk, .junk, .junk, .junk, .junk, .junk, .junk, .junk, .junk, .junk, .junk, .junk, .junk, .junk, .junk, .junk, .junk, .junk, .junk], h⟩
noncomputable def K0 (E : Env) (K : PX → St → Res) : PX → St → Res := (kBlock 0 (kSeq (ev (E.cx Tryd.prog kl) (codeAt (bodyOf Tryd.f39) [1, 1, 1, 1, 1])) K))
@[simp] theorem K0_ret (E : Env) (K : PX → St → Res) (s : St) : K0 E K .ret s = K .ret s := by kernel_rfl
noncomputable def body0 (E : Env) (K : PX → St → Res) (x0 x1 x3 x9 x10 : PV) (h : PHeap) : Res :=
    (E.C fn_spec_l2Set [x10, (.int .i64 0)] h).bind fun v58 =>
    (E.p.bin .neq 3 v58.1 (.int .i64 0)).bind fun v59 =>
    (wantV v59 true).bind fun v60 =>
    (bif v60 then some (x0, v58.2) else some (.tup [], v58.2)).bind fun v61 =>
    (wantV v59 true).bind fun v62 =>
    (bif v62 then some (x1, v61.2) else some (.tup [], v61.2)).bind fun v63 =>
    (wantV v59 true).bind fun v64 =>
    (bif v64 then some (x10, v63.2) else some (.tup [], v63.2)).bind fun v65 =>
    (wantV v59 true).bind fun v66 =>
    (bif v66 then E.C fn_spec_Joins [v61.1, v63.1, v65.1, (.int .i64 1)] v65.2 else some (.tup [], v65.2)).bind fun v67 =>
    (wantV v59 true).bind fun v68 =>
    (bif v68 then pv v67.2 (E.p.un .not v67.1) else some (.tup [], v67.2)).bind fun v69 =>
    (E.p.pick v59 v69.1 (.bool false)).bind fun v70 =>
    (wantV v70 true).bind fun v71 =>
    (bif v71 then some (x0, v69.2) else some (.tup [], v69.2)).bind fun v72 =>
    (wantV v70 true).bind fun v73 =>
    (bif v73 then some (x1, v72.2) else some (.tup [], v72.2)).bind fun v74 =>
    (wantV v70 true).bind fun v75 =>
    (bif v75 then some (x10, v74.2) else some (.tup [], v74.2)).bind fun v76 =>
    (wantV v70 true).bind fun v77 =>
    (bif v77 then E.C fn_spec_Joins [v72.1, v74.1, v76.1, (.int .i64 2)] v76.2 else some (.tup [], v76.2)).bind fun v78 =>
    (wantV v70 true).bind fun v79 =>
    (bif v79 then pv v78.2 (E.p.un .not v78.1) else some (.tup [], v78.2)).bind fun v80 =>
    (E.p.pick v70 v80.1 (.bool false)).bind fun v81 =>
    condP v81
     (
      (E.C fn_spec_l2Set [x10, (.int .i64 0)] v80.2).bind fun v82 =>
      (E.C fn_spec_l2List [v82.1] v82.2).bind fun v83 =>
      (E.p.indexAddr 23 v83.1 (.int .i64 0)).bind fun v84 =>
      (E.p.load 3 v84 v83.2).bind fun v85 =>
      (E.C fn_spec_WinningCells [x0, x1, x10, x3] v83.2).bind fun v86 =>
      (E.p.len 23 v86.1).bind fun v87 =>
      (E.p.bin .gtr 3 v87 (.int .i64 0)).bind fun v88 =>
      condP v88
       (
        (E.p.indexAddr 23 v86.1 (.int .i64 0)).bind fun v89 =>
        (E.p.load 3 v89 v86.2).bind fun v90 =>
        (E.p.buildSlice 23 1 [(0, v90)] v86.2).bind fun v91 =>
        (E.p.append 23 23 x9 v91.1 v91.2).bind fun v92 =>
        (E.p.indexAddr 23 x10 v90).bind fun v93 =>
        (E.p.store 3 v93 x3 v92.2).bind fun v94 =>
        (E.C fn_spec_l1Other [x3] v94).bind fun v95 =>
        K .normal (st0 x0 x1 v95.1 v92.1 x10 v95.2))
       (
        (E.p.buildSlice 23 1 [(0, v85)] v86.2).bind fun v96 =>
        (E.p.append 23 23 x9 v96.1 v96.2).bind fun v97 =>
        (E.p.indexAddr 23 x10 v85).bind fun v98 =>
        (E.p.store 3 v98 x3 v97.2).bind fun v99 =>
        (E.C fn_spec_l1Other [x3] v99).bind fun v100 =>
        K .normal (st0 x0 x1 v100.1 v97.1 x10 v100.2)))
     (
      K (.exit 0) (se0_0_1_3_9_10_44 x0 x1 x3 x9 x10 v81 v80.2))
theorem body0_eq (E : Env) (K : PX → St → Res) (x0 x1 x3 x9 x10 : PV) (h : PHeap) : ev (E.cx Tryd.prog kl) lp0 (st0 x0 x1 x3 x9 x10 h) K = body0 E K x0 x1 x3 x9 x10 h := by kernel_rfl
theorem after0_se0_0_1_3_9_10_44 (E : Env) (x0 x1 x3 x9 x10 x44 : PV) (h : PHeap) : K0 E (kTop Tryd.prog Tryd.f39) (.exit 0) (se0_0_1_3_9_10_44 x0 x1 x3 x9 x10 x44 h) =
    (resV x9).bind fun v57 =>
    some (v57, h) := by kernel_rfl
noncomputable def main (E : Env) (x0 x1 x2 x3 : PV) (h : PHeap) : Res :=
    (E.p.buildSlice 23 0 [] h).bind fun v1 =>
    (E.C fn_spec_PositionOk [x0, x1, x2] v1.2).bind fun v2 =>
    (E.p.un .not v2.1).bind fun v3 =>
    (wantV v3 false).bind fun v4 =>
    (bif v4 then some (x3, v2.2) else some (.tup [], v2.2)).bind fun v5 =>
    (wantV v3 false).bind fun v6 =>
    (bif v6 then E.C fn_spec_l1In [v5.1, (.int .i64 1), (.int .i64 2)] v5.2 else some (.tup [], v5.2)).bind fun v7 =>
    (wantV v3 false).bind fun v8 =>
    (bif v8 then pv v7.2 (E.p.un .not v7.1) else some (.tup [], v7.2)).bind fun v9 =>
    (E.p.pick v3 (.bool true) v9.1).bind fun v10 =>
    condP v10
     (
      (resV v1.1).bind fun v11 =>
      some (v11, v9.2))
     (
      (E.p.buildSlice 23 0 [] v9.2).bind fun v12 =>
      (E.p.append 23 23 v12.1 x2 v12.2).bind fun v13 =>
      loopK (ev (E.cx Tryd.prog spec_LinePlayed.kl) spec_LinePlayed.lp0) E.lf (spec_LinePlayed.st0 x0 x1 x3 v1.1 v13.1 v13.2) (spec_LinePlayed.K0 E (kTop Tryd.prog Tryd.f39)))
theorem main_eq (E : Env) (x0 x1 x2 x3 : PV) (h : PHeap) : runBody (E.cx Tryd.prog kl) Tryd.f39 [x0, x1, x2, x3] h = main E x0 x1 x2 x3 h := by kernel_rfl
theorem call_eq (g : Nat → PV) (lf n : Nat) (x0 x1 x2 x3 : PV) (h : PHeap) : CL g lf (n + 1) fn_spec_LinePlayed [x0, x1, x2, x3] h = main (env g lf n) x0 x1 x2 x3 h := by
  rw [← main_eq]
  show (match Tryd.prog.funcs[39]? with | some fn => if fn.body.isSome then runBody ⟨Tryd.prog, g, call Tryd.prog g KL lf n, KL 39, lf, std Tryd.prog⟩ fn [x0, x1, x2, x3] h else none | none => none) = _
  rw [Tryd.func39]
  kernel_rfl
end spec_LinePlayed
namespace laws_toIntS
noncomputable def lp0 : Code := (codeAt (bodyOf Tryd.f40) [1, 1, 0, 1, 0, 0])
def st0 (x0 x3 x4 : PV) (h : PHeap) : St := ⟨[x0, .junk, .junk, x3, x4, .junk, .junk, .junk, .junk, .junk, .junk, .junk, .junk, .junk, .junk, .junk, .junk, .junk, .junk, .junk, .junk, .junk], h⟩
def se0_0_3_4_11 (x0 x3 x4 x11 : PV) (h : PHeap) : St := ⟨[x0, .junk, .junk, x3, x4, .junk, .junk, .junk, .junk, .junk, .junk, x11, .junk, .junk, .junk, .junk, .junk, .junk, .junk, .junk, .junk, .junk], h⟩
noncomputable def K0 (E : Env) (K : PX → St → Res) : PX → St → Res := (kBlock 0 (kSeq (ev (E.cx Tryd.prog kl) (codeAt (bodyOf Tryd.f40) [1, 1, 1])) K))
@[simp] theorem K0_ret (E : Env) (K : PX → St → Res) (s : St) : K0 E K .ret s = K .ret s := by kernel_rfl
noncomputable def body0 (E : Env) (K : PX → St → Res) (x0 x3 x4 : PV) (h : PHeap) : Res :=
    (E.p.len 23 x0).bind fun v11 =>
    (E.p.bin .lss 3 x4 v11).bind fun v12 =>
    condP v12
     (
      (E.p.indexAddr 23 x0 x4).bind fun v13 =>
      (E.p.load 3 v13 h).bind fun v14 =>
      (E.p.indexAddr 23 x3 x4).bind fun v15 =>
      (E.p.store 3 v15 v14 h).bind fun v16 =>
      (E.p.bin .add 3 x4 (.int .i64 1)).bind fun v17 =>
      K .normal (st0 x0 x3 v17 v16))
     (
      K (.exit 0) (se0_0_3_4_11 x0 x3 x4 v12 h))
theorem body0_eq (E : Env) (K : PX → St → Res) (x0 x3 x4 : PV) (h : PHeap) : ev (E.cx Tryd.prog kl) lp0 (st0 x0 x3 x4 h) K = body0 E K x0 x3 x4 h := by kernel_rfl
theorem after0_se0_0_3_4_11 (E : Env) (x0 x3 x4 x11 : PV) (h : PHeap) : K0 E (kTop Tryd.prog Tryd.f40) (.exit 0) (se0_0_3_4_11 x0 x3 x4 x11 h) =
    (resV x3).bind fun v10 =>
    some (v10, h) := by kernel_rfl
noncomputable def main (E : Env) (x0 : PV) (h : PHeap) : Res :=
    (E.p.len 23 x0).bind fun v1 =>
    (E.p.make 23 v1 v1 h).bind fun v2 =>
    loopK (ev (E.cx Tryd.prog laws_toIntS.kl) laws_toIntS.lp0) E.lf (laws_toIntS.st0 x0 v2.1 (.int .i64 0) v2.2) (laws_toIntS.K0 E (kTop Tryd.prog Tryd.f40))
theorem main_eq (E : Env) (x0 : PV) (h : PHeap) : runBody (E.cx Tryd.prog kl) Tryd.f40 [x0] h = main E x0 h := by kernel_rfl
theorem call_eq (g : Nat → PV) (lf n : Nat) (x0 : PV) (h : PHeap) : CL g lf (n + 1) fn_laws_toIntS [x0] h = main (env g lf n) x0 h := by
  rw [← main_eq]
  show (match Tryd.prog.funcs[40]? with | some fn => if fn.body.isSome then runBody ⟨Tryd.prog, g, call Tryd.prog g KL lf n, KL 40, lf, std Tryd.prog⟩ fn [x0] h else none | none => none) = _
  rw [Tryd.func40]
  kernel_rfl
end laws_toIntS
namespace laws_eqIntS
noncomputable def lp0 : Code := (codeAt (bodyOf Tryd.f41) [1, 1, 0, 1, 0, 0])
def st0 (x0 x1 x5 : PV) (h : PHeap) : St := ⟨[x0, x1, .junk, .junk, .junk, x5, .junk, .junk, .junk, .junk, .junk, .junk, .junk, .junk, .junk, .junk, .junk, .junk, .junk, .junk, .junk, .junk, .junk, .junk, .junk, .junk], h⟩
def sr_4 (x4 : PV) (h : PHeap) : St := ⟨[.junk, .junk, .junk, .junk, x4, .junk, .junk, .junk, .junk, .junk, .junk, .junk, .junk, .junk, .junk, .junk, .junk, .junk, .junk, .junk, .junk, .junk, .junk, .junk, .junk, .junk], h⟩
def se0_0_1_5_14 (x0 x1 x5 x14 : PV) (h : PHeap) : St := ⟨[x0, x1, .junk, .junk, .junk, x5, .junk, .junk, .junk, .junk, .junk, .junk, .junk, .junk, x14, .junk, .junk, .junk, .junk, .junk, .junk, .junk, .junk, .junk, .junk, .junk], h⟩
noncomputable def K0 (E : Env) (K : PX → St → Res) : PX → St → Res := (kBlock 0 (kSeq (ev (E.cx Tryd.prog kl) (codeAt (bodyOf Tryd.f41) [1, 1, 1])) K))
@[simp] theorem K0_ret (E : Env) (K : PX → St → Res) (s : St) : K0 E K .ret s = K .ret s := by kernel_rfl
noncomputable def body0 (E : Env) (K : PX → St → Res) (x0 x1 x5 : PV) (h : PHeap) : Res :=
    (E.p.len 23 x0).bind fun v14 =>
    (E.p.bin .lss 3 x5 v14).bind fun v15 =>
    condP v15
     (
      (E.p.indexAddr 23 x0 x5).bind fun v16 =>
      (E.p.load 3 v16 h).bind fun v17 =>
      (E.p.indexAddr 23 x1 x5).bind fun v18 =>
      (E.p.load 3 v18 h).bind fun v19 =>
      (E.p.bin .neq 3 v17 v19).bind fun v20 =>
      condP v20
       (
        K .ret (sr_4 (.bool false) h))
       (
        (E.p.bin .add 3 x5 (.int .i64 1)).bind fun v21 =>
        K .normal (st0 x0 x1 v21 h)))
     (
      K (.exit 0) (se0_0_1_5_14 x0 x1 x5 v15 h))
theorem body0_eq (E : Env) (K : PX → St → Res) (x0 x1 x5 : PV) (h : PHeap) : ev (E.cx Tryd.prog kl) lp0 (st0 x0 x1 x5 h) K = body0 E K x0 x1 x5 h := by kernel_rfl
theorem after0_se0_0_1_5_14 (E : Env) (x0 x1 x5 x14 : PV) (h : PHeap) : K0 E (kTop Tryd.prog Tryd.f41) (.exit 0) (se0_0_1_5_14 x0 x1 x5 x14 h) =
    (resV (.bool true)).bind fun v13 =>
    some (v13, h) := by kernel_rfl
theorem top_sr_4 (x4 : PV) (h : PHeap) : kTop Tryd.prog Tryd.f41 .ret (sr_4 x4 h) =
    (resV x4).bind fun v22 =>
    some (v22, h) := by kernel_rfl
noncomputable def main (E : Env) (x0 x1 : PV) (h : PHeap) : Res :=
    (E.p.len 23 x0).bind fun v1 =>
    (E.p.len 23 x1).bind fun v2 =>
    (E.p.bin .neq 3 v1 v2).bind fun v3 =>
    condP v3
     (
      (resV (.bool false)).bind fun v4 =>
      some (v4, h))
     (
      loopK (ev (E.cx Tryd.prog laws_eqIntS.kl) laws_eqIntS.lp0) E.lf (laws_eqIntS.st0 x0 x1 (.int .i64 0) h) (laws_eqIntS.K0 E (kTop Tryd.prog Tryd.f41)))
theorem main_eq (E : Env) (x0 x1 : PV) (h : PHeap) : runBody (E.cx Tryd.prog kl) Tryd.f41 [x0, x1] h = main E x0 x1 h := by kernel_rfl
theorem call_eq (g : Nat → PV) (lf n : Nat) (x0 x1 : PV) (h : PHeap) : CL g lf (n + 1) fn_laws_eqIntS [x0, x1] h = main (env g lf n) x0 x1 h := by
  rw [← main_eq]
  show (match Tryd.prog.funcs[41]? with | some fn => if fn.body.isSome then runBody ⟨Tryd.prog, g, call Tryd.prog g KL lf n, KL 41, lf, std Tryd.prog⟩ fn [x0, x1] h else none | none => none) = _
  rw [Tryd.func41]
  kernel_rfl
end laws_eqIntS
namespace laws_markIntS
noncomputable def lp0 : Code := (codeAt (bodyOf Tryd.f42) [1, 0, 1, 0, 0])
def st0 (x0 x1 x5 : PV) (h : PHeap) : St := ⟨[x0, x1, .junk, .junk, .junk, x5, .junk, .junk, .junk, .junk, .junk, .junk, .junk, .junk, .junk, .junk, .junk, .junk, .junk], h⟩
def se0_0_1_5_9 (x0 x1 x5 x9 : PV) (h : PHeap) : St := ⟨[x0, x1, .junk, .junk, .junk, x5, .junk, .junk, .junk, x9, .junk, .junk, .junk, .junk, .junk, .junk, .junk, .junk, .junk], h⟩
noncomputable def K0 (E : Env) (K : PX → St → Res) : PX → St → Res := (kBlock 0 (kSeq (ev (E.cx Tryd.prog kl) (codeAt (bodyOf Tryd.f42) [1, 1])) K))
@[simp] theorem K0_ret (E : Env) (K : PX → St → Res) (s : St) : K0 E K .ret s = K .ret s := by kernel_rfl
noncomputable def body0 (E : Env) (K : PX → St → Res) (x0 x1 x5 : PV) (h : PHeap) : Res :=
    (E.p.len 23 x0).bind fun v8 =>
    (E.p.bin .lss 3 x5 v8).bind fun v9 =>
    condP v9
     (
      (E.p.indexAddr 23 x0 x5).bind fun v10 =>
      (E.p.store 3 v10 x1 h).bind fun v11 =>
      (E.p.bin .add 3 x1 (.int .i64 1)).bind fun v12 =>
      (E.p.bin .add 3 x5 (.int .i64 1)).bind fun v13 =>
      K .normal (st0 x0 v12 v13 v11))
     (
      K (.exit 0) (se0_0_1_5_9 x0 x1 x5 v9 h))
theorem body0_eq (E : Env) (K : PX → St → Res) (x0 x1 x5 : PV) (h : PHeap) : ev (E.cx Tryd.prog kl) lp0 (st0 x0 x1 x5 h) K = body0 E K x0 x1 x5 h := by kernel_rfl
theorem after0_se0_0_1_5_9 (E : Env) (x0 x1 x5 x9 : PV) (h : PHeap) : K0 E (kTop Tryd.prog Tryd.f42) (.exit 0) (se0_0_1_5_9 x0 x1 x5 x9 h) =
    (resV x1).bind fun v7 =>
    some (v7, h) := by kernel_rfl
noncomputable def main (E : Env) (x0 x1 : PV) (h : PHeap) : Res :=
    loopK (ev (E.cx Tryd.prog laws_markIntS.kl) laws_markIntS.lp0) E.lf (laws_markIntS.st0 x0 x1 (.int .i64 0) h) (laws_markIntS.K0 E (kTop Tryd.prog Tryd.f42))
theorem main_eq (E : Env) (x0 x1 : PV) (h : PHeap) : runBody (E.cx Tryd.prog kl) Tryd.f42 [x0, x1] h = main E x0 x1 h := by kernel_rfl
theorem call_eq (g : Nat → PV) (lf n : Nat) (x0 x1 : PV) (h : PHeap) : CL g lf (n + 1) fn_laws_markIntS [x0, x1] h = main (env g lf n) x0 x1 h := by
  rw [← main_eq]
  show (match Tryd.prog.funcs[42]? with | some fn => if fn.body.isSome then runBody ⟨Tryd.prog, g, call Tryd.prog g KL lf n, KL 42, lf, std Tryd.prog⟩ fn [x0, x1] h else none | none => none) = _
  rw [Tryd.func42]
  kernel_rfl
end laws_markIntS
namespace laws_heldIntS
noncomputable def lp0 : Code := (codeAt (bodyOf Tryd.f43) [1, 0, 1, 0, 0])
def st0 (x0 x1 x5 : PV) (h : PHeap) : St := ⟨[x0, x1, .junk, .junk, .junk, x5, .junk, .junk, .junk, .junk, .junk, .junk, .junk, .junk, .junk, .junk, .junk, .junk, .junk, .junk, .junk], h⟩
def sr_4 (x4 : PV) (h : PHeap) : St := ⟨[.junk, .junk, .junk, .junk, x4, .junk, .junk, .junk, .junk, .junk, .junk, .junk, .junk, .junk, .junk, .junk, .junk, .junk, .junk, .junk, .junk], h⟩
def se0_0_1_5_9 (x0 x1 x5 x9 : PV) (h : PHeap) : St := ⟨[x0, x1, .junk, .junk, .junk, x5, .junk, .junk, .junk, x9, .junk, .junk, .junk, .junk, .junk, .junk, .junk, .junk, .junk, .junk, .junk], h⟩
noncomputable def K0 (E : Env) (K : PX → St → Res) : PX → St → Res := (kBlock 0 (kSeq (ev (E.cx Tryd.prog kl) (codeAt (bodyOf Tryd.f43) [1, 1])) K))
@[simp] theorem K0_ret (E : Env) (K : PX → St → Res) (s : St) : K0 E K .ret s = K .ret s := by kernel_rfl
noncomputable def body0 (E : Env) (K : PX → St → Res) (x0 x1 x5 : PV) (h : PHeap) : Res :=
    (E.p.len 23 x0).bind fun v9 =>
    (E.p.bin .lss 3 x5 v9).bind fun v10 =>
    condP v10
     (
      (E.p.indexAddr 23 x0 x5).bind fun v11 =>
      (E.p.load 3 v11 h).bind fun v12 =>
      (E.p.bin .neq 3 v12 x1).bind fun v13 =>
      condP v13
       (
        K .ret (sr_4 (.int .i64 (-1)) h))
       (
        (E.p.bin .add 3 x1 (.int .i64 1)).bind fun v14 =>
        (E.p.bin .add 3 x5 (.int .i64 1)).bind fun v15 =>
        K .normal (st0 x0 v14 v15 h)))
     (
      K (.exit 0) (se0_0_1_5_9 x0 x1 x5 v10 h))
theorem body0_eq (E : Env) (K : PX → St → Res) (x0 x1 x5 : PV) (h : PHeap) : ev (E.cx Tryd.prog kl) lp0 (st0 x0 x1 x5 h) K = body0 E K x0 x1 x5 h := by kernel_rfl
theorem after0_se0_0_1_5_9 (E : Env) (x0 x1 x5 x9 : PV) (h : PHeap) : K0 E (kTop Tryd.prog Tryd.f43) (.exit 0) (se0_0_1_5_9 x0 x1 x5 x9 h) =
    (resV x1).bind fun v8 =>
    some (v8, h) := by kernel_rfl
theorem top_sr_4 (x4 : PV) (h : PHeap) : kTop Tryd.prog Tryd.f43 .ret (sr_4 x4 h) =
    (resV x4).bind fun v16 =>
    some (v16, h) := by kernel_rfl
noncomputable def main (E : Env) (x0 x1 : PV) (h : PHeap) : Res :=
    loopK (ev (E.cx Tryd.prog laws_heldIntS.kl) laws_heldIntS.lp0) E.lf (laws_heldIntS.st0 x0 x1 (.int .i64 0) h) (laws_heldIntS.K0 E (kTop Tryd.prog Tryd.f43))
theorem main_eq (E : Env) (x0 x1 : PV) (h : PHeap) : runBody (E.cx Tryd.prog kl) Tryd.f43 [x0, x1] h = main E x0 x1 h := by kernel_rfl
theorem call_eq (g : Nat → PV) (lf n : Nat) (x0 x1 : PV) (h : PHeap) : CL g lf (n + 1) fn_laws_heldIntS [x0, x1] h = main (env g lf n) x0 x1 h := by
  rw [← main_eq]
  show (match Tryd.prog.funcs[43]? with | some fn => if fn.body.isSome then runBody ⟨Tryd.prog, g, call Tryd.prog g KL lf n, KL 43, lf, std Tryd.prog⟩ fn [x0, x1] h else none | none => none) = _
  rw [Tryd.func43]
  kernel_rfl
end laws_heldIntS
namespace spec_l20Move
noncomputable def main (E : Env) (x0 : PV) (h : PHeap) : Res :=
    (E.C fn_spec_l20Sided [x0, (.int .i64 14)] h).bind fun v1 =>
    (E.p.extract v1.1 0).bind fun v2 =>
    (E.p.extract v1.1 1).bind fun v3 =>
    (E.p.extract v1.1 2).bind fun v4 =>
    (E.p.extract v1.1 3).bind fun v5 =>
    (E.p.len 23 v4).bind fun v6 =>
    (E.p.max v6 [(.int .i64 1)]).bind fun v7 =>
    (E.C fn_spec_l20Rd_pick [x0, v7] v1.2).bind fun v8 =>
    (E.C fn_spec_l20Rd_pick [x0, (.int .i64 40)] v8.2).bind fun v9 =>
    (E.p.bin .quo 3 v9.1 (.int .i64 39)).bind fun v10 =>
    (E.p.bin .mul 3 v10 (.int .i64 9)).bind fun v11 =>
    (E.p.bin .add 3 v8.1 v11).bind fun v12 =>
    (E.p.len 23 v4).bind fun v13 =>
    (E.p.bin .lss 3 v12 v13).bind fun v14 =>
    (wantV v14 true).bind fun v15 =>
    (bif v15 then some (v4, v9.2) else some (.tup [], v9.2)).bind fun v16 =>
    (wantV v14 true).bind fun v17 =>
    (bif v17 then some (v12, v16.2) else some (.tup [], v16.2)).bind fun v18 =>
    (wantV v14 true).bind fun v19 =>
    (bif v19 then pv v18.2 (E.p.indexAddr 23 v16.1 v18.1) else some (.tup [], v18.2)).bind fun v20 =>
    (wantV v14 true).bind fun v21 =>
    (bif v21 then pv v20.2 (E.p.load 3 v20.1 v20.2) else some (.tup [], v20.2)).bind fun v22 =>
    (wantV v14 true).bind fun v23 =>
    (bif v23 then pv v22.2 (E.p.bin .neq 3 v22.1 (.int .i64 0)) else some (.tup [], v22.2)).bind fun v24 =>
    (E.p.pick v14 v24.1 (.bool false)).bind fun v25 =>
    (wantV v25 true).bind fun v26 =>
    (bif v26 then some (x0, v24.2) else some (.tup [], v24.2)).bind fun v27 =>
    (wantV v25 true).bind fun v28 =>
    (bif v28 then E.C fn_spec_l20Rd_pick [v27.1, (.int .i64 3)] v27.2 else some (.tup [], v27.2)).bind fun v29 =>
    (wantV v25 true).bind fun v30 =>
    (bif v30 then pv v29.2 (E.p.bin .gtr 3 v29.1 (.int .i64 0)) else some (.tup [], v29.2)).bind fun v31 =>
    (E.p.pick v25 v31.1 (.bool false)).bind fun v32 =>
    condP v32
     (
      (E.p.indexAddr 23 v4 v12).bind fun v33 =>
      (E.p.store 3 v33 (.int .i64 0) v31.2).bind fun v34 =>
      (resV v2).bind fun v35 =>
      (resV v3).bind fun v36 =>
      (resV v4).bind fun v37 =>
      (resV v12).bind fun v38 =>
      (resV v5).bind fun v39 =>
      some (.tup [v35, v36, v37, v38, v39], v34))
     (
      (resV v2).bind fun v40 =>
      (resV v3).bind fun v41 =>
      (resV v4).bind fun v42 =>
      (resV v12).bind fun v43 =>
      (resV v5).bind fun v44 =>
      some (.tup [v40, v41, v42, v43, v44], v31.2))
theorem main_eq (E : Env) (x0 : PV) (h : PHeap) : runBody (E.cx Tryd.prog kl) Tryd.f44 [x0] h = main E x0 h := by kernel_rfl
theorem call_eq (g : Nat → PV) (lf n : Nat) (x0 : PV) (h : PHeap) : CL g lf (n + 1) fn_spec_l20Move [x0] h = main (env g lf n) x0 h := by
  rw [← main_eq]
  show (match Tryd.prog.funcs[44]? with | some fn => if fn.body.isSome then runBody ⟨Tryd.prog, g, call Tryd.prog g KL lf n, KL 44, lf, std Tryd.prog⟩ fn [x0] h else none | none => none) = _
  rw [Tryd.func44]
  kernel_rfl
end spec_l20Move
namespace spec_l20Open
noncomputable def main (E : Env) (x0 : PV) (h : PHeap) : Res :=
    (E.p.len 22 x0).bind fun v1 =>
    (E.p.bin .gtr 3 v1 (.int .i64 2000)).bind fun v2 =>
    condP v2
     (
      (E.p.slice 22 x0 none (some (.int .i64 2000)) h).bind fun v3 =>
      (E.p.build 65 [(0, v3)]).bind fun v4 =>
      (E.p.box v4 h).bind fun v5 =>
      (resV v5.1).bind fun v6 =>
      some (v6, v5.2))
     (
      (E.p.build 65 [(0, x0)]).bind fun v7 =>
      (E.p.box v7 h).bind fun v8 =>
      (resV v8.1).bind fun v9 =>
      some (v9, v8.2))
theorem main_eq (E : Env) (x0 : PV) (h : PHeap) : runBody (E.cx Tryd.prog kl) Tryd.f45 [x0] h = main E x0 h := by kernel_rfl
theorem call_eq (g : Nat → PV) (lf n : Nat) (x0 : PV) (h : PHeap) : CL g lf (n + 1) fn_spec_l20Open [x0] h = main (env g lf n) x0 h := by
  rw [← main_eq]
  show (match Tryd.prog.funcs[45]? with | some fn => if fn.body.isSome then runBody ⟨Tryd.prog, g, call Tryd.prog g KL lf n, KL 45, lf, std Tryd.prog⟩ fn [x0] h else none | none => none) = _
  rw [Tryd.func45]
  kernel_rfl
end spec_l20Open
namespace impl_playerOk
noncomputable def main (E : Env) (x0 : PV) (h : PHeap) : Res :=
    (E.p.bin .eql 3 x0 (.int .i64 1)).bind fun v1 =>
    (wantV v1 false).bind fun v2 =>
    (bif v2 then some (x0, h) else some (.tup [], h)).bind fun v3 =>
    (wantV v1 false).bind fun v4 =>
    (bif v4 then pv v3.2 (E.p.bin .eql 3 v3.1 (.int .i64 2)) else some (.tup [], v3.2)).bind fun v5 =>
    (E.p.pick v1 (.bool true) v5.1).bind fun v6 =>
    (resV v6).bind fun v7 =>
    some (v7, v5.2)
theorem main_eq (E : Env) (x0 : PV) (h : PHeap) : runBody (E.cx Tryd.prog kl) Tryd.f46 [x0] h = main E x0 h := by kernel_rfl
theorem call_eq (g : Nat → PV) (lf n : Nat) (x0 : PV) (h : PHeap) : CL g lf (n + 1) fn_impl_playerOk [x0] h = main (env g lf n) x0 h := by
  rw [← main_eq]
  show (match Tryd.prog.funcs[46]? with | some fn => if fn.body.isSome then runBody ⟨Tryd.prog, g, call Tryd.prog g KL lf n, KL 46, lf, std Tryd.prog⟩ fn [x0] h else none | none => none) = _
  rw [Tryd.func46]
  kernel_rfl
end impl_playerOk
namespace impl_cellOk
noncomputable def main (E : Env) (x0 x1 x2 : PV) (h : PHeap) : Res :=
    (E.C fn_impl_BoardOk [x0, x1] h).bind fun v1 =>
    (wantV v1.1 true).bind fun v2 =>
    (bif v2 then some (x2, v1.2) else some (.tup [], v1.2)).bind fun v3 =>
    (wantV v1.1 true).bind fun v4 =>
    (bif v4 then pv v3.2 (E.p.bin .geq 3 v3.1 (.int .i64 0)) else some (.tup [], v3.2)).bind fun v5 =>
    (E.p.pick v1.1 v5.1 (.bool false)).bind fun v6 =>
    (wantV v6 true).bind fun v7 =>
    (bif v7 then some (x2, v5.2) else some (.tup [], v5.2)).bind fun v8 =>
    (wantV v6 true).bind fun v9 =>
    (bif v9 then some (x0, v8.2) else some (.tup [], v8.2)).bind fun v10 =>
    (wantV v6 true).bind fun v11 =>
    (bif v11 then some (x1, v10.2) else some (.tup [], v10.2)).bind fun v12 =>
    (wantV v6 true).bind fun v13 =>
    (bif v13 then pv v12.2 (E.p.bin .mul 3 v10.1 v12.1) else some (.tup [], v12.2)).bind fun v14 =>
    (wantV v6 true).bind fun v15 =>
    (bif v15 then pv v14.2 (E.p.bin .lss 3 v8.1 v14.1) else some (.tup [], v14.2)).bind fun v16 =>
    (E.p.pick v6 v16.1 (.bool false)).bind fun v17 =>
    (resV v17).bind fun v18 =>
    some (v18, v16.2)
theorem main_eq (E : Env) (x0 x1 x2 : PV) (h : PHeap) : runBody (E.cx Tryd.prog kl) Tryd.f47 [x0, x1, x2] h = main E x0 x1 x2 h := by kernel_rfl
theorem call_eq (g : Nat → PV) (lf n : Nat) (x0 x1 x2 : PV) (h : PHeap) : CL g lf (n + 1) fn_impl_cellOk [x0, x1, x2] h = main (env g lf n) x0 x1 x2 h := by
  rw [← main_eq]
  show (match Tryd.prog.funcs[47]? with | some fn => if fn.body.isSome then runBody ⟨Tryd.prog, g, call Tryd.prog g KL lf n, KL 47, lf, std Tryd.prog⟩ fn [x0, x1, x2] h else none | none => none) = _
  rw [Tryd.func47]
  kernel_rfl
end impl_cellOk
namespace spec_l1In
noncomputable def main (E : Env) (x0 x1 x2 : PV) (h : PHeap) : Res :=
    (E.p.bin .geq 3 x0 x1).bind fun v1 =>
    (wantV v1 true).bind fun v2 =>
    (bif v2 then some (x0, h) else some (.tup [], h)).bind fun v3 =>
    (wantV v1 true).bind fun v4 =>
    (bif v4 then some (x2, v3.2) else some (.tup [], v3.2)).bind fun v5 =>
    (wantV v1 true).bind fun v6 =>
    (bif v6 then pv v5.2 (E.p.bin .leq 3 v3.1 v5.1) else some (.tup [], v5.2)).bind fun v7 =>
    (E.p.pick v1 v7.1 (.bool false)).bind fun v8 =>
    (resV v8).bind fun v9 =>
    some (v9, v7.2)
theorem main_eq (E : Env) (x0 x1 x2 : PV) (h : PHeap) : runBody (E.cx Tryd.prog kl) Tryd.f48 [x0, x1, x2] h = main E x0 x1 x2 h := by kernel_rfl
theorem call_eq (g : Nat → PV) (lf n : Nat) (x0 x1 x2 : PV) (h : PHeap) : CL g lf (n + 1) fn_spec_l1In [x0, x1, x2] h = main (env g lf n) x0 x1 x2 h := by
  rw [← main_eq]
  show (match Tryd.prog.funcs[48]? with | some fn => if fn.body.isSome then runBody ⟨Tryd.prog, g, call Tryd.prog g KL lf n, KL 48, lf, std Tryd.prog⟩ fn [x0, x1, x2] h else none | none => none) = _
  rw [Tryd.func48]
  kernel_rfl
end spec_l1In
namespace spec_Joins
noncomputable def main (E : Env) (x0 x1 x2 x3 : PV) (h : PHeap) : Res :=
    (E.C fn_spec_PositionOk [x0, x1, x2] h).bind fun v1 =>
    (E.p.un .not v1.1).bind fun v2 =>
    (wantV v2 false).bind fun v3 =>
    (bif v3 then some (x3, v1.2) else some (.tup [], v1.2)).bind fun v4 =>
    (wantV v2 false).bind fun v5 =>
    (bif v5 then E.C fn_spec_l1In [v4.1, (.int .i64 1), (.int .i64 2)] v4.2 else some (.tup [], v4.2)).bind fun v6 =>
    (wantV v2 false).bind fun v7 =>
    (bif v7 then pv v6.2 (E.p.un .not v6.1) else some (.tup [], v6.2)).bind fun v8 =>
    (E.p.pick v2 (.bool true) v8.1).bind fun v9 =>
    condP v9
     (
      (resV (.bool false)).bind fun v10 =>
      some (v10, v8.2))
     (
      (E.C fn_spec_l2Masks [x0, x1] v8.2).bind fun v11 =>
      (E.C fn_spec_l2Set [x2, x3] v11.2).bind fun v12 =>
      (E.C fn_spec_l2Joins [x0, x1, v11.1, v12.1, x3] v12.2).bind fun v13 =>
      (resV v13.1).bind fun v14 =>
      some (v14, v13.2))
theorem main_eq (E : Env) (x0 x1 x2 x3 : PV) (h : PHeap) : runBody (E.cx Tryd.prog kl) Tryd.f49 [x0, x1, x2, x3] h = main E x0 x1 x2 x3 h := by kernel_rfl
theorem call_eq (g : Nat → PV) (lf n : Nat) (x0 x1 x2 x3 : PV) (h : PHeap) : CL g lf (n + 1) fn_spec_Joins [x0, x1, x2, x3] h = main (env g lf n) x0 x1 x2 x3 h := by
  rw [← main_eq]
  show (match Tryd.prog.funcs[49]? with | some fn => if fn.body.isSome then runBody ⟨Tryd.prog, g, call Tryd.prog g KL lf n, KL 49, lf, std Tryd.prog⟩ fn [x0, x1, x2, x3] h else none | none => none) = _
  rw [Tryd.func49]
  kernel_rfl
end spec_Joins
namespace impl_BoardOk
noncomputable def main (E : Env) (x0 x1 : PV) (h : PHeap) : Res :=
    (E.C fn_impl_sizeOk [x0] h).bind fun v1 =>
    (wantV v1.1 true).bind fun v2 =>
    (bif v2 then some (x1, v1.2) else some (.tup [], v1.2)).bind fun v3 =>
    (wantV v1.1 true).bind fun v4 =>
    (bif v4 then E.C fn_impl_sizeOk [v3.1] v3.2 else some (.tup [], v3.2)).bind fun v5 =>
    (E.p.pick v1.1 v5.1 (.bool false)).bind fun v6 =>
    (wantV v6 true).bind fun v7 =>
    (bif v7 then some (x0, v5.2) else some (.tup [], v5.2)).bind fun v8 =>
    (wantV v6 true).bind fun v9 =>
    (bif v9 then some (x1, v8.2) else some (.tup [], v8.2)).bind fun v10 =>
    (wantV v6 true).bind fun v11 =>
    (bif v11 then pv v10.2 (E.p.bin .mul 3 v8.1 v10.1) else some (.tup [], v10.2)).bind fun v12 =>
    (wantV v6 true).bind fun v13 =>
    (bif v13 then pv v12.2 (E.p.bin .leq 3 v12.1 (.int .i64 9)) else some (.tup [], v12.2)).bind fun v14 =>
    (E.p.pick v6 v14.1 (.bool false)).bind fun v15 =>
    (resV v15).bind fun v16 =>
    some (v16, v14.2)
theorem main_eq (E : Env) (x0 x1 : PV) (h : PHeap) : runBody (E.cx Tryd.prog kl) Tryd.f50 [x0, x1] h = main E x0 x1 h := by kernel_rfl
theorem call_eq (g : Nat → PV) (lf n : Nat) (x0 x1 : PV) (h : PHeap) : CL g lf (n + 1) fn_impl_BoardOk [x0, x1] h = main (env g lf n) x0 x1 h := by
  rw [← main_eq]
  show (match Tryd.prog.funcs[50]? with | some fn => if fn.body.isSome then runBody ⟨Tryd.prog, g, call Tryd.prog g KL lf n, KL 50, lf, std Tryd.prog⟩ fn [x0, x1] h else none | none => none) = _
  rw [Tryd.func50]
  kernel_rfl
end impl_BoardOk
namespace impl_sidesOf
noncomputable def lp0 : Code := (codeAt (bodyOf Tryd.f51) [1, 1, 0, 1, 0, 0])
def st0 (x0 x1 x2 x8 x9 x15 x16 : PV) (h : PHeap) : St := ⟨[x0, x1, x2, .junk, .junk, .junk, .junk, .junk, x8, x9, .junk, .junk, .junk, .junk, .junk, x15, x16, .junk, .junk, .junk, .junk, .junk, .junk, .junk, .junk, .junk, .junk, .junk, .junk, .junk, .junk, .junk, .junk, .junk, .junk, .junk, .junk, .junk, .junk, .junk, .junk, .junk, .junk, .junk, .junk, .junk, .junk], h⟩
def se0_0_1_2_8_9_15_16_17 (x0 x1 x2 x8 x9 x15 x16 x17 : PV) (h : PHeap) : St := ⟨[x0, x1, x2, .junk, .junk, .junk, .junk, .junk, x8, x9, .junk, .junk, .junk, .junk, .junk, x15, x16, x17, .junk, .junk, .junk, .junk, .junk, .junk, .junk, .junk, .junk, .junk, .junk, .junk, .junk, .junk, .junk, .junk, .junk, .junk, .junk, .junk, .junk, .junk, .junk, .junk, .junk, .junk, .junk, .junk, .junk], h⟩
noncomputable def K0 (E : Env) (K : PX → St → Res) : PX → St → Res := (kBlock 0 (kSeq (ev (E.cx Tryd.prog kl) (codeAt (bodyOf Tryd.f51) [1, 1, 1])) K))
@[simp] theorem K0_ret (E : Env) (K : PX → St → Res) (s : St) : K0 E K .ret s = K .ret s := by kernel_rfl
noncomputable def body0 (E : Env) (K : PX → St → Res) (x0 x1 x2 x8 x9 x15 x16 : PV) (h : PHeap) : Res :=
    (E.p.bin .lss 3 x16 x15).bind fun v36 =>
    condP v36
     (
      (E.p.bin .quo 3 x16 x1).bind fun v37 =>
      (E.p.bin .sub 3 x0 (.int .i64 1)).bind fun v38 =>
      (E.p.bin .eql 3 x2 (.int .i64 2)).bind fun v39 =>
      condP v39
       (
        (E.p.bin .rem 3 x16 x1).bind fun v40 =>
        (E.p.bin .sub 3 x1 (.int .i64 1)).bind fun v41 =>
        (E.p.bin .eql 3 v40 (.int .i64 0)).bind fun v42 =>
        condP v42
         (
          (E.p.bin .shl 3 (.int .i64 1) x16).bind fun v43 =>
          (E.p.bin .or 3 x8 v43).bind fun v44 =>
          (E.p.bin .eql 3 v40 v41).bind fun v45 =>
          condP v45
           (
            (E.p.bin .shl 3 (.int .i64 1) x16).bind fun v46 =>
            (E.p.bin .or 3 x9 v46).bind fun v47 =>
            (E.p.bin .add 3 x16 (.int .i64 1)).bind fun v48 =>
            K .normal (st0 x0 x1 x2 v44 v47 x15 v48 h))
           (
            (E.p.bin .add 3 x16 (.int .i64 1)).bind fun v49 =>
            K .normal (st0 x0 x1 x2 v44 x9 x15 v49 h)))
         (
          (E.p.bin .eql 3 v40 v41).bind fun v50 =>
          condP v50
           (
            (E.p.bin .shl 3 (.int .i64 1) x16).bind fun v51 =>
            (E.p.bin .or 3 x9 v51).bind fun v52 =>
            (E.p.bin .add 3 x16 (.int .i64 1)).bind fun v53 =>
            K .normal (st0 x0 x1 x2 x8 v52 x15 v53 h))
           (
            (E.p.bin .add 3 x16 (.int .i64 1)).bind fun v54 =>
            K .normal (st0 x0 x1 x2 x8 x9 x15 v54 h))))
       (
        (E.p.bin .eql 3 v37 (.int .i64 0)).bind fun v55 =>
        condP v55
         (
          (E.p.bin .shl 3 (.int .i64 1) x16).bind fun v56 =>
          (E.p.bin .or 3 x8 v56).bind fun v57 =>
          (E.p.bin .eql 3 v37 v38).bind fun v58 =>
          condP v58
           (
            (E.p.bin .shl 3 (.int .i64 1) x16).bind fun v59 =>
            (E.p.bin .or 3 x9 v59).bind fun v60 =>
            (E.p.bin .add 3 x16 (.int .i64 1)).bind fun v61 =>
            K .normal (st0 x0 x1 x2 v57 v60 x15 v61 h))
           (
            (E.p.bin .add 3 x16 (.int .i64 1)).bind fun v62 =>
            K .normal (st0 x0 x1 x2 v57 x9 x15 v62 h)))
         (
          (E.p.bin .eql 3 v37 v38).bind fun v63 =>
          condP v63
           (
            (E.p.bin .shl 3 (.int .i64 1) x16).bind fun v64 =>
            (E.p.bin .or 3 x9 v64).bind fun v65 =>
            (E.p.bin .add 3 x16 (.int .i64 1)).bind fun v66 =>
            K .normal (st0 x0 x1 x2 x8 v65 x15 v66 h))
           (
            (E.p.bin .add 3 x16 (.int .i64 1)).bind fun v67 =>
            K .normal (st0 x0 x1 x2 x8 x9 x15 v67 h)))))
     (
      K (.exit 0) (se0_0_1_2_8_9_15_16_17 x0 x1 x2 x8 x9 x15 x16 v36 h))
theorem body0_eq (E : Env) (K : PX → St → Res) (x0 x1 x2 x8 x9 x15 x16 : PV) (h : PHeap) : ev (E.cx Tryd.prog kl) lp0 (st0 x0 x1 x2 x8 x9 x15 x16 h) K = body0 E K x0 x1 x2 x8 x9 x15 x16 h := by kernel_rfl
theorem after0_se0_0_1_2_8_9_15_16_17 (E : Env) (x0 x1 x2 x8 x9 x15 x16 x17 : PV) (h : PHeap) : K0 E (kTop Tryd.prog Tryd.f51) (.exit 0) (se0_0_1_2_8_9_15_16_17 x0 x1 x2 x8 x9 x15 x16 x17 h) =
    (resV x8).bind fun v34 =>
    (resV x9).bind fun v35 =>
    some (.tup [v34, v35], h) := by kernel_rfl
noncomputable def main (E : Env) (x0 x1 x2 : PV) (h : PHeap) : Res :=
    (E.p.bin .mul 3 x0 x1).bind fun v1 =>
    loopK (ev (E.cx Tryd.prog impl_sidesOf.kl) impl_sidesOf.lp0) E.lf (impl_sidesOf.st0 x0 x1 x2 (.int .i64 0) (.int .i64 0) v1 (.int .i64 0) h) (impl_sidesOf.K0 E (kTop Tryd.prog Tryd.f51))
theorem main_eq (E : Env) (x0 x1 x2 : PV) (h : PHeap) : runBody (E.cx Tryd.prog kl) Tryd.f51 [x0, x1, x2] h = main E x0 x1 x2 h := by kernel_rfl
theorem call_eq (g : Nat → PV) (lf n : Nat) (x0 x1 x2 : PV) (h : PHeap) : CL g lf (n + 1) fn_impl_sidesOf [x0, x1, x2] h = main (env g lf n) x0 x1 x2 h := by
  rw [← main_eq]
  show (match Tryd.prog.funcs[51]? with | some fn => if fn.body.isSome then runBody ⟨Tryd.prog, g, call Tryd.prog g KL lf n, KL 51, lf, std Tryd.prog⟩ fn [x0, x1, x2] h else none | none => none) = _
  rw [Tryd.func51]
  kernel_rfl
end impl_sidesOf
namespace impl_setOf
noncomputable def lp0 : Code := (codeAt (bodyOf Tryd.f52) [1, 1, 0, 1, 0, 0])
def st0 (x1 x5 x8 x9 x10 : PV) (h : PHeap) : St := ⟨[.junk, x1, .junk, .junk, .junk, x5, .junk, .junk, x8, x9, x10, .junk, .junk, .junk, .junk, .junk, .junk, .junk, .junk, .junk, .junk, .junk, .junk, .junk], h⟩
def se0_1_5_8_9_10_11 (x1 x5 x8 x9 x10 x11 : PV) (h : PHeap) : St := ⟨[.junk, x1, .junk, .junk, .junk, x5, .junk, .junk, x8, x9, x10, x11, .junk, .junk, .junk, .junk, .junk, .junk, .junk, .junk, .junk, .junk, .junk, .junk], h⟩
noncomputable def K0 (E : Env) (K : PX → St → Res) : PX → St → Res := (kBlock 0 (kSeq (ev (E.cx Tryd.prog kl) (codeAt (bodyOf Tryd.f52) [1, 1, 1])) K))
@[simp] theorem K0_ret (E : Env) (K : PX → St → Res) (s : St) : K0 E K .ret s = K .ret s := by kernel_rfl
noncomputable def body0 (E : Env) (K : PX → St → Res) (x1 x5 x8 x9 x10 : PV) (h : PHeap) : Res :=
    (E.p.bin .lss 3 x10 x9).bind fun v11 =>
    condP v11
     (
      (E.p.indexAddr 23 x8 x10).bind fun v12 =>
      (E.p.load 3 v12 h).bind fun v13 =>
      (E.p.bin .eql 3 v13 x1).bind fun v14 =>
      condP v14
       (
        (E.p.bin .shl 3 (.int .i64 1) x10).bind fun v15 =>
        (E.p.bin .or 3 x5 v15).bind fun v16 =>
        (E.p.bin .add 3 x10 (.int .i64 1)).bind fun v17 =>
        K .normal (st0 x1 v16 x8 x9 v17 h))
       (
        (E.p.bin .add 3 x10 (.int .i64 1)).bind fun v18 =>
        K .normal (st0 x1 x5 x8 x9 v18 h)))
     (
      K (.exit 0) (se0_1_5_8_9_10_11 x1 x5 x8 x9 x10 v11 h))
theorem body0_eq (E : Env) (K : PX → St → Res) (x1 x5 x8 x9 x10 : PV) (h : PHeap) : ev (E.cx Tryd.prog kl) lp0 (st0 x1 x5 x8 x9 x10 h) K = body0 E K x1 x5 x8 x9 x10 h := by kernel_rfl
theorem after0_se0_1_5_8_9_10_11 (E : Env) (x1 x5 x8 x9 x10 x11 : PV) (h : PHeap) : K0 E (kTop Tryd.prog Tryd.f52) (.exit 0) (se0_1_5_8_9_10_11 x1 x5 x8 x9 x10 x11 h) =
    (resV x5).bind fun v10 =>
    some (v10, h) := by kernel_rfl
noncomputable def main (E : Env) (x0 x1 : PV) (h : PHeap) : Res :=
    (E.p.len 23 x0).bind fun v1 =>
    loopK (ev (E.cx Tryd.prog impl_setOf.kl) impl_setOf.lp0) E.lf (impl_setOf.st0 x1 (.int .i64 0) x0 v1 (.int .i64 0) h) (impl_setOf.K0 E (kTop Tryd.prog Tryd.f52))
theorem main_eq (E : Env) (x0 x1 : PV) (h : PHeap) : runBody (E.cx Tryd.prog kl) Tryd.f52 [x0, x1] h = main E x0 x1 h := by kernel_rfl
theorem call_eq (g : Nat → PV) (lf n : Nat) (x0 x1 : PV) (h : PHeap) : CL g lf (n + 1) fn_impl_setOf [x0, x1] h = main (env g lf n) x0 x1 h := by
  rw [← main_eq]
  show (match Tryd.prog.funcs[52]? with | some fn => if fn.body.isSome then runBody ⟨Tryd.prog, g, call Tryd.prog g KL lf n, KL 52, lf, std Tryd.prog⟩ fn [x0, x1] h else none | none => none) = _
  rw [Tryd.func52]
  kernel_rfl
end impl_setOf
namespace impl_grown
noncomputable def lp0 : Code := (codeAt (bodyOf Tryd.f53) [1, 0, 1, 0, 0])
def st0 (x0 x1 x2 x3 x9 : PV) (h : PHeap) : St := ⟨[x0, x1, x2, x3, .junk, .junk, .junk, .junk, .junk, x9, .junk, .junk, .junk, .junk, .junk, .junk, .junk, .junk, .junk, .junk, .junk, .junk, .junk, .junk, .junk], h⟩
def se0_0_1_2_3_9_12 (x0 x1 x2 x3 x9 x12 : PV) (h : PHeap) : St := ⟨[x0, x1, x2, x3, .junk, .junk, .junk, .junk, .junk, x9, .junk, .junk, x12, .junk, .junk, .junk, .junk, .junk, .junk, .junk, .junk, .junk, .junk, .junk, .junk], h⟩
noncomputable def K0 (E : Env) (K : PX → St → Res) : PX → St → Res := (kBlock 0 (kSeq (ev (E.cx Tryd.prog kl) (codeAt (bodyOf Tryd.f53) [1, 1])) K))
@[simp] theorem K0_ret (E : Env) (K : PX → St → Res) (s : St) : K0 E K .ret s = K .ret s := by kernel_rfl
noncomputable def body0 (E : Env) (K : PX → St → Res) (x0 x1 x2 x3 x9 : PV) (h : PHeap) : Res :=
    (E.p.bin .neq 3 x9 (.int .i64 0)).bind fun v7 =>
    condP v7
     (
      (E.C fn_impl_withNear [x0, x1, x9] h).bind fun v8 =>
      (E.p.bin .and 3 v8.1 x3).bind fun v9 =>
      (E.p.bin .andNot 3 v9 x2).bind fun v10 =>
      (E.p.bin .or 3 x2 v10).bind fun v11 =>
      K .normal (st0 x0 x1 v11 x3 v10 v8.2))
     (
      K (.exit 0) (se0_0_1_2_3_9_12 x0 x1 x2 x3 x9 v7 h))
theorem body0_eq (E : Env) (K : PX → St → Res) (x0 x1 x2 x3 x9 : PV) (h : PHeap) : ev (E.cx Tryd.prog kl) lp0 (st0 x0 x1 x2 x3 x9 h) K = body0 E K x0 x1 x2 x3 x9 h := by kernel_rfl
theorem after0_se0_0_1_2_3_9_12 (E : Env) (x0 x1 x2 x3 x9 x12 : PV) (h : PHeap) : K0 E (kTop Tryd.prog Tryd.f53) (.exit 0) (se0_0_1_2_3_9_12 x0 x1 x2 x3 x9 x12 h) =
    (resV x2).bind fun v6 =>
    some (v6, h) := by kernel_rfl
noncomputable def main (E : Env) (x0 x1 x2 x3 : PV) (h : PHeap) : Res :=
    loopK (ev (E.cx Tryd.prog impl_grown.kl) impl_grown.lp0) E.lf (impl_grown.st0 x0 x1 x2 x3 x2 h) (impl_grown.K0 E (kTop Tryd.prog Tryd.f53))
theorem main_eq (E : Env) (x0 x1 x2 x3 : PV) (h : PHeap) : runBody (E.cx Tryd.prog kl) Tryd.f53 [x0, x1, x2, x3] h = main E x0 x1 x2 x3 h := by kernel_rfl
theorem call_eq (g : Nat → PV) (lf n : Nat) (x0 x1 x2 x3 : PV) (h : PHeap) : CL g lf (n + 1) fn_impl_grown [x0, x1, x2, x3] h = main (env g lf n) x0 x1 x2 x3 h := by
  rw [← main_eq]
  show (match Tryd.prog.funcs[53]? with | some fn => if fn.body.isSome then runBody ⟨Tryd.prog, g, call Tryd.prog g KL lf n, KL 53, lf, std Tryd.prog⟩ fn [x0, x1, x2, x3] h else none | none => none) = _
  rw [Tryd.func53]
  kernel_rfl
end impl_grown
namespace slices_Clone___int_int_
noncomputable def main (E : Env) (x0 : PV) (h : PHeap) : Res :=
    (E.p.bin .eql 23 x0 .nilsl).bind fun v1 =>
    condP v1
     (
      (resV .nilsl).bind fun v2 =>
      some (v2, h))
     (
      (E.p.buildSlice 23 0 [] h).bind fun v3 =>
      (E.p.append 23 23 v3.1 x0 v3.2).bind fun v4 =>
      (resV v4.1).bind fun v5 =>
      some (v5, v4.2))
theorem main_eq (E : Env) (x0 : PV) (h : PHeap) : runBody (E.cx Tryd.prog kl) Tryd.f54 [x0] h = main E x0 h := by kernel_rfl
theorem call_eq (g : Nat → PV) (lf n : Nat) (x0 : PV) (h : PHeap) : CL g lf (n + 1) fn_slices_Clone___int_int_ [x0] h = main (env g lf n) x0 h := by
  rw [← main_eq]
  show (match Tryd.prog.funcs[54]? with | some fn => if fn.body.isSome then runBody ⟨Tryd.prog, g, call Tryd.prog g KL lf n, KL 54, lf, std Tryd.prog⟩ fn [x0] h else none | none => none) = _
  rw [Tryd.func54]
  kernel_rfl
end slices_Clone___int_int_
namespace impl_contentOk
noncomputable def main (E : Env) (x0 : PV) (h : PHeap) : Res :=
    (E.p.bin .eql 3 x0 (.int .i64 0)).bind fun v1 =>
    (wantV v1 false).bind fun v2 =>
    (bif v2 then some (x0, h) else some (.tup [], h)).bind fun v3 =>
    (wantV v1 false).bind fun v4 =>
    (bif v4 then pv v3.2 (E.p.bin .eql 3 v3.1 (.int .i64 1)) else some (.tup [], v3.2)).bind fun v5 =>
    (E.p.pick v1 (.bool true) v5.1).bind fun v6 =>
    (wantV v6 false).bind fun v7 =>
    (bif v7 then some (x0, v5.2) else some (.tup [], v5.2)).bind fun v8 =>
    (wantV v6 false).bind fun v9 =>
    (bif v9 then pv v8.2 (E.p.bin .eql 3 v8.1 (.int .i64 2)) else some (.tup [], v8.2)).bind fun v10 =>
    (E.p.pick v6 (.bool true) v10.1).bind fun v11 =>
    (resV v11).bind fun v12 =>
    some (v12, v10.2)
theorem main_eq (E : Env) (x0 : PV) (h : PHeap) : runBody (E.cx Tryd.prog kl) Tryd.f55 [x0] h = main E x0 h := by kernel_rfl
theorem call_eq (g : Nat → PV) (lf n : Nat) (x0 : PV) (h : PHeap) : CL g lf (n + 1) fn_impl_contentOk [x0] h = main (env g lf n) x0 h := by
  rw [← main_eq]
  show (match Tryd.prog.funcs[55]? with | some fn => if fn.body.isSome then runBody ⟨Tryd.prog, g, call Tryd.prog g KL lf n, KL 55, lf, std Tryd.prog⟩ fn [x0] h else none | none => none) = _
  rw [Tryd.func55]
  kernel_rfl
end impl_contentOk
namespace spec_l20Few
noncomputable def lp0 : Code := (codeAt (bodyOf Tryd.f56) [1, 1, 1, 0, 1, 0, 0])
def st0 (x0 x1 x8 x9 x10 x11 x12 x13 : PV) (h : PHeap) : St := ⟨[x0, x1, .junk, .junk, .junk, .junk, .junk, .junk, x8, x9, x10, x11, x12, x13, .junk, .junk, .junk, .junk, .junk, .junk, .junk, .junk, .junk, .junk, .junk, .junk, .junk, .junk, .junk, .junk, .junk, .junk, .junk, .junk, .junk, .junk, .junk, .junk, .junk, .junk, .junk, .junk, .junk, .junk, .junk, .junk, .junk], h⟩
def se0_0_1_8_9_10_11_12_13_24 (x0 x1 x8 x9 x10 x11 x12 x13 x24 : PV) (h : PHeap) : St := ⟨[x0, x1, .junk, .junk, .junk, .junk, .junk, .junk, x8, x9, x10, x11, x12, x13, .junk, .junk, .junk, .junk, .junk, .junk, .junk, .junk, .junk, .junk, x24, .junk, .junk, .junk, .junk, .junk, .junk, .junk, .junk, .junk, .junk, .junk, .junk, .junk, .junk, .junk, .junk, .junk, .junk, .junk, .junk, .junk, .junk], h⟩
noncomputable def K0 (E : Env) (K : PX → St → Res) : PX → St → Res := (kBlock 0 (kSeq (ev (E.cx Tryd.prog kl) (codeAt (bodyOf Tryd.f56) [1, 1, 1, 1])) K))
@[simp] theorem K0_ret (E : Env) (K : PX → St → Res) (s : St) : K0 E K .ret s = K .ret s := by kernel_rfl
noncomputable def body0 (E : Env) (K : PX → St → Res) (x0 x1 x8 x9 x10 x11 x12 x13 : PV) (h : PHeap) : Res :=
    (E.p.len 23 x10).bind fun v24 =>
    (E.p.bin .lss 3 x13 v24).bind fun v25 =>
    condP v25
     (
      (E.p.indexAddr 23 x10 x13).bind fun v26 =>
      (E.p.load 3 v26 h).bind fun v27 =>
      (E.p.bin .eql 3 v27 (.int .i64 0)).bind fun v28 =>
      condP v28
       (
        (E.p.bin .add 3 x12 (.int .i64 1)).bind fun v29 =>
        (E.p.bin .gtr 3 v29 x1).bind fun v30 =>
        condP v30
         (
          (E.C fn_spec_l20Rd_pick [x0, (.int .i64 2)] h).bind fun v31 =>
          (E.p.bin .add 3 (.int .i64 1) v31.1).bind fun v32 =>
          (E.p.indexAddr 23 x10 x13).bind fun v33 =>
          (E.p.store 3 v33 v32 v31.2).bind fun v34 =>
          (E.p.bin .add 3 x13 (.int .i64 1)).bind fun v35 =>
          K .normal (st0 x0 x1 x8 x9 x10 x11 v29 v35 v34))
         (
          (E.p.bin .add 3 x13 (.int .i64 1)).bind fun v36 =>
          K .normal (st0 x0 x1 x8 x9 x10 x11 v29 v36 h)))
       (
        (E.p.bin .add 3 x13 (.int .i64 1)).bind fun v37 =>
        K .normal (st0 x0 x1 x8 x9 x10 x11 x12 v37 h)))
     (
      K (.exit 0) (se0_0_1_8_9_10_11_12_13_24 x0 x1 x8 x9 x10 x11 x12 x13 v25 h))
theorem body0_eq (E : Env) (K : PX → St → Res) (x0 x1 x8 x9 x10 x11 x12 x13 : PV) (h : PHeap) : ev (E.cx Tryd.prog kl) lp0 (st0 x0 x1 x8 x9 x10 x11 x12 x13 h) K = body0 E K x0 x1 x8 x9 x10 x11 x12 x13 h := by kernel_rfl
theorem after0_se0_0_1_8_9_10_11_12_13_24 (E : Env) (x0 x1 x8 x9 x10 x11 x12 x13 x24 : PV) (h : PHeap) : K0 E (kTop Tryd.prog Tryd.f56) (.exit 0) (se0_0_1_8_9_10_11_12_13_24 x0 x1 x8 x9 x10 x11 x12 x13 x24 h) =
    (resV x8).bind fun v20 =>
    (resV x9).bind fun v21 =>
    (resV x10).bind fun v22 =>
    (resV x11).bind fun v23 =>
    some (.tup [v20, v21, v22, v23], h) := by kernel_rfl
noncomputable def main (E : Env) (x0 x1 : PV) (h : PHeap) : Res :=
    (E.C fn_spec_l20Sided [x0, (.int .i64 14)] h).bind fun v1 =>
    (E.p.extract v1.1 0).bind fun v2 =>
    (E.p.extract v1.1 1).bind fun v3 =>
    (E.p.extract v1.1 2).bind fun v4 =>
    (E.p.extract v1.1 3).bind fun v5 =>
    loopK (ev (E.cx Tryd.prog spec_l20Few.kl) spec_l20Few.lp0) E.lf (spec_l20Few.st0 x0 x1 v2 v3 v4 v5 (.int .i64 0) (.int .i64 0) v1.2) (spec_l20Few.K0 E (kTop Tryd.prog Tryd.f56))
theorem main_eq (E : Env) (x0 x1 : PV) (h : PHeap) : runBody (E.cx Tryd.prog kl) Tryd.f56 [x0, x1] h = main E x0 x1 h := by kernel_rfl
theorem call_eq (g : Nat → PV) (lf n : Nat) (x0 x1 : PV) (h : PHeap) : CL g lf (n + 1) fn_spec_l20Few [x0, x1] h = main (env g lf n) x0 x1 h := by
  rw [← main_eq]
  show (match Tryd.prog.funcs[56]? with | some fn => if fn.body.isSome then runBody ⟨Tryd.prog, g, call Tryd.prog g KL lf n, KL 56, lf, std Tryd.prog⟩ fn [x0, x1] h else none | none => none) = _
  rw [Tryd.func56]
  kernel_rfl
end spec_l20Few
namespace impl_newSearch
noncomputable def lp0 : Code := (codeAt (bodyOf Tryd.f57) [1, 1, 0, 1, 0, 0])
def st0 (x0 x1 x5 x13 x14 : PV) (h : PHeap) : St := ⟨[x0, x1, .junk, .junk, .junk, x5, .junk, .junk, .junk, .junk, .junk, .junk, .junk, x13, x14, .junk, .junk, .junk, .junk, .junk, .junk, .junk, .junk, .junk, .junk, .junk, .junk, .junk, .junk, .junk, .junk, .junk, .junk, .junk, .junk, .junk, .junk, .junk, .junk, .junk, .junk, .junk, .junk, .junk, .junk, .junk, .junk, .junk, .junk, .junk], h⟩
noncomputable def lp1 : Code := (codeAt (bodyOf Tryd.f57) [1, 1, 1, 0, 1, 0, 0])
def st1 (x0 x1 x5 x7 : PV) (h : PHeap) : St := ⟨[x0, x1, .junk, .junk, .junk, x5, .junk, x7, .junk, .junk, .junk, .junk, .junk, .junk, .junk, .junk, .junk, .junk, .junk, .junk, .junk, .junk, .junk, .junk, .junk, .junk, .junk, .junk, .junk, .junk, .junk, .junk, .junk, .junk, .junk, .junk, .junk, .junk, .junk, .junk, .junk, .junk, .junk, .junk, .junk, .junk, .junk, .junk, .junk, .junk], h⟩
def se0_0_1_5_13_14_15 (x0 x1 x5 x13 x14 x15 : PV) (h : PHeap) : St := ⟨[x0, x1, .junk, .junk, .junk, x5, .junk, .junk, .junk, .junk, .junk, .junk, .junk, x13, x14, x15, .junk, .junk, .junk, .junk, .junk, .junk, .junk, .junk, .junk, .junk, .junk, .junk, .junk, .junk, .junk, .junk, .junk, .junk, .junk, .junk, .junk, .junk, .junk, .junk, .junk, .junk, .junk, .junk, .junk, .junk, .junk, .junk, .junk, .junk], h⟩
def se2_0_1_5_7_29 (x0 x1 x5 x7 x29 : PV) (h : PHeap) : St := ⟨[x0, x1, .junk, .junk, .junk, x5, .junk, x7, .junk, .junk, .junk, .junk, .junk, .junk, .junk, .junk, .junk, .junk, .junk, .junk, .junk, .junk, .junk, .junk, .junk, .junk, .junk, .junk, .junk, x29, .junk, .junk, .junk, .junk, .junk, .junk, .junk, .junk, .junk, .junk, .junk, .junk, .junk, .junk, .junk, .junk, .junk, .junk, .junk, .junk], h⟩
noncomputable def K0 (E : Env) (K : PX → St → Res) : PX → St → Res := (kBlock 0 (kSeq (ev (E.cx Tryd.prog kl) (codeAt (bodyOf Tryd.f57) [1, 1, 1])) K))
@[simp] theorem K0_ret (E : Env) (K : PX → St → Res) (s : St) : K0 E K .ret s = K .ret s := by kernel_rfl
noncomputable def K1 (E : Env) (K : PX → St → Res) : PX → St → Res := (kBlock 2 (kSeq (ev (E.cx Tryd.prog kl) (codeAt (bodyOf Tryd.f57) [1, 1, 1, 1])) K))
@[simp] theorem K1_ret (E : Env) (K : PX → St → Res) (s : St) : K1 E K .ret s = K .ret s := by kernel_rfl
noncomputable def body0 (E : Env) (K : PX → St → Res) (x0 x1 x5 x13 x14 : PV) (h : PHeap) : Res :=
    (E.p.bin .lss 3 x14 x13).bind fun v27 =>
    condP v27
     (
      (E.p.bin .shl 3 (.int .i64 1) x14).bind fun v28 =>
      (E.p.ptr x5).bind fun v29 =>
      (E.p.fieldAddr 70 v29 0).bind fun v30 =>
      (E.C fn_impl_withNear [x0, x1, v28] h).bind fun v31 =>
      (E.p.indexAddr 68 v30 x14).bind fun v32 =>
      (E.p.store 3 v32 v31.1 v31.2).bind fun v33 =>
      (E.p.bin .add 3 x14 (.int .i64 1)).bind fun v34 =>
      K .normal (st0 x0 x1 x5 x13 v34 v33))
     (
      K (.exit 0) (se0_0_1_5_13_14_15 x0 x1 x5 x13 x14 v27 h))
theorem body0_eq (E : Env) (K : PX → St → Res) (x0 x1 x5 x13 x14 : PV) (h : PHeap) : ev (E.cx Tryd.prog kl) lp0 (st0 x0 x1 x5 x13 x14 h) K = body0 E K x0 x1 x5 x13 x14 h := by kernel_rfl
noncomputable def body1 (E : Env) (K : PX → St → Res) (x0 x1 x5 x7 : PV) (h : PHeap) : Res :=
    (E.p.bin .leq 3 x7 (.int .i64 2)).bind fun v35 =>
    condP v35
     (
      (E.p.ptr x5).bind fun v36 =>
      (E.p.fieldAddr 70 v36 1).bind fun v37 =>
      (E.p.ptr x5).bind fun v38 =>
      (E.p.fieldAddr 70 v38 2).bind fun v39 =>
      (E.C fn_impl_sidesOf [x0, x1, x7] h).bind fun v40 =>
      (E.p.extract v40.1 0).bind fun v41 =>
      (E.p.extract v40.1 1).bind fun v42 =>
      (E.p.indexAddr 56 v37 x7).bind fun v43 =>
      (E.p.store 3 v43 v41 v40.2).bind fun v44 =>
      (E.p.indexAddr 56 v39 x7).bind fun v45 =>
      (E.p.store 3 v45 v42 v44).bind fun v46 =>
      (E.p.bin .add 3 x7 (.int .i64 1)).bind fun v47 =>
      K .normal (st1 x0 x1 x5 v47 v46))
     (
      K (.exit 2) (se2_0_1_5_7_29 x0 x1 x5 x7 v35 h))
theorem body1_eq (E : Env) (K : PX → St → Res) (x0 x1 x5 x7 : PV) (h : PHeap) : ev (E.cx Tryd.prog kl) lp1 (st1 x0 x1 x5 x7 h) K = body1 E K x0 x1 x5 x7 h := by kernel_rfl
theorem after0_se0_0_1_5_13_14_15 (E : Env) (x0 x1 x5 x13 x14 x15 : PV) (h : PHeap) : K0 E (kTop Tryd.prog Tryd.f57) (.exit 0) (se0_0_1_5_13_14_15 x0 x1 x5 x13 x14 x15 h) =
    loopK (ev (E.cx Tryd.prog impl_newSearch.kl) impl_newSearch.lp1) E.lf (impl_newSearch.st1 x0 x1 x5 (.int .i64 1) h) (impl_newSearch.K1 E (kTop Tryd.prog Tryd.f57)) := by kernel_rfl
theorem after1_se2_0_1_5_7_29 (E : Env) (x0 x1 x5 x7 x29 : PV) (h : PHeap) : K1 E (kTop Tryd.prog Tryd.f57) (.exit 2) (se2_0_1_5_7_29 x0 x1 x5 x7 x29 h) =
    (resV x5).bind fun v26 =>
    some (v26, h) := by kernel_rfl
noncomputable def main (E : Env) (x0 x1 : PV) (h : PHeap) : Res :=
    (E.p.makeMap none h).bind fun v1 =>
    (E.p.build 70 [(3, v1.1)]).bind fun v2 =>
    (E.p.box v2 v1.2).bind fun v3 =>
    (E.p.bin .mul 3 x0 x1).bind fun v4 =>
    loopK (ev (E.cx Tryd.prog impl_newSearch.kl) impl_newSearch.lp0) E.lf (impl_newSearch.st0 x0 x1 v3.1 v4 (.int .i64 0) v3.2) (impl_newSearch.K0 E (kTop Tryd.prog Tryd.f57))
theorem main_eq (E : Env) (x0 x1 : PV) (h : PHeap) : runBody (E.cx Tryd.prog kl) Tryd.f57 [x0, x1] h = main E x0 x1 h := by kernel_rfl
theorem call_eq (g : Nat → PV) (lf n : Nat) (x0 x1 : PV) (h : PHeap) : CL g lf (n + 1) fn_impl_newSearch [x0, x1] h = main (env g lf n) x0 x1 h := by
  rw [← main_eq]
  show (match Tryd.prog.funcs[57]? with | some fn => if fn.body.isSome then runBody ⟨Tryd.prog, g, call Tryd.prog g KL lf n, KL 57, lf, std Tryd.prog⟩ fn [x0, x1] h else none | none => none) = _
  rw [Tryd.func57]
  kernel_rfl
end impl_newSearch
namespace impl_search_winner
noncomputable def main (E : Env) (x0 x1 : PV) (h : PHeap) : Res :=
    (E.p.box x1 h).bind fun v1 =>
    (E.p.ptr x0).bind fun v2 =>
    (E.p.fieldAddr 70 v2 3).bind fun v3 =>
    (E.p.load 67 v3 v1.2).bind fun v4 =>
    (E.p.load 58 v1.1 v1.2).bind fun v5 =>
    (E.p.lookup 67 v4 v5 true v1.2).bind fun v6 =>
    (E.p.extract v6 0).bind fun v7 =>
    (E.p.extract v6 1).bind fun v8 =>
    (E.p.un .not v8).bind fun v9 =>
    condP v9
     (
      (E.p.load 58 v1.1 v1.2).bind fun v10 =>
      (E.C fn_impl_search_solved [x0, v10] v1.2).bind fun v11 =>
      (E.p.ptr x0).bind fun v12 =>
      (E.p.fieldAddr 70 v12 3).bind fun v13 =>
      (E.p.load 67 v13 v11.2).bind fun v14 =>
      (E.p.load 58 v1.1 v11.2).bind fun v15 =>
      (E.p.update 67 v14 v15 v11.1 v11.2).bind fun v16 =>
      (E.p.load 67 v13 v16).bind fun v17 =>
      ckP (plainEq v14 v17) (
      (resV v11.1).bind fun v18 =>
      some (v18, v16)))
     (
      (resV v7).bind fun v19 =>
      some (v19, v1.2))
theorem main_eq (E : Env) (x0 x1 : PV) (h : PHeap) : runBody (E.cx Tryd.prog kl) Tryd.f58 [x0, x1] h = main E x0 x1 h := by kernel_rfl
theorem call_eq (g : Nat → PV) (lf n : Nat) (x0 x1 : PV) (h : PHeap) : CL g lf (n + 1) fn_impl_search_winner [x0, x1] h = main (env g lf n) x0 x1 h := by
  rw [← main_eq]
  show (match Tryd.prog.funcs[58]? with | some fn => if fn.body.isSome then runBody ⟨Tryd.prog, g, call Tryd.prog g KL lf n, KL 58, lf, std Tryd.prog⟩ fn [x0, x1] h else none | none => none) = _
  rw [Tryd.func58]
  kernel_rfl
end impl_search_winner
namespace impl_standingOf
noncomputable def lp0 : Code := (codeAt (bodyOf Tryd.f59) [1, 1, 0, 1, 0, 0])
def st0 (x0 x4 x5 x9 : PV) (h : PHeap) : St := ⟨[x0, .junk, .junk, .junk, x4, x5, .junk, .junk, .junk, x9, .junk, .junk, .junk, .junk, .junk, .junk, .junk, .junk, .junk, .junk], h⟩
def se0_0_4_5_9_10 (x0 x4 x5 x9 x10 : PV) (h : PHeap) : St := ⟨[x0, .junk, .junk, .junk, x4, x5, .junk, .junk, .junk, x9, x10, .junk, .junk, .junk, .junk, .junk, .junk, .junk, .junk, .junk], h⟩
noncomputable def K0 (E : Env) (K : PX → St → Res) : PX → St → Res := (kBlock 0 (kSeq (ev (E.cx Tryd.prog kl) (codeAt (bodyOf Tryd.f59) [1, 1, 1])) K))
@[simp] theorem K0_ret (E : Env) (K : PX → St → Res) (s : St) : K0 E K .ret s = K .ret s := by kernel_rfl
noncomputable def body0 (E : Env) (K : PX → St → Res) (x0 x4 x5 x9 : PV) (h : PHeap) : Res :=
    (E.p.bin .lss 3 x9 (.int .i64 3)).bind fun v14 =>
    condP v14
     (
      (E.C fn_impl_setOf [x0, x9] h).bind fun v15 =>
      (E.p.fieldAddr 58 x5 0).bind fun v16 =>
      (E.p.indexAddr 56 v16 x9).bind fun v17 =>
      (E.p.store 3 v17 v15.1 v15.2).bind fun v18 =>
      (E.p.bin .add 3 x9 (.int .i64 1)).bind fun v19 =>
      K .normal (st0 x0 x4 x5 v19 v18))
     (
      K (.exit 0) (se0_0_4_5_9_10 x0 x4 x5 x9 v14 h))
theorem body0_eq (E : Env) (K : PX → St → Res) (x0 x4 x5 x9 : PV) (h : PHeap) : ev (E.cx Tryd.prog kl) lp0 (st0 x0 x4 x5 x9 h) K = body0 E K x0 x4 x5 x9 h := by kernel_rfl
theorem after0_se0_0_4_5_9_10 (E : Env) (x0 x4 x5 x9 x10 : PV) (h : PHeap) : K0 E (kTop Tryd.prog Tryd.f59) (.exit 0) (se0_0_4_5_9_10 x0 x4 x5 x9 x10 h) =
    (E.p.load 58 x5 h).bind fun v11 =>
    (E.p.store 58 x4 v11 h).bind fun v12 =>
    (loadP Tryd.prog 58 x4 v12).bind fun v13 =>
    some (v13, v12) := by kernel_rfl
noncomputable def main (E : Env) (x0 x1 : PV) (h : PHeap) : Res :=
    (E.p.alloc 58 h).bind fun v1 =>
    (E.p.build 58 [(1, x1)]).bind fun v2 =>
    (E.p.alloc 58 v1.2).bind fun v3 =>
    (E.p.store 58 v3.1 v2 v3.2).bind fun v4 =>
    loopK (ev (E.cx Tryd.prog impl_standingOf.kl) impl_standingOf.lp0) E.lf (impl_standingOf.st0 x0 v1.1 v3.1 (.int .i64 0) v4) (impl_standingOf.K0 E (kTop Tryd.prog Tryd.f59))
theorem main_eq (E : Env) (x0 x1 : PV) (h : PHeap) : runBody (E.cx Tryd.prog kl) Tryd.f59 [x0, x1] h = main E x0 x1 h := by kernel_rfl
theorem call_eq (g : Nat → PV) (lf n : Nat) (x0 x1 : PV) (h : PHeap) : CL g lf (n + 1) fn_impl_standingOf [x0, x1] h = main (env g lf n) x0 x1 h := by
  rw [← main_eq]
  show (match Tryd.prog.funcs[59]? with | some fn => if fn.body.isSome then runBody ⟨Tryd.prog, g, call Tryd.prog g KL lf n, KL 59, lf, std Tryd.prog⟩ fn [x0, x1] h else none | none => none) = _
  rw [Tryd.func59]
  kernel_rfl
end impl_standingOf
namespace spec_l3Winner
noncomputable def main (E : Env) (x0 x1 x2 x3 : PV) (h : PHeap) : Res :=
    (E.C fn_spec_l2Masks [x0, x1] h).bind fun v1 =>
    (E.C fn_spec_l2Set [x2, (.int .i64 1)] v1.2).bind fun v2 =>
    (E.C fn_spec_l2Set [x2, (.int .i64 2)] v2.2).bind fun v3 =>
    (E.p.len 23 v1.1).bind fun v4 =>
    (E.C fn_spec_l3Table [v4] v3.2).bind fun v5 =>
    (E.C fn_spec_l3Solve [x0, x1, v1.1, v2.1, v3.1, x3, v5.1] v5.2).bind fun v6 =>
    (resV v6.1).bind fun v7 =>
    some (v7, v6.2)
theorem main_eq (E : Env) (x0 x1 x2 x3 : PV) (h : PHeap) : runBody (E.cx Tryd.prog kl) Tryd.f60 [x0, x1, x2, x3] h = main E x0 x1 x2 x3 h := by kernel_rfl
theorem call_eq (g : Nat → PV) (lf n : Nat) (x0 x1 x2 x3 : PV) (h : PHeap) : CL g lf (n + 1) fn_spec_l3Winner [x0, x1, x2, x3] h = main (env g lf n) x0 x1 x2 x3 h := by
  rw [← main_eq]
  show (match Tryd.prog.funcs[60]? with | some fn => if fn.body.isSome then runBody ⟨Tryd.prog, g, call Tryd.prog g KL lf n, KL 60, lf, std Tryd.prog⟩ fn [x0, x1, x2, x3] h else none | none => none) = _
  rw [Tryd.func60]
  kernel_rfl
end spec_l3Winner
namespace spec_BoardOk
noncomputable def main (E : Env) (x0 x1 : PV) (h : PHeap) : Res :=
    (E.C fn_spec_l1In [x0, (.int .i64 1), (.int .i64 4)] h).bind fun v1 =>
    (wantV v1.1 true).bind fun v2 =>
    (bif v2 then some (x1, v1.2) else some (.tup [], v1.2)).bind fun v3 =>
    (wantV v1.1 true).bind fun v4 =>
    (bif v4 then E.C fn_spec_l1In [v3.1, (.int .i64 1), (.int .i64 4)] v3.2 else some (.tup [], v3.2)).bind fun v5 =>
    (E.p.pick v1.1 v5.1 (.bool false)).bind fun v6 =>
    (wantV v6 true).bind fun v7 =>
    (bif v7 then some (x0, v5.2) else some (.tup [], v5.2)).bind fun v8 =>
    (wantV v6 true).bind fun v9 =>
    (bif v9 then some (x1, v8.2) else some (.tup [], v8.2)).bind fun v10 =>
    (wantV v6 true).bind fun v11 =>
    (bif v11 then pv v10.2 (E.p.bin .mul 3 v8.1 v10.1) else some (.tup [], v10.2)).bind fun v12 =>
    (wantV v6 true).bind fun v13 =>
    (bif v13 then pv v12.2 (E.p.bin .leq 3 v12.1 (.int .i64 9)) else some (.tup [], v12.2)).bind fun v14 =>
    (E.p.pick v6 v14.1 (.bool false)).bind fun v15 =>
    (resV v15).bind fun v16 =>
    some (v16, v14.2)
theorem main_eq (E : Env) (x0 x1 : PV) (h : PHeap) : runBody (E.cx Tryd.prog kl) Tryd.f61 [x0, x1] h = main E x0 x1 h := by kernel_rfl
theorem call_eq (g : Nat → PV) (lf n : Nat) (x0 x1 : PV) (h : PHeap) : CL g lf (n + 1) fn_spec_BoardOk [x0, x1] h = main (env g lf n) x0 x1 h := by
  rw [← main_eq]
  show (match Tryd.prog.funcs[61]? with | some fn => if fn.body.isSome then runBody ⟨Tryd.prog, g, call Tryd.prog g KL lf n, KL 61, lf, std Tryd.prog⟩ fn [x0, x1] h else none | none => none) = _
  rw [Tryd.func61]
  kernel_rfl
end spec_BoardOk
namespace impl_exchanged
noncomputable def main (E : Env) (x0 : PV) (h : PHeap) : Res :=
    (E.p.bin .eql 3 x0 (.int .i64 1)).bind fun v1 =>
    condP v1
     (
      (resV (.int .i64 2)).bind fun v2 =>
      some (v2, h))
     (
      (E.p.bin .eql 3 x0 (.int .i64 2)).bind fun v3 =>
      condP v3
       (
        (resV (.int .i64 1)).bind fun v4 =>
        some (v4, h))
       (
        (resV x0).bind fun v5 =>
        some (v5, h)))
theorem main_eq (E : Env) (x0 : PV) (h : PHeap) : runBody (E.cx Tryd.prog kl) Tryd.f62 [x0] h = main E x0 h := by kernel_rfl
theorem call_eq (g : Nat → PV) (lf n : Nat) (x0 : PV) (h : PHeap) : CL g lf (n + 1) fn_impl_exchanged [x0] h = main (env g lf n) x0 h := by
  rw [← main_eq]
  show (match Tryd.prog.funcs[62]? with | some fn => if fn.body.isSome then runBody ⟨Tryd.prog, g, call Tryd.prog g KL lf n, KL 62, lf, std Tryd.prog⟩ fn [x0] h else none | none => none) = _
  rw [Tryd.func62]
  kernel_rfl
end impl_exchanged
namespace impl_mirroredCell
noncomputable def main (E : Env) (x0 x1 x2 : PV) (h : PHeap) : Res :=
    (E.p.bin .rem 3 x2 x1).bind fun v1 =>
    (E.p.bin .mul 3 v1 x0).bind fun v2 =>
    (E.p.bin .quo 3 x2 x1).bind fun v3 =>
    (E.p.bin .add 3 v2 v3).bind fun v4 =>
    (resV v4).bind fun v5 =>
    some (v5, h)
theorem main_eq (E : Env) (x0 x1 x2 : PV) (h : PHeap) : runBody (E.cx Tryd.prog kl) Tryd.f63 [x0, x1, x2] h = main E x0 x1 x2 h := by kernel_rfl
theorem call_eq (g : Nat → PV) (lf n : Nat) (x0 x1 x2 : PV) (h : PHeap) : CL g lf (n + 1) fn_impl_mirroredCell [x0, x1, x2] h = main (env g lf n) x0 x1 x2 h := by
  rw [← main_eq]
  show (match Tryd.prog.funcs[63]? with | some fn => if fn.body.isSome then runBody ⟨Tryd.prog, g, call Tryd.prog g KL lf n, KL 63, lf, std Tryd.prog⟩ fn [x0, x1, x2] h else none | none => none) = _
  rw [Tryd.func63]
  kernel_rfl
end impl_mirroredCell
namespace impl_cellsIn
noncomputable def lp0 : Code := (codeAt (bodyOf Tryd.f64) [1, 1, 0, 1, 0, 0])
def st0 (x0 x3 x5 : PV) (h : PHeap) : St := ⟨[x0, .junk, .junk, x3, .junk, x5, .junk, .junk, .junk, .junk, .junk, .junk, .junk, .junk, .junk, .junk, .junk, .junk, .junk], h⟩
def se0_0_3_5_6 (x0 x3 x5 x6 : PV) (h : PHeap) : St := ⟨[x0, .junk, .junk, x3, .junk, x5, x6, .junk, .junk, .junk, .junk, .junk, .junk, .junk, .junk, .junk, .junk, .junk, .junk], h⟩
noncomputable def K0 (E : Env) (K : PX → St → Res) : PX → St → Res := (kBlock 0 (kSeq (ev (E.cx Tryd.prog kl) (codeAt (bodyOf Tryd.f64) [1, 1, 1])) K))
@[simp] theorem K0_ret (E : Env) (K : PX → St → Res) (s : St) : K0 E K .ret s = K .ret s := by kernel_rfl
noncomputable def body0 (E : Env) (K : PX → St → Res) (x0 x3 x5 : PV) (h : PHeap) : Res :=
    (E.p.bin .lss 3 x5 (.int .i64 9)).bind fun v10 =>
    condP v10
     (
      (E.p.bin .shr 3 x0 x5).bind fun v11 =>
      (E.p.bin .and 3 v11 (.int .i64 1)).bind fun v12 =>
      (E.p.bin .eql 3 v12 (.int .i64 1)).bind fun v13 =>
      condP v13
       (
        (E.p.buildSlice 23 1 [(0, x5)] h).bind fun v14 =>
        (E.p.append 23 23 x3 v14.1 v14.2).bind fun v15 =>
        (E.p.bin .add 3 x5 (.int .i64 1)).bind fun v16 =>
        K .normal (st0 x0 v15.1 v16 v15.2))
       (
        (E.p.bin .add 3 x5 (.int .i64 1)).bind fun v17 =>
        K .normal (st0 x0 x3 v17 h)))
     (
      K (.exit 0) (se0_0_3_5_6 x0 x3 x5 v10 h))
theorem body0_eq (E : Env) (K : PX → St → Res) (x0 x3 x5 : PV) (h : PHeap) : ev (E.cx Tryd.prog kl) lp0 (st0 x0 x3 x5 h) K = body0 E K x0 x3 x5 h := by kernel_rfl
theorem after0_se0_0_3_5_6 (E : Env) (x0 x3 x5 x6 : PV) (h : PHeap) : K0 E (kTop Tryd.prog Tryd.f64) (.exit 0) (se0_0_3_5_6 x0 x3 x5 x6 h) =
    (resV x3).bind fun v9 =>
    some (v9, h) := by kernel_rfl
noncomputable def main (E : Env) (x0 : PV) (h : PHeap) : Res :=
    loopK (ev (E.cx Tryd.prog impl_cellsIn.kl) impl_cellsIn.lp0) E.lf (impl_cellsIn.st0 x0 .nilsl (.int .i64 0) h) (impl_cellsIn.K0 E (kTop Tryd.prog Tryd.f64))
theorem main_eq (E : Env) (x0 : PV) (h : PHeap) : runBody (E.cx Tryd.prog kl) Tryd.f64 [x0] h = main E x0 h := by kernel_rfl
theorem call_eq (g : Nat → PV) (lf n : Nat) (x0 : PV) (h : PHeap) : CL g lf (n + 1) fn_impl_cellsIn [x0] h = main (env g lf n) x0 h := by
  rw [← main_eq]
  show (match Tryd.prog.funcs[64]? with | some fn => if fn.body.isSome then runBody ⟨Tryd.prog, g, call Tryd.prog g KL lf n, KL 64, lf, std Tryd.prog⟩ fn [x0] h else none | none => none) = _
  rw [Tryd.func64]
  kernel_rfl
end impl_cellsIn
namespace impl_search_winning
noncomputable def lp0 : Code := (codeAt (bodyOf Tryd.f65) [1, 1, 1, 0, 1, 0, 0])
def st0 (x0 x3 x5 x6 : PV) (h : PHeap) : St := ⟨[x0, .junk, .junk, x3, .junk, x5, x6, .junk, .junk, .junk, .junk, .junk, .junk, .junk, .junk, .junk, .junk, .junk, .junk, .junk, .junk, .junk, .junk, .junk, .junk, .junk, .junk, .junk, .junk, .junk, .junk, .junk, .junk, .junk, .junk, .junk], h⟩
def se0_0_3_5_6_16 (x0 x3 x5 x6 x16 : PV) (h : PHeap) : St := ⟨[x0, .junk, .junk, x3, .junk, x5, x6, .junk, .junk, .junk, .junk, .junk, .junk, .junk, .junk, .junk, x16, .junk, .junk, .junk, .junk, .junk, .junk, .junk, .junk, .junk, .junk, .junk, .junk, .junk, .junk, .junk, .junk, .junk, .junk, .junk], h⟩
noncomputable def K0 (E : Env) (K : PX → St → Res) : PX → St → Res := (kBlock 0 (kSeq (ev (E.cx Tryd.prog kl) (codeAt (bodyOf Tryd.f65) [1, 1, 1, 1])) K))
@[simp] theorem K0_ret (E : Env) (K : PX → St → Res) (s : St) : K0 E K .ret s = K .ret s := by kernel_rfl
noncomputable def body0 (E : Env) (K : PX → St → Res) (x0 x3 x5 x6 : PV) (h : PHeap) : Res :=
    (E.p.bin .neq 3 x6 (.int .i64 0)).bind fun v28 =>
    condP v28
     (
      (E.C fn_impl_leastIn [x6] h).bind fun v29 =>
      (E.p.load 58 x3 v29.2).bind fun v30 =>
      (E.p.fieldAddr 58 x3 1).bind fun v31 =>
      (E.p.load 3 v31 v29.2).bind fun v32 =>
      (E.C fn_impl_standing_after [v30, v29.1] v29.2).bind fun v33 =>
      (E.p.load 3 v31 v33.2).bind fun v34 =>
      ckP (plainEq v32 v34) (
      (E.p.load 58 x3 v33.2).bind fun v35 =>
      ckP (plainEq v30 v35) (
      (E.C fn_impl_search_winner [x0, v33.1] v33.2).bind fun v36 =>
      (E.p.load 3 v31 v36.2).bind fun v37 =>
      ckP (plainEq v32 v37) (
      (E.p.load 58 x3 v36.2).bind fun v38 =>
      ckP (plainEq v30 v38) (
      (E.p.bin .eql 3 v36.1 v32).bind fun v39 =>
      condP v39
       (
        (E.p.bin .shl 3 (.int .i64 1) v29.1).bind fun v40 =>
        (E.p.bin .or 3 x5 v40).bind fun v41 =>
        (E.p.bin .sub 3 x6 (.int .i64 1)).bind fun v42 =>
        (E.p.bin .and 3 x6 v42).bind fun v43 =>
        K .normal (st0 x0 x3 v41 v43 v36.2))
       (
        (E.p.bin .sub 3 x6 (.int .i64 1)).bind fun v44 =>
        (E.p.bin .and 3 x6 v44).bind fun v45 =>
        K .normal (st0 x0 x3 x5 v45 v36.2)))))))
     (
      K (.exit 0) (se0_0_3_5_6_16 x0 x3 x5 x6 v28 h))
theorem body0_eq (E : Env) (K : PX → St → Res) (x0 x3 x5 x6 : PV) (h : PHeap) : ev (E.cx Tryd.prog kl) lp0 (st0 x0 x3 x5 x6 h) K = body0 E K x0 x3 x5 x6 h := by kernel_rfl
theorem after0_se0_0_3_5_6_16 (E : Env) (x0 x3 x5 x6 x16 : PV) (h : PHeap) : K0 E (kTop Tryd.prog Tryd.f65) (.exit 0) (se0_0_3_5_6_16 x0 x3 x5 x6 x16 h) =
    (resV x5).bind fun v27 =>
    some (v27, h) := by kernel_rfl
noncomputable def main (E : Env) (x0 x1 : PV) (h : PHeap) : Res :=
    (E.p.box x1 h).bind fun v1 =>
    (E.p.load 58 v1.1 v1.2).bind fun v2 =>
    (E.C fn_impl_search_joined [x0, v2] v1.2).bind fun v3 =>
    (E.p.bin .neq 3 v3.1 (.int .i64 0)).bind fun v4 =>
    condP v4
     (
      (resV (.int .i64 0)).bind fun v5 =>
      some (v5, v3.2))
     (
      (E.p.fieldAddr 58 v1.1 0).bind fun v6 =>
      (E.p.indexAddr 56 v6 (.int .i64 0)).bind fun v7 =>
      (E.p.load 3 v7 v3.2).bind fun v8 =>
      loopK (ev (E.cx Tryd.prog impl_search_winning.kl) impl_search_winning.lp0) E.lf (impl_search_winning.st0 x0 v1.1 (.int .i64 0) v8 v3.2) (impl_search_winning.K0 E (kTop Tryd.prog Tryd.f65)))
theorem main_eq (E : Env) (x0 x1 : PV) (h : PHeap) : runBody (E.cx Tryd.prog kl) Tryd.f65 [x0, x1] h = main E x0 x1 h := by kernel_rfl
theorem call_eq (g : Nat → PV) (lf n : Nat) (x0 x1 : PV) (h : PHeap) : CL g lf (n + 1) fn_impl_search_winning [x0, x1] h = main (env g lf n) x0 x1 h := by
  rw [← main_eq]
  show (match Tryd.prog.funcs[65]? with | some fn => if fn.body.isSome then runBody ⟨Tryd.prog, g, call Tryd.prog g KL lf n, KL 65, lf, std Tryd.prog⟩ fn [x0, x1] h else none | none => none) = _
  rw [Tryd.func65]
  kernel_rfl
end impl_search_winning
namespace spec_l1Other
noncomputable def main (E : Env) (x0 : PV) (h : PHeap) : Res :=
    (E.p.bin .eql 3 x0 (.int .i64 0)).bind fun v1 =>
    condP v1
     (
      (resV (.int .i64 0)).bind fun v2 =>
      some (v2, h))
     (
      (E.p.bin .sub 3 (.int .i64 3) x0).bind fun v3 =>
      (resV v3).bind fun v4 =>
      some (v4, h))
theorem main_eq (E : Env) (x0 : PV) (h : PHeap) : runBody (E.cx Tryd.prog kl) Tryd.f66 [x0] h = main E x0 h := by kernel_rfl
theorem call_eq (g : Nat → PV) (lf n : Nat) (x0 : PV) (h : PHeap) : CL g lf (n + 1) fn_spec_l1Other [x0] h = main (env g lf n) x0 h := by
  rw [← main_eq]
  show (match Tryd.prog.funcs[66]? with | some fn => if fn.body.isSome then runBody ⟨Tryd.prog, g, call Tryd.prog g KL lf n, KL 66, lf, std Tryd.prog⟩ fn [x0] h else none | none => none) = _
  rw [Tryd.func66]
  kernel_rfl
end spec_l1Other
namespace impl_search_joined
noncomputable def lp0 : Code := (codeAt (bodyOf Tryd.f67) [1, 0, 1, 0, 0])
def st0 (x0 x3 x5 : PV) (h : PHeap) : St := ⟨[x0, .junk, .junk, x3, .junk, x5, .junk, .junk, .junk, .junk, .junk, .junk, .junk, .junk, .junk, .junk, .junk, .junk], h⟩
def sr_4 (x4 : PV) (h : PHeap) : St := ⟨[.junk, .junk, .junk, .junk, x4, .junk, .junk, .junk, .junk, .junk, .junk, .junk, .junk, .junk, .junk, .junk, .junk, .junk], h⟩
def se0_0_3_5_7 (x0 x3 x5 x7 : PV) (h : PHeap) : St := ⟨[x0, .junk, .junk, x3, .junk, x5, .junk, x7, .junk, .junk, .junk, .junk, .junk, .junk, .junk, .junk, .junk, .junk], h⟩
noncomputable def K0 (E : Env) (K : PX → St → Res) : PX → St → Res := (kBlock 0 (kSeq (ev (E.cx Tryd.prog kl) (codeAt (bodyOf Tryd.f67) [1, 1])) K))
@[simp] theorem K0_ret (E : Env) (K : PX → St → Res) (s : St) : K0 E K .ret s = K .ret s := by kernel_rfl
noncomputable def body0 (E : Env) (K : PX → St → Res) (x0 x3 x5 : PV) (h : PHeap) : Res :=
    (E.p.bin .leq 3 x5 (.int .i64 2)).bind fun v9 =>
    condP v9
     (
      (E.p.fieldAddr 58 x3 0).bind fun v10 =>
      (E.p.indexAddr 56 v10 x5).bind fun v11 =>
      (E.p.load 3 v11 h).bind fun v12 =>
      (E.C fn_impl_search_joins [x0, v12, x5] h).bind fun v13 =>
      condP v13.1
       (
        K .ret (sr_4 x5 v13.2))
       (
        (E.p.bin .add 3 x5 (.int .i64 1)).bind fun v14 =>
        K .normal (st0 x0 x3 v14 v13.2)))
     (
      K (.exit 0) (se0_0_3_5_7 x0 x3 x5 v9 h))
theorem body0_eq (E : Env) (K : PX → St → Res) (x0 x3 x5 : PV) (h : PHeap) : ev (E.cx Tryd.prog kl) lp0 (st0 x0 x3 x5 h) K = body0 E K x0 x3 x5 h := by kernel_rfl
theorem after0_se0_0_3_5_7 (E : Env) (x0 x3 x5 x7 : PV) (h : PHeap) : K0 E (kTop Tryd.prog Tryd.f67) (.exit 0) (se0_0_3_5_7 x0 x3 x5 x7 h) =
    (resV (.int .i64 0)).bind fun v8 =>
    some (v8, h) := by kernel_rfl
theorem top_sr_4 (x4 : PV) (h : PHeap) : kTop Tryd.prog Tryd.f67 .ret (sr_4 x4 h) =
    (resV x4).bind fun v15 =>
    some (v15, h) := by kernel_rfl
noncomputable def main (E : Env) (x0 x1 : PV) (h : PHeap) : Res :=
    (E.p.box x1 h).bind fun v1 =>
    loopK (ev (E.cx Tryd.prog impl_search_joined.kl) impl_search_joined.lp0) E.lf (impl_search_joined.st0 x0 v1.1 (.int .i64 1) v1.2) (impl_search_joined.K0 E (kTop Tryd.prog Tryd.f67))
theorem main_eq (E : Env) (x0 x1 : PV) (h : PHeap) : runBody (E.cx Tryd.prog kl) Tryd.f67 [x0, x1] h = main E x0 x1 h := by kernel_rfl
theorem call_eq (g : Nat → PV) (lf n : Nat) (x0 x1 : PV) (h : PHeap) : CL g lf (n + 1) fn_impl_search_joined [x0, x1] h = main (env g lf n) x0 x1 h := by
  rw [← main_eq]
  show (match Tryd.prog.funcs[67]? with | some fn => if fn.body.isSome then runBody ⟨Tryd.prog, g, call Tryd.prog g KL lf n, KL 67, lf, std Tryd.prog⟩ fn [x0, x1] h else none | none => none) = _
  rw [Tryd.func67]
  kernel_rfl
end impl_search_joined
namespace impl_leastIn
noncomputable def main (E : Env) (x0 : PV) (h : PHeap) : Res :=
    (E.p.conv 3 74 x0).bind fun v1 =>
    (E.C fn_bits_TrailingZeros [v1] h).bind fun v2 =>
    (resV v2.1).bind fun v3 =>
    some (v3, v2.2)
theorem main_eq (E : Env) (x0 : PV) (h : PHeap) : runBody (E.cx Tryd.prog kl) Tryd.f68 [x0] h = main E x0 h := by kernel_rfl
theorem call_eq (g : Nat → PV) (lf n : Nat) (x0 : PV) (h : PHeap) : CL g lf (n + 1) fn_impl_leastIn [x0] h = main (env g lf n) x0 h := by
  rw [← main_eq]
  show (match Tryd.prog.funcs[68]? with | some fn => if fn.body.isSome then runBody ⟨Tryd.prog, g, call Tryd.prog g KL lf n, KL 68, lf, std Tryd.prog⟩ fn [x0] h else none | none => none) = _
  rw [Tryd.func68]
  kernel_rfl
end impl_leastIn
namespace impl_standing_after
noncomputable def main (E : Env) (x0 x1 : PV) (h : PHeap) : Res :=
    (E.p.box x0 h).bind fun v1 =>
    (E.p.alloc 58 v1.2).bind fun v2 =>
    (E.p.fieldAddr 58 v1.1 0).bind fun v3 =>
    (E.p.indexAddr 56 v3 (.int .i64 0)).bind fun v4 =>
    (E.p.bin .shl 3 (.int .i64 1) x1).bind fun v5 =>
    (E.p.fieldAddr 58 v1.1 0).bind fun v6 =>
    (E.p.load 3 v4 v2.2).bind fun v7 =>
    (E.p.bin .andNot 3 v7 v5).bind fun v8 =>
    (E.p.indexAddr 56 v6 (.int .i64 0)).bind fun v9 =>
    (E.p.store 3 v9 v8 v2.2).bind fun v10 =>
    (E.p.fieldAddr 58 v1.1 1).bind fun v11 =>
    (E.p.fieldAddr 58 v1.1 0).bind fun v12 =>
    (E.p.bin .shl 3 (.int .i64 1) x1).bind fun v13 =>
    (E.p.fieldAddr 58 v1.1 0).bind fun v14 =>
    (E.p.load 3 v11 v10).bind fun v15 =>
    (E.p.indexAddr 56 v12 v15).bind fun v16 =>
    (E.p.load 3 v16 v10).bind fun v17 =>
    (E.p.bin .or 3 v17 v13).bind fun v18 =>
    (E.p.indexAddr 56 v14 v15).bind fun v19 =>
    (E.p.store 3 v19 v18 v10).bind fun v20 =>
    (E.p.fieldAddr 58 v1.1 1).bind fun v21 =>
    (E.p.load 3 v21 v20).bind fun v22 =>
    (E.C fn_impl_exchanged [v22] v20).bind fun v23 =>
    (E.p.fieldAddr 58 v1.1 1).bind fun v24 =>
    (E.p.store 3 v24 v23.1 v23.2).bind fun v25 =>
    (E.p.load 58 v1.1 v25).bind fun v26 =>
    (E.p.store 58 v2.1 v26 v25).bind fun v27 =>
    (loadP Tryd.prog 58 v2.1 v27).bind fun v28 =>
    some (v28, v27)
theorem main_eq (E : Env) (x0 x1 : PV) (h : PHeap) : runBody (E.cx Tryd.prog kl) Tryd.f69 [x0, x1] h = main E x0 x1 h := by kernel_rfl
theorem call_eq (g : Nat → PV) (lf n : Nat) (x0 x1 : PV) (h : PHeap) : CL g lf (n + 1) fn_impl_standing_after [x0, x1] h = main (env g lf n) x0 x1 h := by
  rw [← main_eq]
  show (match Tryd.prog.funcs[69]? with | some fn => if fn.body.isSome then runBody ⟨Tryd.prog, g, call Tryd.prog g KL lf n, KL 69, lf, std Tryd.prog⟩ fn [x0, x1] h else none | none => none) = _
  rw [Tryd.func69]
  kernel_rfl
end impl_standing_after
namespace spec_l2Set
noncomputable def lp0 : Code := (codeAt (bodyOf Tryd.f70) [1, 1, 0, 1, 0, 0])
def st0 (x0 x1 x5 x6 : PV) (h : PHeap) : St := ⟨[x0, x1, .junk, .junk, .junk, x5, x6, .junk, .junk, .junk, .junk, .junk, .junk, .junk, .junk, .junk, .junk, .junk, .junk, .junk, .junk, .junk, .junk, .junk], h⟩
def se0_0_1_5_6_10 (x0 x1 x5 x6 x10 : PV) (h : PHeap) : St := ⟨[x0, x1, .junk, .junk, .junk, x5, x6, .junk, .junk, .junk, x10, .junk, .junk, .junk, .junk, .junk, .junk, .junk, .junk, .junk, .junk, .junk, .junk, .junk], h⟩
noncomputable def K0 (E : Env) (K : PX → St → Res) : PX → St → Res := (kBlock 0 (kSeq (ev (E.cx Tryd.prog kl) (codeAt (bodyOf Tryd.f70) [1, 1, 1])) K))
@[simp] theorem K0_ret (E : Env) (K : PX → St → Res) (s : St) : K0 E K .ret s = K .ret s := by kernel_rfl
noncomputable def body0 (E : Env) (K : PX → St → Res) (x0 x1 x5 x6 : PV) (h : PHeap) : Res :=
    (E.p.len 23 x0).bind fun v11 =>
    (E.p.bin .lss 3 x6 v11).bind fun v12 =>
    condP v12
     (
      (E.p.indexAddr 23 x0 x6).bind fun v13 =>
      (E.p.load 3 v13 h).bind fun v14 =>
      (E.p.bin .eql 3 v14 x1).bind fun v15 =>
      condP v15
       (
        (E.p.bin .shl 3 (.int .i64 1) x6).bind fun v16 =>
        (E.p.bin .or 3 x5 v16).bind fun v17 =>
        (E.p.bin .add 3 x6 (.int .i64 1)).bind fun v18 =>
        K .normal (st0 x0 x1 v17 v18 h))
       (
        (E.p.bin .add 3 x6 (.int .i64 1)).bind fun v19 =>
        K .normal (st0 x0 x1 x5 v19 h)))
     (
      K (.exit 0) (se0_0_1_5_6_10 x0 x1 x5 x6 v12 h))
theorem body0_eq (E : Env) (K : PX → St → Res) (x0 x1 x5 x6 : PV) (h : PHeap) : ev (E.cx Tryd.prog kl) lp0 (st0 x0 x1 x5 x6 h) K = body0 E K x0 x1 x5 x6 h := by kernel_rfl
theorem after0_se0_0_1_5_6_10 (E : Env) (x0 x1 x5 x6 x10 : PV) (h : PHeap) : K0 E (kTop Tryd.prog Tryd.f70) (.exit 0) (se0_0_1_5_6_10 x0 x1 x5 x6 x10 h) =
    (resV x5).bind fun v10 =>
    some (v10, h) := by kernel_rfl
noncomputable def main (E : Env) (x0 x1 : PV) (h : PHeap) : Res :=
    loopK (ev (E.cx Tryd.prog spec_l2Set.kl) spec_l2Set.lp0) E.lf (spec_l2Set.st0 x0 x1 (.int .i64 0) (.int .i64 0) h) (spec_l2Set.K0 E (kTop Tryd.prog Tryd.f70))
theorem main_eq (E : Env) (x0 x1 : PV) (h : PHeap) : runBody (E.cx Tryd.prog kl) Tryd.f70 [x0, x1] h = main E x0 x1 h := by kernel_rfl
theorem call_eq (g : Nat → PV) (lf n : Nat) (x0 x1 : PV) (h : PHeap) : CL g lf (n + 1) fn_spec_l2Set [x0, x1] h = main (env g lf n) x0 x1 h := by
  rw [← main_eq]
  show (match Tryd.prog.funcs[70]? with | some fn => if fn.body.isSome then runBody ⟨Tryd.prog, g, call Tryd.prog g KL lf n, KL 70, lf, std Tryd.prog⟩ fn [x0, x1] h else none | none => none) = _
  rw [Tryd.func70]
  kernel_rfl
end spec_l2Set
namespace spec_l2List
noncomputable def lp0 : Code := (codeAt (bodyOf Tryd.f71) [1, 1, 0, 1, 0, 0])
def st0 (x0 x3 x4 : PV) (h : PHeap) : St := ⟨[x0, .junk, .junk, x3, x4, .junk, .junk, .junk, .junk, .junk, .junk, .junk, .junk, .junk, .junk, .junk, .junk, .junk, .junk, .junk, .junk, .junk], h⟩
def se0_0_3_4_9 (x0 x3 x4 x9 : PV) (h : PHeap) : St := ⟨[x0, .junk, .junk, x3, x4, .junk, .junk, .junk, .junk, x9, .junk, .junk, .junk, .junk, .junk, .junk, .junk, .junk, .junk, .junk, .junk, .junk], h⟩
noncomputable def K0 (E : Env) (K : PX → St → Res) : PX → St → Res := (kBlock 0 (kSeq (ev (E.cx Tryd.prog kl) (codeAt (bodyOf Tryd.f71) [1, 1, 1])) K))
@[simp] theorem K0_ret (E : Env) (K : PX → St → Res) (s : St) : K0 E K .ret s = K .ret s := by kernel_rfl
noncomputable def body0 (E : Env) (K : PX → St → Res) (x0 x3 x4 : PV) (h : PHeap) : Res :=
    (E.p.bin .shr 3 x0 x4).bind fun v12 =>
    (E.p.bin .gtr 3 v12 (.int .i64 0)).bind fun v13 =>
    condP v13
     (
      (E.p.bin .shr 3 x0 x4).bind fun v14 =>
      (E.p.bin .rem 3 v14 (.int .i64 2)).bind fun v15 =>
      (E.p.bin .eql 3 v15 (.int .i64 1)).bind fun v16 =>
      condP v16
       (
        (E.p.buildSlice 23 1 [(0, x4)] h).bind fun v17 =>
        (E.p.append 23 23 x3 v17.1 v17.2).bind fun v18 =>
        (E.p.bin .add 3 x4 (.int .i64 1)).bind fun v19 =>
        K .normal (st0 x0 v18.1 v19 v18.2))
       (
        (E.p.bin .add 3 x4 (.int .i64 1)).bind fun v20 =>
        K .normal (st0 x0 x3 v20 h)))
     (
      K (.exit 0) (se0_0_3_4_9 x0 x3 x4 v13 h))
theorem body0_eq (E : Env) (K : PX → St → Res) (x0 x3 x4 : PV) (h : PHeap) : ev (E.cx Tryd.prog kl) lp0 (st0 x0 x3 x4 h) K = body0 E K x0 x3 x4 h := by kernel_rfl
theorem after0_se0_0_3_4_9 (E : Env) (x0 x3 x4 x9 : PV) (h : PHeap) : K0 E (kTop Tryd.prog Tryd.f71) (.exit 0) (se0_0_3_4_9 x0 x3 x4 x9 h) =
    (resV x3).bind fun v11 =>
    some (v11, h) := by kernel_rfl
noncomputable def main (E : Env) (x0 : PV) (h : PHeap) : Res :=
    (E.p.buildSlice 23 0 [] h).bind fun v1 =>
    loopK (ev (E.cx Tryd.prog spec_l2List.kl) spec_l2List.lp0) E.lf (spec_l2List.st0 x0 v1.1 (.int .i64 0) v1.2) (spec_l2List.K0 E (kTop Tryd.prog Tryd.f71))
theorem main_eq (E : Env) (x0 : PV) (h : PHeap) : runBody (E.cx Tryd.prog kl) Tryd.f71 [x0] h = main E x0 h := by kernel_rfl
theorem call_eq (g : Nat → PV) (lf n : Nat) (x0 : PV) (h : PHeap) : CL g lf (n + 1) fn_spec_l2List [x0] h = main (env g lf n) x0 h := by
  rw [← main_eq]
  show (match Tryd.prog.funcs[71]? with | some fn => if fn.body.isSome then runBody ⟨Tryd.prog, g, call Tryd.prog g KL lf n, KL 71, lf, std Tryd.prog⟩ fn [x0] h else none | none => none) = _
  rw [Tryd.func71]
  kernel_rfl
end spec_l2List
namespace spec_l20Sided
noncomputable def main (E : Env) (x0 x1 : PV) (h : PHeap) : Res :=
    (E.C fn_spec_l20Position [x0, x1] h).bind fun v1 =>
    (E.p.extract v1.1 0).bind fun v2 =>
    (E.p.extract v1.1 1).bind fun v3 =>
    (E.p.extract v1.1 2).bind fun v4 =>
    (E.C fn_spec_l20Rd_pick [x0, (.int .i64 2)] v1.2).bind fun v5 =>
    (E.p.bin .add 3 (.int .i64 1) v5.1).bind fun v6 =>
    (E.C fn_spec_l20Rd_pick [x0, (.int .i64 60)] v5.2).bind fun v7 =>
    (E.p.bin .quo 3 v7.1 (.int .i64 59)).bind fun v8 =>
    (E.p.bin .mul 3 v8 (.int .i64 2)).bind fun v9 =>
    (E.p.bin .add 3 v6 v9).bind fun v10 =>
    (resV v2).bind fun v11 =>
    (resV v3).bind fun v12 =>
    (resV v4).bind fun v13 =>
    (resV v10).bind fun v14 =>
    some (.tup [v11, v12, v13, v14], v7.2)
theorem main_eq (E : Env) (x0 x1 : PV) (h : PHeap) : runBody (E.cx Tryd.prog kl) Tryd.f72 [x0, x1] h = main E x0 x1 h := by kernel_rfl
theorem call_eq (g : Nat → PV) (lf n : Nat) (x0 x1 : PV) (h : PHeap) : CL g lf (n + 1) fn_spec_l20Sided [x0, x1] h = main (env g lf n) x0 x1 h := by
  rw [← main_eq]
  show (match Tryd.prog.funcs[72]? with | some fn => if fn.body.isSome then runBody ⟨Tryd.prog, g, call Tryd.prog g KL lf n, KL 72, lf, std Tryd.prog⟩ fn [x0, x1] h else none | none => none) = _
  rw [Tryd.func72]
  kernel_rfl
end spec_l20Sided
namespace spec_l20Rd_pick
noncomputable def main (E : Env) (x0 x1 : PV) (h : PHeap) : Res :=
    (E.p.ptr x0).bind fun v1 =>
    (E.p.fieldAddr 65 v1 1).bind fun v2 =>
    (E.p.load 3 v2 h).bind fun v3 =>
    (E.p.bin .add 3 v3 (.int .i64 1)).bind fun v4 =>
    (E.p.ptr x0).bind fun v5 =>
    (E.p.fieldAddr 65 v5 1).bind fun v6 =>
    (E.p.store 3 v6 v4 h).bind fun v7 =>
    (E.p.bin .lss 3 x1 (.int .i64 1)).bind fun v8 =>
    (wantV v8 false).bind fun v9 =>
    (bif v9 then some (x0, v7) else some (.tup [], v7)).bind fun v10 =>
    (wantV v8 false).bind fun v11 =>
    (bif v11 then pv v10.2 (E.p.ptr v10.1) else some (.tup [], v10.2)).bind fun v12 =>
    (wantV v8 false).bind fun v13 =>
    (bif v13 then pv v12.2 (E.p.fieldAddr 65 v12.1 0) else some (.tup [], v12.2)).bind fun v14 =>
    (wantV v8 false).bind fun v15 =>
    (bif v15 then pv v14.2 (E.p.load 22 v14.1 v14.2) else some (.tup [], v14.2)).bind fun v16 =>
    (wantV v8 false).bind fun v17 =>
    (bif v17 then pv v16.2 (E.p.len 22 v16.1) else some (.tup [], v16.2)).bind fun v18 =>
    (wantV v8 false).bind fun v19 =>
    (bif v19 then pv v18.2 (E.p.bin .eql 3 v18.1 (.int .i64 0)) else some (.tup [], v18.2)).bind fun v20 =>
    (E.p.pick v8 (.bool true) v20.1).bind fun v21 =>
    condP v21
     (
      (resV (.int .i64 0)).bind fun v22 =>
      some (v22, v20.2))
     (
      (E.p.ptr x0).bind fun v23 =>
      (E.p.fieldAddr 65 v23 1).bind fun v24 =>
      (E.p.load 3 v24 v20.2).bind fun v25 =>
      (E.p.bin .sub 3 v25 (.int .i64 1)).bind fun v26 =>
      (E.p.ptr x0).bind fun v27 =>
      (E.p.fieldAddr 65 v27 0).bind fun v28 =>
      (E.p.load 22 v28 v20.2).bind fun v29 =>
      (E.p.len 22 v29).bind fun v30 =>
      (E.p.bin .lss 3 v26 v30).bind fun v31 =>
      condP v31
       (
        (E.p.ptr x0).bind fun v32 =>
        (E.p.fieldAddr 65 v32 0).bind fun v33 =>
        (E.p.load 22 v33 v20.2).bind fun v34 =>
        (E.p.indexAddr 22 v34 v26).bind fun v35 =>
        (E.p.load 5 v35 v20.2).bind fun v36 =>
        (E.p.conv 5 3 v36).bind fun v37 =>
        (E.p.bin .rem 3 v37 x1).bind fun v38 =>
        (resV v38).bind fun v39 =>
        some (v39, v20.2))
       (
        (E.p.ptr x0).bind fun v40 =>
        (E.p.fieldAddr 65 v40 0).bind fun v41 =>
        (E.p.load 22 v41 v20.2).bind fun v42 =>
        (E.p.ptr x0).bind fun v43 =>
        (E.p.fieldAddr 65 v43 0).bind fun v44 =>
        (E.p.load 22 v44 v20.2).bind fun v45 =>
        (E.p.len 22 v45).bind fun v46 =>
        (E.p.bin .rem 3 v26 v46).bind fun v47 =>
        (E.p.indexAddr 22 v42 v47).bind fun v48 =>
        (E.p.load 5 v48 v20.2).bind fun v49 =>
        (E.p.conv 5 3 v49).bind fun v50 =>
        (E.p.bin .mul 3 v50 (.int .i64 131)).bind fun v51 =>
        (E.p.ptr x0).bind fun v52 =>
        (E.p.fieldAddr 65 v52 0).bind fun v53 =>
        (E.p.load 22 v53 v20.2).bind fun v54 =>
        (E.p.bin .mul 3 v26 (.int .i64 7)).bind fun v55 =>
        (E.p.bin .add 3 v55 (.int .i64 3)).bind fun v56 =>
        (E.p.ptr x0).bind fun v57 =>
        (E.p.fieldAddr 65 v57 0).bind fun v58 =>
        (E.p.load 22 v58 v20.2).bind fun v59 =>
        (E.p.len 22 v59).bind fun v60 =>
        (E.p.bin .rem 3 v56 v60).bind fun v61 =>
        (E.p.indexAddr 22 v54 v61).bind fun v62 =>
        (E.p.load 5 v62 v20.2).bind fun v63 =>
        (E.p.conv 5 3 v63).bind fun v64 =>
        (E.p.bin .mul 3 v64 (.int .i64 1117)).bind fun v65 =>
        (E.p.bin .add 3 v51 v65).bind fun v66 =>
        (E.p.bin .mul 3 v26 (.int .i64 29)).bind fun v67 =>
        (E.p.bin .add 3 v66 v67).bind fun v68 =>
        (E.p.ptr x0).bind fun v69 =>
        (E.p.fieldAddr 65 v69 0).bind fun v70 =>
        (E.p.load 22 v70 v20.2).bind fun v71 =>
        (E.p.len 22 v71).bind fun v72 =>
        (E.p.bin .quo 3 v26 v72).bind fun v73 =>
        (E.p.bin .mul 3 v73 (.int .i64 53)).bind fun v74 =>
        (E.p.bin .add 3 v68 v74).bind fun v75 =>
        (E.p.bin .quo 3 v75 (.int .i64 64)).bind fun v76 =>
        (E.p.bin .xor 3 v75 v76).bind fun v77 =>
        (E.p.bin .rem 3 v77 x1).bind fun v78 =>
        (resV v78).bind fun v79 =>
        some (v79, v20.2)))
theorem main_eq (E : Env) (x0 x1 : PV) (h : PHeap) : runBody (E.cx Tryd.prog kl) Tryd.f73 [x0, x1] h = main E x0 x1 h := by kernel_rfl
theorem call_eq (g : Nat → PV) (lf n : Nat) (x0 x1 : PV) (h : PHeap) : CL g lf (n + 1) fn_spec_l20Rd_pick [x0, x1] h = main (env g lf n) x0 x1 h := by
  rw [← main_eq]
  show (match Tryd.prog.funcs[73]? with | some fn => if fn.body.isSome then runBody ⟨Tryd.prog, g, call Tryd.prog g KL lf n, KL 73, lf, std Tryd.prog⟩ fn [x0, x1] h else none | none => none) = _
  rw [Tryd.func73]
  kernel_rfl
end spec_l20Rd_pick
namespace spec_l2Joins
noncomputable def main (E : Env) (x0 x1 x2 x3 x4 : PV) (h : PHeap) : Res :=
    (E.C fn_spec_l2Side [x0, x1, x4, (.bool false)] h).bind fun v1 =>
    (E.C fn_spec_l2Grow [x2, x3, v1.1] v1.2).bind fun v2 =>
    (E.C fn_spec_l2Side [x0, x1, x4, (.bool true)] v2.2).bind fun v3 =>
    (E.p.bin .and 3 v2.1 v3.1).bind fun v4 =>
    (E.p.bin .neq 3 v4 (.int .i64 0)).bind fun v5 =>
    (resV v5).bind fun v6 =>
    some (v6, v3.2)
theorem main_eq (E : Env) (x0 x1 x2 x3 x4 : PV) (h : PHeap) : runBody (E.cx Tryd.prog kl) Tryd.f74 [x0, x1, x2, x3, x4] h = main E x0 x1 x2 x3 x4 h := by kernel_rfl
theorem call_eq (g : Nat → PV) (lf n : Nat) (x0 x1 x2 x3 x4 : PV) (h : PHeap) : CL g lf (n + 1) fn_spec_l2Joins [x0, x1, x2, x3, x4] h = main (env g lf n) x0 x1 x2 x3 x4 h := by
  rw [← main_eq]
  show (match Tryd.prog.funcs[74]? with | some fn => if fn.body.isSome then runBody ⟨Tryd.prog, g, call Tryd.prog g KL lf n, KL 74, lf, std Tryd.prog⟩ fn [x0, x1, x2, x3, x4] h else none | none => none) = _
  rw [Tryd.func74]
  kernel_rfl
end spec_l2Joins
namespace spec_l2Masks
noncomputable def lp0 : Code := (codeAt (bodyOf Tryd.f75) [1, 1, 0, 1, 0, 0])
def st0 (x0 x1 x5 x6 : PV) (h : PHeap) : St := ⟨[x0, x1, .junk, .junk, .junk, x5, x6, .junk, .junk, .junk, .junk, .junk, .junk, .junk, .junk, .junk, .junk, .junk, .junk, .junk, .junk, .junk, .junk, .junk, .junk, .junk, .junk, .junk, .junk, .junk, .junk, .junk, .junk, .junk, .junk, .junk, .junk, .junk, .junk, .junk], h⟩
noncomputable def lp1 : Code := (codeAt (bodyOf Tryd.f75) [1, 1, 0, 1, 0, 0, 1, 0, 0, 1, 1, 0, 1, 0, 0])
def st1 (x0 x1 x5 x6 x7 x8 x9 : PV) (h : PHeap) : St := ⟨[x0, x1, .junk, .junk, .junk, x5, x6, x7, x8, x9, .junk, .junk, .junk, .junk, .junk, .junk, .junk, .junk, .junk, .junk, .junk, .junk, .junk, .junk, .junk, .junk, .junk, .junk, .junk, .junk, .junk, .junk, .junk, .junk, .junk, .junk, .junk, .junk, .junk, .junk], h⟩
def se0_0_1_5_6_15 (x0 x1 x5 x6 x15 : PV) (h : PHeap) : St := ⟨[x0, x1, .junk, .junk, .junk, x5, x6, .junk, .junk, .junk, .junk, .junk, .junk, .junk, .junk, x15, .junk, .junk, .junk, .junk, .junk, .junk, .junk, .junk, .junk, .junk, .junk, .junk, .junk, .junk, .junk, .junk, .junk, .junk, .junk, .junk, .junk, .junk, .junk, .junk], h⟩
def se2_0_1_5_6_7_8_9_25 (x0 x1 x5 x6 x7 x8 x9 x25 : PV) (h : PHeap) : St := ⟨[x0, x1, .junk, .junk, .junk, x5, x6, x7, x8, x9, .junk, .junk, .junk, .junk, .junk, .junk, .junk, .junk, .junk, .junk, .junk, .junk, .junk, .junk, .junk, x25, .junk, .junk, .junk, .junk, .junk, .junk, .junk, .junk, .junk, .junk, .junk, .junk, .junk, .junk], h⟩
noncomputable def K0 (E : Env) (K : PX → St → Res) : PX → St → Res := (kBlock 0 (kSeq (ev (E.cx Tryd.prog kl) (codeAt (bodyOf Tryd.f75) [1, 1, 1])) K))
@[simp] theorem K0_ret (E : Env) (K : PX → St → Res) (s : St) : K0 E K .ret s = K .ret s := by kernel_rfl
noncomputable def K1 (E : Env) (K : PX → St → Res) : PX → St → Res := (kBlock 2 (kSeq (ev (E.cx Tryd.prog kl) (codeAt (bodyOf Tryd.f75) [1, 1, 0, 1, 0, 0, 1, 0, 0, 1, 1, 1])) (kBlock 1 (kSeq (ev (E.cx Tryd.prog kl) (codeAt (bodyOf Tryd.f75) [1, 1, 0, 1, 0, 0, 1, 1])) K))))
@[simp] theorem K1_ret (E : Env) (K : PX → St → Res) (s : St) : K1 E K .ret s = K .ret s := by kernel_rfl
noncomputable def body0 (E : Env) (K : PX → St → Res) (x0 x1 x5 x6 : PV) (h : PHeap) : Res :=
    (E.p.bin .mul 3 x0 x1).bind fun v16 =>
    (E.p.bin .lss 3 x6 v16).bind fun v17 =>
    condP v17
     (
      (E.C fn_spec_l1Near [x0, x1, x6] h).bind fun v18 =>
      loopK (ev (E.cx Tryd.prog spec_l2Masks.kl) spec_l2Masks.lp1) E.lf (spec_l2Masks.st1 x0 x1 x5 x6 (.int .i64 0) v18.1 (.int .i64 0) v18.2) (spec_l2Masks.K1 E K))
     (
      K (.exit 0) (se0_0_1_5_6_15 x0 x1 x5 x6 v17 h))
theorem body0_eq (E : Env) (K : PX → St → Res) (x0 x1 x5 x6 : PV) (h : PHeap) : ev (E.cx Tryd.prog kl) lp0 (st0 x0 x1 x5 x6 h) K = body0 E K x0 x1 x5 x6 h := by kernel_rfl
noncomputable def body1 (E : Env) (K : PX → St → Res) (x0 x1 x5 x6 x7 x8 x9 : PV) (h : PHeap) : Res :=
    (E.p.len 23 x8).bind fun v19 =>
    (E.p.bin .lss 3 x9 v19).bind fun v20 =>
    condP v20
     (
      (E.p.indexAddr 23 x8 x9).bind fun v21 =>
      (E.p.load 3 v21 h).bind fun v22 =>
      (E.p.bin .shl 3 (.int .i64 1) v22).bind fun v23 =>
      (E.p.bin .or 3 x7 v23).bind fun v24 =>
      (E.p.bin .add 3 x9 (.int .i64 1)).bind fun v25 =>
      K .normal (st1 x0 x1 x5 x6 v24 x8 v25 h))
     (
      K (.exit 2) (se2_0_1_5_6_7_8_9_25 x0 x1 x5 x6 x7 x8 x9 v20 h))
theorem body1_eq (E : Env) (K : PX → St → Res) (x0 x1 x5 x6 x7 x8 x9 : PV) (h : PHeap) : ev (E.cx Tryd.prog kl) lp1 (st1 x0 x1 x5 x6 x7 x8 x9 h) K = body1 E K x0 x1 x5 x6 x7 x8 x9 h := by kernel_rfl
theorem after0_se0_0_1_5_6_15 (E : Env) (x0 x1 x5 x6 x15 : PV) (h : PHeap) : K0 E (kTop Tryd.prog Tryd.f75) (.exit 0) (se0_0_1_5_6_15 x0 x1 x5 x6 x15 h) =
    (resV x5).bind fun v12 =>
    some (v12, h) := by kernel_rfl
theorem after1_se2_0_1_5_6_7_8_9_25 (E : Env) (K : PX → St → Res) (x0 x1 x5 x6 x7 x8 x9 x25 : PV) (h : PHeap) : K1 E K (.exit 2) (se2_0_1_5_6_7_8_9_25 x0 x1 x5 x6 x7 x8 x9 x25 h) =
    (E.p.buildSlice 23 1 [(0, x7)] h).bind fun v13 =>
    (E.p.append 23 23 x5 v13.1 v13.2).bind fun v14 =>
    (E.p.bin .add 3 x6 (.int .i64 1)).bind fun v15 =>
    K .normal (st0 x0 x1 v14.1 v15 v14.2) := by kernel_rfl
noncomputable def main (E : Env) (x0 x1 : PV) (h : PHeap) : Res :=
    (E.p.buildSlice 23 0 [] h).bind fun v1 =>
    loopK (ev (E.cx Tryd.prog spec_l2Masks.kl) spec_l2Masks.lp0) E.lf (spec_l2Masks.st0 x0 x1 v1.1 (.int .i64 0) v1.2) (spec_l2Masks.K0 E (kTop Tryd.prog Tryd.f75))
theorem main_eq (E : Env) (x0 x1 : PV) (h : PHeap) : runBody (E.cx Tryd.prog kl) Tryd.f75 [x0, x1] h = main E x0 x1 h := by kernel_rfl
theorem call_eq (g : Nat → PV) (lf n : Nat) (x0 x1 : PV) (h : PHeap) : CL g lf (n + 1) fn_spec_l2Masks [x0, x1] h = main (env g lf n) x0 x1 h := by
  rw [← main_eq]
  show (match Tryd.prog.funcs[75]? with | some fn => if fn.body.isSome then runBody ⟨Tryd.prog, g, call Tryd.prog g KL lf n, KL 75, lf, std Tryd.prog⟩ fn [x0, x1] h else none | none => none) = _
  rw [Tryd.func75]
  kernel_rfl
end spec_l2Masks
namespace impl_sizeOk
noncomputable def main (E : Env) (x0 : PV) (h : PHeap) : Res :=
    (E.p.bin .geq 3 x0 (.int .i64 1)).bind fun v1 =>
    (wantV v1 true).bind fun v2 =>
    (bif v2 then some (x0, h) else some (.tup [], h)).bind fun v3 =>
    (wantV v1 true).bind fun v4 =>
    (bif v4 then pv v3.2 (E.p.bin .leq 3 v3.1 (.int .i64 4)) else some (.tup [], v3.2)).bind fun v5 =>
    (E.p.pick v1 v5.1 (.bool false)).bind fun v6 =>
    (resV v6).bind fun v7 =>
    some (v7, v5.2)
theorem main_eq (E : Env) (x0 : PV) (h : PHeap) : runBody (E.cx Tryd.prog kl) Tryd.f76 [x0] h = main E x0 h := by kernel_rfl
theorem call_eq (g : Nat → PV) (lf n : Nat) (x0 : PV) (h : PHeap) : CL g lf (n + 1) fn_impl_sizeOk [x0] h = main (env g lf n) x0 h := by
  rw [← main_eq]
  show (match Tryd.prog.funcs[76]? with | some fn => if fn.body.isSome then runBody ⟨Tryd.prog, g, call Tryd.prog g KL lf n, KL 76, lf, std Tryd.prog⟩ fn [x0] h else none | none => none) = _
  rw [Tryd.func76]
  kernel_rfl
end impl_sizeOk
namespace impl_withNear
noncomputable def lp0 : Code := (codeAt (bodyOf Tryd.f77) [1, 1, 0, 1, 0, 0])
def st0 (x0 x1 x2 x7 x14 x15 : PV) (h : PHeap) : St := ⟨[x0, x1, x2, .junk, .junk, .junk, .junk, x7, .junk, .junk, .junk, .junk, .junk, .junk, x14, x15, .junk, .junk, .junk, .junk, .junk, .junk, .junk, .junk, .junk, .junk, .junk, .junk, .junk, .junk, .junk, .junk, .junk, .junk, .junk, .junk, .junk, .junk, .junk], h⟩
noncomputable def lp1 : Code := (codeAt (bodyOf Tryd.f77) [1, 1, 0, 1, 0, 0, 1, 1, 0, 0, 1, 1, 1, 0, 0])
def st1 (x0 x1 x2 x7 x14 x15 x26 x27 x28 : PV) (h : PHeap) : St := ⟨[x0, x1, x2, .junk, .junk, .junk, .junk, x7, .junk, .junk, .junk, .junk, .junk, .junk, x14, x15, .junk, .junk, .junk, .junk, .junk, .junk, .junk, .junk, .junk, .junk, x26, x27, x28, .junk, .junk, .junk, .junk, .junk, .junk, .junk, .junk, .junk, .junk], h⟩
def se0_0_1_2_7_14_15_16 (x0 x1 x2 x7 x14 x15 x16 : PV) (h : PHeap) : St := ⟨[x0, x1, x2, .junk, .junk, .junk, .junk, x7, .junk, .junk, .junk, .junk, .junk, .junk, x14, x15, x16, .junk, .junk, .junk, .junk, .junk, .junk, .junk, .junk, .junk, .junk, .junk, .junk, .junk, .junk, .junk, .junk, .junk, .junk, .junk, .junk, .junk, .junk], h⟩
def se2_0_1_2_7_14_15_26_27_28_29 (x0 x1 x2 x7 x14 x15 x26 x27 x28 x29 : PV) (h : PHeap) : St := ⟨[x0, x1, x2, .junk, .junk, .junk, .junk, x7, .junk, .junk, .junk, .junk, .junk, .junk, x14, x15, .junk, .junk, .junk, .junk, .junk, .junk, .junk, .junk, .junk, .junk, x26, x27, x28, x29, .junk, .junk, .junk, .junk, .junk, .junk, .junk, .junk, .junk], h⟩
noncomputable def K0 (E : Env) (K : PX → St → Res) : PX → St → Res := (kBlock 0 (kSeq (ev (E.cx Tryd.prog kl) (codeAt (bodyOf Tryd.f77) [1, 1, 1])) K))
@[simp] theorem K0_ret (E : Env) (K : PX → St → Res) (s : St) : K0 E K .ret s = K .ret s := by kernel_rfl
noncomputable def K1 (E : Env) (K : PX → St → Res) : PX → St → Res := (kBlock 2 (kBlock 1 (kSeq (ev (E.cx Tryd.prog kl) (codeAt (bodyOf Tryd.f77) [1, 1, 0, 1, 0, 0, 1, 1, 1])) K)))
@[simp] theorem K1_ret (E : Env) (K : PX → St → Res) (s : St) : K1 E K .ret s = K .ret s := by kernel_rfl
noncomputable def body0 (E : Env) (K : PX → St → Res) (x0 x1 x2 x7 x14 x15 : PV) (h : PHeap) : Res :=
    (E.p.bin .lss 3 x15 x14).bind fun v17 =>
    condP v17
     (
      (E.p.bin .shr 3 x2 x15).bind fun v18 =>
      (E.p.bin .and 3 v18 (.int .i64 1)).bind fun v19 =>
      (E.p.bin .eql 3 v19 (.int .i64 0)).bind fun v20 =>
      condP v20
       (
        (E.p.bin .add 3 x15 (.int .i64 1)).bind fun v21 =>
        K .normal (st0 x0 x1 x2 x7 x14 v21 h))
       (
        (E.C fn_impl_NearCells [x0, x1, x15] h).bind fun v22 =>
        (E.p.len 23 v22.1).bind fun v23 =>
        loopK (ev (E.cx Tryd.prog impl_withNear.kl) impl_withNear.lp1) E.lf (impl_withNear.st1 x0 x1 x2 x7 x14 x15 v22.1 v23 (.int .i64 0) v22.2) (impl_withNear.K1 E K)))
     (
      K (.exit 0) (se0_0_1_2_7_14_15_16 x0 x1 x2 x7 x14 x15 v17 h))
theorem body0_eq (E : Env) (K : PX → St → Res) (x0 x1 x2 x7 x14 x15 : PV) (h : PHeap) : ev (E.cx Tryd.prog kl) lp0 (st0 x0 x1 x2 x7 x14 x15 h) K = body0 E K x0 x1 x2 x7 x14 x15 h := by kernel_rfl
noncomputable def body1 (E : Env) (K : PX → St → Res) (x0 x1 x2 x7 x14 x15 x26 x27 x28 : PV) (h : PHeap) : Res :=
    (E.p.bin .lss 3 x28 x27).bind fun v24 =>
    condP v24
     (
      (E.p.indexAddr 23 x26 x28).bind fun v25 =>
      (E.p.load 3 v25 h).bind fun v26 =>
      (E.p.bin .shl 3 (.int .i64 1) v26).bind fun v27 =>
      (E.p.bin .or 3 x7 v27).bind fun v28 =>
      (E.p.bin .add 3 x28 (.int .i64 1)).bind fun v29 =>
      K .normal (st1 x0 x1 x2 v28 x14 x15 x26 x27 v29 h))
     (
      K (.exit 2) (se2_0_1_2_7_14_15_26_27_28_29 x0 x1 x2 x7 x14 x15 x26 x27 x28 v24 h))
theorem body1_eq (E : Env) (K : PX → St → Res) (x0 x1 x2 x7 x14 x15 x26 x27 x28 : PV) (h : PHeap) : ev (E.cx Tryd.prog kl) lp1 (st1 x0 x1 x2 x7 x14 x15 x26 x27 x28 h) K = body1 E K x0 x1 x2 x7 x14 x15 x26 x27 x28 h := by kernel_rfl
theorem after0_se0_0_1_2_7_14_15_16 (E : Env) (x0 x1 x2 x7 x14 x15 x16 : PV) (h : PHeap) : K0 E (kTop Tryd.prog Tryd.f77) (.exit 0) (se0_0_1_2_7_14_15_16 x0 x1 x2 x7 x14 x15 x16 h) =
    (resV x7).bind fun v15 =>
    some (v15, h) := by kernel_rfl
theorem after1_se2_0_1_2_7_14_15_26_27_28_29 (E : Env) (K : PX → St → Res) (x0 x1 x2 x7 x14 x15 x26 x27 x28 x29 : PV) (h : PHeap) : K1 E K (.exit 2) (se2_0_1_2_7_14_15_26_27_28_29 x0 x1 x2 x7 x14 x15 x26 x27 x28 x29 h) =
    (E.p.bin .add 3 x15 (.int .i64 1)).bind fun v16 =>
    K .normal (st0 x0 x1 x2 x7 x14 v16 h) := by kernel_rfl
noncomputable def main (E : Env) (x0 x1 x2 : PV) (h : PHeap) : Res :=
    (E.p.bin .mul 3 x0 x1).bind fun v1 =>
    loopK (ev (E.cx Tryd.prog impl_withNear.kl) impl_withNear.lp0) E.lf (impl_withNear.st0 x0 x1 x2 x2 v1 (.int .i64 0) h) (impl_withNear.K0 E (kTop Tryd.prog Tryd.f77))
theorem main_eq (E : Env) (x0 x1 x2 : PV) (h : PHeap) : runBody (E.cx Tryd.prog kl) Tryd.f77 [x0, x1, x2] h = main E x0 x1 x2 h := by kernel_rfl
theorem call_eq (g : Nat → PV) (lf n : Nat) (x0 x1 x2 : PV) (h : PHeap) : CL g lf (n + 1) fn_impl_withNear [x0, x1, x2] h = main (env g lf n) x0 x1 x2 h := by
  rw [← main_eq]
  show (match Tryd.prog.funcs[77]? with | some fn => if fn.body.isSome then runBody ⟨Tryd.prog, g, call Tryd.prog g KL lf n, KL 77, lf, std Tryd.prog⟩ fn [x0, x1, x2] h else none | none => none) = _
  rw [Tryd.func77]
  kernel_rfl
end impl_withNear
namespace impl_search_solved
noncomputable def lp0 : Code := (codeAt (bodyOf Tryd.f78) [1, 1, 0, 1, 0, 0])
def st0 (x0 x3 x6 : PV) (h : PHeap) : St := ⟨[x0, .junk, .junk, x3, .junk, .junk, x6, .junk, .junk, .junk, .junk, .junk, .junk, .junk, .junk, .junk, .junk, .junk, .junk, .junk, .junk, .junk, .junk, .junk, .junk, .junk, .junk, .junk, .junk, .junk, .junk, .junk, .junk, .junk, .junk, .junk], h⟩
def sr_4 (x4 : PV) (h : PHeap) : St := ⟨[.junk, .junk, .junk, .junk, x4, .junk, .junk, .junk, .junk, .junk, .junk, .junk, .junk, .junk, .junk, .junk, .junk, .junk, .junk, .junk, .junk, .junk, .junk, .junk, .junk, .junk, .junk, .junk, .junk, .junk, .junk, .junk, .junk, .junk, .junk, .junk], h⟩
def se0_0_3_6_17 (x0 x3 x6 x17 : PV) (h : PHeap) : St := ⟨[x0, .junk, .junk, x3, .junk, .junk, x6, .junk, .junk, .junk, .junk, .junk, .junk, .junk, .junk, .junk, .junk, x17, .junk, .junk, .junk, .junk, .junk, .junk, .junk, .junk, .junk, .junk, .junk, .junk, .junk, .junk, .junk, .junk, .junk, .junk], h⟩
noncomputable def K0 (E : Env) (K : PX → St → Res) : PX → St → Res := (kBlock 0 (kSeq (ev (E.cx Tryd.prog kl) (codeAt (bodyOf Tryd.f78) [1, 1, 1])) K))
@[simp] theorem K0_ret (E : Env) (K : PX → St → Res) (s : St) : K0 E K .ret s = K .ret s := by kernel_rfl
noncomputable def body0 (E : Env) (K : PX → St → Res) (x0 x3 x6 : PV) (h : PHeap) : Res :=
    (E.p.bin .neq 3 x6 (.int .i64 0)).bind fun v31 =>
    condP v31
     (
      (E.p.load 58 x3 h).bind fun v32 =>
      (E.p.fieldAddr 58 x3 1).bind fun v33 =>
      (E.p.load 3 v33 h).bind fun v34 =>
      (E.C fn_impl_leastIn [x6] h).bind fun v35 =>
      (E.p.load 3 v33 v35.2).bind fun v36 =>
      ckP (plainEq v34 v36) (
      (E.p.load 58 x3 v35.2).bind fun v37 =>
      ckP (plainEq v32 v37) (
      (E.C fn_impl_standing_after [v32, v35.1] v35.2).bind fun v38 =>
      (E.p.load 3 v33 v38.2).bind fun v39 =>
      ckP (plainEq v34 v39) (
      (E.p.load 58 x3 v38.2).bind fun v40 =>
      ckP (plainEq v32 v40) (
      (E.C fn_impl_search_winner [x0, v38.1] v38.2).bind fun v41 =>
      (E.p.load 3 v33 v41.2).bind fun v42 =>
      ckP (plainEq v34 v42) (
      (E.p.load 58 x3 v41.2).bind fun v43 =>
      ckP (plainEq v32 v43) (
      (E.p.bin .eql 3 v41.1 v34).bind fun v44 =>
      condP v44
       (
        (E.p.fieldAddr 58 x3 1).bind fun v45 =>
        (E.p.load 3 v45 v41.2).bind fun v46 =>
        K .ret (sr_4 v46 v41.2))
       (
        (E.p.bin .sub 3 x6 (.int .i64 1)).bind fun v47 =>
        (E.p.bin .and 3 x6 v47).bind fun v48 =>
        K .normal (st0 x0 x3 v48 v41.2)))))))))
     (
      K (.exit 0) (se0_0_3_6_17 x0 x3 x6 v31 h))
theorem body0_eq (E : Env) (K : PX → St → Res) (x0 x3 x6 : PV) (h : PHeap) : ev (E.cx Tryd.prog kl) lp0 (st0 x0 x3 x6 h) K = body0 E K x0 x3 x6 h := by kernel_rfl
theorem after0_se0_0_3_6_17 (E : Env) (x0 x3 x6 x17 : PV) (h : PHeap) : K0 E (kTop Tryd.prog Tryd.f78) (.exit 0) (se0_0_3_6_17 x0 x3 x6 x17 h) =
    (E.p.fieldAddr 58 x3 1).bind fun v27 =>
    (E.p.load 3 v27 h).bind fun v28 =>
    (E.C fn_impl_exchanged [v28] h).bind fun v29 =>
    (resV v29.1).bind fun v30 =>
    some (v30, v29.2) := by kernel_rfl
theorem top_sr_4 (x4 : PV) (h : PHeap) : kTop Tryd.prog Tryd.f78 .ret (sr_4 x4 h) =
    (resV x4).bind fun v49 =>
    some (v49, h) := by kernel_rfl
noncomputable def main (E : Env) (x0 x1 : PV) (h : PHeap) : Res :=
    (E.p.box x1 h).bind fun v1 =>
    (E.p.load 58 v1.1 v1.2).bind fun v2 =>
    (E.C fn_impl_search_joined [x0, v2] v1.2).bind fun v3 =>
    (E.p.bin .neq 3 v3.1 (.int .i64 0)).bind fun v4 =>
    condP v4
     (
      (resV v3.1).bind fun v5 =>
      some (v5, v3.2))
     (
      (E.p.fieldAddr 58 v1.1 0).bind fun v6 =>
      (E.p.indexAddr 56 v6 (.int .i64 0)).bind fun v7 =>
      (E.p.load 3 v7 v3.2).bind fun v8 =>
      loopK (ev (E.cx Tryd.prog impl_search_solved.kl) impl_search_solved.lp0) E.lf (impl_search_solved.st0 x0 v1.1 v8 v3.2) (impl_search_solved.K0 E (kTop Tryd.prog Tryd.f78)))
theorem main_eq (E : Env) (x0 x1 : PV) (h : PHeap) : runBody (E.cx Tryd.prog kl) Tryd.f78 [x0, x1] h = main E x0 x1 h := by kernel_rfl
theorem call_eq (g : Nat → PV) (lf n : Nat) (x0 x1 : PV) (h : PHeap) : CL g lf (n + 1) fn_impl_search_solved [x0, x1] h = main (env g lf n) x0 x1 h := by
  rw [← main_eq]
  show (match Tryd.prog.funcs[78]? with | some fn => if fn.body.isSome then runBody ⟨Tryd.prog, g, call Tryd.prog g KL lf n, KL 78, lf, std Tryd.prog⟩ fn [x0, x1] h else none | none => none) = _
  rw [Tryd.func78]
  kernel_rfl
end impl_search_solved
namespace spec_l3Solve
noncomputable def lp0 : Code := (codeAt (bodyOf Tryd.f79) [1, 1, 1, 1, 0, 1, 0, 0])
def st0 (x0 x1 x2 x3 x4 x5 x6 x15 x16 : PV) (h : PHeap) : St := ⟨[x0, x1, x2, x3, x4, x5, x6, .junk, .junk, .junk, .junk, .junk, .junk, .junk, .junk, x15, x16, .junk, .junk, .junk, .junk, .junk, .junk, .junk, .junk, .junk, .junk, .junk, .junk, .junk, .junk, .junk, .junk, .junk, .junk, .junk, .junk, .junk, .junk, .junk, .junk, .junk, .junk, .junk, .junk, .junk, .junk, .junk, .junk, .junk, .junk, .junk, .junk, .junk, .junk, .junk, .junk, .junk, .junk, .junk, .junk, .junk, .junk, .junk, .junk, .junk, .junk, .junk, .junk, .junk, .junk, .junk, .junk, .junk, .junk, .junk, .junk, .junk, .junk, .junk, .junk, .junk, .junk, .junk, .junk, .junk, .junk, .junk, .junk, .junk, .junk, .junk, .junk, .junk, .junk, .junk, .junk, .junk, .junk, .junk, .junk, .junk, .junk, .junk, .junk, .junk, .junk, .junk, .junk, .junk, .junk, .junk, .junk, .junk], h⟩
noncomputable def lp1 : Code := (codeAt (bodyOf Tryd.f79) [1, 1, 1, 1, 1, 1, 1, 1, 0, 1, 0, 0])
def st1 (x0 x1 x2 x3 x4 x5 x6 x15 x17 x18 : PV) (h : PHeap) : St := ⟨[x0, x1, x2, x3, x4, x5, x6, .junk, .junk, .junk, .junk, .junk, .junk, .junk, .junk, x15, .junk, x17, x18, .junk, .junk, .junk, .junk, .junk, .junk, .junk, .junk, .junk, .junk, .junk, .junk, .junk, .junk, .junk, .junk, .junk, .junk, .junk, .junk, .junk, .junk, .junk, .junk, .junk, .junk, .junk, .junk, .junk, .junk, .junk, .junk, .junk, .junk, .junk, .junk, .junk, .junk, .junk, .junk, .junk, .junk, .junk, .junk, .junk, .junk, .junk, .junk, .junk, .junk, .junk, .junk, .junk, .junk, .junk, .junk, .junk, .junk, .junk, .junk, .junk, .junk, .junk, .junk, .junk, .junk, .junk, .junk, .junk, .junk, .junk, .junk, .junk, .junk, .junk, .junk, .junk, .junk, .junk, .junk, .junk, .junk, .junk, .junk, .junk, .junk, .junk, .junk, .junk, .junk, .junk, .junk, .junk, .junk, .junk], h⟩
def se0_0_1_2_3_4_5_6_15_16_33 (x0 x1 x2 x3 x4 x5 x6 x15 x16 x33 : PV) (h : PHeap) : St := ⟨[x0, x1, x2, x3, x4, x5, x6, .junk, .junk, .junk, .junk, .junk, .junk, .junk, .junk, x15, x16, .junk, .junk, .junk, .junk, .junk, .junk, .junk, .junk, .junk, .junk, .junk, .junk, .junk, .junk, .junk, .junk, x33, .junk, .junk, .junk, .junk, .junk, .junk, .junk, .junk, .junk, .junk, .junk, .junk, .junk, .junk, .junk, .junk, .junk, .junk, .junk, .junk, .junk, .junk, .junk, .junk, .junk, .junk, .junk, .junk, .junk, .junk, .junk, .junk, .junk, .junk, .junk, .junk, .junk, .junk, .junk, .junk, .junk, .junk, .junk, .junk, .junk, .junk, .junk, .junk, .junk, .junk, .junk, .junk, .junk, .junk, .junk, .junk, .junk, .junk, .junk, .junk, .junk, .junk, .junk, .junk, .junk, .junk, .junk, .junk, .junk, .junk, .junk, .junk, .junk, .junk, .junk, .junk, .junk, .junk, .junk, .junk], h⟩
def se2_0_1_2_3_4_5_6_15_17_18_73 (x0 x1 x2 x3 x4 x5 x6 x15 x17 x18 x73 : PV) (h : PHeap) : St := ⟨[x0, x1, x2, x3, x4, x5, x6, .junk, .junk, .junk, .junk, .junk, .junk, .junk, .junk, x15, .junk, x17, x18, .junk, .junk, .junk, .junk, .junk, .junk, .junk, .junk, .junk, .junk, .junk, .junk, .junk, .junk, .junk, .junk, .junk, .junk, .junk, .junk, .junk, .junk, .junk, .junk, .junk, .junk, .junk, .junk, .junk, .junk, .junk, .junk, .junk, .junk, .junk, .junk, .junk, .junk, .junk, .junk, .junk, .junk, .junk, .junk, .junk, .junk, .junk, .junk, .junk, .junk, .junk, .junk, .junk, .junk, x73, .junk, .junk, .junk, .junk, .junk, .junk, .junk, .junk, .junk, .junk, .junk, .junk, .junk, .junk, .junk, .junk, .junk, .junk, .junk, .junk, .junk, .junk, .junk, .junk, .junk, .junk, .junk, .junk, .junk, .junk, .junk, .junk, .junk, .junk, .junk, .junk, .junk, .junk, .junk, .junk], h⟩
noncomputable def K0 (E : Env) (K : PX → St → Res) : PX → St → Res := (kBlock 0 (kSeq (ev (E.cx Tryd.prog kl) (codeAt (bodyOf Tryd.f79) [1, 1, 1, 1, 1])) K))
@[simp] theorem K0_ret (E : Env) (K : PX → St → Res) (s : St) : K0 E K .ret s = K .ret s := by kernel_rfl
noncomputable def K1 (E : Env) (K : PX → St → Res) : PX → St → Res := (kBlock 2 (kSeq (ev (E.cx Tryd.prog kl) (codeAt (bodyOf Tryd.f79) [1, 1, 1, 1, 1, 1, 1, 1, 1])) K))
@[simp] theorem K1_ret (E : Env) (K : PX → St → Res) (s : St) : K1 E K .ret s = K .ret s := by kernel_rfl
noncomputable def body0 (E : Env) (K : PX → St → Res) (x0 x1 x2 x3 x4 x5 x6 x15 x16 : PV) (h : PHeap) : Res :=
    (E.p.len 23 x2).bind fun v56 =>
    (E.p.bin .lss 3 x16 v56).bind fun v57 =>
    condP v57
     (
      (E.p.bin .mul 3 (.int .i64 3) x15).bind fun v58 =>
      (E.p.bin .shr 3 x3 x16).bind fun v59 =>
      (E.p.bin .rem 3 v59 (.int .i64 2)).bind fun v60 =>
      (E.p.bin .add 3 v58 v60).bind fun v61 =>
      (E.p.bin .shr 3 x4 x16).bind fun v62 =>
      (E.p.bin .rem 3 v62 (.int .i64 2)).bind fun v63 =>
      (E.p.bin .mul 3 (.int .i64 2) v63).bind fun v64 =>
      (E.p.bin .add 3 v61 v64).bind fun v65 =>
      (E.p.bin .add 3 x16 (.int .i64 1)).bind fun v66 =>
      K .normal (st0 x0 x1 x2 x3 x4 x5 x6 v65 v66 h))
     (
      K (.exit 0) (se0_0_1_2_3_4_5_6_15_16_33 x0 x1 x2 x3 x4 x5 x6 x15 x16 v57 h))
theorem body0_eq (E : Env) (K : PX → St → Res) (x0 x1 x2 x3 x4 x5 x6 x15 x16 : PV) (h : PHeap) : ev (E.cx Tryd.prog kl) lp0 (st0 x0 x1 x2 x3 x4 x5 x6 x15 x16 h) K = body0 E K x0 x1 x2 x3 x4 x5 x6 x15 x16 h := by kernel_rfl
noncomputable def body1 (E : Env) (K : PX → St → Res) (x0 x1 x2 x3 x4 x5 x6 x15 x17 x18 : PV) (h : PHeap) : Res :=
    (E.p.len 23 x2).bind fun v67 =>
    (E.p.bin .lss 3 x18 v67).bind fun v68 =>
    (wantV v68 true).bind fun v69 =>
    (bif v69 then some (x17, h) else some (.tup [], h)).bind fun v70 =>
    (wantV v68 true).bind fun v71 =>
    (bif v71 then some (x5, v70.2) else some (.tup [], v70.2)).bind fun v72 =>
    (wantV v68 true).bind fun v73 =>
    (bif v73 then pv v72.2 (E.p.bin .neq 3 v70.1 v72.1) else some (.tup [], v72.2)).bind fun v74 =>
    (E.p.pick v68 v74.1 (.bool false)).bind fun v75 =>
    condP v75
     (
      (E.p.bin .or 3 x3 x4).bind fun v76 =>
      (E.p.bin .shr 3 v76 x18).bind fun v77 =>
      (E.p.bin .rem 3 v77 (.int .i64 2)).bind fun v78 =>
      (E.p.bin .eql 3 v78 (.int .i64 1)).bind fun v79 =>
      condP v79
       (
        (E.p.bin .add 3 x18 (.int .i64 1)).bind fun v80 =>
        K .normal (st1 x0 x1 x2 x3 x4 x5 x6 x15 x17 v80 v74.2))
       (
        (E.p.bin .eql 3 x5 (.int .i64 1)).bind fun v81 =>
        condP v81
         (
          (E.p.bin .shl 3 (.int .i64 1) x18).bind fun v82 =>
          (E.p.bin .or 3 x3 v82).bind fun v83 =>
          (E.C fn_spec_l3Solve [x0, x1, x2, v83, x4, (.int .i64 2), x6] v74.2).bind fun v84 =>
          (E.p.bin .eql 3 v84.1 x5).bind fun v85 =>
          condP v85
           (
            (E.p.bin .add 3 x18 (.int .i64 1)).bind fun v86 =>
            K .normal (st1 x0 x1 x2 x3 x4 x5 x6 x15 x5 v86 v84.2))
           (
            (E.p.bin .add 3 x18 (.int .i64 1)).bind fun v87 =>
            K .normal (st1 x0 x1 x2 x3 x4 x5 x6 x15 x17 v87 v84.2)))
         (
          (E.p.bin .shl 3 (.int .i64 1) x18).bind fun v88 =>
          (E.p.bin .or 3 x4 v88).bind fun v89 =>
          (E.C fn_spec_l3Solve [x0, x1, x2, x3, v89, (.int .i64 1), x6] v74.2).bind fun v90 =>
          (E.p.bin .eql 3 v90.1 x5).bind fun v91 =>
          condP v91
           (
            (E.p.bin .add 3 x18 (.int .i64 1)).bind fun v92 =>
            K .normal (st1 x0 x1 x2 x3 x4 x5 x6 x15 x5 v92 v90.2))
           (
            (E.p.bin .add 3 x18 (.int .i64 1)).bind fun v93 =>
            K .normal (st1 x0 x1 x2 x3 x4 x5 x6 x15 x17 v93 v90.2)))))
     (
      K (.exit 2) (se2_0_1_2_3_4_5_6_15_17_18_73 x0 x1 x2 x3 x4 x5 x6 x15 x17 x18 v75 v74.2))
theorem body1_eq (E : Env) (K : PX → St → Res) (x0 x1 x2 x3 x4 x5 x6 x15 x17 x18 : PV) (h : PHeap) : ev (E.cx Tryd.prog kl) lp1 (st1 x0 x1 x2 x3 x4 x5 x6 x15 x17 x18 h) K = body1 E K x0 x1 x2 x3 x4 x5 x6 x15 x17 x18 h := by kernel_rfl
theorem after0_se0_0_1_2_3_4_5_6_15_16_33 (E : Env) (x0 x1 x2 x3 x4 x5 x6 x15 x16 x33 : PV) (h : PHeap) : K0 E (kTop Tryd.prog Tryd.f79) (.exit 0) (se0_0_1_2_3_4_5_6_15_16_33 x0 x1 x2 x3 x4 x5 x6 x15 x16 x33 h) =
    (E.p.bin .mul 3 (.int .i64 2) x15).bind fun v16 =>
    (E.p.bin .add 3 v16 x5).bind fun v17 =>
    (E.p.bin .sub 3 v17 (.int .i64 1)).bind fun v18 =>
    (E.p.indexAddr 23 x6 v18).bind fun v19 =>
    (E.p.load 3 v19 h).bind fun v20 =>
    (E.p.bin .gtr 3 v20 (.int .i64 0)).bind fun v21 =>
    condP v21
     (
      (E.p.indexAddr 23 x6 v18).bind fun v22 =>
      (E.p.load 3 v22 h).bind fun v23 =>
      (resV v23).bind fun v24 =>
      some (v24, h))
     (
      (E.C fn_spec_l1Other [x5] h).bind fun v25 =>
      loopK (ev (E.cx Tryd.prog spec_l3Solve.kl) spec_l3Solve.lp1) E.lf (spec_l3Solve.st1 x0 x1 x2 x3 x4 x5 x6 v18 v25.1 (.int .i64 0) v25.2) (spec_l3Solve.K1 E (kTop Tryd.prog Tryd.f79))) := by kernel_rfl
theorem after1_se2_0_1_2_3_4_5_6_15_17_18_73 (E : Env) (x0 x1 x2 x3 x4 x5 x6 x15 x17 x18 x73 : PV) (h : PHeap) : K1 E (kTop Tryd.prog Tryd.f79) (.exit 2) (se2_0_1_2_3_4_5_6_15_17_18_73 x0 x1 x2 x3 x4 x5 x6 x15 x17 x18 x73 h) =
    (E.p.indexAddr 23 x6 x15).bind fun v53 =>
    (E.p.store 3 v53 x17 h).bind fun v54 =>
    (resV x17).bind fun v55 =>
    some (v55, v54) := by kernel_rfl
noncomputable def main (E : Env) (x0 x1 x2 x3 x4 x5 x6 : PV) (h : PHeap) : Res :=
    (E.C fn_spec_l2Joins [x0, x1, x2, x3, (.int .i64 1)] h).bind fun v1 =>
    condP v1.1
     (
      (resV (.int .i64 1)).bind fun v2 =>
      some (v2, v1.2))
     (
      (E.C fn_spec_l2Joins [x0, x1, x2, x4, (.int .i64 2)] v1.2).bind fun v3 =>
      condP v3.1
       (
        (resV (.int .i64 2)).bind fun v4 =>
        some (v4, v3.2))
       (
        loopK (ev (E.cx Tryd.prog spec_l3Solve.kl) spec_l3Solve.lp0) E.lf (spec_l3Solve.st0 x0 x1 x2 x3 x4 x5 x6 (.int .i64 0) (.int .i64 0) v3.2) (spec_l3Solve.K0 E (kTop Tryd.prog Tryd.f79))))
theorem main_eq (E : Env) (x0 x1 x2 x3 x4 x5 x6 : PV) (h : PHeap) : runBody (E.cx Tryd.prog kl) Tryd.f79 [x0, x1, x2, x3, x4, x5, x6] h = main E x0 x1 x2 x3 x4 x5 x6 h := by kernel_rfl
theorem call_eq (g : Nat → PV) (lf n : Nat) (x0 x1 x2 x3 x4 x5 x6 : PV) (h : PHeap) : CL g lf (n + 1) fn_spec_l3Solve [x0, x1, x2, x3, x4, x5, x6] h = main (env g lf n) x0 x1 x2 x3 x4 x5 x6 h := by
  rw [← main_eq]
  show (match Tryd.prog.funcs[79]? with | some fn => if fn.body.isSome then runBody ⟨Tryd.prog, g, call Tryd.prog g KL lf n, KL 79, lf, std Tryd.prog⟩ fn [x0, x1, x2, x3, x4, x5, x6] h else none | none => none) = _
  rw [Tryd.func79]
  kernel_rfl
end spec_l3Solve
namespace spec_l3Table
noncomputable def lp0 : Code := (codeAt (bodyOf Tryd.f80) [1, 1, 0, 1, 0, 0])
def st0 (x0 x3 x4 : PV) (h : PHeap) : St := ⟨[x0, .junk, .junk, x3, x4, .junk, .junk, .junk, .junk, .junk, .junk, .junk, .junk, .junk], h⟩
def se0_0_3_4_7 (x0 x3 x4 x7 : PV) (h : PHeap) : St := ⟨[x0, .junk, .junk, x3, x4, .junk, .junk, x7, .junk, .junk, .junk, .junk, .junk, .junk], h⟩
noncomputable def K0 (E : Env) (K : PX → St → Res) : PX → St → Res := (kBlock 0 (kSeq (ev (E.cx Tryd.prog kl) (codeAt (bodyOf Tryd.f80) [1, 1, 1])) K))
@[simp] theorem K0_ret (E : Env) (K : PX → St → Res) (s : St) : K0 E K .ret s = K .ret s := by kernel_rfl
noncomputable def body0 (E : Env) (K : PX → St → Res) (x0 x3 x4 : PV) (h : PHeap) : Res :=
    (E.p.bin .lss 3 x4 x0).bind fun v6 =>
    condP v6
     (
      (E.p.bin .mul 3 x3 (.int .i64 3)).bind fun v7 =>
      (E.p.bin .add 3 x4 (.int .i64 1)).bind fun v8 =>
      K .normal (st0 x0 v7 v8 h))
     (
      K (.exit 0) (se0_0_3_4_7 x0 x3 x4 v6 h))
theorem body0_eq (E : Env) (K : PX → St → Res) (x0 x3 x4 : PV) (h : PHeap) : ev (E.cx Tryd.prog kl) lp0 (st0 x0 x3 x4 h) K = body0 E K x0 x3 x4 h := by kernel_rfl
theorem after0_se0_0_3_4_7 (E : Env) (x0 x3 x4 x7 : PV) (h : PHeap) : K0 E (kTop Tryd.prog Tryd.f80) (.exit 0) (se0_0_3_4_7 x0 x3 x4 x7 h) =
    (E.p.make 23 x3 x3 h).bind fun v4 =>
    (resV v4.1).bind fun v5 =>
    some (v5, v4.2) := by kernel_rfl
noncomputable def main (E : Env) (x0 : PV) (h : PHeap) : Res :=
    loopK (ev (E.cx Tryd.prog spec_l3Table.kl) spec_l3Table.lp0) E.lf (spec_l3Table.st0 x0 (.int .i64 2) (.int .i64 0) h) (spec_l3Table.K0 E (kTop Tryd.prog Tryd.f80))
theorem main_eq (E : Env) (x0 : PV) (h : PHeap) : runBody (E.cx Tryd.prog kl) Tryd.f80 [x0] h = main E x0 h := by kernel_rfl
theorem call_eq (g : Nat → PV) (lf n : Nat) (x0 : PV) (h : PHeap) : CL g lf (n + 1) fn_spec_l3Table [x0] h = main (env g lf n) x0 h := by
  rw [← main_eq]
  show (match Tryd.prog.funcs[80]? with | some fn => if fn.body.isSome then runBody ⟨Tryd.prog, g, call Tryd.prog g KL lf n, KL 80, lf, std Tryd.prog⟩ fn [x0] h else none | none => none) = _
  rw [Tryd.func80]
  kernel_rfl
end spec_l3Table
namespace impl_search_joins
noncomputable def lp0 : Code := (codeAt (bodyOf Tryd.f81) [1, 1, 0, 1, 0, 0])
def st0 (x0 x1 x2 x7 x8 : PV) (h : PHeap) : St := ⟨[x0, x1, x2, .junk, .junk, .junk, .junk, x7, x8, .junk, .junk, .junk, .junk, .junk, .junk, .junk, .junk, .junk, .junk, .junk, .junk, .junk, .junk, .junk, .junk, .junk, .junk, .junk, .junk, .junk, .junk, .junk, .junk, .junk, .junk, .junk, .junk, .junk, .junk, .junk, .junk, .junk, .junk, .junk, .junk, .junk, .junk, .junk, .junk, .junk, .junk, .junk, .junk, .junk, .junk], h⟩
noncomputable def lp1 : Code := (codeAt (bodyOf Tryd.f81) [1, 1, 0, 1, 0, 0, 1, 0, 1, 0, 1, 0, 0])
def st1 (x0 x1 x2 x7 x9 x10 : PV) (h : PHeap) : St := ⟨[x0, x1, x2, .junk, .junk, .junk, .junk, x7, .junk, x9, x10, .junk, .junk, .junk, .junk, .junk, .junk, .junk, .junk, .junk, .junk, .junk, .junk, .junk, .junk, .junk, .junk, .junk, .junk, .junk, .junk, .junk, .junk, .junk, .junk, .junk, .junk, .junk, .junk, .junk, .junk, .junk, .junk, .junk, .junk, .junk, .junk, .junk, .junk, .junk, .junk, .junk, .junk, .junk, .junk], h⟩
def se0_0_1_2_7_8_21 (x0 x1 x2 x7 x8 x21 : PV) (h : PHeap) : St := ⟨[x0, x1, x2, .junk, .junk, .junk, .junk, x7, x8, .junk, .junk, .junk, .junk, .junk, .junk, .junk, .junk, .junk, .junk, .junk, .junk, x21, .junk, .junk, .junk, .junk, .junk, .junk, .junk, .junk, .junk, .junk, .junk, .junk, .junk, .junk, .junk, .junk, .junk, .junk, .junk, .junk, .junk, .junk, .junk, .junk, .junk, .junk, .junk, .junk, .junk, .junk, .junk, .junk, .junk], h⟩
def se2_0_1_2_7_9_10_24 (x0 x1 x2 x7 x9 x10 x24 : PV) (h : PHeap) : St := ⟨[x0, x1, x2, .junk, .junk, .junk, .junk, x7, .junk, x9, x10, .junk, .junk, .junk, .junk, .junk, .junk, .junk, .junk, .junk, .junk, .junk, .junk, .junk, x24, .junk, .junk, .junk, .junk, .junk, .junk, .junk, .junk, .junk, .junk, .junk, .junk, .junk, .junk, .junk, .junk, .junk, .junk, .junk, .junk, .junk, .junk, .junk, .junk, .junk, .junk, .junk, .junk, .junk, .junk], h⟩
noncomputable def K0 (E : Env) (K : PX → St → Res) : PX → St → Res := (kBlock 0 (kSeq (ev (E.cx Tryd.prog kl) (codeAt (bodyOf Tryd.f81) [1, 1, 1])) K))
@[simp] theorem K0_ret (E : Env) (K : PX → St → Res) (s : St) : K0 E K .ret s = K .ret s := by kernel_rfl
noncomputable def K1 (E : Env) (K : PX → St → Res) : PX → St → Res := (kBlock 2 (kSeq (ev (E.cx Tryd.prog kl) (codeAt (bodyOf Tryd.f81) [1, 1, 0, 1, 0, 0, 1, 0, 1, 1])) (kBlock 1 K)))
@[simp] theorem K1_ret (E : Env) (K : PX → St → Res) (s : St) : K1 E K .ret s = K .ret s := by kernel_rfl
noncomputable def body0 (E : Env) (K : PX → St → Res) (x0 x1 x2 x7 x8 : PV) (h : PHeap) : Res :=
    (E.p.bin .neq 3 x8 (.int .i64 0)).bind fun v26 =>
    condP v26
     (
      loopK (ev (E.cx Tryd.prog impl_search_joins.kl) impl_search_joins.lp1) E.lf (impl_search_joins.st1 x0 x1 x2 x7 (.int .i64 0) x8 h) (impl_search_joins.K1 E K))
     (
      K (.exit 0) (se0_0_1_2_7_8_21 x0 x1 x2 x7 x8 v26 h))
theorem body0_eq (E : Env) (K : PX → St → Res) (x0 x1 x2 x7 x8 : PV) (h : PHeap) : ev (E.cx Tryd.prog kl) lp0 (st0 x0 x1 x2 x7 x8 h) K = body0 E K x0 x1 x2 x7 x8 h := by kernel_rfl
noncomputable def body1 (E : Env) (K : PX → St → Res) (x0 x1 x2 x7 x9 x10 : PV) (h : PHeap) : Res :=
    (E.p.bin .neq 3 x10 (.int .i64 0)).bind fun v27 =>
    condP v27
     (
      (E.p.ptr x0).bind fun v28 =>
      (E.p.fieldAddr 70 v28 0).bind fun v29 =>
      (E.C fn_impl_leastIn [x10] h).bind fun v30 =>
      (E.p.indexAddr 68 v29 v30.1).bind fun v31 =>
      (E.p.load 3 v31 v30.2).bind fun v32 =>
      (E.p.bin .or 3 x9 v32).bind fun v33 =>
      (E.p.bin .sub 3 x10 (.int .i64 1)).bind fun v34 =>
      (E.p.bin .and 3 x10 v34).bind fun v35 =>
      K .normal (st1 x0 x1 x2 x7 v33 v35 v30.2))
     (
      K (.exit 2) (se2_0_1_2_7_9_10_24 x0 x1 x2 x7 x9 x10 v27 h))
theorem body1_eq (E : Env) (K : PX → St → Res) (x0 x1 x2 x7 x9 x10 : PV) (h : PHeap) : ev (E.cx Tryd.prog kl) lp1 (st1 x0 x1 x2 x7 x9 x10 h) K = body1 E K x0 x1 x2 x7 x9 x10 h := by kernel_rfl
theorem after0_se0_0_1_2_7_8_21 (E : Env) (x0 x1 x2 x7 x8 x21 : PV) (h : PHeap) : K0 E (kTop Tryd.prog Tryd.f81) (.exit 0) (se0_0_1_2_7_8_21 x0 x1 x2 x7 x8 x21 h) =
    (E.p.ptr x0).bind fun v16 =>
    (E.p.fieldAddr 70 v16 2).bind fun v17 =>
    (E.p.indexAddr 56 v17 x2).bind fun v18 =>
    (E.p.load 3 v18 h).bind fun v19 =>
    (E.p.bin .and 3 x7 v19).bind fun v20 =>
    (E.p.bin .neq 3 v20 (.int .i64 0)).bind fun v21 =>
    (resV v21).bind fun v22 =>
    some (v22, h) := by kernel_rfl
theorem after1_se2_0_1_2_7_9_10_24 (E : Env) (K : PX → St → Res) (x0 x1 x2 x7 x9 x10 x24 : PV) (h : PHeap) : K1 E K (.exit 2) (se2_0_1_2_7_9_10_24 x0 x1 x2 x7 x9 x10 x24 h) =
    (E.p.bin .and 3 x9 x1).bind fun v23 =>
    (E.p.bin .andNot 3 v23 x7).bind fun v24 =>
    (E.p.bin .or 3 x7 v24).bind fun v25 =>
    K .normal (st0 x0 x1 x2 v25 v24 h) := by kernel_rfl
noncomputable def main (E : Env) (x0 x1 x2 : PV) (h : PHeap) : Res :=
    (E.p.ptr x0).bind fun v1 =>
    (E.p.fieldAddr 70 v1 1).bind fun v2 =>
    (E.p.indexAddr 56 v2 x2).bind fun v3 =>
    (E.p.load 3 v3 h).bind fun v4 =>
    (E.p.bin .and 3 x1 v4).bind fun v5 =>
    loopK (ev (E.cx Tryd.prog impl_search_joins.kl) impl_search_joins.lp0) E.lf (impl_search_joins.st0 x0 x1 x2 v5 v5 h) (impl_search_joins.K0 E (kTop Tryd.prog Tryd.f81))
theorem main_eq (E : Env) (x0 x1 x2 : PV) (h : PHeap) : runBody (E.cx Tryd.prog kl) Tryd.f81 [x0, x1, x2] h = main E x0 x1 x2 h := by kernel_rfl
theorem call_eq (g : Nat → PV) (lf n : Nat) (x0 x1 x2 : PV) (h : PHeap) : CL g lf (n + 1) fn_impl_search_joins [x0, x1, x2] h = main (env g lf n) x0 x1 x2 h := by
  rw [← main_eq]
  show (match Tryd.prog.funcs[81]? with | some fn => if fn.body.isSome then runBody ⟨Tryd.prog, g, call Tryd.prog g KL lf n, KL 81, lf, std Tryd.prog⟩ fn [x0, x1, x2] h else none | none => none) = _
  rw [Tryd.func81]
  kernel_rfl
end impl_search_joins
namespace bits_TrailingZeros
noncomputable def main (E : Env) (x0 : PV) (h : PHeap) : Res :=
    condP (.bool false)
     (
      (E.p.conv 74 81 x0).bind fun v1 =>
      (E.C fn_bits_TrailingZeros32 [v1] h).bind fun v2 =>
      (resV v2.1).bind fun v3 =>
      some (v3, v2.2))
     (
      (E.C fn_bits_TrailingZeros64 [x0] h).bind fun v4 =>
      (resV v4.1).bind fun v5 =>
      some (v5, v4.2))
theorem main_eq (E : Env) (x0 : PV) (h : PHeap) : runBody (E.cx Tryd.prog kl) Tryd.f82 [x0] h = main E x0 h := by kernel_rfl
theorem call_eq (g : Nat → PV) (lf n : Nat) (x0 : PV) (h : PHeap) : CL g lf (n + 1) fn_bits_TrailingZeros [x0] h = main (env g lf n) x0 h := by
  rw [← main_eq]
  show (match Tryd.prog.funcs[82]? with | some fn => if fn.body.isSome then runBody ⟨Tryd.prog, g, call Tryd.prog g KL lf n, KL 82, lf, std Tryd.prog⟩ fn [x0] h else none | none => none) = _
  rw [Tryd.func82]
  kernel_rfl
end bits_TrailingZeros
end Go.Proofs.YtkbnngklbfnkiaaDoor.G

