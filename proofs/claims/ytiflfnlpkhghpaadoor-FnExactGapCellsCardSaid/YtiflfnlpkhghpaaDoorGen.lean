/- Of each function of this seat's program its plain form over the interpreter, written by program; each equation is the kernel's. -/
import Derived.Test.YtiflfnlpkhghpaaDoorProg
import Derived.Test.YtiflfnlpkhghpaaDoorIp
import Derived.Test.YtiflfnlpkhghpaaDoorGenBase
import Derived.KernelRfl
set_option linter.unusedVariables false
set_option maxRecDepth 100000
namespace Go.Proofs.YtiflfnlpkhghpaaDoor.G
open Go Go.Ip Go.Proofs

namespace laws_FnJoins
noncomputable def main (E : Env) (x0 : PV) (h : PHeap) : Res :=
    (E.p.len 22 x0).bind fun v1 =>
    (E.p.bin .gtr 3 v1 (.int .i64 1048576)).bind fun v2 =>
    condP v2
     (
      (resV (.bool true)).bind fun v3 =>
      some (v3, h))
     (
      (E.C fn_spec_DrawJoins [x0] h).bind fun v4 =>
      (E.p.extract v4.1 0).bind fun v5 =>
      (E.p.extract v4.1 1).bind fun v6 =>
      (E.p.extract v4.1 2).bind fun v7 =>
      (E.p.extract v4.1 3).bind fun v8 =>
      (E.C fn_impl_Joins [v5, v6, v7, v8] v4.2).bind fun v9 =>
      (E.C fn_spec_Joins [v5, v6, v7, v8] v9.2).bind fun v10 =>
      (E.p.bin .neq 4 v9.1 v10.1).bind fun v11 =>
      condP v11
       (
        (resV (.bool false)).bind fun v12 =>
        some (v12, v10.2))
       (
        (E.C fn_spec_PositionOk [v5, v6, v7] v10.2).bind fun v13 =>
        (E.p.un .not v13.1).bind fun v14 =>
        (wantV v14 false).bind fun v15 =>
        (bif v15 then some (v8, v13.2) else some (.tup [], v13.2)).bind fun v16 =>
        (wantV v14 false).bind fun v17 =>
        (bif v17 then pv v16.2 (E.p.bin .gtr 3 v16.1 (.int .i64 2)) else some (.tup [], v16.2)).bind fun v18 =>
        (E.p.pick v14 (.bool true) v18.1).bind fun v19 =>
        condP v19
         (
          (E.p.un .not v9.1).bind fun v20 =>
          (wantV v20 true).bind fun v21 =>
          (bif v21 then E.C fn_laws_alive [] v18.2 else some (.tup [], v18.2)).bind fun v22 =>
          (E.p.pick v20 v22.1 (.bool false)).bind fun v23 =>
          (resV v23).bind fun v24 =>
          some (v24, v22.2))
         (
          (E.C fn_impl_Filled [v5, v6, v7, v8] v18.2).bind fun v25 =>
          (E.p.bin .sub 3 (.int .i64 3) v8).bind fun v26 =>
          (wantV v9.1 true).bind fun v27 =>
          (bif v27 then some (v5, v25.2) else some (.tup [], v25.2)).bind fun v28 =>
          (wantV v9.1 true).bind fun v29 =>
          (bif v29 then some (v6, v28.2) else some (.tup [], v28.2)).bind fun v30 =>
          (wantV v9.1 true).bind fun v31 =>
          (bif v31 then some (v7, v30.2) else some (.tup [], v30.2)).bind fun v32 =>
          (wantV v9.1 true).bind fun v33 =>
          (bif v33 then some (v26, v32.2) else some (.tup [], v32.2)).bind fun v34 =>
          (wantV v9.1 true).bind fun v35 =>
          (bif v35 then E.C fn_impl_Joins [v28.1, v30.1, v32.1, v34.1] v34.2 else some (.tup [], v34.2)).bind fun v36 =>
          (E.p.pick v9.1 v36.1 (.bool false)).bind fun v37 =>
          (E.p.un .not v37).bind fun v38 =>
          (wantV v38 true).bind fun v39 =>
          (bif v39 then some (v5, v36.2) else some (.tup [], v36.2)).bind fun v40 =>
          (wantV v38 true).bind fun v41 =>
          (bif v41 then some (v6, v40.2) else some (.tup [], v40.2)).bind fun v42 =>
          (wantV v38 true).bind fun v43 =>
          (bif v43 then some (v25.1, v42.2) else some (.tup [], v42.2)).bind fun v44 =>
          (wantV v38 true).bind fun v45 =>
          (bif v45 then E.C fn_impl_Joins [v40.1, v42.1, v44.1, (.int .i64 1)] v44.2 else some (.tup [], v44.2)).bind fun v46 =>
          (wantV v38 true).bind fun v47 =>
          (bif v47 then some (v5, v46.2) else some (.tup [], v46.2)).bind fun v48 =>
          (wantV v38 true).bind fun v49 =>
          (bif v49 then some (v6, v48.2) else some (.tup [], v48.2)).bind fun v50 =>
          (wantV v38 true).bind fun v51 =>
          (bif v51 then some (v25.1, v50.2) else some (.tup [], v50.2)).bind fun v52 =>
          (wantV v38 true).bind fun v53 =>
          (bif v53 then E.C fn_impl_Joins [v48.1, v50.1, v52.1, (.int .i64 2)] v52.2 else some (.tup [], v52.2)).bind fun v54 =>
          (wantV v38 true).bind fun v55 =>
          (bif v55 then pv v54.2 (E.p.bin .neq 4 v46.1 v54.1) else some (.tup [], v54.2)).bind fun v56 =>
          (E.p.pick v38 v56.1 (.bool false)).bind fun v57 =>
          (wantV v57 true).bind fun v58 =>
          (bif v58 then some (v5, v56.2) else some (.tup [], v56.2)).bind fun v59 =>
          (wantV v57 true).bind fun v60 =>
          (bif v60 then some (v6, v59.2) else some (.tup [], v59.2)).bind fun v61 =>
          (wantV v57 true).bind fun v62 =>
          (bif v62 then some (v5, v61.2) else some (.tup [], v61.2)).bind fun v63 =>
          (wantV v57 true).bind fun v64 =>
          (bif v64 then some (v6, v63.2) else some (.tup [], v63.2)).bind fun v65 =>
          (wantV v57 true).bind fun v66 =>
          (bif v66 then some (v7, v65.2) else some (.tup [], v65.2)).bind fun v67 =>
          (wantV v57 true).bind fun v68 =>
          (bif v68 then E.C fn_impl_HalfTurned [v63.1, v65.1, v67.1] v67.2 else some (.tup [], v67.2)).bind fun v69 =>
          (wantV v57 true).bind fun v70 =>
          (bif v70 then some (v8, v69.2) else some (.tup [], v69.2)).bind fun v71 =>
          (wantV v57 true).bind fun v72 =>
          (bif v72 then E.C fn_impl_Joins [v59.1, v61.1, v69.1, v71.1] v71.2 else some (.tup [], v71.2)).bind fun v73 =>
          (wantV v57 true).bind fun v74 =>
          (bif v74 then some (v9.1, v73.2) else some (.tup [], v73.2)).bind fun v75 =>
          (wantV v57 true).bind fun v76 =>
          (bif v76 then pv v75.2 (E.p.bin .eql 4 v73.1 v75.1) else some (.tup [], v75.2)).bind fun v77 =>
          (E.p.pick v57 v77.1 (.bool false)).bind fun v78 =>
          (wantV v78 true).bind fun v79 =>
          (bif v79 then some (v6, v77.2) else some (.tup [], v77.2)).bind fun v80 =>
          (wantV v78 true).bind fun v81 =>
          (bif v81 then some (v5, v80.2) else some (.tup [], v80.2)).bind fun v82 =>
          (wantV v78 true).bind fun v83 =>
          (bif v83 then some (v5, v82.2) else some (.tup [], v82.2)).bind fun v84 =>
          (wantV v78 true).bind fun v85 =>
          (bif v85 then some (v6, v84.2) else some (.tup [], v84.2)).bind fun v86 =>
          (wantV v78 true).bind fun v87 =>
          (bif v87 then some (v7, v86.2) else some (.tup [], v86.2)).bind fun v88 =>
          (wantV v78 true).bind fun v89 =>
          (bif v89 then E.C fn_impl_Mirrored [v84.1, v86.1, v88.1] v88.2 else some (.tup [], v88.2)).bind fun v90 =>
          (wantV v78 true).bind fun v91 =>
          (bif v91 then some (v26, v90.2) else some (.tup [], v90.2)).bind fun v92 =>
          (wantV v78 true).bind fun v93 =>
          (bif v93 then E.C fn_impl_Joins [v80.1, v82.1, v90.1, v92.1] v92.2 else some (.tup [], v92.2)).bind fun v94 =>
          (wantV v78 true).bind fun v95 =>
          (bif v95 then some (v9.1, v94.2) else some (.tup [], v94.2)).bind fun v96 =>
          (wantV v78 true).bind fun v97 =>
          (bif v97 then pv v96.2 (E.p.bin .eql 4 v94.1 v96.1) else some (.tup [], v96.2)).bind fun v98 =>
          (E.p.pick v78 v98.1 (.bool false)).bind fun v99 =>
          (resV v99).bind fun v100 =>
          some (v100, v98.2))))
theorem main_eq (E : Env) (x0 : PV) (h : PHeap) : runBody (E.cx Tryd.prog kl) Tryd.f3 [x0] h = main E x0 h := by kernel_rfl
theorem call_eq (g : Nat → PV) (lf n : Nat) (x0 : PV) (h : PHeap) : CL g lf (n + 1) fn_laws_FnJoins [x0] h = main (env g lf n) x0 h := by
  rw [← main_eq]
  show (match Tryd.prog.funcs[3]? with | some fn => if fn.body.isSome then runBody ⟨Tryd.prog, g, call Tryd.prog g KL lf n, KL 3, lf, std Tryd.prog⟩ fn [x0] h else none | none => none) = _
  rw [Tryd.func3]
  kernel_rfl
end laws_FnJoins
namespace laws_FnGroupOf
noncomputable def lp0 : Code := (codeAt (bodyOf Tryd.f4) [1, 1, 1, 1, 1, 1, 0, 1, 0, 0])
def st0 (x3 x4 x5 x6 x7 x8 : PV) (h : PHeap) : St := ⟨[.junk, .junk, .junk, x3, x4, x5, x6, x7, x8, .junk, .junk, .junk, .junk, .junk, .junk, .junk, .junk, .junk, .junk, .junk, .junk, .junk, .junk, .junk, .junk, .junk, .junk, .junk, .junk, .junk, .junk, .junk, .junk, .junk, .junk, .junk, .junk, .junk, .junk, .junk, .junk, .junk, .junk, .junk, .junk, .junk, .junk, .junk, .junk, .junk, .junk, .junk, .junk, .junk, .junk, .junk, .junk, .junk, .junk, .junk, .junk, .junk, .junk, .junk, .junk, .junk, .junk, .junk, .junk, .junk, .junk, .junk, .junk, .junk, .junk, .junk, .junk, .junk, .junk, .junk, .junk, .junk, .junk, .junk, .junk, .junk, .junk, .junk, .junk, .junk, .junk, .junk, .junk, .junk, .junk, .junk, .junk, .junk, .junk, .junk, .junk, .junk, .junk, .junk, .junk, .junk, .junk, .junk, .junk, .junk], h⟩
noncomputable def lp1 : Code := (codeAt (bodyOf Tryd.f4) [1, 1, 1, 1, 1, 1, 0, 1, 0, 0, 1, 0, 0, 1, 1, 1, 0, 0])
def st1 (x3 x4 x5 x6 x7 x8 x9 x10 : PV) (h : PHeap) : St := ⟨[.junk, .junk, .junk, x3, x4, x5, x6, x7, x8, x9, x10, .junk, .junk, .junk, .junk, .junk, .junk, .junk, .junk, .junk, .junk, .junk, .junk, .junk, .junk, .junk, .junk, .junk, .junk, .junk, .junk, .junk, .junk, .junk, .junk, .junk, .junk, .junk, .junk, .junk, .junk, .junk, .junk, .junk, .junk, .junk, .junk, .junk, .junk, .junk, .junk, .junk, .junk, .junk, .junk, .junk, .junk, .junk, .junk, .junk, .junk, .junk, .junk, .junk, .junk, .junk, .junk, .junk, .junk, .junk, .junk, .junk, .junk, .junk, .junk, .junk, .junk, .junk, .junk, .junk, .junk, .junk, .junk, .junk, .junk, .junk, .junk, .junk, .junk, .junk, .junk, .junk, .junk, .junk, .junk, .junk, .junk, .junk, .junk, .junk, .junk, .junk, .junk, .junk, .junk, .junk, .junk, .junk, .junk, .junk], h⟩
def sr_2 (x2 : PV) (h : PHeap) : St := ⟨[.junk, .junk, x2, .junk, .junk, .junk, .junk, .junk, .junk, .junk, .junk, .junk, .junk, .junk, .junk, .junk, .junk, .junk, .junk, .junk, .junk, .junk, .junk, .junk, .junk, .junk, .junk, .junk, .junk, .junk, .junk, .junk, .junk, .junk, .junk, .junk, .junk, .junk, .junk, .junk, .junk, .junk, .junk, .junk, .junk, .junk, .junk, .junk, .junk, .junk, .junk, .junk, .junk, .junk, .junk, .junk, .junk, .junk, .junk, .junk, .junk, .junk, .junk, .junk, .junk, .junk, .junk, .junk, .junk, .junk, .junk, .junk, .junk, .junk, .junk, .junk, .junk, .junk, .junk, .junk, .junk, .junk, .junk, .junk, .junk, .junk, .junk, .junk, .junk, .junk, .junk, .junk, .junk, .junk, .junk, .junk, .junk, .junk, .junk, .junk, .junk, .junk, .junk, .junk, .junk, .junk, .junk, .junk, .junk, .junk], h⟩
def se0_3_4_5_6_7_8_41 (x3 x4 x5 x6 x7 x8 x41 : PV) (h : PHeap) : St := ⟨[.junk, .junk, .junk, x3, x4, x5, x6, x7, x8, .junk, .junk, .junk, .junk, .junk, .junk, .junk, .junk, .junk, .junk, .junk, .junk, .junk, .junk, .junk, .junk, .junk, .junk, .junk, .junk, .junk, .junk, .junk, .junk, .junk, .junk, .junk, .junk, .junk, .junk, .junk, .junk, x41, .junk, .junk, .junk, .junk, .junk, .junk, .junk, .junk, .junk, .junk, .junk, .junk, .junk, .junk, .junk, .junk, .junk, .junk, .junk, .junk, .junk, .junk, .junk, .junk, .junk, .junk, .junk, .junk, .junk, .junk, .junk, .junk, .junk, .junk, .junk, .junk, .junk, .junk, .junk, .junk, .junk, .junk, .junk, .junk, .junk, .junk, .junk, .junk, .junk, .junk, .junk, .junk, .junk, .junk, .junk, .junk, .junk, .junk, .junk, .junk, .junk, .junk, .junk, .junk, .junk, .junk, .junk, .junk], h⟩
def se2_3_4_5_6_7_8_9_10_79 (x3 x4 x5 x6 x7 x8 x9 x10 x79 : PV) (h : PHeap) : St := ⟨[.junk, .junk, .junk, x3, x4, x5, x6, x7, x8, x9, x10, .junk, .junk, .junk, .junk, .junk, .junk, .junk, .junk, .junk, .junk, .junk, .junk, .junk, .junk, .junk, .junk, .junk, .junk, .junk, .junk, .junk, .junk, .junk, .junk, .junk, .junk, .junk, .junk, .junk, .junk, .junk, .junk, .junk, .junk, .junk, .junk, .junk, .junk, .junk, .junk, .junk, .junk, .junk, .junk, .junk, .junk, .junk, .junk, .junk, .junk, .junk, .junk, .junk, .junk, .junk, .junk, .junk, .junk, .junk, .junk, .junk, .junk, .junk, .junk, .junk, .junk, .junk, .junk, x79, .junk, .junk, .junk, .junk, .junk, .junk, .junk, .junk, .junk, .junk, .junk, .junk, .junk, .junk, .junk, .junk, .junk, .junk, .junk, .junk, .junk, .junk, .junk, .junk, .junk, .junk, .junk, .junk, .junk, .junk], h⟩
noncomputable def K0 (E : Env) (K : PX → St → Res) : PX → St → Res := (kBlock 0 (kSeq (ev (E.cx Tryd.prog kl) (codeAt (bodyOf Tryd.f4) [1, 1, 1, 1, 1, 1, 1])) K))
@[simp] theorem K0_ret (E : Env) (K : PX → St → Res) (s : St) : K0 E K .ret s = K .ret s := by kernel_rfl
noncomputable def K1 (E : Env) (K : PX → St → Res) : PX → St → Res := (kBlock 2 (kBlock 1 (kSeq (ev (E.cx Tryd.prog kl) (codeAt (bodyOf Tryd.f4) [1, 1, 1, 1, 1, 1, 0, 1, 0, 0, 1, 1])) K)))
@[simp] theorem K1_ret (E : Env) (K : PX → St → Res) (s : St) : K1 E K .ret s = K .ret s := by kernel_rfl
noncomputable def body0 (E : Env) (K : PX → St → Res) (x3 x4 x5 x6 x7 x8 : PV) (h : PHeap) : Res :=
    (E.p.len 23 x7).bind fun v95 =>
    (E.p.bin .lss 3 x8 v95).bind fun v96 =>
    condP v96
     (
      (E.p.indexAddr 23 x7 x8).bind fun v97 =>
      (E.p.load 3 v97 h).bind fun v98 =>
      (E.p.indexAddr 23 x5 v98).bind fun v99 =>
      (E.p.load 3 v99 h).bind fun v100 =>
      (E.p.indexAddr 23 x5 x6).bind fun v101 =>
      (E.p.load 3 v101 h).bind fun v102 =>
      (E.p.bin .neq 3 v100 v102).bind fun v103 =>
      (wantV v103 false).bind fun v104 =>
      (bif v104 then some (x3, h) else some (.tup [], h)).bind fun v105 =>
      (wantV v103 false).bind fun v106 =>
      (bif v106 then some (x4, v105.2) else some (.tup [], v105.2)).bind fun v107 =>
      (wantV v103 false).bind fun v108 =>
      (bif v108 then some (x5, v107.2) else some (.tup [], v107.2)).bind fun v109 =>
      (wantV v103 false).bind fun v110 =>
      (bif v110 then some (x7, v109.2) else some (.tup [], v109.2)).bind fun v111 =>
      (wantV v103 false).bind fun v112 =>
      (bif v112 then some (x8, v111.2) else some (.tup [], v111.2)).bind fun v113 =>
      (wantV v103 false).bind fun v114 =>
      (bif v114 then pv v113.2 (E.p.indexAddr 23 v111.1 v113.1) else some (.tup [], v113.2)).bind fun v115 =>
      (wantV v103 false).bind fun v116 =>
      (bif v116 then some (x7, v115.2) else some (.tup [], v115.2)).bind fun v117 =>
      (wantV v103 false).bind fun v118 =>
      (bif v118 then pv v117.2 (E.p.load 3 v115.1 v117.2) else some (.tup [], v117.2)).bind fun v119 =>
      (wantV v103 false).bind fun v120 =>
      (bif v120 then E.C fn_impl_GroupOf [v105.1, v107.1, v109.1, v119.1] v119.2 else some (.tup [], v119.2)).bind fun v121 =>
      (E.p.load 3 v101 v121.2).bind fun v122 =>
      ckP (plainEq v102 v122) (
      (E.p.load 3 v99 v121.2).bind fun v123 =>
      ckP (plainEq v100 v123) (
      (E.p.load 3 v97 v121.2).bind fun v124 =>
      ckP (plainEq v98 v124) (
      (wantV v103 false).bind fun v125 =>
      (bif v125 then E.C fn_laws_sameInts [v121.1, v117.1] v121.2 else some (.tup [], v121.2)).bind fun v126 =>
      (E.p.load 3 v101 v126.2).bind fun v127 =>
      ckP (plainEq v102 v127) (
      (E.p.load 3 v99 v126.2).bind fun v128 =>
      ckP (plainEq v100 v128) (
      (E.p.load 3 v97 v126.2).bind fun v129 =>
      ckP (plainEq v98 v129) (
      (wantV v103 false).bind fun v130 =>
      (bif v130 then pv v126.2 (E.p.un .not v126.1) else some (.tup [], v126.2)).bind fun v131 =>
      (E.p.pick v103 (.bool true) v131.1).bind fun v132 =>
      condP v132
       (
        K .ret (sr_2 (.bool false) v131.2))
       (
        (E.p.indexAddr 23 x7 x8).bind fun v133 =>
        (E.p.load 3 v133 v131.2).bind fun v134 =>
        (E.C fn_impl_NearCells [x3, x4, v134] v131.2).bind fun v135 =>
        loopK (ev (E.cx Tryd.prog laws_FnGroupOf.kl) laws_FnGroupOf.lp1) E.lf (laws_FnGroupOf.st1 x3 x4 x5 x6 x7 x8 v135.1 (.int .i64 0) v135.2) (laws_FnGroupOf.K1 E K)))))))))
     (
      K (.exit 0) (se0_3_4_5_6_7_8_41 x3 x4 x5 x6 x7 x8 v96 h))
theorem body0_eq (E : Env) (K : PX → St → Res) (x3 x4 x5 x6 x7 x8 : PV) (h : PHeap) : ev (E.cx Tryd.prog kl) lp0 (st0 x3 x4 x5 x6 x7 x8 h) K = body0 E K x3 x4 x5 x6 x7 x8 h := by kernel_rfl
noncomputable def body1 (E : Env) (K : PX → St → Res) (x3 x4 x5 x6 x7 x8 x9 x10 : PV) (h : PHeap) : Res :=
    (E.p.len 23 x9).bind fun v136 =>
    (E.p.bin .lss 3 x10 v136).bind fun v137 =>
    condP v137
     (
      (E.p.indexAddr 23 x9 x10).bind fun v138 =>
      (E.p.load 3 v138 h).bind fun v139 =>
      (E.p.indexAddr 23 x5 v139).bind fun v140 =>
      (E.p.load 3 v140 h).bind fun v141 =>
      (E.p.indexAddr 23 x5 x6).bind fun v142 =>
      (E.p.load 3 v142 h).bind fun v143 =>
      (E.p.bin .eql 3 v141 v143).bind fun v144 =>
      (wantV v144 true).bind fun v145 =>
      (bif v145 then some (x7, h) else some (.tup [], h)).bind fun v146 =>
      (wantV v144 true).bind fun v147 =>
      (bif v147 then some (x9, v146.2) else some (.tup [], v146.2)).bind fun v148 =>
      (wantV v144 true).bind fun v149 =>
      (bif v149 then some (x10, v148.2) else some (.tup [], v148.2)).bind fun v150 =>
      (wantV v144 true).bind fun v151 =>
      (bif v151 then pv v150.2 (E.p.indexAddr 23 v148.1 v150.1) else some (.tup [], v150.2)).bind fun v152 =>
      (wantV v144 true).bind fun v153 =>
      (bif v153 then pv v152.2 (E.p.load 3 v152.1 v152.2) else some (.tup [], v152.2)).bind fun v154 =>
      (wantV v144 true).bind fun v155 =>
      (bif v155 then E.C fn_laws_hasInt [v146.1, v154.1] v154.2 else some (.tup [], v154.2)).bind fun v156 =>
      (E.p.load 3 v142 v156.2).bind fun v157 =>
      ckP (plainEq v143 v157) (
      (E.p.load 3 v140 v156.2).bind fun v158 =>
      ckP (plainEq v141 v158) (
      (E.p.load 3 v138 v156.2).bind fun v159 =>
      ckP (plainEq v139 v159) (
      (wantV v144 true).bind fun v160 =>
      (bif v160 then pv v156.2 (E.p.un .not v156.1) else some (.tup [], v156.2)).bind fun v161 =>
      (E.p.pick v144 v161.1 (.bool false)).bind fun v162 =>
      condP v162
       (
        K .ret (sr_2 (.bool false) v161.2))
       (
        (E.p.bin .add 3 x10 (.int .i64 1)).bind fun v163 =>
        K .normal (st1 x3 x4 x5 x6 x7 x8 x9 v163 v161.2))))))
     (
      K (.exit 2) (se2_3_4_5_6_7_8_9_10_79 x3 x4 x5 x6 x7 x8 x9 x10 v137 h))
theorem body1_eq (E : Env) (K : PX → St → Res) (x3 x4 x5 x6 x7 x8 x9 x10 : PV) (h : PHeap) : ev (E.cx Tryd.prog kl) lp1 (st1 x3 x4 x5 x6 x7 x8 x9 x10 h) K = body1 E K x3 x4 x5 x6 x7 x8 x9 x10 h := by kernel_rfl
theorem after0_se0_3_4_5_6_7_8_41 (E : Env) (x3 x4 x5 x6 x7 x8 x41 : PV) (h : PHeap) : K0 E (kTop Tryd.prog Tryd.f4) (.exit 0) (se0_3_4_5_6_7_8_41 x3 x4 x5 x6 x7 x8 x41 h) =
    (E.C fn_laws_hasInt [x7, x6] h).bind fun v87 =>
    (wantV v87.1 true).bind fun v88 =>
    (bif v88 then some (x7, v87.2) else some (.tup [], v87.2)).bind fun v89 =>
    (wantV v87.1 true).bind fun v90 =>
    (bif v90 then E.C fn_laws_ascend [v89.1] v89.2 else some (.tup [], v89.2)).bind fun v91 =>
    (E.p.pick v87.1 v91.1 (.bool false)).bind fun v92 =>
    (resV v92).bind fun v93 =>
    some (v93, v91.2) := by kernel_rfl
theorem after1_se2_3_4_5_6_7_8_9_10_79 (E : Env) (K : PX → St → Res) (x3 x4 x5 x6 x7 x8 x9 x10 x79 : PV) (h : PHeap) : K1 E K (.exit 2) (se2_3_4_5_6_7_8_9_10_79 x3 x4 x5 x6 x7 x8 x9 x10 x79 h) =
    (E.p.bin .add 3 x8 (.int .i64 1)).bind fun v94 =>
    K .normal (st0 x3 x4 x5 x6 x7 v94 h) := by kernel_rfl
theorem top_sr_2 (x2 : PV) (h : PHeap) : kTop Tryd.prog Tryd.f4 .ret (sr_2 x2 h) =
    (resV x2).bind fun v164 =>
    some (v164, h) := by kernel_rfl
noncomputable def main (E : Env) (x0 : PV) (h : PHeap) : Res :=
    (E.p.len 22 x0).bind fun v1 =>
    (E.p.bin .gtr 3 v1 (.int .i64 1048576)).bind fun v2 =>
    condP v2
     (
      (resV (.bool true)).bind fun v3 =>
      some (v3, h))
     (
      (E.C fn_spec_DrawGroupOf [x0] h).bind fun v4 =>
      (E.p.extract v4.1 0).bind fun v5 =>
      (E.p.extract v4.1 1).bind fun v6 =>
      (E.p.extract v4.1 2).bind fun v7 =>
      (E.p.extract v4.1 3).bind fun v8 =>
      (E.C fn_impl_GroupOf [v5, v6, v7, v8] v4.2).bind fun v9 =>
      (E.C fn_spec_GroupOf [v5, v6, v7, v8] v9.2).bind fun v10 =>
      (E.C fn_laws_sameInts [v9.1, v10.1] v10.2).bind fun v11 =>
      (E.p.un .not v11.1).bind fun v12 =>
      condP v12
       (
        (resV (.bool false)).bind fun v13 =>
        some (v13, v11.2))
       (
        (E.p.len 23 v9.1).bind fun v14 =>
        (E.p.bin .eql 3 v14 (.int .i64 0)).bind fun v15 =>
        condP v15
         (
          (E.C fn_laws_alive [] v11.2).bind fun v16 =>
          (resV v16.1).bind fun v17 =>
          some (v17, v16.2))
         (
          loopK (ev (E.cx Tryd.prog laws_FnGroupOf.kl) laws_FnGroupOf.lp0) E.lf (laws_FnGroupOf.st0 v5 v6 v7 v8 v9.1 (.int .i64 0) v11.2) (laws_FnGroupOf.K0 E (kTop Tryd.prog Tryd.f4)))))
theorem main_eq (E : Env) (x0 : PV) (h : PHeap) : runBody (E.cx Tryd.prog kl) Tryd.f4 [x0] h = main E x0 h := by kernel_rfl
theorem call_eq (g : Nat → PV) (lf n : Nat) (x0 : PV) (h : PHeap) : CL g lf (n + 1) fn_laws_FnGroupOf [x0] h = main (env g lf n) x0 h := by
  rw [← main_eq]
  show (match Tryd.prog.funcs[4]? with | some fn => if fn.body.isSome then runBody ⟨Tryd.prog, g, call Tryd.prog g KL lf n, KL 4, lf, std Tryd.prog⟩ fn [x0] h else none | none => none) = _
  rw [Tryd.func4]
  kernel_rfl
end laws_FnGroupOf
namespace laws_FnGapOf
noncomputable def main (E : Env) (x0 : PV) (h : PHeap) : Res :=
    (E.p.len 22 x0).bind fun v1 =>
    (E.p.bin .gtr 3 v1 (.int .i64 1048576)).bind fun v2 =>
    condP v2
     (
      (resV (.bool true)).bind fun v3 =>
      some (v3, h))
     (
      (E.C fn_spec_DrawGapOf [x0] h).bind fun v4 =>
      (E.p.extract v4.1 0).bind fun v5 =>
      (E.p.extract v4.1 1).bind fun v6 =>
      (E.p.extract v4.1 2).bind fun v7 =>
      (E.p.extract v4.1 3).bind fun v8 =>
      (E.C fn_impl_GapOf [v5, v6, v7, v8] v4.2).bind fun v9 =>
      (E.C fn_spec_GapOf [v5, v6, v7, v8] v9.2).bind fun v10 =>
      (E.p.bin .neq 3 v9.1 v10.1).bind fun v11 =>
      condP v11
       (
        (resV (.bool false)).bind fun v12 =>
        some (v12, v10.2))
       (
        (E.C fn_spec_PositionOk [v5, v6, v7] v10.2).bind fun v13 =>
        (E.p.un .not v13.1).bind fun v14 =>
        (wantV v14 false).bind fun v15 =>
        (bif v15 then some (v8, v13.2) else some (.tup [], v13.2)).bind fun v16 =>
        (wantV v14 false).bind fun v17 =>
        (bif v17 then pv v16.2 (E.p.bin .gtr 3 v16.1 (.int .i64 2)) else some (.tup [], v16.2)).bind fun v18 =>
        (E.p.pick v14 (.bool true) v18.1).bind fun v19 =>
        condP v19
         (
          (E.p.bin .eql 3 v9.1 (.int .i64 (-1))).bind fun v20 =>
          (wantV v20 true).bind fun v21 =>
          (bif v21 then E.C fn_laws_alive [] v18.2 else some (.tup [], v18.2)).bind fun v22 =>
          (E.p.pick v20 v22.1 (.bool false)).bind fun v23 =>
          (resV v23).bind fun v24 =>
          some (v24, v22.2))
         (
          (E.C fn_impl_CellsOf [v5, v6, v7, (.int .i64 0)] v18.2).bind fun v25 =>
          (E.p.bin .sub 3 (.int .i64 3) v8).bind fun v26 =>
          (E.p.bin .eql 3 v9.1 (.int .i64 0)).bind fun v27 =>
          (E.C fn_impl_Joins [v5, v6, v7, v8] v25.2).bind fun v28 =>
          (E.p.bin .neq 4 v27 v28.1).bind fun v29 =>
          (wantV v29 false).bind fun v30 =>
          (bif v30 then some (v9.1, v28.2) else some (.tup [], v28.2)).bind fun v31 =>
          (wantV v29 false).bind fun v32 =>
          (bif v32 then pv v31.2 (E.p.bin .eql 3 v31.1 (.int .i64 (-1))) else some (.tup [], v31.2)).bind fun v33 =>
          (wantV v29 false).bind fun v34 =>
          (bif v34 then some (v5, v33.2) else some (.tup [], v33.2)).bind fun v35 =>
          (wantV v29 false).bind fun v36 =>
          (bif v36 then some (v6, v35.2) else some (.tup [], v35.2)).bind fun v37 =>
          (wantV v29 false).bind fun v38 =>
          (bif v38 then some (v7, v37.2) else some (.tup [], v37.2)).bind fun v39 =>
          (wantV v29 false).bind fun v40 =>
          (bif v40 then some (v26, v39.2) else some (.tup [], v39.2)).bind fun v41 =>
          (wantV v29 false).bind fun v42 =>
          (bif v42 then E.C fn_impl_Joins [v35.1, v37.1, v39.1, v41.1] v41.2 else some (.tup [], v41.2)).bind fun v43 =>
          (wantV v29 false).bind fun v44 =>
          (bif v44 then pv v43.2 (E.p.bin .neq 4 v33.1 v43.1) else some (.tup [], v43.2)).bind fun v45 =>
          (E.p.pick v29 (.bool true) v45.1).bind fun v46 =>
          (wantV v46 false).bind fun v47 =>
          (bif v47 then some (v9.1, v45.2) else some (.tup [], v45.2)).bind fun v48 =>
          (wantV v46 false).bind fun v49 =>
          (bif v49 then some (v25.1, v48.2) else some (.tup [], v48.2)).bind fun v50 =>
          (wantV v46 false).bind fun v51 =>
          (bif v51 then pv v50.2 (E.p.len 23 v50.1) else some (.tup [], v50.2)).bind fun v52 =>
          (wantV v46 false).bind fun v53 =>
          (bif v53 then pv v52.2 (E.p.bin .gtr 3 v48.1 v52.1) else some (.tup [], v52.2)).bind fun v54 =>
          (E.p.pick v46 (.bool true) v54.1).bind fun v55 =>
          condP v55
           (
            (resV (.bool false)).bind fun v56 =>
            some (v56, v54.2))
           (
            (E.p.len 23 v25.1).bind fun v57 =>
            (E.p.bin .eql 3 v57 (.int .i64 0)).bind fun v58 =>
            (wantV v58 false).bind fun v59 =>
            (bif v59 then some (v9.1, v54.2) else some (.tup [], v54.2)).bind fun v60 =>
            (wantV v58 false).bind fun v61 =>
            (bif v61 then pv v60.2 (E.p.bin .lss 3 v60.1 (.int .i64 0)) else some (.tup [], v60.2)).bind fun v62 =>
            (E.p.pick v58 (.bool true) v62.1).bind fun v63 =>
            condP v63
             (
              (E.C fn_laws_alive [] v62.2).bind fun v64 =>
              (resV v64.1).bind fun v65 =>
              some (v65, v64.2))
             (
              (E.p.buildSlice 23 0 [] v62.2).bind fun v66 =>
              (E.p.append 23 23 v66.1 v7 v66.2).bind fun v67 =>
              (E.p.indexAddr 23 v25.1 (.int .i64 0)).bind fun v68 =>
              (E.p.load 3 v68 v67.2).bind fun v69 =>
              (E.p.indexAddr 23 v67.1 v69).bind fun v70 =>
              (E.p.store 3 v70 v8 v67.2).bind fun v71 =>
              (E.C fn_impl_GapOf [v5, v6, v67.1, v8] v71).bind fun v72 =>
              (E.p.bin .eql 3 v72.1 v9.1).bind fun v73 =>
              (wantV v73 false).bind fun v74 =>
              (bif v74 then some (v72.1, v72.2) else some (.tup [], v72.2)).bind fun v75 =>
              (wantV v73 false).bind fun v76 =>
              (bif v76 then some (v9.1, v75.2) else some (.tup [], v75.2)).bind fun v77 =>
              (wantV v73 false).bind fun v78 =>
              (bif v78 then pv v77.2 (E.p.bin .sub 3 v77.1 (.int .i64 1)) else some (.tup [], v77.2)).bind fun v79 =>
              (wantV v73 false).bind fun v80 =>
              (bif v80 then pv v79.2 (E.p.bin .eql 3 v75.1 v79.1) else some (.tup [], v79.2)).bind fun v81 =>
              (E.p.pick v73 (.bool true) v81.1).bind fun v82 =>
              (resV v82).bind fun v83 =>
              some (v83, v81.2))))))
theorem main_eq (E : Env) (x0 : PV) (h : PHeap) : runBody (E.cx Tryd.prog kl) Tryd.f5 [x0] h = main E x0 h := by kernel_rfl
theorem call_eq (g : Nat → PV) (lf n : Nat) (x0 : PV) (h : PHeap) : CL g lf (n + 1) fn_laws_FnGapOf [x0] h = main (env g lf n) x0 h := by
  rw [← main_eq]
  show (match Tryd.prog.funcs[5]? with | some fn => if fn.body.isSome then runBody ⟨Tryd.prog, g, call Tryd.prog g KL lf n, KL 5, lf, std Tryd.prog⟩ fn [x0] h else none | none => none) = _
  rw [Tryd.func5]
  kernel_rfl
end laws_FnGapOf
namespace laws_FnFilled
noncomputable def lp0 : Code := (codeAt (bodyOf Tryd.f6) [1, 1, 1, 1, 1, 1, 0, 1, 0, 0])
def st0 (x3 x4 x5 x6 x7 x8 : PV) (h : PHeap) : St := ⟨[.junk, .junk, .junk, x3, x4, x5, x6, x7, x8, .junk, .junk, .junk, .junk, .junk, .junk, .junk, .junk, .junk, .junk, .junk, .junk, .junk, .junk, .junk, .junk, .junk, .junk, .junk, .junk, .junk, .junk, .junk, .junk, .junk, .junk, .junk, .junk, .junk, .junk, .junk, .junk, .junk, .junk, .junk, .junk, .junk, .junk, .junk, .junk, .junk, .junk, .junk, .junk, .junk, .junk, .junk, .junk, .junk, .junk, .junk, .junk, .junk, .junk, .junk, .junk, .junk, .junk, .junk, .junk, .junk, .junk, .junk, .junk, .junk, .junk, .junk, .junk, .junk, .junk, .junk, .junk, .junk, .junk, .junk, .junk, .junk, .junk, .junk, .junk, .junk, .junk], h⟩
def sr_2 (x2 : PV) (h : PHeap) : St := ⟨[.junk, .junk, x2, .junk, .junk, .junk, .junk, .junk, .junk, .junk, .junk, .junk, .junk, .junk, .junk, .junk, .junk, .junk, .junk, .junk, .junk, .junk, .junk, .junk, .junk, .junk, .junk, .junk, .junk, .junk, .junk, .junk, .junk, .junk, .junk, .junk, .junk, .junk, .junk, .junk, .junk, .junk, .junk, .junk, .junk, .junk, .junk, .junk, .junk, .junk, .junk, .junk, .junk, .junk, .junk, .junk, .junk, .junk, .junk, .junk, .junk, .junk, .junk, .junk, .junk, .junk, .junk, .junk, .junk, .junk, .junk, .junk, .junk, .junk, .junk, .junk, .junk, .junk, .junk, .junk, .junk, .junk, .junk, .junk, .junk, .junk, .junk, .junk, .junk, .junk, .junk], h⟩
def se0_3_4_5_6_7_8_46 (x3 x4 x5 x6 x7 x8 x46 : PV) (h : PHeap) : St := ⟨[.junk, .junk, .junk, x3, x4, x5, x6, x7, x8, .junk, .junk, .junk, .junk, .junk, .junk, .junk, .junk, .junk, .junk, .junk, .junk, .junk, .junk, .junk, .junk, .junk, .junk, .junk, .junk, .junk, .junk, .junk, .junk, .junk, .junk, .junk, .junk, .junk, .junk, .junk, .junk, .junk, .junk, .junk, .junk, .junk, x46, .junk, .junk, .junk, .junk, .junk, .junk, .junk, .junk, .junk, .junk, .junk, .junk, .junk, .junk, .junk, .junk, .junk, .junk, .junk, .junk, .junk, .junk, .junk, .junk, .junk, .junk, .junk, .junk, .junk, .junk, .junk, .junk, .junk, .junk, .junk, .junk, .junk, .junk, .junk, .junk, .junk, .junk, .junk, .junk], h⟩
noncomputable def K0 (E : Env) (K : PX → St → Res) : PX → St → Res := (kBlock 0 (kSeq (ev (E.cx Tryd.prog kl) (codeAt (bodyOf Tryd.f6) [1, 1, 1, 1, 1, 1, 1])) K))
@[simp] theorem K0_ret (E : Env) (K : PX → St → Res) (s : St) : K0 E K .ret s = K .ret s := by kernel_rfl
noncomputable def body0 (E : Env) (K : PX → St → Res) (x3 x4 x5 x6 x7 x8 : PV) (h : PHeap) : Res :=
    (E.p.len 23 x7).bind fun v94 =>
    (E.p.bin .lss 3 x8 v94).bind fun v95 =>
    (wantV v95 true).bind fun v96 =>
    (bif v96 then some (x7, h) else some (.tup [], h)).bind fun v97 =>
    (wantV v95 true).bind fun v98 =>
    (bif v98 then pv v97.2 (E.p.len 23 v97.1) else some (.tup [], v97.2)).bind fun v99 =>
    (wantV v95 true).bind fun v100 =>
    (bif v100 then some (x5, v99.2) else some (.tup [], v99.2)).bind fun v101 =>
    (wantV v95 true).bind fun v102 =>
    (bif v102 then pv v101.2 (E.p.len 23 v101.1) else some (.tup [], v101.2)).bind fun v103 =>
    (wantV v95 true).bind fun v104 =>
    (bif v104 then pv v103.2 (E.p.bin .eql 3 v99.1 v103.1) else some (.tup [], v103.2)).bind fun v105 =>
    (E.p.pick v95 v105.1 (.bool false)).bind fun v106 =>
    condP v106
     (
      (E.p.indexAddr 23 x5 x8).bind fun v107 =>
      (E.p.load 3 v107 v105.2).bind fun v108 =>
      (E.p.bin .neq 3 v108 (.int .i64 0)).bind fun v109 =>
      (wantV v109 true).bind fun v110 =>
      (bif v110 then some (x7, v105.2) else some (.tup [], v105.2)).bind fun v111 =>
      (wantV v109 true).bind fun v112 =>
      (bif v112 then some (x8, v111.2) else some (.tup [], v111.2)).bind fun v113 =>
      (wantV v109 true).bind fun v114 =>
      (bif v114 then pv v113.2 (E.p.indexAddr 23 v111.1 v113.1) else some (.tup [], v113.2)).bind fun v115 =>
      (wantV v109 true).bind fun v116 =>
      (bif v116 then pv v115.2 (E.p.load 3 v115.1 v115.2) else some (.tup [], v115.2)).bind fun v117 =>
      (wantV v109 true).bind fun v118 =>
      (bif v118 then some (x5, v117.2) else some (.tup [], v117.2)).bind fun v119 =>
      (wantV v109 true).bind fun v120 =>
      (bif v120 then some (x8, v119.2) else some (.tup [], v119.2)).bind fun v121 =>
      (wantV v109 true).bind fun v122 =>
      (bif v122 then pv v121.2 (E.p.indexAddr 23 v119.1 v121.1) else some (.tup [], v121.2)).bind fun v123 =>
      (wantV v109 true).bind fun v124 =>
      (bif v124 then pv v123.2 (E.p.load 3 v123.1 v123.2) else some (.tup [], v123.2)).bind fun v125 =>
      (wantV v109 true).bind fun v126 =>
      (bif v126 then pv v125.2 (E.p.bin .neq 3 v117.1 v125.1) else some (.tup [], v125.2)).bind fun v127 =>
      (E.p.pick v109 v127.1 (.bool false)).bind fun v128 =>
      condP v128
       (
        K .ret (sr_2 (.bool false) v127.2))
       (
        (E.p.bin .add 3 x8 (.int .i64 1)).bind fun v129 =>
        K .normal (st0 x3 x4 x5 x6 x7 v129 v127.2)))
     (
      K (.exit 0) (se0_3_4_5_6_7_8_46 x3 x4 x5 x6 x7 x8 v106 v105.2))
theorem body0_eq (E : Env) (K : PX → St → Res) (x3 x4 x5 x6 x7 x8 : PV) (h : PHeap) : ev (E.cx Tryd.prog kl) lp0 (st0 x3 x4 x5 x6 x7 x8 h) K = body0 E K x3 x4 x5 x6 x7 x8 h := by kernel_rfl
theorem after0_se0_3_4_5_6_7_8_46 (E : Env) (x3 x4 x5 x6 x7 x8 x46 : PV) (h : PHeap) : K0 E (kTop Tryd.prog Tryd.f6) (.exit 0) (se0_3_4_5_6_7_8_46 x3 x4 x5 x6 x7 x8 x46 h) =
    (E.C fn_impl_PositionOk [x3, x4, x7] h).bind fun v54 =>
    (wantV v54.1 true).bind fun v55 =>
    (bif v55 then some (x3, v54.2) else some (.tup [], v54.2)).bind fun v56 =>
    (wantV v54.1 true).bind fun v57 =>
    (bif v57 then some (x4, v56.2) else some (.tup [], v56.2)).bind fun v58 =>
    (wantV v54.1 true).bind fun v59 =>
    (bif v59 then some (x7, v58.2) else some (.tup [], v58.2)).bind fun v60 =>
    (wantV v54.1 true).bind fun v61 =>
    (bif v61 then E.C fn_impl_CellsOf [v56.1, v58.1, v60.1, (.int .i64 0)] v60.2 else some (.tup [], v60.2)).bind fun v62 =>
    (wantV v54.1 true).bind fun v63 =>
    (bif v63 then pv v62.2 (E.p.len 23 v62.1) else some (.tup [], v62.2)).bind fun v64 =>
    (wantV v54.1 true).bind fun v65 =>
    (bif v65 then pv v64.2 (E.p.bin .eql 3 v64.1 (.int .i64 0)) else some (.tup [], v64.2)).bind fun v66 =>
    (E.p.pick v54.1 v66.1 (.bool false)).bind fun v67 =>
    (wantV v67 true).bind fun v68 =>
    (bif v68 then some (x3, v66.2) else some (.tup [], v66.2)).bind fun v69 =>
    (wantV v67 true).bind fun v70 =>
    (bif v70 then some (x4, v69.2) else some (.tup [], v69.2)).bind fun v71 =>
    (wantV v67 true).bind fun v72 =>
    (bif v72 then some (x7, v71.2) else some (.tup [], v71.2)).bind fun v73 =>
    (wantV v67 true).bind fun v74 =>
    (bif v74 then some (x6, v73.2) else some (.tup [], v73.2)).bind fun v75 =>
    (wantV v67 true).bind fun v76 =>
    (bif v76 then E.C fn_impl_Joins [v69.1, v71.1, v73.1, v75.1] v75.2 else some (.tup [], v75.2)).bind fun v77 =>
    (wantV v67 true).bind fun v78 =>
    (bif v78 then some (x3, v77.2) else some (.tup [], v77.2)).bind fun v79 =>
    (wantV v67 true).bind fun v80 =>
    (bif v80 then some (x4, v79.2) else some (.tup [], v79.2)).bind fun v81 =>
    (wantV v67 true).bind fun v82 =>
    (bif v82 then some (x5, v81.2) else some (.tup [], v81.2)).bind fun v83 =>
    (wantV v67 true).bind fun v84 =>
    (bif v84 then some (x6, v83.2) else some (.tup [], v83.2)).bind fun v85 =>
    (wantV v67 true).bind fun v86 =>
    (bif v86 then E.C fn_impl_GapOf [v79.1, v81.1, v83.1, v85.1] v85.2 else some (.tup [], v85.2)).bind fun v87 =>
    (wantV v67 true).bind fun v88 =>
    (bif v88 then pv v87.2 (E.p.bin .geq 3 v87.1 (.int .i64 0)) else some (.tup [], v87.2)).bind fun v89 =>
    (wantV v67 true).bind fun v90 =>
    (bif v90 then pv v89.2 (E.p.bin .eql 4 v77.1 v89.1) else some (.tup [], v89.2)).bind fun v91 =>
    (E.p.pick v67 v91.1 (.bool false)).bind fun v92 =>
    (resV v92).bind fun v93 =>
    some (v93, v91.2) := by kernel_rfl
theorem top_sr_2 (x2 : PV) (h : PHeap) : kTop Tryd.prog Tryd.f6 .ret (sr_2 x2 h) =
    (resV x2).bind fun v130 =>
    some (v130, h) := by kernel_rfl
noncomputable def main (E : Env) (x0 : PV) (h : PHeap) : Res :=
    (E.p.len 22 x0).bind fun v1 =>
    (E.p.bin .gtr 3 v1 (.int .i64 1048576)).bind fun v2 =>
    condP v2
     (
      (resV (.bool true)).bind fun v3 =>
      some (v3, h))
     (
      (E.C fn_spec_DrawFilled [x0] h).bind fun v4 =>
      (E.p.extract v4.1 0).bind fun v5 =>
      (E.p.extract v4.1 1).bind fun v6 =>
      (E.p.extract v4.1 2).bind fun v7 =>
      (E.p.extract v4.1 3).bind fun v8 =>
      (E.C fn_impl_Filled [v5, v6, v7, v8] v4.2).bind fun v9 =>
      (E.C fn_spec_Filled [v5, v6, v7, v8] v9.2).bind fun v10 =>
      (E.C fn_laws_sameInts [v9.1, v10.1] v10.2).bind fun v11 =>
      (E.p.un .not v11.1).bind fun v12 =>
      condP v12
       (
        (resV (.bool false)).bind fun v13 =>
        some (v13, v11.2))
       (
        (E.p.len 23 v9.1).bind fun v14 =>
        (E.p.bin .eql 3 v14 (.int .i64 0)).bind fun v15 =>
        condP v15
         (
          (E.C fn_laws_alive [] v11.2).bind fun v16 =>
          (resV v16.1).bind fun v17 =>
          some (v17, v16.2))
         (
          loopK (ev (E.cx Tryd.prog laws_FnFilled.kl) laws_FnFilled.lp0) E.lf (laws_FnFilled.st0 v5 v6 v7 v8 v9.1 (.int .i64 0) v11.2) (laws_FnFilled.K0 E (kTop Tryd.prog Tryd.f6)))))
theorem main_eq (E : Env) (x0 : PV) (h : PHeap) : runBody (E.cx Tryd.prog kl) Tryd.f6 [x0] h = main E x0 h := by kernel_rfl
theorem call_eq (g : Nat → PV) (lf n : Nat) (x0 : PV) (h : PHeap) : CL g lf (n + 1) fn_laws_FnFilled [x0] h = main (env g lf n) x0 h := by
  rw [← main_eq]
  show (match Tryd.prog.funcs[6]? with | some fn => if fn.body.isSome then runBody ⟨Tryd.prog, g, call Tryd.prog g KL lf n, KL 6, lf, std Tryd.prog⟩ fn [x0] h else none | none => none) = _
  rw [Tryd.func6]
  kernel_rfl
end laws_FnFilled
namespace laws_FnGapCells
noncomputable def lp0 : Code := (codeAt (bodyOf Tryd.f7) [1, 1, 1, 1, 1, 1, 1, 1, 0, 1, 0, 0])
def st0 (x3 x4 x5 x6 x7 x8 x9 x10 : PV) (h : PHeap) : St := ⟨[.junk, .junk, .junk, x3, x4, x5, x6, x7, x8, x9, x10, .junk, .junk, .junk, .junk, .junk, .junk, .junk, .junk, .junk, .junk, .junk, .junk, .junk, .junk, .junk, .junk, .junk, .junk, .junk, .junk, .junk, .junk, .junk, .junk, .junk, .junk, .junk, .junk, .junk, .junk, .junk, .junk, .junk, .junk, .junk, .junk, .junk, .junk, .junk, .junk, .junk, .junk, .junk, .junk, .junk, .junk, .junk, .junk, .junk, .junk, .junk, .junk, .junk, .junk, .junk, .junk, .junk, .junk, .junk, .junk, .junk, .junk, .junk, .junk, .junk, .junk, .junk, .junk, .junk, .junk, .junk, .junk, .junk, .junk, .junk, .junk, .junk, .junk, .junk, .junk, .junk, .junk], h⟩
def sr_2 (x2 : PV) (h : PHeap) : St := ⟨[.junk, .junk, x2, .junk, .junk, .junk, .junk, .junk, .junk, .junk, .junk, .junk, .junk, .junk, .junk, .junk, .junk, .junk, .junk, .junk, .junk, .junk, .junk, .junk, .junk, .junk, .junk, .junk, .junk, .junk, .junk, .junk, .junk, .junk, .junk, .junk, .junk, .junk, .junk, .junk, .junk, .junk, .junk, .junk, .junk, .junk, .junk, .junk, .junk, .junk, .junk, .junk, .junk, .junk, .junk, .junk, .junk, .junk, .junk, .junk, .junk, .junk, .junk, .junk, .junk, .junk, .junk, .junk, .junk, .junk, .junk, .junk, .junk, .junk, .junk, .junk, .junk, .junk, .junk, .junk, .junk, .junk, .junk, .junk, .junk, .junk, .junk, .junk, .junk, .junk, .junk, .junk, .junk], h⟩
def se0_3_4_5_6_7_8_9_10_56 (x3 x4 x5 x6 x7 x8 x9 x10 x56 : PV) (h : PHeap) : St := ⟨[.junk, .junk, .junk, x3, x4, x5, x6, x7, x8, x9, x10, .junk, .junk, .junk, .junk, .junk, .junk, .junk, .junk, .junk, .junk, .junk, .junk, .junk, .junk, .junk, .junk, .junk, .junk, .junk, .junk, .junk, .junk, .junk, .junk, .junk, .junk, .junk, .junk, .junk, .junk, .junk, .junk, .junk, .junk, .junk, .junk, .junk, .junk, .junk, .junk, .junk, .junk, .junk, .junk, .junk, x56, .junk, .junk, .junk, .junk, .junk, .junk, .junk, .junk, .junk, .junk, .junk, .junk, .junk, .junk, .junk, .junk, .junk, .junk, .junk, .junk, .junk, .junk, .junk, .junk, .junk, .junk, .junk, .junk, .junk, .junk, .junk, .junk, .junk, .junk, .junk, .junk], h⟩
noncomputable def K0 (E : Env) (K : PX → St → Res) : PX → St → Res := (kBlock 0 (kSeq (ev (E.cx Tryd.prog kl) (codeAt (bodyOf Tryd.f7) [1, 1, 1, 1, 1, 1, 1, 1, 1])) K))
@[simp] theorem K0_ret (E : Env) (K : PX → St → Res) (s : St) : K0 E K .ret s = K .ret s := by kernel_rfl
noncomputable def body0 (E : Env) (K : PX → St → Res) (x3 x4 x5 x6 x7 x8 x9 x10 : PV) (h : PHeap) : Res :=
    (E.p.len 23 x9).bind fun v52 =>
    (E.p.bin .lss 3 x10 v52).bind fun v53 =>
    condP v53
     (
      (E.p.buildSlice 23 0 [] h).bind fun v54 =>
      (E.p.append 23 23 v54.1 x5 v54.2).bind fun v55 =>
      (E.p.indexAddr 23 x9 x10).bind fun v56 =>
      (E.p.load 3 v56 v55.2).bind fun v57 =>
      (E.p.indexAddr 23 v55.1 v57).bind fun v58 =>
      (E.p.store 3 v58 x6 v55.2).bind fun v59 =>
      (E.p.indexAddr 23 x9 x10).bind fun v60 =>
      (E.p.load 3 v60 v59).bind fun v61 =>
      (E.C fn_laws_hasInt [x7, v61] v59).bind fun v62 =>
      condP v62.1
       (
        (E.p.bin .sub 3 x8 (.int .i64 1)).bind fun v63 =>
        (E.C fn_impl_GapOf [x3, x4, v55.1, x6] v62.2).bind fun v64 =>
        (E.p.bin .neq 3 v64.1 v63).bind fun v65 =>
        condP v65
         (
          K .ret (sr_2 (.bool false) v64.2))
         (
          (E.p.bin .add 3 x10 (.int .i64 1)).bind fun v66 =>
          K .normal (st0 x3 x4 x5 x6 x7 x8 x9 v66 v64.2)))
       (
        (E.C fn_impl_GapOf [x3, x4, v55.1, x6] v62.2).bind fun v67 =>
        (E.p.bin .neq 3 v67.1 x8).bind fun v68 =>
        condP v68
         (
          K .ret (sr_2 (.bool false) v67.2))
         (
          (E.p.bin .add 3 x10 (.int .i64 1)).bind fun v69 =>
          K .normal (st0 x3 x4 x5 x6 x7 x8 x9 v69 v67.2))))
     (
      K (.exit 0) (se0_3_4_5_6_7_8_9_10_56 x3 x4 x5 x6 x7 x8 x9 x10 v53 h))
theorem body0_eq (E : Env) (K : PX → St → Res) (x3 x4 x5 x6 x7 x8 x9 x10 : PV) (h : PHeap) : ev (E.cx Tryd.prog kl) lp0 (st0 x3 x4 x5 x6 x7 x8 x9 x10 h) K = body0 E K x3 x4 x5 x6 x7 x8 x9 x10 h := by kernel_rfl
theorem after0_se0_3_4_5_6_7_8_9_10_56 (E : Env) (x3 x4 x5 x6 x7 x8 x9 x10 x56 : PV) (h : PHeap) : K0 E (kTop Tryd.prog Tryd.f7) (.exit 0) (se0_3_4_5_6_7_8_9_10_56 x3 x4 x5 x6 x7 x8 x9 x10 x56 h) =
    (E.C fn_laws_ascend [x7] h).bind fun v41 =>
    (wantV v41.1 true).bind fun v42 =>
    (bif v42 then some (x7, v41.2) else some (.tup [], v41.2)).bind fun v43 =>
    (wantV v41.1 true).bind fun v44 =>
    (bif v44 then pv v43.2 (E.p.len 23 v43.1) else some (.tup [], v43.2)).bind fun v45 =>
    (wantV v41.1 true).bind fun v46 =>
    (bif v46 then some (x8, v45.2) else some (.tup [], v45.2)).bind fun v47 =>
    (wantV v41.1 true).bind fun v48 =>
    (bif v48 then pv v47.2 (E.p.bin .geq 3 v45.1 v47.1) else some (.tup [], v47.2)).bind fun v49 =>
    (E.p.pick v41.1 v49.1 (.bool false)).bind fun v50 =>
    (resV v50).bind fun v51 =>
    some (v51, v49.2) := by kernel_rfl
theorem top_sr_2 (x2 : PV) (h : PHeap) : kTop Tryd.prog Tryd.f7 .ret (sr_2 x2 h) =
    (resV x2).bind fun v70 =>
    some (v70, h) := by kernel_rfl
noncomputable def main (E : Env) (x0 : PV) (h : PHeap) : Res :=
    (E.p.len 22 x0).bind fun v1 =>
    (E.p.bin .gtr 3 v1 (.int .i64 1048576)).bind fun v2 =>
    condP v2
     (
      (resV (.bool true)).bind fun v3 =>
      some (v3, h))
     (
      (E.C fn_spec_DrawGapCells [x0] h).bind fun v4 =>
      (E.p.extract v4.1 0).bind fun v5 =>
      (E.p.extract v4.1 1).bind fun v6 =>
      (E.p.extract v4.1 2).bind fun v7 =>
      (E.p.extract v4.1 3).bind fun v8 =>
      (E.C fn_impl_GapCells [v5, v6, v7, v8] v4.2).bind fun v9 =>
      (E.C fn_spec_GapCells [v5, v6, v7, v8] v9.2).bind fun v10 =>
      (E.C fn_laws_sameInts [v9.1, v10.1] v10.2).bind fun v11 =>
      (E.p.un .not v11.1).bind fun v12 =>
      condP v12
       (
        (resV (.bool false)).bind fun v13 =>
        some (v13, v11.2))
       (
        (E.C fn_impl_GapOf [v5, v6, v7, v8] v11.2).bind fun v14 =>
        (E.p.bin .leq 3 v14.1 (.int .i64 0)).bind fun v15 =>
        condP v15
         (
          (E.p.len 23 v9.1).bind fun v16 =>
          (E.p.bin .eql 3 v16 (.int .i64 0)).bind fun v17 =>
          (wantV v17 true).bind fun v18 =>
          (bif v18 then E.C fn_laws_alive [] v14.2 else some (.tup [], v14.2)).bind fun v19 =>
          (E.p.pick v17 v19.1 (.bool false)).bind fun v20 =>
          (resV v20).bind fun v21 =>
          some (v21, v19.2))
         (
          (E.C fn_impl_CellsOf [v5, v6, v7, (.int .i64 0)] v14.2).bind fun v22 =>
          loopK (ev (E.cx Tryd.prog laws_FnGapCells.kl) laws_FnGapCells.lp0) E.lf (laws_FnGapCells.st0 v5 v6 v7 v8 v9.1 v14.1 v22.1 (.int .i64 0) v22.2) (laws_FnGapCells.K0 E (kTop Tryd.prog Tryd.f7)))))
theorem main_eq (E : Env) (x0 : PV) (h : PHeap) : runBody (E.cx Tryd.prog kl) Tryd.f7 [x0] h = main E x0 h := by kernel_rfl
theorem call_eq (g : Nat → PV) (lf n : Nat) (x0 : PV) (h : PHeap) : CL g lf (n + 1) fn_laws_FnGapCells [x0] h = main (env g lf n) x0 h := by
  rw [← main_eq]
  show (match Tryd.prog.funcs[7]? with | some fn => if fn.body.isSome then runBody ⟨Tryd.prog, g, call Tryd.prog g KL lf n, KL 7, lf, std Tryd.prog⟩ fn [x0] h else none | none => none) = _
  rw [Tryd.func7]
  kernel_rfl
end laws_FnGapCells
namespace laws_FnGapFree
noncomputable def main (E : Env) (x0 : PV) (h : PHeap) : Res :=
    (E.p.len 22 x0).bind fun v1 =>
    (E.p.bin .gtr 3 v1 (.int .i64 1048576)).bind fun v2 =>
    condP v2
     (
      (resV (.bool true)).bind fun v3 =>
      some (v3, h))
     (
      (E.C fn_spec_DrawGapOf [x0] h).bind fun v4 =>
      (E.p.extract v4.1 0).bind fun v5 =>
      (E.p.extract v4.1 1).bind fun v6 =>
      (E.p.extract v4.1 2).bind fun v7 =>
      (E.p.extract v4.1 3).bind fun v8 =>
      (E.C fn_spec_PositionOk [v5, v6, v7] v4.2).bind fun v9 =>
      (E.p.un .not v9.1).bind fun v10 =>
      (wantV v10 false).bind fun v11 =>
      (bif v11 then some (v8, v9.2) else some (.tup [], v9.2)).bind fun v12 =>
      (wantV v10 false).bind fun v13 =>
      (bif v13 then pv v12.2 (E.p.bin .gtr 3 v12.1 (.int .i64 2)) else some (.tup [], v12.2)).bind fun v14 =>
      (E.p.pick v10 (.bool true) v14.1).bind fun v15 =>
      condP v15
       (
        (E.C fn_impl_GapOf [v5, v6, v7, v8] v14.2).bind fun v16 =>
        (E.p.bin .eql 3 v16.1 (.int .i64 (-1))).bind fun v17 =>
        (wantV v17 true).bind fun v18 =>
        (bif v18 then E.C fn_laws_alive [] v16.2 else some (.tup [], v16.2)).bind fun v19 =>
        (E.p.pick v17 v19.1 (.bool false)).bind fun v20 =>
        (resV v20).bind fun v21 =>
        some (v21, v19.2))
       (
        (E.p.bin .mul 3 v5 v6).bind fun v22 =>
        (E.p.make 23 v22 v22 v14.2).bind fun v23 =>
        (E.C fn_laws_alive [] v23.2).bind fun v24 =>
        (wantV v24.1 true).bind fun v25 =>
        (bif v25 then some (v5, v24.2) else some (.tup [], v24.2)).bind fun v26 =>
        (wantV v24.1 true).bind fun v27 =>
        (bif v27 then some (v6, v26.2) else some (.tup [], v26.2)).bind fun v28 =>
        (wantV v24.1 true).bind fun v29 =>
        (bif v29 then some (v23.1, v28.2) else some (.tup [], v28.2)).bind fun v30 =>
        (wantV v24.1 true).bind fun v31 =>
        (bif v31 then E.C fn_impl_GapOf [v26.1, v28.1, v30.1, (.int .i64 1)] v30.2 else some (.tup [], v30.2)).bind fun v32 =>
        (wantV v24.1 true).bind fun v33 =>
        (bif v33 then some (v5, v32.2) else some (.tup [], v32.2)).bind fun v34 =>
        (wantV v24.1 true).bind fun v35 =>
        (bif v35 then pv v34.2 (E.p.bin .eql 3 v32.1 v34.1) else some (.tup [], v34.2)).bind fun v36 =>
        (wantV v24.1 true).bind fun v37 =>
        (bif v37 then some (v36.1, v36.2) else some (.tup [], v36.2)).bind fun v38 =>
        (wantV v38.1 true).bind fun v39 =>
        (bif v39 then some (v5, v38.2) else some (.tup [], v38.2)).bind fun v40 =>
        (wantV v38.1 true).bind fun v41 =>
        (bif v41 then some (v6, v40.2) else some (.tup [], v40.2)).bind fun v42 =>
        (wantV v38.1 true).bind fun v43 =>
        (bif v43 then some (v23.1, v42.2) else some (.tup [], v42.2)).bind fun v44 =>
        (wantV v38.1 true).bind fun v45 =>
        (bif v45 then E.C fn_impl_GapOf [v40.1, v42.1, v44.1, (.int .i64 2)] v44.2 else some (.tup [], v44.2)).bind fun v46 =>
        (wantV v38.1 true).bind fun v47 =>
        (bif v47 then some (v6, v46.2) else some (.tup [], v46.2)).bind fun v48 =>
        (wantV v38.1 true).bind fun v49 =>
        (bif v49 then pv v48.2 (E.p.bin .eql 3 v46.1 v48.1) else some (.tup [], v48.2)).bind fun v50 =>
        (wantV v24.1 true).bind fun v51 =>
        (bif v51 then pv v50.2 (E.p.pick v38.1 v50.1 (.bool false)) else some (.tup [], v50.2)).bind fun v52 =>
        (wantV v24.1 true).bind fun v53 =>
        (bif v53 then some (v52.1, v52.2) else some (.tup [], v52.2)).bind fun v54 =>
        (wantV v54.1 true).bind fun v55 =>
        (bif v55 then some (v6, v54.2) else some (.tup [], v54.2)).bind fun v56 =>
        (wantV v54.1 true).bind fun v57 =>
        (bif v57 then some (v5, v56.2) else some (.tup [], v56.2)).bind fun v58 =>
        (wantV v54.1 true).bind fun v59 =>
        (bif v59 then some (v5, v58.2) else some (.tup [], v58.2)).bind fun v60 =>
        (wantV v54.1 true).bind fun v61 =>
        (bif v61 then some (v6, v60.2) else some (.tup [], v60.2)).bind fun v62 =>
        (wantV v54.1 true).bind fun v63 =>
        (bif v63 then some (v7, v62.2) else some (.tup [], v62.2)).bind fun v64 =>
        (wantV v54.1 true).bind fun v65 =>
        (bif v65 then E.C fn_impl_Mirrored [v60.1, v62.1, v64.1] v64.2 else some (.tup [], v64.2)).bind fun v66 =>
        (wantV v54.1 true).bind fun v67 =>
        (bif v67 then some (v8, v66.2) else some (.tup [], v66.2)).bind fun v68 =>
        (wantV v54.1 true).bind fun v69 =>
        (bif v69 then pv v68.2 (E.p.bin .sub 3 (.int .i64 3) v68.1) else some (.tup [], v68.2)).bind fun v70 =>
        (wantV v54.1 true).bind fun v71 =>
        (bif v71 then E.C fn_impl_GapOf [v56.1, v58.1, v66.1, v70.1] v70.2 else some (.tup [], v70.2)).bind fun v72 =>
        (wantV v54.1 true).bind fun v73 =>
        (bif v73 then some (v5, v72.2) else some (.tup [], v72.2)).bind fun v74 =>
        (wantV v54.1 true).bind fun v75 =>
        (bif v75 then some (v6, v74.2) else some (.tup [], v74.2)).bind fun v76 =>
        (wantV v54.1 true).bind fun v77 =>
        (bif v77 then some (v7, v76.2) else some (.tup [], v76.2)).bind fun v78 =>
        (wantV v54.1 true).bind fun v79 =>
        (bif v79 then some (v8, v78.2) else some (.tup [], v78.2)).bind fun v80 =>
        (wantV v54.1 true).bind fun v81 =>
        (bif v81 then E.C fn_impl_GapOf [v74.1, v76.1, v78.1, v80.1] v80.2 else some (.tup [], v80.2)).bind fun v82 =>
        (wantV v54.1 true).bind fun v83 =>
        (bif v83 then pv v82.2 (E.p.bin .eql 3 v72.1 v82.1) else some (.tup [], v82.2)).bind fun v84 =>
        (wantV v24.1 true).bind fun v85 =>
        (bif v85 then pv v84.2 (E.p.pick v54.1 v84.1 (.bool false)) else some (.tup [], v84.2)).bind fun v86 =>
        (E.p.pick v24.1 v86.1 (.bool false)).bind fun v87 =>
        (resV v87).bind fun v88 =>
        some (v88, v86.2)))
theorem main_eq (E : Env) (x0 : PV) (h : PHeap) : runBody (E.cx Tryd.prog kl) Tryd.f8 [x0] h = main E x0 h := by kernel_rfl
theorem call_eq (g : Nat → PV) (lf n : Nat) (x0 : PV) (h : PHeap) : CL g lf (n + 1) fn_laws_FnGapFree [x0] h = main (env g lf n) x0 h := by
  rw [← main_eq]
  show (match Tryd.prog.funcs[8]? with | some fn => if fn.body.isSome then runBody ⟨Tryd.prog, g, call Tryd.prog g KL lf n, KL 8, lf, std Tryd.prog⟩ fn [x0] h else none | none => none) = _
  rw [Tryd.func8]
  kernel_rfl
end laws_FnGapFree
namespace laws_FnGroupJoins
noncomputable def lp0 : Code := (codeAt (bodyOf Tryd.f9) [1, 1, 1, 1, 1, 0, 1, 0, 0])
def st0 (x3 x4 x5 x6 x7 x8 : PV) (h : PHeap) : St := ⟨[.junk, .junk, .junk, x3, x4, x5, x6, x7, x8, .junk, .junk, .junk, .junk, .junk, .junk, .junk, .junk, .junk, .junk, .junk, .junk, .junk, .junk, .junk, .junk, .junk, .junk, .junk, .junk, .junk, .junk, .junk, .junk, .junk, .junk, .junk, .junk, .junk, .junk, .junk, .junk, .junk, .junk, .junk, .junk, .junk, .junk, .junk, .junk, .junk, .junk, .junk, .junk, .junk, .junk, .junk, .junk, .junk, .junk, .junk, .junk, .junk, .junk, .junk, .junk, .junk, .junk, .junk, .junk, .junk, .junk, .junk, .junk, .junk, .junk, .junk, .junk, .junk, .junk, .junk, .junk, .junk, .junk, .junk, .junk, .junk, .junk, .junk, .junk, .junk, .junk, .junk, .junk, .junk, .junk, .junk, .junk, .junk, .junk, .junk, .junk, .junk, .junk, .junk, .junk, .junk, .junk, .junk, .junk, .junk, .junk, .junk], h⟩
noncomputable def lp1 : Code := (codeAt (bodyOf Tryd.f9) [1, 1, 1, 1, 1, 0, 1, 0, 0, 1, 0, 0, 1, 1, 1, 1, 0, 1, 0, 0])
def st1 (x3 x4 x5 x6 x7 x8 x9 x10 x11 x12 : PV) (h : PHeap) : St := ⟨[.junk, .junk, .junk, x3, x4, x5, x6, x7, x8, x9, x10, x11, x12, .junk, .junk, .junk, .junk, .junk, .junk, .junk, .junk, .junk, .junk, .junk, .junk, .junk, .junk, .junk, .junk, .junk, .junk, .junk, .junk, .junk, .junk, .junk, .junk, .junk, .junk, .junk, .junk, .junk, .junk, .junk, .junk, .junk, .junk, .junk, .junk, .junk, .junk, .junk, .junk, .junk, .junk, .junk, .junk, .junk, .junk, .junk, .junk, .junk, .junk, .junk, .junk, .junk, .junk, .junk, .junk, .junk, .junk, .junk, .junk, .junk, .junk, .junk, .junk, .junk, .junk, .junk, .junk, .junk, .junk, .junk, .junk, .junk, .junk, .junk, .junk, .junk, .junk, .junk, .junk, .junk, .junk, .junk, .junk, .junk, .junk, .junk, .junk, .junk, .junk, .junk, .junk, .junk, .junk, .junk, .junk, .junk, .junk, .junk], h⟩
def se0_3_4_5_6_7_8_46 (x3 x4 x5 x6 x7 x8 x46 : PV) (h : PHeap) : St := ⟨[.junk, .junk, .junk, x3, x4, x5, x6, x7, x8, .junk, .junk, .junk, .junk, .junk, .junk, .junk, .junk, .junk, .junk, .junk, .junk, .junk, .junk, .junk, .junk, .junk, .junk, .junk, .junk, .junk, .junk, .junk, .junk, .junk, .junk, .junk, .junk, .junk, .junk, .junk, .junk, .junk, .junk, .junk, .junk, .junk, x46, .junk, .junk, .junk, .junk, .junk, .junk, .junk, .junk, .junk, .junk, .junk, .junk, .junk, .junk, .junk, .junk, .junk, .junk, .junk, .junk, .junk, .junk, .junk, .junk, .junk, .junk, .junk, .junk, .junk, .junk, .junk, .junk, .junk, .junk, .junk, .junk, .junk, .junk, .junk, .junk, .junk, .junk, .junk, .junk, .junk, .junk, .junk, .junk, .junk, .junk, .junk, .junk, .junk, .junk, .junk, .junk, .junk, .junk, .junk, .junk, .junk, .junk, .junk, .junk, .junk], h⟩
def se2_3_4_5_6_7_8_9_10_11_12_63 (x3 x4 x5 x6 x7 x8 x9 x10 x11 x12 x63 : PV) (h : PHeap) : St := ⟨[.junk, .junk, .junk, x3, x4, x5, x6, x7, x8, x9, x10, x11, x12, .junk, .junk, .junk, .junk, .junk, .junk, .junk, .junk, .junk, .junk, .junk, .junk, .junk, .junk, .junk, .junk, .junk, .junk, .junk, .junk, .junk, .junk, .junk, .junk, .junk, .junk, .junk, .junk, .junk, .junk, .junk, .junk, .junk, .junk, .junk, .junk, .junk, .junk, .junk, .junk, .junk, .junk, .junk, .junk, .junk, .junk, .junk, .junk, .junk, .junk, x63, .junk, .junk, .junk, .junk, .junk, .junk, .junk, .junk, .junk, .junk, .junk, .junk, .junk, .junk, .junk, .junk, .junk, .junk, .junk, .junk, .junk, .junk, .junk, .junk, .junk, .junk, .junk, .junk, .junk, .junk, .junk, .junk, .junk, .junk, .junk, .junk, .junk, .junk, .junk, .junk, .junk, .junk, .junk, .junk, .junk, .junk, .junk, .junk], h⟩
noncomputable def K0 (E : Env) (K : PX → St → Res) : PX → St → Res := (kBlock 0 (kSeq (ev (E.cx Tryd.prog kl) (codeAt (bodyOf Tryd.f9) [1, 1, 1, 1, 1, 1])) K))
@[simp] theorem K0_ret (E : Env) (K : PX → St → Res) (s : St) : K0 E K .ret s = K .ret s := by kernel_rfl
noncomputable def K1 (E : Env) (K : PX → St → Res) : PX → St → Res := (kBlock 2 (kSeq (ev (E.cx Tryd.prog kl) (codeAt (bodyOf Tryd.f9) [1, 1, 1, 1, 1, 0, 1, 0, 0, 1, 0, 0, 1, 1, 1, 1, 1])) (kBlock 1 (kSeq (ev (E.cx Tryd.prog kl) (codeAt (bodyOf Tryd.f9) [1, 1, 1, 1, 1, 0, 1, 0, 0, 1, 1])) K))))
@[simp] theorem K1_ret (E : Env) (K : PX → St → Res) (s : St) : K1 E K .ret s = K .ret s := by kernel_rfl
noncomputable def body0 (E : Env) (K : PX → St → Res) (x3 x4 x5 x6 x7 x8 : PV) (h : PHeap) : Res :=
    (E.p.len 23 x5).bind fun v82 =>
    (E.p.bin .lss 3 x8 v82).bind fun v83 =>
    condP v83
     (
      (E.p.indexAddr 23 x5 x8).bind fun v84 =>
      (E.p.load 3 v84 h).bind fun v85 =>
      (E.p.bin .neq 3 v85 x6).bind fun v86 =>
      condP v86
       (
        (E.p.bin .add 3 x8 (.int .i64 1)).bind fun v87 =>
        K .normal (st0 x3 x4 x5 x6 x7 v87 h))
       (
        (E.C fn_impl_GroupOf [x3, x4, x5, x8] h).bind fun v88 =>
        loopK (ev (E.cx Tryd.prog laws_FnGroupJoins.kl) laws_FnGroupJoins.lp1) E.lf (laws_FnGroupJoins.st1 x3 x4 x5 x6 x7 x8 v88.1 (.bool false) (.bool false) (.int .i64 0) v88.2) (laws_FnGroupJoins.K1 E K)))
     (
      K (.exit 0) (se0_3_4_5_6_7_8_46 x3 x4 x5 x6 x7 x8 v83 h))
theorem body0_eq (E : Env) (K : PX → St → Res) (x3 x4 x5 x6 x7 x8 : PV) (h : PHeap) : ev (E.cx Tryd.prog kl) lp0 (st0 x3 x4 x5 x6 x7 x8 h) K = body0 E K x3 x4 x5 x6 x7 x8 h := by kernel_rfl
noncomputable def body1 (E : Env) (K : PX → St → Res) (x3 x4 x5 x6 x7 x8 x9 x10 x11 x12 : PV) (h : PHeap) : Res :=
    (E.p.len 23 x9).bind fun v89 =>
    (E.p.bin .lss 3 x12 v89).bind fun v90 =>
    condP v90
     (
      (E.p.indexAddr 23 x9 x12).bind fun v91 =>
      (E.p.load 3 v91 h).bind fun v92 =>
      (E.p.bin .quo 3 v92 x4).bind fun v93 =>
      (E.p.bin .sub 3 x3 (.int .i64 1)).bind fun v94 =>
      (E.p.bin .eql 3 x6 (.int .i64 2)).bind fun v95 =>
      condP v95
       (
        (E.p.indexAddr 23 x9 x12).bind fun v96 =>
        (E.p.load 3 v96 h).bind fun v97 =>
        (E.p.bin .rem 3 v97 x4).bind fun v98 =>
        (E.p.bin .sub 3 x4 (.int .i64 1)).bind fun v99 =>
        (wantV x10 false).bind fun v100 =>
        (bif v100 then some (v98, h) else some (.tup [], h)).bind fun v101 =>
        (wantV x10 false).bind fun v102 =>
        (bif v102 then pv v101.2 (E.p.bin .eql 3 v101.1 (.int .i64 0)) else some (.tup [], v101.2)).bind fun v103 =>
        (E.p.pick x10 (.bool true) v103.1).bind fun v104 =>
        (wantV x11 false).bind fun v105 =>
        (bif v105 then some (v98, v103.2) else some (.tup [], v103.2)).bind fun v106 =>
        (wantV x11 false).bind fun v107 =>
        (bif v107 then some (v99, v106.2) else some (.tup [], v106.2)).bind fun v108 =>
        (wantV x11 false).bind fun v109 =>
        (bif v109 then pv v108.2 (E.p.bin .eql 3 v106.1 v108.1) else some (.tup [], v108.2)).bind fun v110 =>
        (E.p.pick x11 (.bool true) v110.1).bind fun v111 =>
        (E.p.bin .add 3 x12 (.int .i64 1)).bind fun v112 =>
        K .normal (st1 x3 x4 x5 x6 x7 x8 x9 v104 v111 v112 v110.2))
       (
        (wantV x10 false).bind fun v113 =>
        (bif v113 then some (v93, h) else some (.tup [], h)).bind fun v114 =>
        (wantV x10 false).bind fun v115 =>
        (bif v115 then pv v114.2 (E.p.bin .eql 3 v114.1 (.int .i64 0)) else some (.tup [], v114.2)).bind fun v116 =>
        (E.p.pick x10 (.bool true) v116.1).bind fun v117 =>
        (wantV x11 false).bind fun v118 =>
        (bif v118 then some (v93, v116.2) else some (.tup [], v116.2)).bind fun v119 =>
        (wantV x11 false).bind fun v120 =>
        (bif v120 then some (v94, v119.2) else some (.tup [], v119.2)).bind fun v121 =>
        (wantV x11 false).bind fun v122 =>
        (bif v122 then pv v121.2 (E.p.bin .eql 3 v119.1 v121.1) else some (.tup [], v121.2)).bind fun v123 =>
        (E.p.pick x11 (.bool true) v123.1).bind fun v124 =>
        (E.p.bin .add 3 x12 (.int .i64 1)).bind fun v125 =>
        K .normal (st1 x3 x4 x5 x6 x7 x8 x9 v117 v124 v125 v123.2)))
     (
      K (.exit 2) (se2_3_4_5_6_7_8_9_10_11_12_63 x3 x4 x5 x6 x7 x8 x9 x10 x11 x12 v90 h))
theorem body1_eq (E : Env) (K : PX → St → Res) (x3 x4 x5 x6 x7 x8 x9 x10 x11 x12 : PV) (h : PHeap) : ev (E.cx Tryd.prog kl) lp1 (st1 x3 x4 x5 x6 x7 x8 x9 x10 x11 x12 h) K = body1 E K x3 x4 x5 x6 x7 x8 x9 x10 x11 x12 h := by kernel_rfl
theorem after0_se0_3_4_5_6_7_8_46 (E : Env) (x3 x4 x5 x6 x7 x8 x46 : PV) (h : PHeap) : K0 E (kTop Tryd.prog Tryd.f9) (.exit 0) (se0_3_4_5_6_7_8_46 x3 x4 x5 x6 x7 x8 x46 h) =
    (E.C fn_impl_Joins [x3, x4, x5, x6] h).bind fun v66 =>
    (E.p.bin .eql 4 v66.1 x7).bind fun v67 =>
    (wantV v67 true).bind fun v68 =>
    (bif v68 then E.C fn_laws_alive [] v66.2 else some (.tup [], v66.2)).bind fun v69 =>
    (E.p.pick v67 v69.1 (.bool false)).bind fun v70 =>
    (resV v70).bind fun v71 =>
    some (v71, v69.2) := by kernel_rfl
theorem after1_se2_3_4_5_6_7_8_9_10_11_12_63 (E : Env) (K : PX → St → Res) (x3 x4 x5 x6 x7 x8 x9 x10 x11 x12 x63 : PV) (h : PHeap) : K1 E K (.exit 2) (se2_3_4_5_6_7_8_9_10_11_12_63 x3 x4 x5 x6 x7 x8 x9 x10 x11 x12 x63 h) =
    (wantV x7 false).bind fun v72 =>
    (bif v72 then some (x10, h) else some (.tup [], h)).bind fun v73 =>
    (wantV x7 false).bind fun v74 =>
    (bif v74 then some (v73.1, v73.2) else some (.tup [], v73.2)).bind fun v75 =>
    (wantV v75.1 true).bind fun v76 =>
    (bif v76 then some (x11, v75.2) else some (.tup [], v75.2)).bind fun v77 =>
    (wantV x7 false).bind fun v78 =>
    (bif v78 then pv v77.2 (E.p.pick v75.1 v77.1 (.bool false)) else some (.tup [], v77.2)).bind fun v79 =>
    (E.p.pick x7 (.bool true) v79.1).bind fun v80 =>
    (E.p.bin .add 3 x8 (.int .i64 1)).bind fun v81 =>
    K .normal (st0 x3 x4 x5 x6 v80 v81 v79.2) := by kernel_rfl
noncomputable def main (E : Env) (x0 : PV) (h : PHeap) : Res :=
    (E.p.len 22 x0).bind fun v1 =>
    (E.p.bin .gtr 3 v1 (.int .i64 1048576)).bind fun v2 =>
    condP v2
     (
      (resV (.bool true)).bind fun v3 =>
      some (v3, h))
     (
      (E.C fn_spec_DrawJoins [x0] h).bind fun v4 =>
      (E.p.extract v4.1 0).bind fun v5 =>
      (E.p.extract v4.1 1).bind fun v6 =>
      (E.p.extract v4.1 2).bind fun v7 =>
      (E.p.extract v4.1 3).bind fun v8 =>
      (E.C fn_spec_PositionOk [v5, v6, v7] v4.2).bind fun v9 =>
      (E.p.un .not v9.1).bind fun v10 =>
      (wantV v10 false).bind fun v11 =>
      (bif v11 then some (v8, v9.2) else some (.tup [], v9.2)).bind fun v12 =>
      (wantV v10 false).bind fun v13 =>
      (bif v13 then pv v12.2 (E.p.bin .gtr 3 v12.1 (.int .i64 2)) else some (.tup [], v12.2)).bind fun v14 =>
      (E.p.pick v10 (.bool true) v14.1).bind fun v15 =>
      condP v15
       (
        (E.C fn_impl_Joins [v5, v6, v7, v8] v14.2).bind fun v16 =>
        (E.p.un .not v16.1).bind fun v17 =>
        (wantV v17 true).bind fun v18 =>
        (bif v18 then E.C fn_laws_alive [] v16.2 else some (.tup [], v16.2)).bind fun v19 =>
        (E.p.pick v17 v19.1 (.bool false)).bind fun v20 =>
        (resV v20).bind fun v21 =>
        some (v21, v19.2))
       (
        loopK (ev (E.cx Tryd.prog laws_FnGroupJoins.kl) laws_FnGroupJoins.lp0) E.lf (laws_FnGroupJoins.st0 v5 v6 v7 v8 (.bool false) (.int .i64 0) v14.2) (laws_FnGroupJoins.K0 E (kTop Tryd.prog Tryd.f9))))
theorem main_eq (E : Env) (x0 : PV) (h : PHeap) : runBody (E.cx Tryd.prog kl) Tryd.f9 [x0] h = main E x0 h := by kernel_rfl
theorem call_eq (g : Nat → PV) (lf n : Nat) (x0 : PV) (h : PHeap) : CL g lf (n + 1) fn_laws_FnGroupJoins [x0] h = main (env g lf n) x0 h := by
  rw [← main_eq]
  show (match Tryd.prog.funcs[9]? with | some fn => if fn.body.isSome then runBody ⟨Tryd.prog, g, call Tryd.prog g KL lf n, KL 9, lf, std Tryd.prog⟩ fn [x0] h else none | none => none) = _
  rw [Tryd.func9]
  kernel_rfl
end laws_FnGroupJoins
namespace laws_FnExactJoins
noncomputable def main (E : Env) (x0 x1 x2 x3 : PV) (h : PHeap) : Res :=
    (E.p.len 23 x2).bind fun v1 =>
    (E.p.bin .gtr 3 v1 (.int .i64 1048576)).bind fun v2 =>
    condP v2
     (
      (resV (.bool true)).bind fun v3 =>
      some (v3, h))
     (
      (E.C fn_laws_toIntS [x2] h).bind fun v4 =>
      (E.C fn_spec_Joins [x0, x1, v4.1, x3] v4.2).bind fun v5 =>
      (E.C fn_laws_toIntS [x2] v5.2).bind fun v6 =>
      (E.C fn_impl_Joins [x0, x1, v6.1, x3] v6.2).bind fun v7 =>
      (E.p.bin .neq 4 v7.1 v5.1).bind fun v8 =>
      condP v8
       (
        (resV (.bool false)).bind fun v9 =>
        some (v9, v7.2))
       (
        (E.C fn_laws_toIntS [x2] v7.2).bind fun v10 =>
        (E.C fn_laws_eqIntS [v6.1, v10.1] v10.2).bind fun v11 =>
        (E.p.un .not v11.1).bind fun v12 =>
        condP v12
         (
          (resV (.bool false)).bind fun v13 =>
          some (v13, v11.2))
         (
          (resV (.bool true)).bind fun v14 =>
          some (v14, v11.2))))
theorem main_eq (E : Env) (x0 x1 x2 x3 : PV) (h : PHeap) : runBody (E.cx Tryd.prog kl) Tryd.f10 [x0, x1, x2, x3] h = main E x0 x1 x2 x3 h := by kernel_rfl
theorem call_eq (g : Nat → PV) (lf n : Nat) (x0 x1 x2 x3 : PV) (h : PHeap) : CL g lf (n + 1) fn_laws_FnExactJoins [x0, x1, x2, x3] h = main (env g lf n) x0 x1 x2 x3 h := by
  rw [← main_eq]
  show (match Tryd.prog.funcs[10]? with | some fn => if fn.body.isSome then runBody ⟨Tryd.prog, g, call Tryd.prog g KL lf n, KL 10, lf, std Tryd.prog⟩ fn [x0, x1, x2, x3] h else none | none => none) = _
  rw [Tryd.func10]
  kernel_rfl
end laws_FnExactJoins
namespace laws_FnExactGroupOf
noncomputable def main (E : Env) (x0 x1 x2 x3 : PV) (h : PHeap) : Res :=
    (E.p.len 23 x2).bind fun v1 =>
    (E.p.bin .gtr 3 v1 (.int .i64 1048576)).bind fun v2 =>
    condP v2
     (
      (resV (.bool true)).bind fun v3 =>
      some (v3, h))
     (
      (E.C fn_laws_toIntS [x2] h).bind fun v4 =>
      (E.C fn_spec_GroupOf [x0, x1, v4.1, x3] v4.2).bind fun v5 =>
      (E.C fn_laws_toIntS [x2] v5.2).bind fun v6 =>
      (E.C fn_impl_GroupOf [x0, x1, v6.1, x3] v6.2).bind fun v7 =>
      (E.C fn_laws_eqIntS [v7.1, v5.1] v7.2).bind fun v8 =>
      (E.p.un .not v8.1).bind fun v9 =>
      condP v9
       (
        (resV (.bool false)).bind fun v10 =>
        some (v10, v8.2))
       (
        (E.C fn_laws_toIntS [x2] v8.2).bind fun v11 =>
        (E.C fn_laws_eqIntS [v6.1, v11.1] v11.2).bind fun v12 =>
        (E.p.un .not v12.1).bind fun v13 =>
        condP v13
         (
          (resV (.bool false)).bind fun v14 =>
          some (v14, v12.2))
         (
          (E.C fn_laws_markIntS [v6.1, (.int .i64 1)] v12.2).bind fun v15 =>
          (E.p.bin .lss 3 v15.1 (.int .i64 0)).bind fun v16 =>
          (wantV v16 false).bind fun v17 =>
          (bif v17 then some (v7.1, v15.2) else some (.tup [], v15.2)).bind fun v18 =>
          (wantV v16 false).bind fun v19 =>
          (bif v19 then some (v5.1, v18.2) else some (.tup [], v18.2)).bind fun v20 =>
          (wantV v16 false).bind fun v21 =>
          (bif v21 then E.C fn_laws_eqIntS [v18.1, v20.1] v20.2 else some (.tup [], v20.2)).bind fun v22 =>
          (wantV v16 false).bind fun v23 =>
          (bif v23 then pv v22.2 (E.p.un .not v22.1) else some (.tup [], v22.2)).bind fun v24 =>
          (E.p.pick v16 (.bool true) v24.1).bind fun v25 =>
          condP v25
           (
            (resV (.bool false)).bind fun v26 =>
            some (v26, v24.2))
           (
            (E.C fn_laws_markIntS [v7.1, (.int .i64 1)] v24.2).bind fun v27 =>
            (E.C fn_laws_heldIntS [v7.1, (.int .i64 1)] v27.2).bind fun v28 =>
            (E.p.bin .lss 3 v28.1 (.int .i64 0)).bind fun v29 =>
            condP v29
             (
              (resV (.bool false)).bind fun v30 =>
              some (v30, v28.2))
             (
              (E.p.bin .neq 3 v28.1 v27.1).bind fun v31 =>
              condP v31
               (
                (resV (.bool false)).bind fun v32 =>
                some (v32, v28.2))
               (
                (E.C fn_laws_toIntS [x2] v28.2).bind fun v33 =>
                (E.C fn_impl_GroupOf [x0, x1, v33.1, x3] v33.2).bind fun v34 =>
                (E.C fn_laws_eqIntS [v34.1, v5.1] v34.2).bind fun v35 =>
                (E.p.un .not v35.1).bind fun v36 =>
                condP v36
                 (
                  (resV (.bool false)).bind fun v37 =>
                  some (v37, v35.2))
                 (
                  (E.C fn_laws_heldIntS [v7.1, (.int .i64 1)] v35.2).bind fun v38 =>
                  (E.p.bin .lss 3 v38.1 (.int .i64 0)).bind fun v39 =>
                  condP v39
                   (
                    (resV (.bool false)).bind fun v40 =>
                    some (v40, v38.2))
                   (
                    (E.p.bin .neq 3 v38.1 v27.1).bind fun v41 =>
                    condP v41
                     (
                      (resV (.bool false)).bind fun v42 =>
                      some (v42, v38.2))
                     (
                      (resV (.bool true)).bind fun v43 =>
                      some (v43, v38.2))))))))))
theorem main_eq (E : Env) (x0 x1 x2 x3 : PV) (h : PHeap) : runBody (E.cx Tryd.prog kl) Tryd.f11 [x0, x1, x2, x3] h = main E x0 x1 x2 x3 h := by kernel_rfl
theorem call_eq (g : Nat → PV) (lf n : Nat) (x0 x1 x2 x3 : PV) (h : PHeap) : CL g lf (n + 1) fn_laws_FnExactGroupOf [x0, x1, x2, x3] h = main (env g lf n) x0 x1 x2 x3 h := by
  rw [← main_eq]
  show (match Tryd.prog.funcs[11]? with | some fn => if fn.body.isSome then runBody ⟨Tryd.prog, g, call Tryd.prog g KL lf n, KL 11, lf, std Tryd.prog⟩ fn [x0, x1, x2, x3] h else none | none => none) = _
  rw [Tryd.func11]
  kernel_rfl
end laws_FnExactGroupOf
namespace laws_FnExactGapOf
noncomputable def main (E : Env) (x0 x1 x2 x3 : PV) (h : PHeap) : Res :=
    (E.p.len 23 x2).bind fun v1 =>
    (E.p.bin .gtr 3 v1 (.int .i64 1048576)).bind fun v2 =>
    condP v2
     (
      (resV (.bool true)).bind fun v3 =>
      some (v3, h))
     (
      (E.C fn_laws_toIntS [x2] h).bind fun v4 =>
      (E.C fn_spec_GapOf [x0, x1, v4.1, x3] v4.2).bind fun v5 =>
      (E.C fn_laws_toIntS [x2] v5.2).bind fun v6 =>
      (E.C fn_impl_GapOf [x0, x1, v6.1, x3] v6.2).bind fun v7 =>
      (E.p.bin .neq 3 v7.1 v5.1).bind fun v8 =>
      condP v8
       (
        (resV (.bool false)).bind fun v9 =>
        some (v9, v7.2))
       (
        (E.C fn_laws_toIntS [x2] v7.2).bind fun v10 =>
        (E.C fn_laws_eqIntS [v6.1, v10.1] v10.2).bind fun v11 =>
        (E.p.un .not v11.1).bind fun v12 =>
        condP v12
         (
          (resV (.bool false)).bind fun v13 =>
          some (v13, v11.2))
         (
          (resV (.bool true)).bind fun v14 =>
          some (v14, v11.2))))
theorem main_eq (E : Env) (x0 x1 x2 x3 : PV) (h : PHeap) : runBody (E.cx Tryd.prog kl) Tryd.f12 [x0, x1, x2, x3] h = main E x0 x1 x2 x3 h := by kernel_rfl
theorem call_eq (g : Nat → PV) (lf n : Nat) (x0 x1 x2 x3 : PV) (h : PHeap) : CL g lf (n + 1) fn_laws_FnExactGapOf [x0, x1, x2, x3] h = main (env g lf n) x0 x1 x2 x3 h := by
  rw [← main_eq]
  show (match Tryd.prog.funcs[12]? with | some fn => if fn.body.isSome then runBody ⟨Tryd.prog, g, call Tryd.prog g KL lf n, KL 12, lf, std Tryd.prog⟩ fn [x0, x1, x2, x3] h else none | none => none) = _
  rw [Tryd.func12]
  kernel_rfl
end laws_FnExactGapOf
namespace laws_FnExactGapCells
noncomputable def main (E : Env) (x0 x1 x2 x3 : PV) (h : PHeap) : Res :=
    (E.p.len 23 x2).bind fun v1 =>
    (E.p.bin .gtr 3 v1 (.int .i64 1048576)).bind fun v2 =>
    condP v2
     (
      (resV (.bool true)).bind fun v3 =>
      some (v3, h))
     (
      (E.C fn_laws_toIntS [x2] h).bind fun v4 =>
      (E.C fn_spec_GapCells [x0, x1, v4.1, x3] v4.2).bind fun v5 =>
      (E.C fn_laws_toIntS [x2] v5.2).bind fun v6 =>
      (E.C fn_impl_GapCells [x0, x1, v6.1, x3] v6.2).bind fun v7 =>
      (E.C fn_laws_eqIntS [v7.1, v5.1] v7.2).bind fun v8 =>
      (E.p.un .not v8.1).bind fun v9 =>
      condP v9
       (
        (resV (.bool false)).bind fun v10 =>
        some (v10, v8.2))
       (
        (E.C fn_laws_toIntS [x2] v8.2).bind fun v11 =>
        (E.C fn_laws_eqIntS [v6.1, v11.1] v11.2).bind fun v12 =>
        (E.p.un .not v12.1).bind fun v13 =>
        condP v13
         (
          (resV (.bool false)).bind fun v14 =>
          some (v14, v12.2))
         (
          (E.C fn_laws_markIntS [v6.1, (.int .i64 1)] v12.2).bind fun v15 =>
          (E.p.bin .lss 3 v15.1 (.int .i64 0)).bind fun v16 =>
          (wantV v16 false).bind fun v17 =>
          (bif v17 then some (v7.1, v15.2) else some (.tup [], v15.2)).bind fun v18 =>
          (wantV v16 false).bind fun v19 =>
          (bif v19 then some (v5.1, v18.2) else some (.tup [], v18.2)).bind fun v20 =>
          (wantV v16 false).bind fun v21 =>
          (bif v21 then E.C fn_laws_eqIntS [v18.1, v20.1] v20.2 else some (.tup [], v20.2)).bind fun v22 =>
          (wantV v16 false).bind fun v23 =>
          (bif v23 then pv v22.2 (E.p.un .not v22.1) else some (.tup [], v22.2)).bind fun v24 =>
          (E.p.pick v16 (.bool true) v24.1).bind fun v25 =>
          condP v25
           (
            (resV (.bool false)).bind fun v26 =>
            some (v26, v24.2))
           (
            (E.C fn_laws_markIntS [v7.1, (.int .i64 1)] v24.2).bind fun v27 =>
            (E.C fn_laws_heldIntS [v7.1, (.int .i64 1)] v27.2).bind fun v28 =>
            (E.p.bin .lss 3 v28.1 (.int .i64 0)).bind fun v29 =>
            condP v29
             (
              (resV (.bool false)).bind fun v30 =>
              some (v30, v28.2))
             (
              (E.p.bin .neq 3 v28.1 v27.1).bind fun v31 =>
              condP v31
               (
                (resV (.bool false)).bind fun v32 =>
                some (v32, v28.2))
               (
                (E.C fn_laws_toIntS [x2] v28.2).bind fun v33 =>
                (E.C fn_impl_GapCells [x0, x1, v33.1, x3] v33.2).bind fun v34 =>
                (E.C fn_laws_eqIntS [v34.1, v5.1] v34.2).bind fun v35 =>
                (E.p.un .not v35.1).bind fun v36 =>
                condP v36
                 (
                  (resV (.bool false)).bind fun v37 =>
                  some (v37, v35.2))
                 (
                  (E.C fn_laws_heldIntS [v7.1, (.int .i64 1)] v35.2).bind fun v38 =>
                  (E.p.bin .lss 3 v38.1 (.int .i64 0)).bind fun v39 =>
                  condP v39
                   (
                    (resV (.bool false)).bind fun v40 =>
                    some (v40, v38.2))
                   (
                    (E.p.bin .neq 3 v38.1 v27.1).bind fun v41 =>
                    condP v41
                     (
                      (resV (.bool false)).bind fun v42 =>
                      some (v42, v38.2))
                     (
                      (resV (.bool true)).bind fun v43 =>
                      some (v43, v38.2))))))))))
theorem main_eq (E : Env) (x0 x1 x2 x3 : PV) (h : PHeap) : runBody (E.cx Tryd.prog kl) Tryd.f13 [x0, x1, x2, x3] h = main E x0 x1 x2 x3 h := by kernel_rfl
theorem call_eq (g : Nat → PV) (lf n : Nat) (x0 x1 x2 x3 : PV) (h : PHeap) : CL g lf (n + 1) fn_laws_FnExactGapCells [x0, x1, x2, x3] h = main (env g lf n) x0 x1 x2 x3 h := by
  rw [← main_eq]
  show (match Tryd.prog.funcs[13]? with | some fn => if fn.body.isSome then runBody ⟨Tryd.prog, g, call Tryd.prog g KL lf n, KL 13, lf, std Tryd.prog⟩ fn [x0, x1, x2, x3] h else none | none => none) = _
  rw [Tryd.func13]
  kernel_rfl
end laws_FnExactGapCells
namespace spec_DrawJoins
noncomputable def main (E : Env) (x0 : PV) (h : PHeap) : Res :=
    (E.C fn_spec_l20Open [x0] h).bind fun v1 =>
    (E.C fn_spec_l20Sided [v1.1, (.int .i64 14)] v1.2).bind fun v2 =>
    (E.p.extract v2.1 0).bind fun v3 =>
    (E.p.extract v2.1 1).bind fun v4 =>
    (E.p.extract v2.1 2).bind fun v5 =>
    (E.p.extract v2.1 3).bind fun v6 =>
    (resV v3).bind fun v7 =>
    (resV v4).bind fun v8 =>
    (resV v5).bind fun v9 =>
    (resV v6).bind fun v10 =>
    some (.tup [v7, v8, v9, v10], v2.2)
theorem main_eq (E : Env) (x0 : PV) (h : PHeap) : runBody (E.cx Tryd.prog kl) Tryd.f14 [x0] h = main E x0 h := by kernel_rfl
theorem call_eq (g : Nat → PV) (lf n : Nat) (x0 : PV) (h : PHeap) : CL g lf (n + 1) fn_spec_DrawJoins [x0] h = main (env g lf n) x0 h := by
  rw [← main_eq]
  show (match Tryd.prog.funcs[14]? with | some fn => if fn.body.isSome then runBody ⟨Tryd.prog, g, call Tryd.prog g KL lf n, KL 14, lf, std Tryd.prog⟩ fn [x0] h else none | none => none) = _
  rw [Tryd.func14]
  kernel_rfl
end spec_DrawJoins
namespace impl_Joins
noncomputable def main (E : Env) (x0 x1 x2 x3 : PV) (h : PHeap) : Res :=
    (E.C fn_impl_PositionOk [x0, x1, x2] h).bind fun v1 =>
    (E.p.un .not v1.1).bind fun v2 =>
    (wantV v2 false).bind fun v3 =>
    (bif v3 then some (x3, v1.2) else some (.tup [], v1.2)).bind fun v4 =>
    (wantV v2 false).bind fun v5 =>
    (bif v5 then E.C fn_impl_playerOk [v4.1] v4.2 else some (.tup [], v4.2)).bind fun v6 =>
    (wantV v2 false).bind fun v7 =>
    (bif v7 then pv v6.2 (E.p.un .not v6.1) else some (.tup [], v6.2)).bind fun v8 =>
    (E.p.pick v2 (.bool true) v8.1).bind fun v9 =>
    condP v9
     (
      (resV (.bool false)).bind fun v10 =>
      some (v10, v8.2))
     (
      (E.C fn_impl_sidesOf [x0, x1, x3] v8.2).bind fun v11 =>
      (E.p.extract v11.1 0).bind fun v12 =>
      (E.p.extract v11.1 1).bind fun v13 =>
      (E.C fn_impl_setOf [x2, x3] v11.2).bind fun v14 =>
      (E.p.bin .and 3 v12 v14.1).bind fun v15 =>
      (E.C fn_impl_grown [x0, x1, v15, v14.1] v14.2).bind fun v16 =>
      (E.p.bin .and 3 v16.1 v13).bind fun v17 =>
      (E.p.bin .neq 3 v17 (.int .i64 0)).bind fun v18 =>
      (resV v18).bind fun v19 =>
      some (v19, v16.2))
theorem main_eq (E : Env) (x0 x1 x2 x3 : PV) (h : PHeap) : runBody (E.cx Tryd.prog kl) Tryd.f15 [x0, x1, x2, x3] h = main E x0 x1 x2 x3 h := by kernel_rfl
theorem call_eq (g : Nat → PV) (lf n : Nat) (x0 x1 x2 x3 : PV) (h : PHeap) : CL g lf (n + 1) fn_impl_Joins [x0, x1, x2, x3] h = main (env g lf n) x0 x1 x2 x3 h := by
  rw [← main_eq]
  show (match Tryd.prog.funcs[15]? with | some fn => if fn.body.isSome then runBody ⟨Tryd.prog, g, call Tryd.prog g KL lf n, KL 15, lf, std Tryd.prog⟩ fn [x0, x1, x2, x3] h else none | none => none) = _
  rw [Tryd.func15]
  kernel_rfl
end impl_Joins
namespace spec_Joins
noncomputable def main (E : Env) (x0 x1 x2 x3 : PV) (h : PHeap) : Res :=
    (E.C fn_spec_PositionOk [x0, x1, x2] h).bind fun v1 =>
    (E.p.un .not v1.1).bind fun v2 =>
    (wantV v2 false).bind fun v3 =>
    (bif v3 then some (x3, v1.2) else some (.tup [], v1.2)).bind fun v4 =>
    (wantV v2 false).bind fun v5 =>
    (bif v5 then E.C fn_spec_l1In [v4.1, (.int .i64 1), (.int .i64 2)] v4.2 else some (.tup [], v4.2)).bind fun v6 =>
    (wantV v2 false).bind fun v7 =>
    (bif v7 then pv v6.2 (E.p.un .not v6.1) else some (.tup [], v6.2)).bind fun v8 =>
    (E.p.pick v2 (.bool true) v8.1).bind fun v9 =>
    condP v9
     (
      (resV (.bool false)).bind fun v10 =>
      some (v10, v8.2))
     (
      (E.C fn_spec_l2Masks [x0, x1] v8.2).bind fun v11 =>
      (E.C fn_spec_l2Set [x2, x3] v11.2).bind fun v12 =>
      (E.C fn_spec_l2Joins [x0, x1, v11.1, v12.1, x3] v12.2).bind fun v13 =>
      (resV v13.1).bind fun v14 =>
      some (v14, v13.2))
theorem main_eq (E : Env) (x0 x1 x2 x3 : PV) (h : PHeap) : runBody (E.cx Tryd.prog kl) Tryd.f16 [x0, x1, x2, x3] h = main E x0 x1 x2 x3 h := by kernel_rfl
theorem call_eq (g : Nat → PV) (lf n : Nat) (x0 x1 x2 x3 : PV) (h : PHeap) : CL g lf (n + 1) fn_spec_Joins [x0, x1, x2, x3] h = main (env g lf n) x0 x1 x2 x3 h := by
  rw [← main_eq]
  show (match Tryd.prog.funcs[16]? with | some fn => if fn.body.isSome then runBody ⟨Tryd.prog, g, call Tryd.prog g KL lf n, KL 16, lf, std Tryd.prog⟩ fn [x0, x1, x2, x3] h else none | none => none) = _
  rw [Tryd.func16]
  kernel_rfl
end spec_Joins
namespace spec_PositionOk
noncomputable def lp0 : Code := (codeAt (bodyOf Tryd.f17) [1, 0, 1, 0, 0])
def st0 (x0 x1 x2 x7 : PV) (h : PHeap) : St := ⟨[x0, x1, x2, .junk, .junk, .junk, .junk, x7, .junk, .junk, .junk, .junk, .junk, .junk, .junk, .junk, .junk, .junk, .junk, .junk, .junk, .junk, .junk, .junk, .junk, .junk, .junk, .junk, .junk, .junk, .junk], h⟩
def sr_6 (x6 : PV) (h : PHeap) : St := ⟨[.junk, .junk, .junk, .junk, .junk, .junk, x6, .junk, .junk, .junk, .junk, .junk, .junk, .junk, .junk, .junk, .junk, .junk, .junk, .junk, .junk, .junk, .junk, .junk, .junk, .junk, .junk, .junk, .junk, .junk, .junk], h⟩
def se0_0_1_2_7_11 (x0 x1 x2 x7 x11 : PV) (h : PHeap) : St := ⟨[x0, x1, x2, .junk, .junk, .junk, .junk, x7, .junk, .junk, .junk, x11, .junk, .junk, .junk, .junk, .junk, .junk, .junk, .junk, .junk, .junk, .junk, .junk, .junk, .junk, .junk, .junk, .junk, .junk, .junk], h⟩
noncomputable def K0 (E : Env) (K : PX → St → Res) : PX → St → Res := (kBlock 0 (kSeq (ev (E.cx Tryd.prog kl) (codeAt (bodyOf Tryd.f17) [1, 1])) K))
@[simp] theorem K0_ret (E : Env) (K : PX → St → Res) (s : St) : K0 E K .ret s = K .ret s := by kernel_rfl
noncomputable def body0 (E : Env) (K : PX → St → Res) (x0 x1 x2 x7 : PV) (h : PHeap) : Res :=
    (E.p.len 23 x2).bind fun v23 =>
    (E.p.bin .lss 3 x7 v23).bind fun v24 =>
    condP v24
     (
      (E.p.indexAddr 23 x2 x7).bind fun v25 =>
      (E.p.load 3 v25 h).bind fun v26 =>
      (E.C fn_spec_l1In [v26, (.int .i64 0), (.int .i64 2)] h).bind fun v27 =>
      (E.p.un .not v27.1).bind fun v28 =>
      condP v28
       (
        K .ret (sr_6 (.bool false) v27.2))
       (
        (E.p.bin .add 3 x7 (.int .i64 1)).bind fun v29 =>
        K .normal (st0 x0 x1 x2 v29 v27.2)))
     (
      K (.exit 0) (se0_0_1_2_7_11 x0 x1 x2 x7 v24 h))
theorem body0_eq (E : Env) (K : PX → St → Res) (x0 x1 x2 x7 : PV) (h : PHeap) : ev (E.cx Tryd.prog kl) lp0 (st0 x0 x1 x2 x7 h) K = body0 E K x0 x1 x2 x7 h := by kernel_rfl
theorem after0_se0_0_1_2_7_11 (E : Env) (x0 x1 x2 x7 x11 : PV) (h : PHeap) : K0 E (kTop Tryd.prog Tryd.f17) (.exit 0) (se0_0_1_2_7_11 x0 x1 x2 x7 x11 h) =
    (E.C fn_spec_BoardOk [x0, x1] h).bind fun v8 =>
    (wantV v8.1 true).bind fun v9 =>
    (bif v9 then some (x2, v8.2) else some (.tup [], v8.2)).bind fun v10 =>
    (wantV v8.1 true).bind fun v11 =>
    (bif v11 then pv v10.2 (E.p.len 23 v10.1) else some (.tup [], v10.2)).bind fun v12 =>
    (wantV v8.1 true).bind fun v13 =>
    (bif v13 then some (x0, v12.2) else some (.tup [], v12.2)).bind fun v14 =>
    (wantV v8.1 true).bind fun v15 =>
    (bif v15 then some (x1, v14.2) else some (.tup [], v14.2)).bind fun v16 =>
    (wantV v8.1 true).bind fun v17 =>
    (bif v17 then pv v16.2 (E.p.bin .mul 3 v14.1 v16.1) else some (.tup [], v16.2)).bind fun v18 =>
    (wantV v8.1 true).bind fun v19 =>
    (bif v19 then pv v18.2 (E.p.bin .eql 3 v12.1 v18.1) else some (.tup [], v18.2)).bind fun v20 =>
    (E.p.pick v8.1 v20.1 (.bool false)).bind fun v21 =>
    (resV v21).bind fun v22 =>
    some (v22, v20.2) := by kernel_rfl
theorem top_sr_6 (x6 : PV) (h : PHeap) : kTop Tryd.prog Tryd.f17 .ret (sr_6 x6 h) =
    (resV x6).bind fun v30 =>
    some (v30, h) := by kernel_rfl
noncomputable def main (E : Env) (x0 x1 x2 : PV) (h : PHeap) : Res :=
    loopK (ev (E.cx Tryd.prog spec_PositionOk.kl) spec_PositionOk.lp0) E.lf (spec_PositionOk.st0 x0 x1 x2 (.int .i64 0) h) (spec_PositionOk.K0 E (kTop Tryd.prog Tryd.f17))
theorem main_eq (E : Env) (x0 x1 x2 : PV) (h : PHeap) : runBody (E.cx Tryd.prog kl) Tryd.f17 [x0, x1, x2] h = main E x0 x1 x2 h := by kernel_rfl
theorem call_eq (g : Nat → PV) (lf n : Nat) (x0 x1 x2 : PV) (h : PHeap) : CL g lf (n + 1) fn_spec_PositionOk [x0, x1, x2] h = main (env g lf n) x0 x1 x2 h := by
  rw [← main_eq]
  show (match Tryd.prog.funcs[17]? with | some fn => if fn.body.isSome then runBody ⟨Tryd.prog, g, call Tryd.prog g KL lf n, KL 17, lf, std Tryd.prog⟩ fn [x0, x1, x2] h else none | none => none) = _
  rw [Tryd.func17]
  kernel_rfl
end spec_PositionOk
namespace laws_alive
noncomputable def main (E : Env) (h : PHeap) : Res :=
    (E.C fn_impl_BoardOk [(.int .i64 2), (.int .i64 2)] h).bind fun v1 =>
    (wantV v1.1 true).bind fun v2 =>
    (bif v2 then E.C fn_impl_BoardOk [(.int .i64 0), (.int .i64 2)] v1.2 else some (.tup [], v1.2)).bind fun v3 =>
    (wantV v1.1 true).bind fun v4 =>
    (bif v4 then pv v3.2 (E.p.un .not v3.1) else some (.tup [], v3.2)).bind fun v5 =>
    (E.p.pick v1.1 v5.1 (.bool false)).bind fun v6 =>
    (resV v6).bind fun v7 =>
    some (v7, v5.2)
theorem main_eq (E : Env) (h : PHeap) : runBody (E.cx Tryd.prog kl) Tryd.f18 [] h = main E  h := by kernel_rfl
theorem call_eq (g : Nat → PV) (lf n : Nat) (h : PHeap) : CL g lf (n + 1) fn_laws_alive [] h = main (env g lf n)  h := by
  rw [← main_eq]
  show (match Tryd.prog.funcs[18]? with | some fn => if fn.body.isSome then runBody ⟨Tryd.prog, g, call Tryd.prog g KL lf n, KL 18, lf, std Tryd.prog⟩ fn [] h else none | none => none) = _
  rw [Tryd.func18]
  kernel_rfl
end laws_alive
namespace impl_Filled
noncomputable def lp0 : Code := (codeAt (bodyOf Tryd.f19) [1, 1, 1, 0, 1, 0, 0])
def st0 (x3 x9 x25 x26 x27 : PV) (h : PHeap) : St := ⟨[.junk, .junk, .junk, x3, .junk, .junk, .junk, .junk, .junk, x9, .junk, .junk, .junk, .junk, .junk, .junk, .junk, .junk, .junk, .junk, .junk, .junk, .junk, .junk, .junk, x25, x26, x27, .junk, .junk, .junk, .junk, .junk, .junk, .junk, .junk, .junk, .junk, .junk, .junk, .junk], h⟩
def se0_3_9_25_26_27_28 (x3 x9 x25 x26 x27 x28 : PV) (h : PHeap) : St := ⟨[.junk, .junk, .junk, x3, .junk, .junk, .junk, .junk, .junk, x9, .junk, .junk, .junk, .junk, .junk, .junk, .junk, .junk, .junk, .junk, .junk, .junk, .junk, .junk, .junk, x25, x26, x27, x28, .junk, .junk, .junk, .junk, .junk, .junk, .junk, .junk, .junk, .junk, .junk, .junk], h⟩
noncomputable def K0 (E : Env) (K : PX → St → Res) : PX → St → Res := (kBlock 0 (kSeq (ev (E.cx Tryd.prog kl) (codeAt (bodyOf Tryd.f19) [1, 1, 1, 1])) K))
@[simp] theorem K0_ret (E : Env) (K : PX → St → Res) (s : St) : K0 E K .ret s = K .ret s := by kernel_rfl
noncomputable def body0 (E : Env) (K : PX → St → Res) (x3 x9 x25 x26 x27 : PV) (h : PHeap) : Res :=
    (E.p.bin .lss 3 x27 x26).bind fun v25 =>
    condP v25
     (
      (E.p.indexAddr 23 x25 x27).bind fun v26 =>
      (E.p.load 3 v26 h).bind fun v27 =>
      (E.p.bin .eql 3 v27 (.int .i64 0)).bind fun v28 =>
      condP v28
       (
        (E.p.indexAddr 23 x9 x27).bind fun v29 =>
        (E.p.store 3 v29 x3 h).bind fun v30 =>
        (E.p.bin .add 3 x27 (.int .i64 1)).bind fun v31 =>
        K .normal (st0 x3 x9 x25 x26 v31 v30))
       (
        (E.p.indexAddr 23 x9 x27).bind fun v32 =>
        (E.p.store 3 v32 v27 h).bind fun v33 =>
        (E.p.bin .add 3 x27 (.int .i64 1)).bind fun v34 =>
        K .normal (st0 x3 x9 x25 x26 v34 v33)))
     (
      K (.exit 0) (se0_3_9_25_26_27_28 x3 x9 x25 x26 x27 v25 h))
theorem body0_eq (E : Env) (K : PX → St → Res) (x3 x9 x25 x26 x27 : PV) (h : PHeap) : ev (E.cx Tryd.prog kl) lp0 (st0 x3 x9 x25 x26 x27 h) K = body0 E K x3 x9 x25 x26 x27 h := by kernel_rfl
theorem after0_se0_3_9_25_26_27_28 (E : Env) (x3 x9 x25 x26 x27 x28 : PV) (h : PHeap) : K0 E (kTop Tryd.prog Tryd.f19) (.exit 0) (se0_3_9_25_26_27_28 x3 x9 x25 x26 x27 x28 h) =
    (resV x9).bind fun v24 =>
    some (v24, h) := by kernel_rfl
noncomputable def main (E : Env) (x0 x1 x2 x3 : PV) (h : PHeap) : Res :=
    (E.C fn_impl_PositionOk [x0, x1, x2] h).bind fun v1 =>
    (E.p.un .not v1.1).bind fun v2 =>
    (wantV v2 false).bind fun v3 =>
    (bif v3 then some (x3, v1.2) else some (.tup [], v1.2)).bind fun v4 =>
    (wantV v2 false).bind fun v5 =>
    (bif v5 then E.C fn_impl_playerOk [v4.1] v4.2 else some (.tup [], v4.2)).bind fun v6 =>
    (wantV v2 false).bind fun v7 =>
    (bif v7 then pv v6.2 (E.p.un .not v6.1) else some (.tup [], v6.2)).bind fun v8 =>
    (E.p.pick v2 (.bool true) v8.1).bind fun v9 =>
    condP v9
     (
      (resV .nilsl).bind fun v10 =>
      some (v10, v8.2))
     (
      (E.p.len 23 x2).bind fun v11 =>
      (E.p.make 23 v11 v11 v8.2).bind fun v12 =>
      (E.p.len 23 x2).bind fun v13 =>
      loopK (ev (E.cx Tryd.prog impl_Filled.kl) impl_Filled.lp0) E.lf (impl_Filled.st0 x3 v12.1 x2 v13 (.int .i64 0) v12.2) (impl_Filled.K0 E (kTop Tryd.prog Tryd.f19)))
theorem main_eq (E : Env) (x0 x1 x2 x3 : PV) (h : PHeap) : runBody (E.cx Tryd.prog kl) Tryd.f19 [x0, x1, x2, x3] h = main E x0 x1 x2 x3 h := by kernel_rfl
theorem call_eq (g : Nat → PV) (lf n : Nat) (x0 x1 x2 x3 : PV) (h : PHeap) : CL g lf (n + 1) fn_impl_Filled [x0, x1, x2, x3] h = main (env g lf n) x0 x1 x2 x3 h := by
  rw [← main_eq]
  show (match Tryd.prog.funcs[19]? with | some fn => if fn.body.isSome then runBody ⟨Tryd.prog, g, call Tryd.prog g KL lf n, KL 19, lf, std Tryd.prog⟩ fn [x0, x1, x2, x3] h else none | none => none) = _
  rw [Tryd.func19]
  kernel_rfl
end impl_Filled
namespace impl_HalfTurned
noncomputable def lp0 : Code := (codeAt (bodyOf Tryd.f20) [1, 1, 1, 0, 1, 0, 0])
def st0 (x2 x7 x18 x19 x20 : PV) (h : PHeap) : St := ⟨[.junk, .junk, x2, .junk, .junk, .junk, .junk, x7, .junk, .junk, .junk, .junk, .junk, .junk, .junk, .junk, .junk, .junk, x18, x19, x20, .junk, .junk, .junk, .junk, .junk, .junk, .junk, .junk, .junk, .junk, .junk, .junk, .junk, .junk], h⟩
def se0_2_7_18_19_20_21 (x2 x7 x18 x19 x20 x21 : PV) (h : PHeap) : St := ⟨[.junk, .junk, x2, .junk, .junk, .junk, .junk, x7, .junk, .junk, .junk, .junk, .junk, .junk, .junk, .junk, .junk, .junk, x18, x19, x20, x21, .junk, .junk, .junk, .junk, .junk, .junk, .junk, .junk, .junk, .junk, .junk, .junk, .junk], h⟩
noncomputable def K0 (E : Env) (K : PX → St → Res) : PX → St → Res := (kBlock 0 (kSeq (ev (E.cx Tryd.prog kl) (codeAt (bodyOf Tryd.f20) [1, 1, 1, 1])) K))
@[simp] theorem K0_ret (E : Env) (K : PX → St → Res) (s : St) : K0 E K .ret s = K .ret s := by kernel_rfl
noncomputable def body0 (E : Env) (K : PX → St → Res) (x2 x7 x18 x19 x20 : PV) (h : PHeap) : Res :=
    (E.p.bin .lss 3 x20 x19).bind fun v17 =>
    condP v17
     (
      (E.p.indexAddr 23 x18 x20).bind fun v18 =>
      (E.p.load 3 v18 h).bind fun v19 =>
      (E.p.len 23 x2).bind fun v20 =>
      (E.p.bin .sub 3 v20 (.int .i64 1)).bind fun v21 =>
      (E.p.bin .sub 3 v21 x20).bind fun v22 =>
      (E.p.indexAddr 23 x7 v22).bind fun v23 =>
      (E.p.store 3 v23 v19 h).bind fun v24 =>
      (E.p.bin .add 3 x20 (.int .i64 1)).bind fun v25 =>
      K .normal (st0 x2 x7 x18 x19 v25 v24))
     (
      K (.exit 0) (se0_2_7_18_19_20_21 x2 x7 x18 x19 x20 v17 h))
theorem body0_eq (E : Env) (K : PX → St → Res) (x2 x7 x18 x19 x20 : PV) (h : PHeap) : ev (E.cx Tryd.prog kl) lp0 (st0 x2 x7 x18 x19 x20 h) K = body0 E K x2 x7 x18 x19 x20 h := by kernel_rfl
theorem after0_se0_2_7_18_19_20_21 (E : Env) (x2 x7 x18 x19 x20 x21 : PV) (h : PHeap) : K0 E (kTop Tryd.prog Tryd.f20) (.exit 0) (se0_2_7_18_19_20_21 x2 x7 x18 x19 x20 x21 h) =
    (resV x7).bind fun v16 =>
    some (v16, h) := by kernel_rfl
noncomputable def main (E : Env) (x0 x1 x2 : PV) (h : PHeap) : Res :=
    (E.C fn_impl_PositionOk [x0, x1, x2] h).bind fun v1 =>
    (E.p.un .not v1.1).bind fun v2 =>
    condP v2
     (
      (resV .nilsl).bind fun v3 =>
      some (v3, v1.2))
     (
      (E.p.len 23 x2).bind fun v4 =>
      (E.p.make 23 v4 v4 v1.2).bind fun v5 =>
      (E.p.len 23 x2).bind fun v6 =>
      loopK (ev (E.cx Tryd.prog impl_HalfTurned.kl) impl_HalfTurned.lp0) E.lf (impl_HalfTurned.st0 x2 v5.1 x2 v6 (.int .i64 0) v5.2) (impl_HalfTurned.K0 E (kTop Tryd.prog Tryd.f20)))
theorem main_eq (E : Env) (x0 x1 x2 : PV) (h : PHeap) : runBody (E.cx Tryd.prog kl) Tryd.f20 [x0, x1, x2] h = main E x0 x1 x2 h := by kernel_rfl
theorem call_eq (g : Nat → PV) (lf n : Nat) (x0 x1 x2 : PV) (h : PHeap) : CL g lf (n + 1) fn_impl_HalfTurned [x0, x1, x2] h = main (env g lf n) x0 x1 x2 h := by
  rw [← main_eq]
  show (match Tryd.prog.funcs[20]? with | some fn => if fn.body.isSome then runBody ⟨Tryd.prog, g, call Tryd.prog g KL lf n, KL 20, lf, std Tryd.prog⟩ fn [x0, x1, x2] h else none | none => none) = _
  rw [Tryd.func20]
  kernel_rfl
end impl_HalfTurned
namespace impl_Mirrored
noncomputable def lp0 : Code := (codeAt (bodyOf Tryd.f21) [1, 1, 1, 0, 1, 0, 0])
def st0 (x0 x1 x7 x18 x19 x20 : PV) (h : PHeap) : St := ⟨[x0, x1, .junk, .junk, .junk, .junk, .junk, x7, .junk, .junk, .junk, .junk, .junk, .junk, .junk, .junk, .junk, .junk, x18, x19, x20, .junk, .junk, .junk, .junk, .junk, .junk, .junk, .junk, .junk, .junk, .junk, .junk, .junk, .junk], h⟩
def se0_0_1_7_18_19_20_21 (x0 x1 x7 x18 x19 x20 x21 : PV) (h : PHeap) : St := ⟨[x0, x1, .junk, .junk, .junk, .junk, .junk, x7, .junk, .junk, .junk, .junk, .junk, .junk, .junk, .junk, .junk, .junk, x18, x19, x20, x21, .junk, .junk, .junk, .junk, .junk, .junk, .junk, .junk, .junk, .junk, .junk, .junk, .junk], h⟩
noncomputable def K0 (E : Env) (K : PX → St → Res) : PX → St → Res := (kBlock 0 (kSeq (ev (E.cx Tryd.prog kl) (codeAt (bodyOf Tryd.f21) [1, 1, 1, 1])) K))
@[simp] theorem K0_ret (E : Env) (K : PX → St → Res) (s : St) : K0 E K .ret s = K .ret s := by kernel_rfl
noncomputable def body0 (E : Env) (K : PX → St → Res) (x0 x1 x7 x18 x19 x20 : PV) (h : PHeap) : Res :=
    (E.p.bin .lss 3 x20 x19).bind fun v16 =>
    condP v16
     (
      (E.p.indexAddr 23 x18 x20).bind fun v17 =>
      (E.p.load 3 v17 h).bind fun v18 =>
      (E.C fn_impl_mirroredCell [x0, x1, x20] h).bind fun v19 =>
      (E.C fn_impl_exchanged [v18] v19.2).bind fun v20 =>
      (E.p.indexAddr 23 x7 v19.1).bind fun v21 =>
      (E.p.store 3 v21 v20.1 v20.2).bind fun v22 =>
      (E.p.bin .add 3 x20 (.int .i64 1)).bind fun v23 =>
      K .normal (st0 x0 x1 x7 x18 x19 v23 v22))
     (
      K (.exit 0) (se0_0_1_7_18_19_20_21 x0 x1 x7 x18 x19 x20 v16 h))
theorem body0_eq (E : Env) (K : PX → St → Res) (x0 x1 x7 x18 x19 x20 : PV) (h : PHeap) : ev (E.cx Tryd.prog kl) lp0 (st0 x0 x1 x7 x18 x19 x20 h) K = body0 E K x0 x1 x7 x18 x19 x20 h := by kernel_rfl
theorem after0_se0_0_1_7_18_19_20_21 (E : Env) (x0 x1 x7 x18 x19 x20 x21 : PV) (h : PHeap) : K0 E (kTop Tryd.prog Tryd.f21) (.exit 0) (se0_0_1_7_18_19_20_21 x0 x1 x7 x18 x19 x20 x21 h) =
    (resV x7).bind fun v15 =>
    some (v15, h) := by kernel_rfl
noncomputable def main (E : Env) (x0 x1 x2 : PV) (h : PHeap) : Res :=
    (E.C fn_impl_PositionOk [x0, x1, x2] h).bind fun v1 =>
    (E.p.un .not v1.1).bind fun v2 =>
    condP v2
     (
      (resV .nilsl).bind fun v3 =>
      some (v3, v1.2))
     (
      (E.p.len 23 x2).bind fun v4 =>
      (E.p.make 23 v4 v4 v1.2).bind fun v5 =>
      (E.p.len 23 x2).bind fun v6 =>
      loopK (ev (E.cx Tryd.prog impl_Mirrored.kl) impl_Mirrored.lp0) E.lf (impl_Mirrored.st0 x0 x1 v5.1 x2 v6 (.int .i64 0) v5.2) (impl_Mirrored.K0 E (kTop Tryd.prog Tryd.f21)))
theorem main_eq (E : Env) (x0 x1 x2 : PV) (h : PHeap) : runBody (E.cx Tryd.prog kl) Tryd.f21 [x0, x1, x2] h = main E x0 x1 x2 h := by kernel_rfl
theorem call_eq (g : Nat → PV) (lf n : Nat) (x0 x1 x2 : PV) (h : PHeap) : CL g lf (n + 1) fn_impl_Mirrored [x0, x1, x2] h = main (env g lf n) x0 x1 x2 h := by
  rw [← main_eq]
  show (match Tryd.prog.funcs[21]? with | some fn => if fn.body.isSome then runBody ⟨Tryd.prog, g, call Tryd.prog g KL lf n, KL 21, lf, std Tryd.prog⟩ fn [x0, x1, x2] h else none | none => none) = _
  rw [Tryd.func21]
  kernel_rfl
end impl_Mirrored
namespace spec_DrawGroupOf
noncomputable def main (E : Env) (x0 : PV) (h : PHeap) : Res :=
    (E.C fn_spec_l20Open [x0] h).bind fun v1 =>
    (E.C fn_spec_l20Position [v1.1, (.int .i64 12)] v1.2).bind fun v2 =>
    (E.p.extract v2.1 0).bind fun v3 =>
    (E.p.extract v2.1 1).bind fun v4 =>
    (E.p.extract v2.1 2).bind fun v5 =>
    (E.p.len 23 v5).bind fun v6 =>
    (E.p.max v6 [(.int .i64 1)]).bind fun v7 =>
    (E.C fn_spec_l20Rd_pick [v1.1, v7] v2.2).bind fun v8 =>
    (E.C fn_spec_l20Rd_pick [v1.1, (.int .i64 40)] v8.2).bind fun v9 =>
    (E.p.bin .quo 3 v9.1 (.int .i64 39)).bind fun v10 =>
    (E.p.bin .mul 3 v10 (.int .i64 9)).bind fun v11 =>
    (E.p.bin .add 3 v8.1 v11).bind fun v12 =>
    (resV v3).bind fun v13 =>
    (resV v4).bind fun v14 =>
    (resV v5).bind fun v15 =>
    (resV v12).bind fun v16 =>
    some (.tup [v13, v14, v15, v16], v9.2)
theorem main_eq (E : Env) (x0 : PV) (h : PHeap) : runBody (E.cx Tryd.prog kl) Tryd.f22 [x0] h = main E x0 h := by kernel_rfl
theorem call_eq (g : Nat → PV) (lf n : Nat) (x0 : PV) (h : PHeap) : CL g lf (n + 1) fn_spec_DrawGroupOf [x0] h = main (env g lf n) x0 h := by
  rw [← main_eq]
  show (match Tryd.prog.funcs[22]? with | some fn => if fn.body.isSome then runBody ⟨Tryd.prog, g, call Tryd.prog g KL lf n, KL 22, lf, std Tryd.prog⟩ fn [x0] h else none | none => none) = _
  rw [Tryd.func22]
  kernel_rfl
end spec_DrawGroupOf
namespace impl_GroupOf
noncomputable def main (E : Env) (x0 x1 x2 x3 : PV) (h : PHeap) : Res :=
    (E.C fn_impl_PositionOk [x0, x1, x2] h).bind fun v1 =>
    (E.p.un .not v1.1).bind fun v2 =>
    (wantV v2 false).bind fun v3 =>
    (bif v3 then some (x0, v1.2) else some (.tup [], v1.2)).bind fun v4 =>
    (wantV v2 false).bind fun v5 =>
    (bif v5 then some (x1, v4.2) else some (.tup [], v4.2)).bind fun v6 =>
    (wantV v2 false).bind fun v7 =>
    (bif v7 then some (x3, v6.2) else some (.tup [], v6.2)).bind fun v8 =>
    (wantV v2 false).bind fun v9 =>
    (bif v9 then E.C fn_impl_cellOk [v4.1, v6.1, v8.1] v8.2 else some (.tup [], v8.2)).bind fun v10 =>
    (wantV v2 false).bind fun v11 =>
    (bif v11 then pv v10.2 (E.p.un .not v10.1) else some (.tup [], v10.2)).bind fun v12 =>
    (E.p.pick v2 (.bool true) v12.1).bind fun v13 =>
    (wantV v13 false).bind fun v14 =>
    (bif v14 then some (x2, v12.2) else some (.tup [], v12.2)).bind fun v15 =>
    (wantV v13 false).bind fun v16 =>
    (bif v16 then some (x3, v15.2) else some (.tup [], v15.2)).bind fun v17 =>
    (wantV v13 false).bind fun v18 =>
    (bif v18 then pv v17.2 (E.p.indexAddr 23 v15.1 v17.1) else some (.tup [], v17.2)).bind fun v19 =>
    (wantV v13 false).bind fun v20 =>
    (bif v20 then pv v19.2 (E.p.load 3 v19.1 v19.2) else some (.tup [], v19.2)).bind fun v21 =>
    (wantV v13 false).bind fun v22 =>
    (bif v22 then pv v21.2 (E.p.bin .eql 3 v21.1 (.int .i64 0)) else some (.tup [], v21.2)).bind fun v23 =>
    (E.p.pick v13 (.bool true) v23.1).bind fun v24 =>
    condP v24
     (
      (resV .nilsl).bind fun v25 =>
      some (v25, v23.2))
     (
      (E.p.bin .shl 3 (.int .i64 1) x3).bind fun v26 =>
      (E.p.indexAddr 23 x2 x3).bind fun v27 =>
      (E.p.load 3 v27 v23.2).bind fun v28 =>
      (E.C fn_impl_setOf [x2, v28] v23.2).bind fun v29 =>
      (E.C fn_impl_grown [x0, x1, v26, v29.1] v29.2).bind fun v30 =>
      (E.C fn_impl_cellsIn [v30.1] v30.2).bind fun v31 =>
      (resV v31.1).bind fun v32 =>
      some (v32, v31.2))
theorem main_eq (E : Env) (x0 x1 x2 x3 : PV) (h : PHeap) : runBody (E.cx Tryd.prog kl) Tryd.f23 [x0, x1, x2, x3] h = main E x0 x1 x2 x3 h := by kernel_rfl
theorem call_eq (g : Nat → PV) (lf n : Nat) (x0 x1 x2 x3 : PV) (h : PHeap) : CL g lf (n + 1) fn_impl_GroupOf [x0, x1, x2, x3] h = main (env g lf n) x0 x1 x2 x3 h := by
  rw [← main_eq]
  show (match Tryd.prog.funcs[23]? with | some fn => if fn.body.isSome then runBody ⟨Tryd.prog, g, call Tryd.prog g KL lf n, KL 23, lf, std Tryd.prog⟩ fn [x0, x1, x2, x3] h else none | none => none) = _
  rw [Tryd.func23]
  kernel_rfl
end impl_GroupOf
namespace laws_sameInts
noncomputable def lp0 : Code := (codeAt (bodyOf Tryd.f24) [1, 1, 0, 1, 0, 0])
def st0 (x0 x1 x5 : PV) (h : PHeap) : St := ⟨[x0, x1, .junk, .junk, .junk, x5, .junk, .junk, .junk, .junk, .junk, .junk, .junk, .junk, .junk, .junk, .junk, .junk, .junk, .junk, .junk, .junk, .junk, .junk, .junk, .junk], h⟩
def sr_4 (x4 : PV) (h : PHeap) : St := ⟨[.junk, .junk, .junk, .junk, x4, .junk, .junk, .junk, .junk, .junk, .junk, .junk, .junk, .junk, .junk, .junk, .junk, .junk, .junk, .junk, .junk, .junk, .junk, .junk, .junk, .junk], h⟩
def se0_0_1_5_14 (x0 x1 x5 x14 : PV) (h : PHeap) : St := ⟨[x0, x1, .junk, .junk, .junk, x5, .junk, .junk, .junk, .junk, .junk, .junk, .junk, .junk, x14, .junk, .junk, .junk, .junk, .junk, .junk, .junk, .junk, .junk, .junk, .junk], h⟩
noncomputable def K0 (E : Env) (K : PX → St → Res) : PX → St → Res := (kBlock 0 (kSeq (ev (E.cx Tryd.prog kl) (codeAt (bodyOf Tryd.f24) [1, 1, 1])) K))
@[simp] theorem K0_ret (E : Env) (K : PX → St → Res) (s : St) : K0 E K .ret s = K .ret s := by kernel_rfl
noncomputable def body0 (E : Env) (K : PX → St → Res) (x0 x1 x5 : PV) (h : PHeap) : Res :=
    (E.p.len 23 x0).bind fun v14 =>
    (E.p.bin .lss 3 x5 v14).bind fun v15 =>
    condP v15
     (
      (E.p.indexAddr 23 x0 x5).bind fun v16 =>
      (E.p.load 3 v16 h).bind fun v17 =>
      (E.p.indexAddr 23 x1 x5).bind fun v18 =>
      (E.p.load 3 v18 h).bind fun v19 =>
      (E.p.bin .neq 3 v17 v19).bind fun v20 =>
      condP v20
       (
        K .ret (sr_4 (.bool false) h))
       (
        (E.p.bin .add 3 x5 (.int .i64 1)).bind fun v21 =>
        K .normal (st0 x0 x1 v21 h)))
     (
      K (.exit 0) (se0_0_1_5_14 x0 x1 x5 v15 h))
theorem body0_eq (E : Env) (K : PX → St → Res) (x0 x1 x5 : PV) (h : PHeap) : ev (E.cx Tryd.prog kl) lp0 (st0 x0 x1 x5 h) K = body0 E K x0 x1 x5 h := by kernel_rfl
theorem after0_se0_0_1_5_14 (E : Env) (x0 x1 x5 x14 : PV) (h : PHeap) : K0 E (kTop Tryd.prog Tryd.f24) (.exit 0) (se0_0_1_5_14 x0 x1 x5 x14 h) =
    (resV (.bool true)).bind fun v13 =>
    some (v13, h) := by kernel_rfl
theorem top_sr_4 (x4 : PV) (h : PHeap) : kTop Tryd.prog Tryd.f24 .ret (sr_4 x4 h) =
    (resV x4).bind fun v22 =>
    some (v22, h) := by kernel_rfl
noncomputable def main (E : Env) (x0 x1 : PV) (h : PHeap) : Res :=
    (E.p.len 23 x0).bind fun v1 =>
    (E.p.len 23 x1).bind fun v2 =>
    (E.p.bin .neq 3 v1 v2).bind fun v3 =>
    condP v3
     (
      (resV (.bool false)).bind fun v4 =>
      some (v4, h))
     (
      loopK (ev (E.cx Tryd.prog laws_sameInts.kl) laws_sameInts.lp0) E.lf (laws_sameInts.st0 x0 x1 (.int .i64 0) h) (laws_sameInts.K0 E (kTop Tryd.prog Tryd.f24)))
theorem main_eq (E : Env) (x0 x1 : PV) (h : PHeap) : runBody (E.cx Tryd.prog kl) Tryd.f24 [x0, x1] h = main E x0 x1 h := by kernel_rfl
theorem call_eq (g : Nat → PV) (lf n : Nat) (x0 x1 : PV) (h : PHeap) : CL g lf (n + 1) fn_laws_sameInts [x0, x1] h = main (env g lf n) x0 x1 h := by
  rw [← main_eq]
  show (match Tryd.prog.funcs[24]? with | some fn => if fn.body.isSome then runBody ⟨Tryd.prog, g, call Tryd.prog g KL lf n, KL 24, lf, std Tryd.prog⟩ fn [x0, x1] h else none | none => none) = _
  rw [Tryd.func24]
  kernel_rfl
end laws_sameInts
namespace spec_GroupOf
noncomputable def main (E : Env) (x0 x1 x2 x3 : PV) (h : PHeap) : Res :=
    (E.C fn_spec_PositionOk [x0, x1, x2] h).bind fun v1 =>
    (E.p.un .not v1.1).bind fun v2 =>
    (wantV v2 false).bind fun v3 =>
    (bif v3 then some (x3, v1.2) else some (.tup [], v1.2)).bind fun v4 =>
    (wantV v2 false).bind fun v5 =>
    (bif v5 then some (x2, v4.2) else some (.tup [], v4.2)).bind fun v6 =>
    (wantV v2 false).bind fun v7 =>
    (bif v7 then pv v6.2 (E.p.len 23 v6.1) else some (.tup [], v6.2)).bind fun v8 =>
    (wantV v2 false).bind fun v9 =>
    (bif v9 then pv v8.2 (E.p.bin .sub 3 v8.1 (.int .i64 1)) else some (.tup [], v8.2)).bind fun v10 =>
    (wantV v2 false).bind fun v11 =>
    (bif v11 then E.C fn_spec_l1In [v4.1, (.int .i64 0), v10.1] v10.2 else some (.tup [], v10.2)).bind fun v12 =>
    (wantV v2 false).bind fun v13 =>
    (bif v13 then pv v12.2 (E.p.un .not v12.1) else some (.tup [], v12.2)).bind fun v14 =>
    (E.p.pick v2 (.bool true) v14.1).bind fun v15 =>
    (wantV v15 false).bind fun v16 =>
    (bif v16 then some (x2, v14.2) else some (.tup [], v14.2)).bind fun v17 =>
    (wantV v15 false).bind fun v18 =>
    (bif v18 then some (x3, v17.2) else some (.tup [], v17.2)).bind fun v19 =>
    (wantV v15 false).bind fun v20 =>
    (bif v20 then pv v19.2 (E.p.indexAddr 23 v17.1 v19.1) else some (.tup [], v19.2)).bind fun v21 =>
    (wantV v15 false).bind fun v22 =>
    (bif v22 then pv v21.2 (E.p.load 3 v21.1 v21.2) else some (.tup [], v21.2)).bind fun v23 =>
    (wantV v15 false).bind fun v24 =>
    (bif v24 then pv v23.2 (E.p.bin .eql 3 v23.1 (.int .i64 0)) else some (.tup [], v23.2)).bind fun v25 =>
    (E.p.pick v15 (.bool true) v25.1).bind fun v26 =>
    condP v26
     (
      (E.p.buildSlice 23 0 [] v25.2).bind fun v27 =>
      (resV v27.1).bind fun v28 =>
      some (v28, v27.2))
     (
      (E.p.indexAddr 23 x2 x3).bind fun v29 =>
      (E.p.load 3 v29 v25.2).bind fun v30 =>
      (E.p.bin .shl 3 (.int .i64 1) x3).bind fun v31 =>
      (E.C fn_spec_l2Masks [x0, x1] v25.2).bind fun v32 =>
      (E.p.load 3 v29 v32.2).bind fun v33 =>
      ckP (plainEq v30 v33) (
      (E.C fn_spec_l2Set [x2, v30] v32.2).bind fun v34 =>
      (E.p.load 3 v29 v34.2).bind fun v35 =>
      ckP (plainEq v30 v35) (
      (E.C fn_spec_l2Grow [v32.1, v34.1, v31] v34.2).bind fun v36 =>
      (E.p.load 3 v29 v36.2).bind fun v37 =>
      ckP (plainEq v30 v37) (
      (E.C fn_spec_l2List [v36.1] v36.2).bind fun v38 =>
      (E.p.load 3 v29 v38.2).bind fun v39 =>
      ckP (plainEq v30 v39) (
      (resV v38.1).bind fun v40 =>
      some (v40, v38.2))))))
theorem main_eq (E : Env) (x0 x1 x2 x3 : PV) (h : PHeap) : runBody (E.cx Tryd.prog kl) Tryd.f25 [x0, x1, x2, x3] h = main E x0 x1 x2 x3 h := by kernel_rfl
theorem call_eq (g : Nat → PV) (lf n : Nat) (x0 x1 x2 x3 : PV) (h : PHeap) : CL g lf (n + 1) fn_spec_GroupOf [x0, x1, x2, x3] h = main (env g lf n) x0 x1 x2 x3 h := by
  rw [← main_eq]
  show (match Tryd.prog.funcs[25]? with | some fn => if fn.body.isSome then runBody ⟨Tryd.prog, g, call Tryd.prog g KL lf n, KL 25, lf, std Tryd.prog⟩ fn [x0, x1, x2, x3] h else none | none => none) = _
  rw [Tryd.func25]
  kernel_rfl
end spec_GroupOf
namespace impl_NearCells
noncomputable def lp0 : Code := (codeAt (bodyOf Tryd.f26) [1, 1, 1, 0, 1, 0, 0])
def st0 (x0 x1 x2 x7 x17 x18 : PV) (h : PHeap) : St := ⟨[x0, x1, x2, .junk, .junk, .junk, .junk, x7, .junk, .junk, .junk, .junk, .junk, .junk, .junk, .junk, .junk, x17, x18, .junk, .junk, .junk, .junk, .junk, .junk, .junk, .junk, .junk, .junk, .junk, .junk, .junk, .junk, .junk, .junk, .junk, .junk, .junk, .junk, .junk, .junk, .junk, .junk, .junk, .junk, .junk, .junk, .junk, .junk, .junk, .junk, .junk, .junk, .junk, .junk, .junk, .junk, .junk, .junk], h⟩
def se0_0_1_2_7_17_18_19 (x0 x1 x2 x7 x17 x18 x19 : PV) (h : PHeap) : St := ⟨[x0, x1, x2, .junk, .junk, .junk, .junk, x7, .junk, .junk, .junk, .junk, .junk, .junk, .junk, .junk, .junk, x17, x18, x19, .junk, .junk, .junk, .junk, .junk, .junk, .junk, .junk, .junk, .junk, .junk, .junk, .junk, .junk, .junk, .junk, .junk, .junk, .junk, .junk, .junk, .junk, .junk, .junk, .junk, .junk, .junk, .junk, .junk, .junk, .junk, .junk, .junk, .junk, .junk, .junk, .junk, .junk, .junk], h⟩
noncomputable def K0 (E : Env) (K : PX → St → Res) : PX → St → Res := (kBlock 0 (kSeq (ev (E.cx Tryd.prog kl) (codeAt (bodyOf Tryd.f26) [1, 1, 1, 1])) K))
@[simp] theorem K0_ret (E : Env) (K : PX → St → Res) (s : St) : K0 E K .ret s = K .ret s := by kernel_rfl
noncomputable def body0 (E : Env) (K : PX → St → Res) (x0 x1 x2 x7 x17 x18 : PV) (h : PHeap) : Res :=
    (E.p.bin .lss 3 x18 (.int .i64 6)).bind fun v44 =>
    condP v44
     (
      (E.p.index 57 x17 x18).bind fun v45 =>
      (E.p.alloc 56 h).bind fun v46 =>
      (E.p.store 56 v46.1 v45 v46.2).bind fun v47 =>
      (E.p.bin .quo 3 x2 x1).bind fun v48 =>
      (E.p.indexAddr 56 v46.1 (.int .i64 0)).bind fun v49 =>
      (E.p.load 3 v49 v47).bind fun v50 =>
      (E.p.bin .add 3 v48 v50).bind fun v51 =>
      (E.p.bin .rem 3 x2 x1).bind fun v52 =>
      (E.p.indexAddr 56 v46.1 (.int .i64 1)).bind fun v53 =>
      (E.p.load 3 v53 v47).bind fun v54 =>
      (E.p.bin .add 3 v52 v54).bind fun v55 =>
      (E.p.bin .geq 3 v51 (.int .i64 0)).bind fun v56 =>
      (wantV v56 true).bind fun v57 =>
      (bif v57 then some (v51, v47) else some (.tup [], v47)).bind fun v58 =>
      (wantV v56 true).bind fun v59 =>
      (bif v59 then some (x0, v58.2) else some (.tup [], v58.2)).bind fun v60 =>
      (wantV v56 true).bind fun v61 =>
      (bif v61 then pv v60.2 (E.p.bin .lss 3 v58.1 v60.1) else some (.tup [], v60.2)).bind fun v62 =>
      (E.p.pick v56 v62.1 (.bool false)).bind fun v63 =>
      (wantV v63 true).bind fun v64 =>
      (bif v64 then some (v55, v62.2) else some (.tup [], v62.2)).bind fun v65 =>
      (wantV v63 true).bind fun v66 =>
      (bif v66 then pv v65.2 (E.p.bin .geq 3 v65.1 (.int .i64 0)) else some (.tup [], v65.2)).bind fun v67 =>
      (E.p.pick v63 v67.1 (.bool false)).bind fun v68 =>
      (wantV v68 true).bind fun v69 =>
      (bif v69 then some (v55, v67.2) else some (.tup [], v67.2)).bind fun v70 =>
      (wantV v68 true).bind fun v71 =>
      (bif v71 then some (x1, v70.2) else some (.tup [], v70.2)).bind fun v72 =>
      (wantV v68 true).bind fun v73 =>
      (bif v73 then pv v72.2 (E.p.bin .lss 3 v70.1 v72.1) else some (.tup [], v72.2)).bind fun v74 =>
      (E.p.pick v68 v74.1 (.bool false)).bind fun v75 =>
      condP v75
       (
        (E.p.bin .mul 3 v51 x1).bind fun v76 =>
        (E.p.bin .add 3 v76 v55).bind fun v77 =>
        (E.p.buildSlice 23 1 [(0, v77)] v74.2).bind fun v78 =>
        (E.p.append 23 23 x7 v78.1 v78.2).bind fun v79 =>
        (E.p.bin .add 3 x18 (.int .i64 1)).bind fun v80 =>
        K .normal (st0 x0 x1 x2 v79.1 x17 v80 v79.2))
       (
        (E.p.bin .add 3 x18 (.int .i64 1)).bind fun v81 =>
        K .normal (st0 x0 x1 x2 x7 x17 v81 v74.2)))
     (
      K (.exit 0) (se0_0_1_2_7_17_18_19 x0 x1 x2 x7 x17 x18 v44 h))
theorem body0_eq (E : Env) (K : PX → St → Res) (x0 x1 x2 x7 x17 x18 : PV) (h : PHeap) : ev (E.cx Tryd.prog kl) lp0 (st0 x0 x1 x2 x7 x17 x18 h) K = body0 E K x0 x1 x2 x7 x17 x18 h := by kernel_rfl
theorem after0_se0_0_1_2_7_17_18_19 (E : Env) (x0 x1 x2 x7 x17 x18 x19 : PV) (h : PHeap) : K0 E (kTop Tryd.prog Tryd.f26) (.exit 0) (se0_0_1_2_7_17_18_19 x0 x1 x2 x7 x17 x18 x19 h) =
    (resV x7).bind fun v43 =>
    some (v43, h) := by kernel_rfl
noncomputable def main (E : Env) (x0 x1 x2 : PV) (h : PHeap) : Res :=
    (E.C fn_impl_cellOk [x0, x1, x2] h).bind fun v1 =>
    (E.p.un .not v1.1).bind fun v2 =>
    condP v2
     (
      (resV .nilsl).bind fun v3 =>
      some (v3, v1.2))
     (
      (E.p.load 57 (E.g 0) v1.2).bind fun v4 =>
      loopK (ev (E.cx Tryd.prog impl_NearCells.kl) impl_NearCells.lp0) E.lf (impl_NearCells.st0 x0 x1 x2 .nilsl v4 (.int .i64 0) v1.2) (impl_NearCells.K0 E (kTop Tryd.prog Tryd.f26)))
theorem main_eq (E : Env) (x0 x1 x2 : PV) (h : PHeap) : runBody (E.cx Tryd.prog kl) Tryd.f26 [x0, x1, x2] h = main E x0 x1 x2 h := by kernel_rfl
theorem call_eq (g : Nat → PV) (lf n : Nat) (x0 x1 x2 : PV) (h : PHeap) : CL g lf (n + 1) fn_impl_NearCells [x0, x1, x2] h = main (env g lf n) x0 x1 x2 h := by
  rw [← main_eq]
  show (match Tryd.prog.funcs[26]? with | some fn => if fn.body.isSome then runBody ⟨Tryd.prog, g, call Tryd.prog g KL lf n, KL 26, lf, std Tryd.prog⟩ fn [x0, x1, x2] h else none | none => none) = _
  rw [Tryd.func26]
  kernel_rfl
end impl_NearCells
namespace laws_hasInt
noncomputable def lp0 : Code := (codeAt (bodyOf Tryd.f27) [1, 0, 1, 0, 0])
def st0 (x0 x1 x5 : PV) (h : PHeap) : St := ⟨[x0, x1, .junk, .junk, .junk, x5, .junk, .junk, .junk, .junk, .junk, .junk, .junk, .junk, .junk, .junk, .junk, .junk], h⟩
def sr_4 (x4 : PV) (h : PHeap) : St := ⟨[.junk, .junk, .junk, .junk, x4, .junk, .junk, .junk, .junk, .junk, .junk, .junk, .junk, .junk, .junk, .junk, .junk, .junk], h⟩
def se0_0_1_5_9 (x0 x1 x5 x9 : PV) (h : PHeap) : St := ⟨[x0, x1, .junk, .junk, .junk, x5, .junk, .junk, .junk, x9, .junk, .junk, .junk, .junk, .junk, .junk, .junk, .junk], h⟩
noncomputable def K0 (E : Env) (K : PX → St → Res) : PX → St → Res := (kBlock 0 (kSeq (ev (E.cx Tryd.prog kl) (codeAt (bodyOf Tryd.f27) [1, 1])) K))
@[simp] theorem K0_ret (E : Env) (K : PX → St → Res) (s : St) : K0 E K .ret s = K .ret s := by kernel_rfl
noncomputable def body0 (E : Env) (K : PX → St → Res) (x0 x1 x5 : PV) (h : PHeap) : Res :=
    (E.p.len 23 x0).bind fun v8 =>
    (E.p.bin .lss 3 x5 v8).bind fun v9 =>
    condP v9
     (
      (E.p.indexAddr 23 x0 x5).bind fun v10 =>
      (E.p.load 3 v10 h).bind fun v11 =>
      (E.p.bin .eql 3 v11 x1).bind fun v12 =>
      condP v12
       (
        K .ret (sr_4 (.bool true) h))
       (
        (E.p.bin .add 3 x5 (.int .i64 1)).bind fun v13 =>
        K .normal (st0 x0 x1 v13 h)))
     (
      K (.exit 0) (se0_0_1_5_9 x0 x1 x5 v9 h))
theorem body0_eq (E : Env) (K : PX → St → Res) (x0 x1 x5 : PV) (h : PHeap) : ev (E.cx Tryd.prog kl) lp0 (st0 x0 x1 x5 h) K = body0 E K x0 x1 x5 h := by kernel_rfl
theorem after0_se0_0_1_5_9 (E : Env) (x0 x1 x5 x9 : PV) (h : PHeap) : K0 E (kTop Tryd.prog Tryd.f27) (.exit 0) (se0_0_1_5_9 x0 x1 x5 x9 h) =
    (resV (.bool false)).bind fun v7 =>
    some (v7, h) := by kernel_rfl
theorem top_sr_4 (x4 : PV) (h : PHeap) : kTop Tryd.prog Tryd.f27 .ret (sr_4 x4 h) =
    (resV x4).bind fun v14 =>
    some (v14, h) := by kernel_rfl
noncomputable def main (E : Env) (x0 x1 : PV) (h : PHeap) : Res :=
    loopK (ev (E.cx Tryd.prog laws_hasInt.kl) laws_hasInt.lp0) E.lf (laws_hasInt.st0 x0 x1 (.int .i64 0) h) (laws_hasInt.K0 E (kTop Tryd.prog Tryd.f27))
theorem main_eq (E : Env) (x0 x1 : PV) (h : PHeap) : runBody (E.cx Tryd.prog kl) Tryd.f27 [x0, x1] h = main E x0 x1 h := by kernel_rfl
theorem call_eq (g : Nat → PV) (lf n : Nat) (x0 x1 : PV) (h : PHeap) : CL g lf (n + 1) fn_laws_hasInt [x0, x1] h = main (env g lf n) x0 x1 h := by
  rw [← main_eq]
  show (match Tryd.prog.funcs[27]? with | some fn => if fn.body.isSome then runBody ⟨Tryd.prog, g, call Tryd.prog g KL lf n, KL 27, lf, std Tryd.prog⟩ fn [x0, x1] h else none | none => none) = _
  rw [Tryd.func27]
  kernel_rfl
end laws_hasInt
namespace laws_ascend
noncomputable def lp0 : Code := (codeAt (bodyOf Tryd.f28) [1, 0, 1, 0, 0])
def st0 (x0 x3 : PV) (h : PHeap) : St := ⟨[x0, .junk, .junk, x3, .junk, .junk, .junk, .junk, .junk, .junk, .junk, .junk, .junk, .junk, .junk, .junk, .junk, .junk, .junk, .junk], h⟩
def sr_2 (x2 : PV) (h : PHeap) : St := ⟨[.junk, .junk, x2, .junk, .junk, .junk, .junk, .junk, .junk, .junk, .junk, .junk, .junk, .junk, .junk, .junk, .junk, .junk, .junk, .junk], h⟩
def se0_0_3_7 (x0 x3 x7 : PV) (h : PHeap) : St := ⟨[x0, .junk, .junk, x3, .junk, .junk, .junk, x7, .junk, .junk, .junk, .junk, .junk, .junk, .junk, .junk, .junk, .junk, .junk, .junk], h⟩
noncomputable def K0 (E : Env) (K : PX → St → Res) : PX → St → Res := (kBlock 0 (kSeq (ev (E.cx Tryd.prog kl) (codeAt (bodyOf Tryd.f28) [1, 1])) K))
@[simp] theorem K0_ret (E : Env) (K : PX → St → Res) (s : St) : K0 E K .ret s = K .ret s := by kernel_rfl
noncomputable def body0 (E : Env) (K : PX → St → Res) (x0 x3 : PV) (h : PHeap) : Res :=
    (E.p.len 23 x0).bind fun v11 =>
    (E.p.bin .lss 3 x3 v11).bind fun v12 =>
    condP v12
     (
      (E.p.bin .sub 3 x3 (.int .i64 1)).bind fun v13 =>
      (E.p.indexAddr 23 x0 v13).bind fun v14 =>
      (E.p.load 3 v14 h).bind fun v15 =>
      (E.p.indexAddr 23 x0 x3).bind fun v16 =>
      (E.p.load 3 v16 h).bind fun v17 =>
      (E.p.bin .geq 3 v15 v17).bind fun v18 =>
      condP v18
       (
        K .ret (sr_2 (.bool false) h))
       (
        (E.p.bin .add 3 x3 (.int .i64 1)).bind fun v19 =>
        K .normal (st0 x0 v19 h)))
     (
      K (.exit 0) (se0_0_3_7 x0 x3 v12 h))
theorem body0_eq (E : Env) (K : PX → St → Res) (x0 x3 : PV) (h : PHeap) : ev (E.cx Tryd.prog kl) lp0 (st0 x0 x3 h) K = body0 E K x0 x3 h := by kernel_rfl
theorem after0_se0_0_3_7 (E : Env) (x0 x3 x7 : PV) (h : PHeap) : K0 E (kTop Tryd.prog Tryd.f28) (.exit 0) (se0_0_3_7 x0 x3 x7 h) =
    (resV (.bool true)).bind fun v10 =>
    some (v10, h) := by kernel_rfl
theorem top_sr_2 (x2 : PV) (h : PHeap) : kTop Tryd.prog Tryd.f28 .ret (sr_2 x2 h) =
    (resV x2).bind fun v20 =>
    some (v20, h) := by kernel_rfl
noncomputable def main (E : Env) (x0 : PV) (h : PHeap) : Res :=
    loopK (ev (E.cx Tryd.prog laws_ascend.kl) laws_ascend.lp0) E.lf (laws_ascend.st0 x0 (.int .i64 1) h) (laws_ascend.K0 E (kTop Tryd.prog Tryd.f28))
theorem main_eq (E : Env) (x0 : PV) (h : PHeap) : runBody (E.cx Tryd.prog kl) Tryd.f28 [x0] h = main E x0 h := by kernel_rfl
theorem call_eq (g : Nat → PV) (lf n : Nat) (x0 : PV) (h : PHeap) : CL g lf (n + 1) fn_laws_ascend [x0] h = main (env g lf n) x0 h := by
  rw [← main_eq]
  show (match Tryd.prog.funcs[28]? with | some fn => if fn.body.isSome then runBody ⟨Tryd.prog, g, call Tryd.prog g KL lf n, KL 28, lf, std Tryd.prog⟩ fn [x0] h else none | none => none) = _
  rw [Tryd.func28]
  kernel_rfl
end laws_ascend
namespace spec_DrawGapOf
noncomputable def main (E : Env) (x0 : PV) (h : PHeap) : Res :=
    (E.C fn_spec_l20Open [x0] h).bind fun v1 =>
    (E.C fn_spec_l20Sided [v1.1, (.int .i64 14)] v1.2).bind fun v2 =>
    (E.p.extract v2.1 0).bind fun v3 =>
    (E.p.extract v2.1 1).bind fun v4 =>
    (E.p.extract v2.1 2).bind fun v5 =>
    (E.p.extract v2.1 3).bind fun v6 =>
    (resV v3).bind fun v7 =>
    (resV v4).bind fun v8 =>
    (resV v5).bind fun v9 =>
    (resV v6).bind fun v10 =>
    some (.tup [v7, v8, v9, v10], v2.2)
theorem main_eq (E : Env) (x0 : PV) (h : PHeap) : runBody (E.cx Tryd.prog kl) Tryd.f29 [x0] h = main E x0 h := by kernel_rfl
theorem call_eq (g : Nat → PV) (lf n : Nat) (x0 : PV) (h : PHeap) : CL g lf (n + 1) fn_spec_DrawGapOf [x0] h = main (env g lf n) x0 h := by
  rw [← main_eq]
  show (match Tryd.prog.funcs[29]? with | some fn => if fn.body.isSome then runBody ⟨Tryd.prog, g, call Tryd.prog g KL lf n, KL 29, lf, std Tryd.prog⟩ fn [x0] h else none | none => none) = _
  rw [Tryd.func29]
  kernel_rfl
end spec_DrawGapOf
namespace impl_GapOf
noncomputable def main (E : Env) (x0 x1 x2 x3 : PV) (h : PHeap) : Res :=
    (E.C fn_impl_PositionOk [x0, x1, x2] h).bind fun v1 =>
    (E.p.un .not v1.1).bind fun v2 =>
    (wantV v2 false).bind fun v3 =>
    (bif v3 then some (x3, v1.2) else some (.tup [], v1.2)).bind fun v4 =>
    (wantV v2 false).bind fun v5 =>
    (bif v5 then E.C fn_impl_playerOk [v4.1] v4.2 else some (.tup [], v4.2)).bind fun v6 =>
    (wantV v2 false).bind fun v7 =>
    (bif v7 then pv v6.2 (E.p.un .not v6.1) else some (.tup [], v6.2)).bind fun v8 =>
    (E.p.pick v2 (.bool true) v8.1).bind fun v9 =>
    condP v9
     (
      (resV (.int .i64 (-1))).bind fun v10 =>
      some (v10, v8.2))
     (
      (E.C fn_impl_setOf [x2, x3] v8.2).bind fun v11 =>
      (E.C fn_impl_setOf [x2, (.int .i64 0)] v11.2).bind fun v12 =>
      (E.C fn_impl_gapAcross [x0, x1, v11.1, v12.1, x3] v12.2).bind fun v13 =>
      (resV v13.1).bind fun v14 =>
      some (v14, v13.2))
theorem main_eq (E : Env) (x0 x1 x2 x3 : PV) (h : PHeap) : runBody (E.cx Tryd.prog kl) Tryd.f30 [x0, x1, x2, x3] h = main E x0 x1 x2 x3 h := by kernel_rfl
theorem call_eq (g : Nat → PV) (lf n : Nat) (x0 x1 x2 x3 : PV) (h : PHeap) : CL g lf (n + 1) fn_impl_GapOf [x0, x1, x2, x3] h = main (env g lf n) x0 x1 x2 x3 h := by
  rw [← main_eq]
  show (match Tryd.prog.funcs[30]? with | some fn => if fn.body.isSome then runBody ⟨Tryd.prog, g, call Tryd.prog g KL lf n, KL 30, lf, std Tryd.prog⟩ fn [x0, x1, x2, x3] h else none | none => none) = _
  rw [Tryd.func30]
  kernel_rfl
end impl_GapOf
namespace spec_GapOf
noncomputable def main (E : Env) (x0 x1 x2 x3 : PV) (h : PHeap) : Res :=
    (E.C fn_spec_PositionOk [x0, x1, x2] h).bind fun v1 =>
    (E.p.un .not v1.1).bind fun v2 =>
    (wantV v2 false).bind fun v3 =>
    (bif v3 then some (x3, v1.2) else some (.tup [], v1.2)).bind fun v4 =>
    (wantV v2 false).bind fun v5 =>
    (bif v5 then E.C fn_spec_l1In [v4.1, (.int .i64 1), (.int .i64 2)] v4.2 else some (.tup [], v4.2)).bind fun v6 =>
    (wantV v2 false).bind fun v7 =>
    (bif v7 then pv v6.2 (E.p.un .not v6.1) else some (.tup [], v6.2)).bind fun v8 =>
    (E.p.pick v2 (.bool true) v8.1).bind fun v9 =>
    condP v9
     (
      (resV (.int .i64 (-1))).bind fun v10 =>
      some (v10, v8.2))
     (
      (E.C fn_spec_l2Masks [x0, x1] v8.2).bind fun v11 =>
      (E.C fn_spec_l2Set [x2, x3] v11.2).bind fun v12 =>
      (E.C fn_spec_l2Set [x2, (.int .i64 0)] v12.2).bind fun v13 =>
      (E.C fn_spec_l2Gap [x0, x1, v11.1, v12.1, v13.1, x3] v13.2).bind fun v14 =>
      (resV v14.1).bind fun v15 =>
      some (v15, v14.2))
theorem main_eq (E : Env) (x0 x1 x2 x3 : PV) (h : PHeap) : runBody (E.cx Tryd.prog kl) Tryd.f31 [x0, x1, x2, x3] h = main E x0 x1 x2 x3 h := by kernel_rfl
theorem call_eq (g : Nat → PV) (lf n : Nat) (x0 x1 x2 x3 : PV) (h : PHeap) : CL g lf (n + 1) fn_spec_GapOf [x0, x1, x2, x3] h = main (env g lf n) x0 x1 x2 x3 h := by
  rw [← main_eq]
  show (match Tryd.prog.funcs[31]? with | some fn => if fn.body.isSome then runBody ⟨Tryd.prog, g, call Tryd.prog g KL lf n, KL 31, lf, std Tryd.prog⟩ fn [x0, x1, x2, x3] h else none | none => none) = _
  rw [Tryd.func31]
  kernel_rfl
end spec_GapOf
namespace impl_CellsOf
noncomputable def lp0 : Code := (codeAt (bodyOf Tryd.f32) [1, 1, 1, 0, 1, 0, 0])
def st0 (x3 x9 x22 x23 x24 : PV) (h : PHeap) : St := ⟨[.junk, .junk, .junk, x3, .junk, .junk, .junk, .junk, .junk, x9, .junk, .junk, .junk, .junk, .junk, .junk, .junk, .junk, .junk, .junk, .junk, .junk, x22, x23, x24, .junk, .junk, .junk, .junk, .junk, .junk, .junk, .junk, .junk, .junk, .junk, .junk, .junk], h⟩
def se0_3_9_22_23_24_25 (x3 x9 x22 x23 x24 x25 : PV) (h : PHeap) : St := ⟨[.junk, .junk, .junk, x3, .junk, .junk, .junk, .junk, .junk, x9, .junk, .junk, .junk, .junk, .junk, .junk, .junk, .junk, .junk, .junk, .junk, .junk, x22, x23, x24, x25, .junk, .junk, .junk, .junk, .junk, .junk, .junk, .junk, .junk, .junk, .junk, .junk], h⟩
noncomputable def K0 (E : Env) (K : PX → St → Res) : PX → St → Res := (kBlock 0 (kSeq (ev (E.cx Tryd.prog kl) (codeAt (bodyOf Tryd.f32) [1, 1, 1, 1])) K))
@[simp] theorem K0_ret (E : Env) (K : PX → St → Res) (s : St) : K0 E K .ret s = K .ret s := by kernel_rfl
noncomputable def body0 (E : Env) (K : PX → St → Res) (x3 x9 x22 x23 x24 : PV) (h : PHeap) : Res :=
    (E.p.bin .lss 3 x24 x23).bind fun v21 =>
    condP v21
     (
      (E.p.indexAddr 23 x22 x24).bind fun v22 =>
      (E.p.load 3 v22 h).bind fun v23 =>
      (E.p.bin .eql 3 v23 x3).bind fun v24 =>
      condP v24
       (
        (E.p.buildSlice 23 1 [(0, x24)] h).bind fun v25 =>
        (E.p.append 23 23 x9 v25.1 v25.2).bind fun v26 =>
        (E.p.bin .add 3 x24 (.int .i64 1)).bind fun v27 =>
        K .normal (st0 x3 v26.1 x22 x23 v27 v26.2))
       (
        (E.p.bin .add 3 x24 (.int .i64 1)).bind fun v28 =>
        K .normal (st0 x3 x9 x22 x23 v28 h)))
     (
      K (.exit 0) (se0_3_9_22_23_24_25 x3 x9 x22 x23 x24 v21 h))
theorem body0_eq (E : Env) (K : PX → St → Res) (x3 x9 x22 x23 x24 : PV) (h : PHeap) : ev (E.cx Tryd.prog kl) lp0 (st0 x3 x9 x22 x23 x24 h) K = body0 E K x3 x9 x22 x23 x24 h := by kernel_rfl
theorem after0_se0_3_9_22_23_24_25 (E : Env) (x3 x9 x22 x23 x24 x25 : PV) (h : PHeap) : K0 E (kTop Tryd.prog Tryd.f32) (.exit 0) (se0_3_9_22_23_24_25 x3 x9 x22 x23 x24 x25 h) =
    (resV x9).bind fun v20 =>
    some (v20, h) := by kernel_rfl
noncomputable def main (E : Env) (x0 x1 x2 x3 : PV) (h : PHeap) : Res :=
    (E.C fn_impl_PositionOk [x0, x1, x2] h).bind fun v1 =>
    (E.p.un .not v1.1).bind fun v2 =>
    (wantV v2 false).bind fun v3 =>
    (bif v3 then some (x3, v1.2) else some (.tup [], v1.2)).bind fun v4 =>
    (wantV v2 false).bind fun v5 =>
    (bif v5 then E.C fn_impl_contentOk [v4.1] v4.2 else some (.tup [], v4.2)).bind fun v6 =>
    (wantV v2 false).bind fun v7 =>
    (bif v7 then pv v6.2 (E.p.un .not v6.1) else some (.tup [], v6.2)).bind fun v8 =>
    (E.p.pick v2 (.bool true) v8.1).bind fun v9 =>
    condP v9
     (
      (resV .nilsl).bind fun v10 =>
      some (v10, v8.2))
     (
      (E.p.len 23 x2).bind fun v11 =>
      loopK (ev (E.cx Tryd.prog impl_CellsOf.kl) impl_CellsOf.lp0) E.lf (impl_CellsOf.st0 x3 .nilsl x2 v11 (.int .i64 0) v8.2) (impl_CellsOf.K0 E (kTop Tryd.prog Tryd.f32)))
theorem main_eq (E : Env) (x0 x1 x2 x3 : PV) (h : PHeap) : runBody (E.cx Tryd.prog kl) Tryd.f32 [x0, x1, x2, x3] h = main E x0 x1 x2 x3 h := by kernel_rfl
theorem call_eq (g : Nat → PV) (lf n : Nat) (x0 x1 x2 x3 : PV) (h : PHeap) : CL g lf (n + 1) fn_impl_CellsOf [x0, x1, x2, x3] h = main (env g lf n) x0 x1 x2 x3 h := by
  rw [← main_eq]
  show (match Tryd.prog.funcs[32]? with | some fn => if fn.body.isSome then runBody ⟨Tryd.prog, g, call Tryd.prog g KL lf n, KL 32, lf, std Tryd.prog⟩ fn [x0, x1, x2, x3] h else none | none => none) = _
  rw [Tryd.func32]
  kernel_rfl
end impl_CellsOf
namespace spec_DrawFilled
noncomputable def main (E : Env) (x0 : PV) (h : PHeap) : Res :=
    (E.C fn_spec_l20Open [x0] h).bind fun v1 =>
    (E.C fn_spec_l20Sided [v1.1, (.int .i64 12)] v1.2).bind fun v2 =>
    (E.p.extract v2.1 0).bind fun v3 =>
    (E.p.extract v2.1 1).bind fun v4 =>
    (E.p.extract v2.1 2).bind fun v5 =>
    (E.p.extract v2.1 3).bind fun v6 =>
    (resV v3).bind fun v7 =>
    (resV v4).bind fun v8 =>
    (resV v5).bind fun v9 =>
    (resV v6).bind fun v10 =>
    some (.tup [v7, v8, v9, v10], v2.2)
theorem main_eq (E : Env) (x0 : PV) (h : PHeap) : runBody (E.cx Tryd.prog kl) Tryd.f33 [x0] h = main E x0 h := by kernel_rfl
theorem call_eq (g : Nat → PV) (lf n : Nat) (x0 : PV) (h : PHeap) : CL g lf (n + 1) fn_spec_DrawFilled [x0] h = main (env g lf n) x0 h := by
  rw [← main_eq]
  show (match Tryd.prog.funcs[33]? with | some fn => if fn.body.isSome then runBody ⟨Tryd.prog, g, call Tryd.prog g KL lf n, KL 33, lf, std Tryd.prog⟩ fn [x0] h else none | none => none) = _
  rw [Tryd.func33]
  kernel_rfl
end spec_DrawFilled
namespace spec_Filled
noncomputable def lp0 : Code := (codeAt (bodyOf Tryd.f34) [1, 1, 0, 1, 0, 0])
def st0 (x0 x1 x2 x3 x9 x10 : PV) (h : PHeap) : St := ⟨[x0, x1, x2, x3, .junk, .junk, .junk, .junk, .junk, x9, x10, .junk, .junk, .junk, .junk, .junk, .junk, .junk, .junk, .junk, .junk, .junk, .junk, .junk, .junk, .junk, .junk, .junk, .junk, .junk, .junk, .junk, .junk, .junk, .junk, .junk, .junk, .junk, .junk, .junk, .junk], h⟩
def se0_0_1_2_3_9_10_26 (x0 x1 x2 x3 x9 x10 x26 : PV) (h : PHeap) : St := ⟨[x0, x1, x2, x3, .junk, .junk, .junk, .junk, .junk, x9, x10, .junk, .junk, .junk, .junk, .junk, .junk, .junk, .junk, .junk, .junk, .junk, .junk, .junk, .junk, .junk, x26, .junk, .junk, .junk, .junk, .junk, .junk, .junk, .junk, .junk, .junk, .junk, .junk, .junk, .junk], h⟩
noncomputable def K0 (E : Env) (K : PX → St → Res) : PX → St → Res := (kBlock 0 (kSeq (ev (E.cx Tryd.prog kl) (codeAt (bodyOf Tryd.f34) [1, 1, 1])) K))
@[simp] theorem K0_ret (E : Env) (K : PX → St → Res) (s : St) : K0 E K .ret s = K .ret s := by kernel_rfl
noncomputable def body0 (E : Env) (K : PX → St → Res) (x0 x1 x2 x3 x9 x10 : PV) (h : PHeap) : Res :=
    (E.p.len 23 x2).bind fun v28 =>
    (E.p.bin .lss 3 x10 v28).bind fun v29 =>
    (wantV v29 true).bind fun v30 =>
    (bif v30 then some (x0, h) else some (.tup [], h)).bind fun v31 =>
    (wantV v29 true).bind fun v32 =>
    (bif v32 then some (x1, v31.2) else some (.tup [], v31.2)).bind fun v33 =>
    (wantV v29 true).bind fun v34 =>
    (bif v34 then some (x2, v33.2) else some (.tup [], v33.2)).bind fun v35 =>
    (wantV v29 true).bind fun v36 =>
    (bif v36 then E.C fn_spec_PositionOk [v31.1, v33.1, v35.1] v35.2 else some (.tup [], v35.2)).bind fun v37 =>
    (E.p.pick v29 v37.1 (.bool false)).bind fun v38 =>
    (wantV v38 true).bind fun v39 =>
    (bif v39 then some (x3, v37.2) else some (.tup [], v37.2)).bind fun v40 =>
    (wantV v38 true).bind fun v41 =>
    (bif v41 then E.C fn_spec_l1In [v40.1, (.int .i64 1), (.int .i64 2)] v40.2 else some (.tup [], v40.2)).bind fun v42 =>
    (E.p.pick v38 v42.1 (.bool false)).bind fun v43 =>
    condP v43
     (
      (E.p.indexAddr 23 x2 x10).bind fun v44 =>
      (E.p.load 3 v44 v42.2).bind fun v45 =>
      (E.p.bin .eql 3 v45 (.int .i64 0)).bind fun v46 =>
      condP v46
       (
        (E.p.buildSlice 23 1 [(0, x3)] v42.2).bind fun v47 =>
        (E.p.append 23 23 x9 v47.1 v47.2).bind fun v48 =>
        (E.p.bin .add 3 x10 (.int .i64 1)).bind fun v49 =>
        K .normal (st0 x0 x1 x2 x3 v48.1 v49 v48.2))
       (
        (E.p.buildSlice 23 1 [(0, v45)] v42.2).bind fun v50 =>
        (E.p.append 23 23 x9 v50.1 v50.2).bind fun v51 =>
        (E.p.bin .add 3 x10 (.int .i64 1)).bind fun v52 =>
        K .normal (st0 x0 x1 x2 x3 v51.1 v52 v51.2)))
     (
      K (.exit 0) (se0_0_1_2_3_9_10_26 x0 x1 x2 x3 x9 x10 v43 v42.2))
theorem body0_eq (E : Env) (K : PX → St → Res) (x0 x1 x2 x3 x9 x10 : PV) (h : PHeap) : ev (E.cx Tryd.prog kl) lp0 (st0 x0 x1 x2 x3 x9 x10 h) K = body0 E K x0 x1 x2 x3 x9 x10 h := by kernel_rfl
theorem after0_se0_0_1_2_3_9_10_26 (E : Env) (x0 x1 x2 x3 x9 x10 x26 : PV) (h : PHeap) : K0 E (kTop Tryd.prog Tryd.f34) (.exit 0) (se0_0_1_2_3_9_10_26 x0 x1 x2 x3 x9 x10 x26 h) =
    (resV x9).bind fun v27 =>
    some (v27, h) := by kernel_rfl
noncomputable def main (E : Env) (x0 x1 x2 x3 : PV) (h : PHeap) : Res :=
    (E.p.buildSlice 23 0 [] h).bind fun v1 =>
    loopK (ev (E.cx Tryd.prog spec_Filled.kl) spec_Filled.lp0) E.lf (spec_Filled.st0 x0 x1 x2 x3 v1.1 (.int .i64 0) v1.2) (spec_Filled.K0 E (kTop Tryd.prog Tryd.f34))
theorem main_eq (E : Env) (x0 x1 x2 x3 : PV) (h : PHeap) : runBody (E.cx Tryd.prog kl) Tryd.f34 [x0, x1, x2, x3] h = main E x0 x1 x2 x3 h := by kernel_rfl
theorem call_eq (g : Nat → PV) (lf n : Nat) (x0 x1 x2 x3 : PV) (h : PHeap) : CL g lf (n + 1) fn_spec_Filled [x0, x1, x2, x3] h = main (env g lf n) x0 x1 x2 x3 h := by
  rw [← main_eq]
  show (match Tryd.prog.funcs[34]? with | some fn => if fn.body.isSome then runBody ⟨Tryd.prog, g, call Tryd.prog g KL lf n, KL 34, lf, std Tryd.prog⟩ fn [x0, x1, x2, x3] h else none | none => none) = _
  rw [Tryd.func34]
  kernel_rfl
end spec_Filled
namespace impl_PositionOk
noncomputable def lp0 : Code := (codeAt (bodyOf Tryd.f35) [1, 1, 0, 1, 0, 0])
def st0 (x21 x22 x23 : PV) (h : PHeap) : St := ⟨[.junk, .junk, .junk, .junk, .junk, .junk, .junk, .junk, .junk, .junk, .junk, .junk, .junk, .junk, .junk, .junk, .junk, .junk, .junk, .junk, .junk, x21, x22, x23, .junk, .junk, .junk, .junk, .junk, .junk, .junk], h⟩
def sr_6 (x6 : PV) (h : PHeap) : St := ⟨[.junk, .junk, .junk, .junk, .junk, .junk, x6, .junk, .junk, .junk, .junk, .junk, .junk, .junk, .junk, .junk, .junk, .junk, .junk, .junk, .junk, .junk, .junk, .junk, .junk, .junk, .junk, .junk, .junk, .junk, .junk], h⟩
def se0_21_22_23_24 (x21 x22 x23 x24 : PV) (h : PHeap) : St := ⟨[.junk, .junk, .junk, .junk, .junk, .junk, .junk, .junk, .junk, .junk, .junk, .junk, .junk, .junk, .junk, .junk, .junk, .junk, .junk, .junk, .junk, x21, x22, x23, x24, .junk, .junk, .junk, .junk, .junk, .junk], h⟩
noncomputable def K0 (E : Env) (K : PX → St → Res) : PX → St → Res := (kBlock 0 (kSeq (ev (E.cx Tryd.prog kl) (codeAt (bodyOf Tryd.f35) [1, 1, 1])) K))
@[simp] theorem K0_ret (E : Env) (K : PX → St → Res) (s : St) : K0 E K .ret s = K .ret s := by kernel_rfl
noncomputable def body0 (E : Env) (K : PX → St → Res) (x21 x22 x23 : PV) (h : PHeap) : Res :=
    (E.p.bin .lss 3 x23 x22).bind fun v25 =>
    condP v25
     (
      (E.p.indexAddr 23 x21 x23).bind fun v26 =>
      (E.p.load 3 v26 h).bind fun v27 =>
      (E.C fn_impl_contentOk [v27] h).bind fun v28 =>
      (E.p.un .not v28.1).bind fun v29 =>
      condP v29
       (
        K .ret (sr_6 (.bool false) v28.2))
       (
        (E.p.bin .add 3 x23 (.int .i64 1)).bind fun v30 =>
        K .normal (st0 x21 x22 v30 v28.2)))
     (
      K (.exit 0) (se0_21_22_23_24 x21 x22 x23 v25 h))
theorem body0_eq (E : Env) (K : PX → St → Res) (x21 x22 x23 : PV) (h : PHeap) : ev (E.cx Tryd.prog kl) lp0 (st0 x21 x22 x23 h) K = body0 E K x21 x22 x23 h := by kernel_rfl
theorem after0_se0_21_22_23_24 (E : Env) (x21 x22 x23 x24 : PV) (h : PHeap) : K0 E (kTop Tryd.prog Tryd.f35) (.exit 0) (se0_21_22_23_24 x21 x22 x23 x24 h) =
    (resV (.bool true)).bind fun v24 =>
    some (v24, h) := by kernel_rfl
theorem top_sr_6 (x6 : PV) (h : PHeap) : kTop Tryd.prog Tryd.f35 .ret (sr_6 x6 h) =
    (resV x6).bind fun v31 =>
    some (v31, h) := by kernel_rfl
noncomputable def main (E : Env) (x0 x1 x2 : PV) (h : PHeap) : Res :=
    (E.C fn_impl_BoardOk [x0, x1] h).bind fun v1 =>
    (E.p.un .not v1.1).bind fun v2 =>
    (wantV v2 false).bind fun v3 =>
    (bif v3 then some (x2, v1.2) else some (.tup [], v1.2)).bind fun v4 =>
    (wantV v2 false).bind fun v5 =>
    (bif v5 then pv v4.2 (E.p.len 23 v4.1) else some (.tup [], v4.2)).bind fun v6 =>
    (wantV v2 false).bind fun v7 =>
    (bif v7 then some (x0, v6.2) else some (.tup [], v6.2)).bind fun v8 =>
    (wantV v2 false).bind fun v9 =>
    (bif v9 then some (x1, v8.2) else some (.tup [], v8.2)).bind fun v10 =>
    (wantV v2 false).bind fun v11 =>
    (bif v11 then pv v10.2 (E.p.bin .mul 3 v8.1 v10.1) else some (.tup [], v10.2)).bind fun v12 =>
    (wantV v2 false).bind fun v13 =>
    (bif v13 then pv v12.2 (E.p.bin .neq 3 v6.1 v12.1) else some (.tup [], v12.2)).bind fun v14 =>
    (E.p.pick v2 (.bool true) v14.1).bind fun v15 =>
    condP v15
     (
      (resV (.bool false)).bind fun v16 =>
      some (v16, v14.2))
     (
      (E.p.len 23 x2).bind fun v17 =>
      loopK (ev (E.cx Tryd.prog impl_PositionOk.kl) impl_PositionOk.lp0) E.lf (impl_PositionOk.st0 x2 v17 (.int .i64 0) v14.2) (impl_PositionOk.K0 E (kTop Tryd.prog Tryd.f35)))
theorem main_eq (E : Env) (x0 x1 x2 : PV) (h : PHeap) : runBody (E.cx Tryd.prog kl) Tryd.f35 [x0, x1, x2] h = main E x0 x1 x2 h := by kernel_rfl
theorem call_eq (g : Nat → PV) (lf n : Nat) (x0 x1 x2 : PV) (h : PHeap) : CL g lf (n + 1) fn_impl_PositionOk [x0, x1, x2] h = main (env g lf n) x0 x1 x2 h := by
  rw [← main_eq]
  show (match Tryd.prog.funcs[35]? with | some fn => if fn.body.isSome then runBody ⟨Tryd.prog, g, call Tryd.prog g KL lf n, KL 35, lf, std Tryd.prog⟩ fn [x0, x1, x2] h else none | none => none) = _
  rw [Tryd.func35]
  kernel_rfl
end impl_PositionOk
namespace spec_DrawGapCells
noncomputable def main (E : Env) (x0 : PV) (h : PHeap) : Res :=
    (E.C fn_spec_l20Open [x0] h).bind fun v1 =>
    (E.C fn_spec_l20Sided [v1.1, (.int .i64 14)] v1.2).bind fun v2 =>
    (E.p.extract v2.1 0).bind fun v3 =>
    (E.p.extract v2.1 1).bind fun v4 =>
    (E.p.extract v2.1 2).bind fun v5 =>
    (E.p.extract v2.1 3).bind fun v6 =>
    (resV v3).bind fun v7 =>
    (resV v4).bind fun v8 =>
    (resV v5).bind fun v9 =>
    (resV v6).bind fun v10 =>
    some (.tup [v7, v8, v9, v10], v2.2)
theorem main_eq (E : Env) (x0 : PV) (h : PHeap) : runBody (E.cx Tryd.prog kl) Tryd.f36 [x0] h = main E x0 h := by kernel_rfl
theorem call_eq (g : Nat → PV) (lf n : Nat) (x0 : PV) (h : PHeap) : CL g lf (n + 1) fn_spec_DrawGapCells [x0] h = main (env g lf n) x0 h := by
  rw [← main_eq]
  show (match Tryd.prog.funcs[36]? with | some fn => if fn.body.isSome then runBody ⟨Tryd.prog, g, call Tryd.prog g KL lf n, KL 36, lf, std Tryd.prog⟩ fn [x0] h else none | none => none) = _
  rw [Tryd.func36]
  kernel_rfl
end spec_DrawGapCells
namespace impl_GapCells
noncomputable def lp0 : Code := (codeAt (bodyOf Tryd.f37) [1, 1, 1, 1, 1, 0, 1, 0, 0])
def st0 (x0 x1 x3 x9 x10 x11 x12 x29 x30 x31 : PV) (h : PHeap) : St := ⟨[x0, x1, .junk, x3, .junk, .junk, .junk, .junk, .junk, x9, x10, x11, x12, .junk, .junk, .junk, .junk, .junk, .junk, .junk, .junk, .junk, .junk, .junk, .junk, .junk, .junk, .junk, .junk, x29, x30, x31, .junk, .junk, .junk, .junk, .junk, .junk, .junk, .junk, .junk, .junk, .junk, .junk, .junk, .junk, .junk, .junk, .junk, .junk, .junk, .junk, .junk, .junk, .junk], h⟩
def se0_0_1_3_9_10_11_12_29_30_31_32 (x0 x1 x3 x9 x10 x11 x12 x29 x30 x31 x32 : PV) (h : PHeap) : St := ⟨[x0, x1, .junk, x3, .junk, .junk, .junk, .junk, .junk, x9, x10, x11, x12, .junk, .junk, .junk, .junk, .junk, .junk, .junk, .junk, .junk, .junk, .junk, .junk, .junk, .junk, .junk, .junk, x29, x30, x31, x32, .junk, .junk, .junk, .junk, .junk, .junk, .junk, .junk, .junk, .junk, .junk, .junk, .junk, .junk, .junk, .junk, .junk, .junk, .junk, .junk, .junk, .junk], h⟩
noncomputable def K0 (E : Env) (K : PX → St → Res) : PX → St → Res := (kBlock 0 (kSeq (ev (E.cx Tryd.prog kl) (codeAt (bodyOf Tryd.f37) [1, 1, 1, 1, 1, 1])) K))
@[simp] theorem K0_ret (E : Env) (K : PX → St → Res) (s : St) : K0 E K .ret s = K .ret s := by kernel_rfl
noncomputable def body0 (E : Env) (K : PX → St → Res) (x0 x1 x3 x9 x10 x11 x12 x29 x30 x31 : PV) (h : PHeap) : Res :=
    (E.p.bin .lss 3 x31 x30).bind fun v21 =>
    condP v21
     (
      (E.p.indexAddr 23 x29 x31).bind fun v22 =>
      (E.p.load 3 v22 h).bind fun v23 =>
      (E.p.bin .shl 3 (.int .i64 1) v23).bind fun v24 =>
      (E.p.bin .or 3 x10 v24).bind fun v25 =>
      (E.p.bin .andNot 3 x11 v24).bind fun v26 =>
      (E.C fn_impl_gapAcross [x0, x1, v25, v26, x3] h).bind fun v27 =>
      (E.p.bin .lss 3 v27.1 x9).bind fun v28 =>
      condP v28
       (
        (E.p.buildSlice 23 1 [(0, v23)] v27.2).bind fun v29 =>
        (E.p.append 23 23 x12 v29.1 v29.2).bind fun v30 =>
        (E.p.bin .add 3 x31 (.int .i64 1)).bind fun v31 =>
        K .normal (st0 x0 x1 x3 x9 x10 x11 v30.1 x29 x30 v31 v30.2))
       (
        (E.p.bin .add 3 x31 (.int .i64 1)).bind fun v32 =>
        K .normal (st0 x0 x1 x3 x9 x10 x11 x12 x29 x30 v32 v27.2)))
     (
      K (.exit 0) (se0_0_1_3_9_10_11_12_29_30_31_32 x0 x1 x3 x9 x10 x11 x12 x29 x30 x31 v21 h))
theorem body0_eq (E : Env) (K : PX → St → Res) (x0 x1 x3 x9 x10 x11 x12 x29 x30 x31 : PV) (h : PHeap) : ev (E.cx Tryd.prog kl) lp0 (st0 x0 x1 x3 x9 x10 x11 x12 x29 x30 x31 h) K = body0 E K x0 x1 x3 x9 x10 x11 x12 x29 x30 x31 h := by kernel_rfl
theorem after0_se0_0_1_3_9_10_11_12_29_30_31_32 (E : Env) (x0 x1 x3 x9 x10 x11 x12 x29 x30 x31 x32 : PV) (h : PHeap) : K0 E (kTop Tryd.prog Tryd.f37) (.exit 0) (se0_0_1_3_9_10_11_12_29_30_31_32 x0 x1 x3 x9 x10 x11 x12 x29 x30 x31 x32 h) =
    (resV x12).bind fun v20 =>
    some (v20, h) := by kernel_rfl
noncomputable def main (E : Env) (x0 x1 x2 x3 : PV) (h : PHeap) : Res :=
    (E.C fn_impl_GapOf [x0, x1, x2, x3] h).bind fun v1 =>
    (E.p.bin .leq 3 v1.1 (.int .i64 0)).bind fun v2 =>
    condP v2
     (
      (resV .nilsl).bind fun v3 =>
      some (v3, v1.2))
     (
      (E.C fn_impl_setOf [x2, x3] v1.2).bind fun v4 =>
      (E.C fn_impl_setOf [x2, (.int .i64 0)] v4.2).bind fun v5 =>
      (E.C fn_impl_cellsIn [v5.1] v5.2).bind fun v6 =>
      (E.p.len 23 v6.1).bind fun v7 =>
      loopK (ev (E.cx Tryd.prog impl_GapCells.kl) impl_GapCells.lp0) E.lf (impl_GapCells.st0 x0 x1 x3 v1.1 v4.1 v5.1 .nilsl v6.1 v7 (.int .i64 0) v6.2) (impl_GapCells.K0 E (kTop Tryd.prog Tryd.f37)))
theorem main_eq (E : Env) (x0 x1 x2 x3 : PV) (h : PHeap) : runBody (E.cx Tryd.prog kl) Tryd.f37 [x0, x1, x2, x3] h = main E x0 x1 x2 x3 h := by kernel_rfl
theorem call_eq (g : Nat → PV) (lf n : Nat) (x0 x1 x2 x3 : PV) (h : PHeap) : CL g lf (n + 1) fn_impl_GapCells [x0, x1, x2, x3] h = main (env g lf n) x0 x1 x2 x3 h := by
  rw [← main_eq]
  show (match Tryd.prog.funcs[37]? with | some fn => if fn.body.isSome then runBody ⟨Tryd.prog, g, call Tryd.prog g KL lf n, KL 37, lf, std Tryd.prog⟩ fn [x0, x1, x2, x3] h else none | none => none) = _
  rw [Tryd.func37]
  kernel_rfl
end impl_GapCells
namespace spec_GapCells
noncomputable def lp0 : Code := (codeAt (bodyOf Tryd.f38) [1, 1, 1, 0, 1, 0, 0])
def st0 (x0 x1 x2 x3 x9 x10 x11 : PV) (h : PHeap) : St := ⟨[x0, x1, x2, x3, .junk, .junk, .junk, .junk, .junk, x9, x10, x11, .junk, .junk, .junk, .junk, .junk, .junk, .junk, .junk, .junk, .junk, .junk, .junk, .junk, .junk, .junk, .junk, .junk, .junk, .junk, .junk, .junk, .junk, .junk, .junk, .junk, .junk, .junk, .junk, .junk, .junk, .junk, .junk, .junk, .junk, .junk, .junk, .junk, .junk, .junk, .junk, .junk, .junk], h⟩
def se0_0_1_2_3_9_10_11_26 (x0 x1 x2 x3 x9 x10 x11 x26 : PV) (h : PHeap) : St := ⟨[x0, x1, x2, x3, .junk, .junk, .junk, .junk, .junk, x9, x10, x11, .junk, .junk, .junk, .junk, .junk, .junk, .junk, .junk, .junk, .junk, .junk, .junk, .junk, .junk, x26, .junk, .junk, .junk, .junk, .junk, .junk, .junk, .junk, .junk, .junk, .junk, .junk, .junk, .junk, .junk, .junk, .junk, .junk, .junk, .junk, .junk, .junk, .junk, .junk, .junk, .junk, .junk], h⟩
noncomputable def K0 (E : Env) (K : PX → St → Res) : PX → St → Res := (kBlock 0 (kSeq (ev (E.cx Tryd.prog kl) (codeAt (bodyOf Tryd.f38) [1, 1, 1, 1])) K))
@[simp] theorem K0_ret (E : Env) (K : PX → St → Res) (s : St) : K0 E K .ret s = K .ret s := by kernel_rfl
noncomputable def body0 (E : Env) (K : PX → St → Res) (x0 x1 x2 x3 x9 x10 x11 : PV) (h : PHeap) : Res :=
    (E.p.len 23 x2).bind fun v26 =>
    (E.p.bin .lss 3 x11 v26).bind fun v27 =>
    (wantV v27 true).bind fun v28 =>
    (bif v28 then some (x10, h) else some (.tup [], h)).bind fun v29 =>
    (wantV v27 true).bind fun v30 =>
    (bif v30 then pv v29.2 (E.p.bin .gtr 3 v29.1 (.int .i64 0)) else some (.tup [], v29.2)).bind fun v31 =>
    (E.p.pick v27 v31.1 (.bool false)).bind fun v32 =>
    condP v32
     (
      (E.p.indexAddr 23 x2 x11).bind fun v33 =>
      (E.p.load 3 v33 v31.2).bind fun v34 =>
      (E.p.bin .neq 3 v34 (.int .i64 0)).bind fun v35 =>
      condP v35
       (
        (E.p.bin .add 3 x11 (.int .i64 1)).bind fun v36 =>
        K .normal (st0 x0 x1 x2 x3 x9 x10 v36 v31.2))
       (
        (E.p.buildSlice 23 0 [] v31.2).bind fun v37 =>
        (E.p.append 23 23 v37.1 x2 v37.2).bind fun v38 =>
        (E.p.indexAddr 23 v38.1 x11).bind fun v39 =>
        (E.p.store 3 v39 x3 v38.2).bind fun v40 =>
        (E.C fn_spec_GapOf [x0, x1, v38.1, x3] v40).bind fun v41 =>
        (E.p.bin .sub 3 x10 (.int .i64 1)).bind fun v42 =>
        (E.p.bin .eql 3 v41.1 v42).bind fun v43 =>
        condP v43
         (
          (E.p.buildSlice 23 1 [(0, x11)] v41.2).bind fun v44 =>
          (E.p.append 23 23 x9 v44.1 v44.2).bind fun v45 =>
          (E.p.bin .add 3 x11 (.int .i64 1)).bind fun v46 =>
          K .normal (st0 x0 x1 x2 x3 v45.1 x10 v46 v45.2))
         (
          (E.p.bin .add 3 x11 (.int .i64 1)).bind fun v47 =>
          K .normal (st0 x0 x1 x2 x3 x9 x10 v47 v41.2))))
     (
      K (.exit 0) (se0_0_1_2_3_9_10_11_26 x0 x1 x2 x3 x9 x10 x11 v32 v31.2))
theorem body0_eq (E : Env) (K : PX → St → Res) (x0 x1 x2 x3 x9 x10 x11 : PV) (h : PHeap) : ev (E.cx Tryd.prog kl) lp0 (st0 x0 x1 x2 x3 x9 x10 x11 h) K = body0 E K x0 x1 x2 x3 x9 x10 x11 h := by kernel_rfl
theorem after0_se0_0_1_2_3_9_10_11_26 (E : Env) (x0 x1 x2 x3 x9 x10 x11 x26 : PV) (h : PHeap) : K0 E (kTop Tryd.prog Tryd.f38) (.exit 0) (se0_0_1_2_3_9_10_11_26 x0 x1 x2 x3 x9 x10 x11 x26 h) =
    (resV x9).bind fun v25 =>
    some (v25, h) := by kernel_rfl
noncomputable def main (E : Env) (x0 x1 x2 x3 : PV) (h : PHeap) : Res :=
    (E.p.buildSlice 23 0 [] h).bind fun v1 =>
    (E.C fn_spec_GapOf [x0, x1, x2, x3] v1.2).bind fun v2 =>
    loopK (ev (E.cx Tryd.prog spec_GapCells.kl) spec_GapCells.lp0) E.lf (spec_GapCells.st0 x0 x1 x2 x3 v1.1 v2.1 (.int .i64 0) v2.2) (spec_GapCells.K0 E (kTop Tryd.prog Tryd.f38))
theorem main_eq (E : Env) (x0 x1 x2 x3 : PV) (h : PHeap) : runBody (E.cx Tryd.prog kl) Tryd.f38 [x0, x1, x2, x3] h = main E x0 x1 x2 x3 h := by kernel_rfl
theorem call_eq (g : Nat → PV) (lf n : Nat) (x0 x1 x2 x3 : PV) (h : PHeap) : CL g lf (n + 1) fn_spec_GapCells [x0, x1, x2, x3] h = main (env g lf n) x0 x1 x2 x3 h := by
  rw [← main_eq]
  show (match Tryd.prog.funcs[38]? with | some fn => if fn.body.isSome then runBody ⟨Tryd.prog, g, call Tryd.prog g KL lf n, KL 38, lf, std Tryd.prog⟩ fn [x0, x1, x2, x3] h else none | none => none) = _
  rw [Tryd.func38]
  kernel_rfl
end spec_GapCells
namespace laws_toIntS
noncomputable def lp0 : Code := (codeAt (bodyOf Tryd.f39) [1, 1, 0, 1, 0, 0])
def st0 (x0 x3 x4 : PV) (h : PHeap) : St := ⟨[x0, .junk, .junk, x3, x4, .junk, .junk, .junk, .junk, .junk, .junk, .junk, .junk, .junk, .junk, .junk, .junk, .junk, .junk, .junk, .junk, .junk], h⟩
def se0_0_3_4_11 (x0 x3 x4 x11 : PV) (h : PHeap) : St := ⟨[x0, .junk, .junk, x3, x4, .junk, .junk, .junk, .junk, .junk, .junk, x11, .junk, .junk, .junk, .junk, .junk, .junk, .junk, .junk, .junk, .junk], h⟩
noncomputable def K0 (E : Env) (K : PX → St → Res) : PX → St → Res := (kBlock 0 (kSeq (ev (E.cx Tryd.prog kl) (codeAt (bodyOf Tryd.f39) [1, 1, 1])) K))
@[simp] theorem K0_ret (E : Env) (K : PX → St → Res) (s : St) : K0 E K .ret s = K .ret s := by kernel_rfl
noncomputable def body0 (E : Env) (K : PX → St → Res) (x0 x3 x4 : PV) (h : PHeap) : Res :=
    (E.p.len 23 x0).bind fun v11 =>
    (E.p.bin .lss 3 x4 v11).bind fun v12 =>
    condP v12
     (
      (E.p.indexAddr 23 x0 x4).bind fun v13 =>
      (E.p.load 3 v13 h).bind fun v14 =>
      (E.p.indexAddr 23 x3 x4).bind fun v15 =>
      (E.p.store 3 v15 v14 h).bind fun v16 =>
      (E.p.bin .add 3 x4 (.int .i64 1)).bind fun v17 =>
      K .normal (st0 x0 x3 v17 v16))
     (
      K (.exit 0) (se0_0_3_4_11 x0 x3 x4 v12 h))
theorem body0_eq (E : Env) (K : PX → St → Res) (x0 x3 x4 : PV) (h : PHeap) : ev (E.cx Tryd.prog kl) lp0 (st0 x0 x3 x4 h) K = body0 E K x0 x3 x4 h := by kernel_rfl
theorem after0_se0_0_3_4_11 (E : Env) (x0 x3 x4 x11 : PV) (h : PHeap) : K0 E (kTop Tryd.prog Tryd.f39) (.exit 0) (se0_0_3_4_11 x0 x3 x4 x11 h) =
    (resV x3).bind fun v10 =>
    some (v10, h) := by kernel_rfl
noncomputable def main (E : Env) (x0 : PV) (h : PHeap) : Res :=
    (E.p.len 23 x0).bind fun v1 =>
    (E.p.make 23 v1 v1 h).bind fun v2 =>
    loopK (ev (E.cx Tryd.prog laws_toIntS.kl) laws_toIntS.lp0) E.lf (laws_toIntS.st0 x0 v2.1 (.int .i64 0) v2.2) (laws_toIntS.K0 E (kTop Tryd.prog Tryd.f39))
theorem main_eq (E : Env) (x0 : PV) (h : PHeap) : runBody (E.cx Tryd.prog kl) Tryd.f39 [x0] h = main E x0 h := by kernel_rfl
theorem call_eq (g : Nat → PV) (lf n : Nat) (x0 : PV) (h : PHeap) : CL g lf (n + 1) fn_laws_toIntS [x0] h = main (env g lf n) x0 h := by
  rw [← main_eq]
  show (match Tryd.prog.funcs[39]? with | some fn => if fn.body.isSome then runBody ⟨Tryd.prog, g, call Tryd.prog g KL lf n, KL 39, lf, std Tryd.prog⟩ fn [x0] h else none | none => none) = _
  rw [Tryd.func39]
  kernel_rfl
end laws_toIntS
namespace laws_eqIntS
noncomputable def lp0 : Code := (codeAt (bodyOf Tryd.f40) [1, 1, 0, 1, 0, 0])
def st0 (x0 x1 x5 : PV) (h : PHeap) : St := ⟨[x0, x1, .junk, .junk, .junk, x5, .junk, .junk, .junk, .junk, .junk, .junk, .junk, .junk, .junk, .junk, .junk, .junk, .junk, .junk, .junk, .junk, .junk, .junk, .junk, .junk], h⟩
def sr_4 (x4 : PV) (h : PHeap) : St := ⟨[.junk, .junk, .junk, .junk, x4, .junk, .junk, .junk, .junk, .junk, .junk, .junk, .junk, .junk, .junk, .junk, .junk, .junk, .junk, .junk, .junk, .junk, .junk, .junk, .junk, .junk], h⟩
def se0_0_1_5_14 (x0 x1 x5 x14 : PV) (h : PHeap) : St := ⟨[x0, x1, .junk, .junk, .junk, x5, .junk, .junk, .junk, .junk, .junk, .junk, .junk, .junk, x14, .junk, .junk, .junk, .junk, .junk, .junk, .junk, .junk, .junk, .junk, .junk], h⟩
noncomputable def K0 (E : Env) (K : PX → St → Res) : PX → St → Res := (kBlock 0 (kSeq (ev (E.cx Tryd.prog kl) (codeAt (bodyOf Tryd.f40) [1, 1, 1])) K))
@[simp] theorem K0_ret (E : Env) (K : PX → St → Res) (s : St) : K0 E K .ret s = K .ret s := by kernel_rfl
noncomputable def body0 (E : Env) (K : PX → St → Res) (x0 x1 x5 : PV) (h : PHeap) : Res :=
    (E.p.len 23 x0).bind fun v14 =>
    (E.p.bin .lss 3 x5 v14).bind fun v15 =>
    condP v15
     (
      (E.p.indexAddr 23 x0 x5).bind fun v16 =>
      (E.p.load 3 v16 h).bind fun v17 =>
      (E.p.indexAddr 23 x1 x5).bind fun v18 =>
      (E.p.load 3 v18 h).bind fun v19 =>
      (E.p.bin .neq 3 v17 v19).bind fun v20 =>
      condP v20
       (
        K .ret (sr_4 (.bool false) h))
       (
        (E.p.bin .add 3 x5 (.int .i64 1)).bind fun v21 =>
        K .normal (st0 x0 x1 v21 h)))
     (
      K (.exit 0) (se0_0_1_5_14 x0 x1 x5 v15 h))
theorem body0_eq (E : Env) (K : PX → St → Res) (x0 x1 x5 : PV) (h : PHeap) : ev (E.cx Tryd.prog kl) lp0 (st0 x0 x1 x5 h) K = body0 E K x0 x1 x5 h := by kernel_rfl
theorem after0_se0_0_1_5_14 (E : Env) (x0 x1 x5 x14 : PV) (h : PHeap) : K0 E (kTop Tryd.prog Tryd.f40) (.exit 0) (se0_0_1_5_14 x0 x1 x5 x14 h) =
    (resV (.bool true)).bind fun v13 =>
    some (v13, h) := by kernel_rfl
theorem top_sr_4 (x4 : PV) (h : PHeap) : kTop Tryd.prog Tryd.f40 .ret (sr_4 x4 h) =
    (resV x4).bind fun v22 =>
    some (v22, h) := by kernel_rfl
noncomputable def main (E : Env) (x0 x1 : PV) (h : PHeap) : Res :=
    (E.p.len 23 x0).bind fun v1 =>
    (E.p.len 23 x1).bind fun v2 =>
    (E.p.bin .neq 3 v1 v2).bind fun v3 =>
    condP v3
     (
      (resV (.bool false)).bind fun v4 =>
      some (v4, h))
     (
      loopK (ev (E.cx Tryd.prog laws_eqIntS.kl) laws_eqIntS.lp0) E.lf (laws_eqIntS.st0 x0 x1 (.int .i64 0) h) (laws_eqIntS.K0 E (kTop Tryd.prog Tryd.f40)))
theorem main_eq (E : Env) (x0 x1 : PV) (h : PHeap) : runBody (E.cx Tryd.prog kl) Tryd.f40 [x0, x1] h = main E x0 x1 h := by kernel_rfl
theorem call_eq (g : Nat → PV) (lf n : Nat) (x0 x1 : PV) (h : PHeap) : CL g lf (n + 1) fn_laws_eqIntS [x0, x1] h = main (env g lf n) x0 x1 h := by
  rw [← main_eq]
  show (match Tryd.prog.funcs[40]? with | some fn => if fn.body.isSome then runBody ⟨Tryd.prog, g, call Tryd.prog g KL lf n, KL 40, lf, std Tryd.prog⟩ fn [x0, x1] h else none | none => none) = _
  rw [Tryd.func40]
  kernel_rfl
end laws_eqIntS
namespace laws_markIntS
noncomputable def lp0 : Code := (codeAt (bodyOf Tryd.f41) [1, 0, 1, 0, 0])
def st0 (x0 x1 x5 : PV) (h : PHeap) : St := ⟨[x0, x1, .junk, .junk, .junk, x5, .junk, .junk, .junk, .junk, .junk, .junk, .junk, .junk, .junk, .junk, .junk, .junk, .junk], h⟩
def se0_0_1_5_9 (x0 x1 x5 x9 : PV) (h : PHeap) : St := ⟨[x0, x1, .junk, .junk, .junk, x5, .junk, .junk, .junk, x9, .junk, .junk, .junk, .junk, .junk, .junk, .junk, .junk, .junk], h⟩
noncomputable def K0 (E : Env) (K : PX → St → Res) : PX → St → Res := (kBlock 0 (kSeq (ev (E.cx Tryd.prog kl) (codeAt (bodyOf Tryd.f41) [1, 1])) K))
@[simp] theorem K0_ret (E : Env) (K : PX → St → Res) (s : St) : K0 E K .ret s = K .ret s := by kernel_rfl
noncomputable def body0 (E : Env) (K : PX → St → Res) (x0 x1 x5 : PV) (h : PHeap) : Res :=
    (E.p.len 23 x0).bind fun v8 =>
    (E.p.bin .lss 3 x5 v8).bind fun v9 =>
    condP v9
     (
      (E.p.indexAddr 23 x0 x5).bind fun v10 =>
      (E.p.store 3 v10 x1 h).bind fun v11 =>
      (E.p.bin .add 3 x1 (.int .i64 1)).bind fun v12 =>
      (E.p.bin .add 3 x5 (.int .i64 1)).bind fun v13 =>
      K .normal (st0 x0 v12 v13 v11))
     (
      K (.exit 0) (se0_0_1_5_9 x0 x1 x5 v9 h))
theorem body0_eq (E : Env) (K : PX → St → Res) (x0 x1 x5 : PV) (h : PHeap) : ev (E.cx Tryd.prog kl) lp0 (st0 x0 x1 x5 h) K = body0 E K x0 x1 x5 h := by kernel_rfl
theorem after0_se0_0_1_5_9 (E : Env) (x0 x1 x5 x9 : PV) (h : PHeap) : K0 E (kTop Tryd.prog Tryd.f41) (.exit 0) (se0_0_1_5_9 x0 x1 x5 x9 h) =
    (resV x1).bind fun v7 =>
    some (v7, h) := by kernel_rfl
noncomputable def main (E : Env) (x0 x1 : PV) (h : PHeap) : Res :=
    loopK (ev (E.cx Tryd.prog laws_markIntS.kl) laws_markIntS.lp0) E.lf (laws_markIntS.st0 x0 x1 (.int .i64 0) h) (laws_markIntS.K0 E (kTop Tryd.prog Tryd.f41))
theorem main_eq (E : Env) (x0 x1 : PV) (h : PHeap) : runBody (E.cx Tryd.prog kl) Tryd.f41 [x0, x1] h = main E x0 x1 h := by kernel_rfl
theorem call_eq (g : Nat → PV) (lf n : Nat) (x0 x1 : PV) (h : PHeap) : CL g lf (n + 1) fn_laws_markIntS [x0, x1] h = main (env g lf n) x0 x1 h := by
  rw [← main_eq]
  show (match Tryd.prog.funcs[41]? with | some fn => if fn.body.isSome then runBody ⟨Tryd.prog, g, call Tryd.prog g KL lf n, KL 41, lf, std Tryd.prog⟩ fn [x0, x1] h else none | none => none) = _
  rw [Tryd.func41]
  kernel_rfl
end laws_markIntS
namespace laws_heldIntS
noncomputable def lp0 : Code := (codeAt (bodyOf Tryd.f42) [1, 0, 1, 0, 0])
def st0 (x0 x1 x5 : PV) (h : PHeap) : St := ⟨[x0, x1, .junk, .junk, .junk, x5, .junk, .junk, .junk, .junk, .junk, .junk, .junk, .junk, .junk, .junk, .junk, .junk, .junk, .junk, .junk], h⟩
def sr_4 (x4 : PV) (h : PHeap) : St := ⟨[.junk, .junk, .junk, .junk, x4, .junk, .junk, .junk, .junk, .junk, .junk, .junk, .junk, .junk, .junk, .junk, .junk, .junk, .junk, .junk, .junk], h⟩
def se0_0_1_5_9 (x0 x1 x5 x9 : PV) (h : PHeap) : St := ⟨[x0, x1, .junk, .junk, .junk, x5, .junk, .junk, .junk, x9, .junk, .junk, .junk, .junk, .junk, .junk, .junk, .junk, .junk, .junk, .junk], h⟩
noncomputable def K0 (E : Env) (K : PX → St → Res) : PX → St → Res := (kBlock 0 (kSeq (ev (E.cx Tryd.prog kl) (codeAt (bodyOf Tryd.f42) [1, 1])) K))
@[simp] theorem K0_ret (E : Env) (K : PX → St → Res) (s : St) : K0 E K .ret s = K .ret s := by kernel_rfl
noncomputable def body0 (E : Env) (K : PX → St → Res) (x0 x1 x5 : PV) (h : PHeap) : Res :=
    (E.p.len 23 x0).bind fun v9 =>
    (E.p.bin .lss 3 x5 v9).bind fun v10 =>
    condP v10
     (
      (E.p.indexAddr 23 x0 x5).bind fun v11 =>
      (E.p.load 3 v11 h).bind fun v12 =>
      (E.p.bin .neq 3 v12 x1).bind fun v13 =>
      condP v13
       (
        K .ret (sr_4 (.int .i64 (-1)) h))
       (
        (E.p.bin .add 3 x1 (.int .i64 1)).bind fun v14 =>
        (E.p.bin .add 3 x5 (.int .i64 1)).bind fun v15 =>
        K .normal (st0 x0 v14 v15 h)))
     (
      K (.exit 0) (se0_0_1_5_9 x0 x1 x5 v10 h))
theorem body0_eq (E : Env) (K : PX → St → Res) (x0 x1 x5 : PV) (h : PHeap) : ev (E.cx Tryd.prog kl) lp0 (st0 x0 x1 x5 h) K = body0 E K x0 x1 x5 h := by kernel_rfl
theorem after0_se0_0_1_5_9 (E : Env) (x0 x1 x5 x9 : PV) (h : PHeap) : K0 E (kTop Tryd.prog Tryd.f42) (.exit 0) (se0_0_1_5_9 x0 x1 x5 x9 h) =
    (resV x1).bind fun v8 =>
    some (v8, h) := by kernel_rfl
theorem top_sr_4 (x4 : PV) (h : PHeap) : kTop Tryd.prog Tryd.f42 .ret (sr_4 x4 h) =
    (resV x4).bind fun v16 =>
    some (v16, h) := by kernel_rfl
noncomputable def main (E : Env) (x0 x1 : PV) (h : PHeap) : Res :=
    loopK (ev (E.cx Tryd.prog laws_heldIntS.kl) laws_heldIntS.lp0) E.lf (laws_heldIntS.st0 x0 x1 (.int .i64 0) h) (laws_heldIntS.K0 E (kTop Tryd.prog Tryd.f42))
theorem main_eq (E : Env) (x0 x1 : PV) (h : PHeap) : runBody (E.cx Tryd.prog kl) Tryd.f42 [x0, x1] h = main E x0 x1 h := by kernel_rfl
theorem call_eq (g : Nat → PV) (lf n : Nat) (x0 x1 : PV) (h : PHeap) : CL g lf (n + 1) fn_laws_heldIntS [x0, x1] h = main (env g lf n) x0 x1 h := by
  rw [← main_eq]
  show (match Tryd.prog.funcs[42]? with | some fn => if fn.body.isSome then runBody ⟨Tryd.prog, g, call Tryd.prog g KL lf n, KL 42, lf, std Tryd.prog⟩ fn [x0, x1] h else none | none => none) = _
  rw [Tryd.func42]
  kernel_rfl
end laws_heldIntS
namespace spec_l20Sided
noncomputable def main (E : Env) (x0 x1 : PV) (h : PHeap) : Res :=
    (E.C fn_spec_l20Position [x0, x1] h).bind fun v1 =>
    (E.p.extract v1.1 0).bind fun v2 =>
    (E.p.extract v1.1 1).bind fun v3 =>
    (E.p.extract v1.1 2).bind fun v4 =>
    (E.C fn_spec_l20Rd_pick [x0, (.int .i64 2)] v1.2).bind fun v5 =>
    (E.p.bin .add 3 (.int .i64 1) v5.1).bind fun v6 =>
    (E.C fn_spec_l20Rd_pick [x0, (.int .i64 60)] v5.2).bind fun v7 =>
    (E.p.bin .quo 3 v7.1 (.int .i64 59)).bind fun v8 =>
    (E.p.bin .mul 3 v8 (.int .i64 2)).bind fun v9 =>
    (E.p.bin .add 3 v6 v9).bind fun v10 =>
    (resV v2).bind fun v11 =>
    (resV v3).bind fun v12 =>
    (resV v4).bind fun v13 =>
    (resV v10).bind fun v14 =>
    some (.tup [v11, v12, v13, v14], v7.2)
theorem main_eq (E : Env) (x0 x1 : PV) (h : PHeap) : runBody (E.cx Tryd.prog kl) Tryd.f43 [x0, x1] h = main E x0 x1 h := by kernel_rfl
theorem call_eq (g : Nat → PV) (lf n : Nat) (x0 x1 : PV) (h : PHeap) : CL g lf (n + 1) fn_spec_l20Sided [x0, x1] h = main (env g lf n) x0 x1 h := by
  rw [← main_eq]
  show (match Tryd.prog.funcs[43]? with | some fn => if fn.body.isSome then runBody ⟨Tryd.prog, g, call Tryd.prog g KL lf n, KL 43, lf, std Tryd.prog⟩ fn [x0, x1] h else none | none => none) = _
  rw [Tryd.func43]
  kernel_rfl
end spec_l20Sided
namespace spec_l20Open
noncomputable def main (E : Env) (x0 : PV) (h : PHeap) : Res :=
    (E.p.len 22 x0).bind fun v1 =>
    (E.p.bin .gtr 3 v1 (.int .i64 2000)).bind fun v2 =>
    condP v2
     (
      (E.p.slice 22 x0 none (some (.int .i64 2000)) h).bind fun v3 =>
      (E.p.build 61 [(0, v3)]).bind fun v4 =>
      (E.p.box v4 h).bind fun v5 =>
      (resV v5.1).bind fun v6 =>
      some (v6, v5.2))
     (
      (E.p.build 61 [(0, x0)]).bind fun v7 =>
      (E.p.box v7 h).bind fun v8 =>
      (resV v8.1).bind fun v9 =>
      some (v9, v8.2))
theorem main_eq (E : Env) (x0 : PV) (h : PHeap) : runBody (E.cx Tryd.prog kl) Tryd.f44 [x0] h = main E x0 h := by kernel_rfl
theorem call_eq (g : Nat → PV) (lf n : Nat) (x0 : PV) (h : PHeap) : CL g lf (n + 1) fn_spec_l20Open [x0] h = main (env g lf n) x0 h := by
  rw [← main_eq]
  show (match Tryd.prog.funcs[44]? with | some fn => if fn.body.isSome then runBody ⟨Tryd.prog, g, call Tryd.prog g KL lf n, KL 44, lf, std Tryd.prog⟩ fn [x0] h else none | none => none) = _
  rw [Tryd.func44]
  kernel_rfl
end spec_l20Open
namespace impl_playerOk
noncomputable def main (E : Env) (x0 : PV) (h : PHeap) : Res :=
    (E.p.bin .eql 3 x0 (.int .i64 1)).bind fun v1 =>
    (wantV v1 false).bind fun v2 =>
    (bif v2 then some (x0, h) else some (.tup [], h)).bind fun v3 =>
    (wantV v1 false).bind fun v4 =>
    (bif v4 then pv v3.2 (E.p.bin .eql 3 v3.1 (.int .i64 2)) else some (.tup [], v3.2)).bind fun v5 =>
    (E.p.pick v1 (.bool true) v5.1).bind fun v6 =>
    (resV v6).bind fun v7 =>
    some (v7, v5.2)
theorem main_eq (E : Env) (x0 : PV) (h : PHeap) : runBody (E.cx Tryd.prog kl) Tryd.f45 [x0] h = main E x0 h := by kernel_rfl
theorem call_eq (g : Nat → PV) (lf n : Nat) (x0 : PV) (h : PHeap) : CL g lf (n + 1) fn_impl_playerOk [x0] h = main (env g lf n) x0 h := by
  rw [← main_eq]
  show (match Tryd.prog.funcs[45]? with | some fn => if fn.body.isSome then runBody ⟨Tryd.prog, g, call Tryd.prog g KL lf n, KL 45, lf, std Tryd.prog⟩ fn [x0] h else none | none => none) = _
  rw [Tryd.func45]
  kernel_rfl
end impl_playerOk
namespace impl_sidesOf
noncomputable def lp0 : Code := (codeAt (bodyOf Tryd.f46) [1, 1, 0, 1, 0, 0])
def st0 (x0 x1 x2 x8 x9 x15 x16 : PV) (h : PHeap) : St := ⟨[x0, x1, x2, .junk, .junk, .junk, .junk, .junk, x8, x9, .junk, .junk, .junk, .junk, .junk, x15, x16, .junk, .junk, .junk, .junk, .junk, .junk, .junk, .junk, .junk, .junk, .junk, .junk, .junk, .junk, .junk, .junk, .junk, .junk, .junk, .junk, .junk, .junk, .junk, .junk, .junk, .junk, .junk, .junk, .junk, .junk], h⟩
def se0_0_1_2_8_9_15_16_17 (x0 x1 x2 x8 x9 x15 x16 x17 : PV) (h : PHeap) : St := ⟨[x0, x1, x2, .junk, .junk, .junk, .junk, .junk, x8, x9, .junk, .junk, .junk, .junk, .junk, x15, x16, x17, .junk, .junk, .junk, .junk, .junk, .junk, .junk, .junk, .junk, .junk, .junk, .junk, .junk, .junk, .junk, .junk, .junk, .junk, .junk, .junk, .junk, .junk, .junk, .junk, .junk, .junk, .junk, .junk, .junk], h⟩
noncomputable def K0 (E : Env) (K : PX → St → Res) : PX → St → Res := (kBlock 0 (kSeq (ev (E.cx Tryd.prog kl) (codeAt (bodyOf Tryd.f46) [1, 1, 1])) K))
@[simp] theorem K0_ret (E : Env) (K : PX → St → Res) (s : St) : K0 E K .ret s = K .ret s := by kernel_rfl
noncomputable def body0 (E : Env) (K : PX → St → Res) (x0 x1 x2 x8 x9 x15 x16 : PV) (h : PHeap) : Res :=
    (E.p.bin .lss 3 x16 x15).bind fun v36 =>
    condP v36
     (
      (E.p.bin .quo 3 x16 x1).bind fun v37 =>
      (E.p.bin .sub 3 x0 (.int .i64 1)).bind fun v38 =>
      (E.p.bin .eql 3 x2 (.int .i64 2)).bind fun v39 =>
      condP v39
       (
        (E.p.bin .rem 3 x16 x1).bind fun v40 =>
        (E.p.bin .sub 3 x1 (.int .i64 1)).bind fun v41 =>
        (E.p.bin .eql 3 v40 (.int .i64 0)).bind fun v42 =>
        condP v42
         (
          (E.p.bin .shl 3 (.int .i64 1) x16).bind fun v43 =>
          (E.p.bin .or 3 x8 v43).bind fun v44 =>
          (E.p.bin .eql 3 v40 v41).bind fun v45 =>
          condP v45
           (
            (E.p.bin .shl 3 (.int .i64 1) x16).bind fun v46 =>
            (E.p.bin .or 3 x9 v46).bind fun v47 =>
            (E.p.bin .add 3 x16 (.int .i64 1)).bind fun v48 =>
            K .normal (st0 x0 x1 x2 v44 v47 x15 v48 h))
           (
            (E.p.bin .add 3 x16 (.int .i64 1)).bind fun v49 =>
            K .normal (st0 x0 x1 x2 v44 x9 x15 v49 h)))
         (
          (E.p.bin .eql 3 v40 v41).bind fun v50 =>
          condP v50
           (
            (E.p.bin .shl 3 (.int .i64 1) x16).bind fun v51 =>
            (E.p.bin .or 3 x9 v51).bind fun v52 =>
            (E.p.bin .add 3 x16 (.int .i64 1)).bind fun v53 =>
            K .normal (st0 x0 x1 x2 x8 v52 x15 v53 h))
           (
            (E.p.bin .add 3 x16 (.int .i64 1)).bind fun v54 =>
            K .normal (st0 x0 x1 x2 x8 x9 x15 v54 h))))
       (
        (E.p.bin .eql 3 v37 (.int .i64 0)).bind fun v55 =>
        condP v55
         (
          (E.p.bin .shl 3 (.int .i64 1) x16).bind fun v56 =>
          (E.p.bin .or 3 x8 v56).bind fun v57 =>
          (E.p.bin .eql 3 v37 v38).bind fun v58 =>
          condP v58
           (
            (E.p.bin .shl 3 (.int .i64 1) x16).bind fun v59 =>
            (E.p.bin .or 3 x9 v59).bind fun v60 =>
            (E.p.bin .add 3 x16 (.int .i64 1)).bind fun v61 =>
            K .normal (st0 x0 x1 x2 v57 v60 x15 v61 h))
           (
            (E.p.bin .add 3 x16 (.int .i64 1)).bind fun v62 =>
            K .normal (st0 x0 x1 x2 v57 x9 x15 v62 h)))
         (
          (E.p.bin .eql 3 v37 v38).bind fun v63 =>
          condP v63
           (
            (E.p.bin .shl 3 (.int .i64 1) x16).bind fun v64 =>
            (E.p.bin .or 3 x9 v64).bind fun v65 =>
            (E.p.bin .add 3 x16 (.int .i64 1)).bind fun v66 =>
            K .normal (st0 x0 x1 x2 x8 v65 x15 v66 h))
           (
            (E.p.bin .add 3 x16 (.int .i64 1)).bind fun v67 =>
            K .normal (st0 x0 x1 x2 x8 x9 x15 v67 h)))))
     (
      K (.exit 0) (se0_0_1_2_8_9_15_16_17 x0 x1 x2 x8 x9 x15 x16 v36 h))
theorem body0_eq (E : Env) (K : PX → St → Res) (x0 x1 x2 x8 x9 x15 x16 : PV) (h : PHeap) : ev (E.cx Tryd.prog kl) lp0 (st0 x0 x1 x2 x8 x9 x15 x16 h) K = body0 E K x0 x1 x2 x8 x9 x15 x16 h := by kernel_rfl
theorem after0_se0_0_1_2_8_9_15_16_17 (E : Env) (x0 x1 x2 x8 x9 x15 x16 x17 : PV) (h : PHeap) : K0 E (kTop Tryd.prog Tryd.f46) (.exit 0) (se0_0_1_2_8_9_15_16_17 x0 x1 x2 x8 x9 x15 x16 x17 h) =
    (resV x8).bind fun v34 =>
    (resV x9).bind fun v35 =>
    some (.tup [v34, v35], h) := by kernel_rfl
noncomputable def main (E : Env) (x0 x1 x2 : PV) (h : PHeap) : Res :=
    (E.p.bin .mul 3 x0 x1).bind fun v1 =>
    loopK (ev (E.cx Tryd.prog impl_sidesOf.kl) impl_sidesOf.lp0) E.lf (impl_sidesOf.st0 x0 x1 x2 (.int .i64 0) (.int .i64 0) v1 (.int .i64 0) h) (impl_sidesOf.K0 E (kTop Tryd.prog Tryd.f46))
theorem main_eq (E : Env) (x0 x1 x2 : PV) (h : PHeap) : runBody (E.cx Tryd.prog kl) Tryd.f46 [x0, x1, x2] h = main E x0 x1 x2 h := by kernel_rfl
theorem call_eq (g : Nat → PV) (lf n : Nat) (x0 x1 x2 : PV) (h : PHeap) : CL g lf (n + 1) fn_impl_sidesOf [x0, x1, x2] h = main (env g lf n) x0 x1 x2 h := by
  rw [← main_eq]
  show (match Tryd.prog.funcs[46]? with | some fn => if fn.body.isSome then runBody ⟨Tryd.prog, g, call Tryd.prog g KL lf n, KL 46, lf, std Tryd.prog⟩ fn [x0, x1, x2] h else none | none => none) = _
  rw [Tryd.func46]
  kernel_rfl
end impl_sidesOf
namespace impl_setOf
noncomputable def lp0 : Code := (codeAt (bodyOf Tryd.f47) [1, 1, 0, 1, 0, 0])
def st0 (x1 x5 x8 x9 x10 : PV) (h : PHeap) : St := ⟨[.junk, x1, .junk, .junk, .junk, x5, .junk, .junk, x8, x9, x10, .junk, .junk, .junk, .junk, .junk, .junk, .junk, .junk, .junk, .junk, .junk, .junk, .junk], h⟩
def se0_1_5_8_9_10_11 (x1 x5 x8 x9 x10 x11 : PV) (h : PHeap) : St := ⟨[.junk, x1, .junk, .junk, .junk, x5, .junk, .junk, x8, x9, x10, x11, .junk, .junk, .junk, .junk, .junk, .junk, .junk, .junk, .junk, .junk, .junk, .junk], h⟩
noncomputable def K0 (E : Env) (K : PX → St → Res) : PX → St → Res := (kBlock 0 (kSeq (ev (E.cx Tryd.prog kl) (codeAt (bodyOf Tryd.f47) [1, 1, 1])) K))
@[simp] theorem K0_ret (E : Env) (K : PX → St → Res) (s : St) : K0 E K .ret s = K .ret s := by kernel_rfl
noncomputable def body0 (E : Env) (K : PX → St → Res) (x1 x5 x8 x9 x10 : PV) (h : PHeap) : Res :=
    (E.p.bin .lss 3 x10 x9).bind fun v11 =>
    condP v11
     (
      (E.p.indexAddr 23 x8 x10).bind fun v12 =>
      (E.p.load 3 v12 h).bind fun v13 =>
      (E.p.bin .eql 3 v13 x1).bind fun v14 =>
      condP v14
       (
        (E.p.bin .shl 3 (.int .i64 1) x10).bind fun v15 =>
        (E.p.bin .or 3 x5 v15).bind fun v16 =>
        (E.p.bin .add 3 x10 (.int .i64 1)).bind fun v17 =>
        K .normal (st0 x1 v16 x8 x9 v17 h))
       (
        (E.p.bin .add 3 x10 (.int .i64 1)).bind fun v18 =>
        K .normal (st0 x1 x5 x8 x9 v18 h)))
     (
      K (.exit 0) (se0_1_5_8_9_10_11 x1 x5 x8 x9 x10 v11 h))
theorem body0_eq (E : Env) (K : PX → St → Res) (x1 x5 x8 x9 x10 : PV) (h : PHeap) : ev (E.cx Tryd.prog kl) lp0 (st0 x1 x5 x8 x9 x10 h) K = body0 E K x1 x5 x8 x9 x10 h := by kernel_rfl
theorem after0_se0_1_5_8_9_10_11 (E : Env) (x1 x5 x8 x9 x10 x11 : PV) (h : PHeap) : K0 E (kTop Tryd.prog Tryd.f47) (.exit 0) (se0_1_5_8_9_10_11 x1 x5 x8 x9 x10 x11 h) =
    (resV x5).bind fun v10 =>
    some (v10, h) := by kernel_rfl
noncomputable def main (E : Env) (x0 x1 : PV) (h : PHeap) : Res :=
    (E.p.len 23 x0).bind fun v1 =>
    loopK (ev (E.cx Tryd.prog impl_setOf.kl) impl_setOf.lp0) E.lf (impl_setOf.st0 x1 (.int .i64 0) x0 v1 (.int .i64 0) h) (impl_setOf.K0 E (kTop Tryd.prog Tryd.f47))
theorem main_eq (E : Env) (x0 x1 : PV) (h : PHeap) : runBody (E.cx Tryd.prog kl) Tryd.f47 [x0, x1] h = main E x0 x1 h := by kernel_rfl
theorem call_eq (g : Nat → PV) (lf n : Nat) (x0 x1 : PV) (h : PHeap) : CL g lf (n + 1) fn_impl_setOf [x0, x1] h = main (env g lf n) x0 x1 h := by
  rw [← main_eq]
  show (match Tryd.prog.funcs[47]? with | some fn => if fn.body.isSome then runBody ⟨Tryd.prog, g, call Tryd.prog g KL lf n, KL 47, lf, std Tryd.prog⟩ fn [x0, x1] h else none | none => none) = _
  rw [Tryd.func47]
  kernel_rfl
end impl_setOf
namespace impl_grown
noncomputable def lp0 : Code := (codeAt (bodyOf Tryd.f48) [1, 0, 1, 0, 0])
def st0 (x0 x1 x2 x3 x9 : PV) (h : PHeap) : St := ⟨[x0, x1, x2, x3, .junk, .junk, .junk, .junk, .junk, x9, .junk, .junk, .junk, .junk, .junk, .junk, .junk, .junk, .junk, .junk, .junk, .junk, .junk, .junk, .junk], h⟩
def se0_0_1_2_3_9_12 (x0 x1 x2 x3 x9 x12 : PV) (h : PHeap) : St := ⟨[x0, x1, x2, x3, .junk, .junk, .junk, .junk, .junk, x9, .junk, .junk, x12, .junk, .junk, .junk, .junk, .junk, .junk, .junk, .junk, .junk, .junk, .junk, .junk], h⟩
noncomputable def K0 (E : Env) (K : PX → St → Res) : PX → St → Res := (kBlock 0 (kSeq (ev (E.cx Tryd.prog kl) (codeAt (bodyOf Tryd.f48) [1, 1])) K))
@[simp] theorem K0_ret (E : Env) (K : PX → St → Res) (s : St) : K0 E K .ret s = K .ret s := by kernel_rfl
noncomputable def body0 (E : Env) (K : PX → St → Res) (x0 x1 x2 x3 x9 : PV) (h : PHeap) : Res :=
    (E.p.bin .neq 3 x9 (.int .i64 0)).bind fun v7 =>
    condP v7
     (
      (E.C fn_impl_withNear [x0, x1, x9] h).bind fun v8 =>
      (E.p.bin .and 3 v8.1 x3).bind fun v9 =>
      (E.p.bin .andNot 3 v9 x2).bind fun v10 =>
      (E.p.bin .or 3 x2 v10).bind fun v11 =>
      K .normal (st0 x0 x1 v11 x3 v10 v8.2))
     (
      K (.exit 0) (se0_0_1_2_3_9_12 x0 x1 x2 x3 x9 v7 h))
theorem body0_eq (E : Env) (K : PX → St → Res) (x0 x1 x2 x3 x9 : PV) (h : PHeap) : ev (E.cx Tryd.prog kl) lp0 (st0 x0 x1 x2 x3 x9 h) K = body0 E K x0 x1 x2 x3 x9 h := by kernel_rfl
theorem after0_se0_0_1_2_3_9_12 (E : Env) (x0 x1 x2 x3 x9 x12 : PV) (h : PHeap) : K0 E (kTop Tryd.prog Tryd.f48) (.exit 0) (se0_0_1_2_3_9_12 x0 x1 x2 x3 x9 x12 h) =
    (resV x2).bind fun v6 =>
    some (v6, h) := by kernel_rfl
noncomputable def main (E : Env) (x0 x1 x2 x3 : PV) (h : PHeap) : Res :=
    loopK (ev (E.cx Tryd.prog impl_grown.kl) impl_grown.lp0) E.lf (impl_grown.st0 x0 x1 x2 x3 x2 h) (impl_grown.K0 E (kTop Tryd.prog Tryd.f48))
theorem main_eq (E : Env) (x0 x1 x2 x3 : PV) (h : PHeap) : runBody (E.cx Tryd.prog kl) Tryd.f48 [x0, x1, x2, x3] h = main E x0 x1 x2 x3 h := by kernel_rfl
theorem call_eq (g : Nat → PV) (lf n : Nat) (x0 x1 x2 x3 : PV) (h : PHeap) : CL g lf (n + 1) fn_impl_grown [x0, x1, x2, x3] h = main (env g lf n) x0 x1 x2 x3 h := by
  rw [← main_eq]
  show (match Tryd.prog.funcs[48]? with | some fn => if fn.body.isSome then runBody ⟨Tryd.prog, g, call Tryd.prog g KL lf n, KL 48, lf, std Tryd.prog⟩ fn [x0, x1, x2, x3] h else none | none => none) = _
  rw [Tryd.func48]
  kernel_rfl
end impl_grown
namespace spec_l1In
noncomputable def main (E : Env) (x0 x1 x2 : PV) (h : PHeap) : Res :=
    (E.p.bin .geq 3 x0 x1).bind fun v1 =>
    (wantV v1 true).bind fun v2 =>
    (bif v2 then some (x0, h) else some (.tup [], h)).bind fun v3 =>
    (wantV v1 true).bind fun v4 =>
    (bif v4 then some (x2, v3.2) else some (.tup [], v3.2)).bind fun v5 =>
    (wantV v1 true).bind fun v6 =>
    (bif v6 then pv v5.2 (E.p.bin .leq 3 v3.1 v5.1) else some (.tup [], v5.2)).bind fun v7 =>
    (E.p.pick v1 v7.1 (.bool false)).bind fun v8 =>
    (resV v8).bind fun v9 =>
    some (v9, v7.2)
theorem main_eq (E : Env) (x0 x1 x2 : PV) (h : PHeap) : runBody (E.cx Tryd.prog kl) Tryd.f49 [x0, x1, x2] h = main E x0 x1 x2 h := by kernel_rfl
theorem call_eq (g : Nat → PV) (lf n : Nat) (x0 x1 x2 : PV) (h : PHeap) : CL g lf (n + 1) fn_spec_l1In [x0, x1, x2] h = main (env g lf n) x0 x1 x2 h := by
  rw [← main_eq]
  show (match Tryd.prog.funcs[49]? with | some fn => if fn.body.isSome then runBody ⟨Tryd.prog, g, call Tryd.prog g KL lf n, KL 49, lf, std Tryd.prog⟩ fn [x0, x1, x2] h else none | none => none) = _
  rw [Tryd.func49]
  kernel_rfl
end spec_l1In
namespace spec_l2Joins
noncomputable def main (E : Env) (x0 x1 x2 x3 x4 : PV) (h : PHeap) : Res :=
    (E.C fn_spec_l2Side [x0, x1, x4, (.bool false)] h).bind fun v1 =>
    (E.C fn_spec_l2Grow [x2, x3, v1.1] v1.2).bind fun v2 =>
    (E.C fn_spec_l2Side [x0, x1, x4, (.bool true)] v2.2).bind fun v3 =>
    (E.p.bin .and 3 v2.1 v3.1).bind fun v4 =>
    (E.p.bin .neq 3 v4 (.int .i64 0)).bind fun v5 =>
    (resV v5).bind fun v6 =>
    some (v6, v3.2)
theorem main_eq (E : Env) (x0 x1 x2 x3 x4 : PV) (h : PHeap) : runBody (E.cx Tryd.prog kl) Tryd.f50 [x0, x1, x2, x3, x4] h = main E x0 x1 x2 x3 x4 h := by kernel_rfl
theorem call_eq (g : Nat → PV) (lf n : Nat) (x0 x1 x2 x3 x4 : PV) (h : PHeap) : CL g lf (n + 1) fn_spec_l2Joins [x0, x1, x2, x3, x4] h = main (env g lf n) x0 x1 x2 x3 x4 h := by
  rw [← main_eq]
  show (match Tryd.prog.funcs[50]? with | some fn => if fn.body.isSome then runBody ⟨Tryd.prog, g, call Tryd.prog g KL lf n, KL 50, lf, std Tryd.prog⟩ fn [x0, x1, x2, x3, x4] h else none | none => none) = _
  rw [Tryd.func50]
  kernel_rfl
end spec_l2Joins
namespace spec_l2Masks
noncomputable def lp0 : Code := (codeAt (bodyOf Tryd.f51) [1, 1, 0, 1, 0, 0])
def st0 (x0 x1 x5 x6 : PV) (h : PHeap) : St := ⟨[x0, x1, .junk, .junk, .junk, x5, x6, .junk, .junk, .junk, .junk, .junk, .junk, .junk, .junk, .junk, .junk, .junk, .junk, .junk, .junk, .junk, .junk, .junk, .junk, .junk, .junk, .junk, .junk, .junk, .junk, .junk, .junk, .junk, .junk, .junk, .junk, .junk, .junk, .junk], h⟩
noncomputable def lp1 : Code := (codeAt (bodyOf Tryd.f51) [1, 1, 0, 1, 0, 0, 1, 0, 0, 1, 1, 0, 1, 0, 0])
def st1 (x0 x1 x5 x6 x7 x8 x9 : PV) (h : PHeap) : St := ⟨[x0, x1, .junk, .junk, .junk, x5, x6, x7, x8, x9, .junk, .junk, .junk, .junk, .junk, .junk, .junk, .junk, .junk, .junk, .junk, .junk, .junk, .junk, .junk, .junk, .junk, .junk, .junk, .junk, .junk, .junk, .junk, .junk, .junk, .junk, .junk, .junk, .junk, .junk], h⟩
def se0_0_1_5_6_15 (x0 x1 x5 x6 x15 : PV) (h : PHeap) : St := ⟨[x0, x1, .junk, .junk, .junk, x5, x6, .junk, .junk, .junk, .junk, .junk, .junk, .junk, .junk, x15, .junk, .junk, .junk, .junk, .junk, .junk, .junk, .junk, .junk, .junk, .junk, .junk, .junk, .junk, .junk, .junk, .junk, .junk, .junk, .junk, .junk, .junk, .junk, .junk], h⟩
def se2_0_1_5_6_7_8_9_25 (x0 x1 x5 x6 x7 x8 x9 x25 : PV) (h : PHeap) : St := ⟨[x0, x1, .junk, .junk, .junk, x5, x6, x7, x8, x9, .junk, .junk, .junk, .junk, .junk, .junk, .junk, .junk, .junk, .junk, .junk, .junk, .junk, .junk, .junk, x25, .junk, .junk, .junk, .junk, .junk, .junk, .junk, .junk, .junk, .junk, .junk, .junk, .junk, .junk], h⟩
noncomputable def K0 (E : Env) (K : PX → St → Res) : PX → St → Res := (kBlock 0 (kSeq (ev (E.cx Tryd.prog kl) (codeAt (bodyOf Tryd.f51) [1, 1, 1])) K))
@[simp] theorem K0_ret (E : Env) (K : PX → St → Res) (s : St) : K0 E K .ret s = K .ret s := by kernel_rfl
noncomputable def K1 (E : Env) (K : PX → St → Res) : PX → St → Res := (kBlock 2 (kSeq (ev (E.cx Tryd.prog kl) (codeAt (bodyOf Tryd.f51) [1, 1, 0, 1, 0, 0, 1, 0, 0, 1, 1, 1])) (kBlock 1 (kSeq (ev (E.cx Tryd.prog kl) (codeAt (bodyOf Tryd.f51) [1, 1, 0, 1, 0, 0, 1, 1])) K))))
@[simp] theorem K1_ret (E : Env) (K : PX → St → Res) (s : St) : K1 E K .ret s = K .ret s := by kernel_rfl
noncomputable def body0 (E : Env) (K : PX → St → Res) (x0 x1 x5 x6 : PV) (h : PHeap) : Res :=
    (E.p.bin .mul 3 x0 x1).bind fun v16 =>
    (E.p.bin .lss 3 x6 v16).bind fun v17 =>
    condP v17
     (
      (E.C fn_spec_l1Near [x0, x1, x6] h).bind fun v18 =>
      loopK (ev (E.cx Tryd.prog spec_l2Masks.kl) spec_l2Masks.lp1) E.lf (spec_l2Masks.st1 x0 x1 x5 x6 (.int .i64 0) v18.1 (.int .i64 0) v18.2) (spec_l2Masks.K1 E K))
     (
      K (.exit 0) (se0_0_1_5_6_15 x0 x1 x5 x6 v17 h))
theorem body0_eq (E : Env) (K : PX → St → Res) (x0 x1 x5 x6 : PV) (h : PHeap) : ev (E.cx Tryd.prog kl) lp0 (st0 x0 x1 x5 x6 h) K = body0 E K x0 x1 x5 x6 h := by kernel_rfl
noncomputable def body1 (E : Env) (K : PX → St → Res) (x0 x1 x5 x6 x7 x8 x9 : PV) (h : PHeap) : Res :=
    (E.p.len 23 x8).bind fun v19 =>
    (E.p.bin .lss 3 x9 v19).bind fun v20 =>
    condP v20
     (
      (E.p.indexAddr 23 x8 x9).bind fun v21 =>
      (E.p.load 3 v21 h).bind fun v22 =>
      (E.p.bin .shl 3 (.int .i64 1) v22).bind fun v23 =>
      (E.p.bin .or 3 x7 v23).bind fun v24 =>
      (E.p.bin .add 3 x9 (.int .i64 1)).bind fun v25 =>
      K .normal (st1 x0 x1 x5 x6 v24 x8 v25 h))
     (
      K (.exit 2) (se2_0_1_5_6_7_8_9_25 x0 x1 x5 x6 x7 x8 x9 v20 h))
theorem body1_eq (E : Env) (K : PX → St → Res) (x0 x1 x5 x6 x7 x8 x9 : PV) (h : PHeap) : ev (E.cx Tryd.prog kl) lp1 (st1 x0 x1 x5 x6 x7 x8 x9 h) K = body1 E K x0 x1 x5 x6 x7 x8 x9 h := by kernel_rfl
theorem after0_se0_0_1_5_6_15 (E : Env) (x0 x1 x5 x6 x15 : PV) (h : PHeap) : K0 E (kTop Tryd.prog Tryd.f51) (.exit 0) (se0_0_1_5_6_15 x0 x1 x5 x6 x15 h) =
    (resV x5).bind fun v12 =>
    some (v12, h) := by kernel_rfl
theorem after1_se2_0_1_5_6_7_8_9_25 (E : Env) (K : PX → St → Res) (x0 x1 x5 x6 x7 x8 x9 x25 : PV) (h : PHeap) : K1 E K (.exit 2) (se2_0_1_5_6_7_8_9_25 x0 x1 x5 x6 x7 x8 x9 x25 h) =
    (E.p.buildSlice 23 1 [(0, x7)] h).bind fun v13 =>
    (E.p.append 23 23 x5 v13.1 v13.2).bind fun v14 =>
    (E.p.bin .add 3 x6 (.int .i64 1)).bind fun v15 =>
    K .normal (st0 x0 x1 v14.1 v15 v14.2) := by kernel_rfl
noncomputable def main (E : Env) (x0 x1 : PV) (h : PHeap) : Res :=
    (E.p.buildSlice 23 0 [] h).bind fun v1 =>
    loopK (ev (E.cx Tryd.prog spec_l2Masks.kl) spec_l2Masks.lp0) E.lf (spec_l2Masks.st0 x0 x1 v1.1 (.int .i64 0) v1.2) (spec_l2Masks.K0 E (kTop Tryd.prog Tryd.f51))
theorem main_eq (E : Env) (x0 x1 : PV) (h : PHeap) : runBody (E.cx Tryd.prog kl) Tryd.f51 [x0, x1] h = main E x0 x1 h := by kernel_rfl
theorem call_eq (g : Nat → PV) (lf n : Nat) (x0 x1 : PV) (h : PHeap) : CL g lf (n + 1) fn_spec_l2Masks [x0, x1] h = main (env g lf n) x0 x1 h := by
  rw [← main_eq]
  show (match Tryd.prog.funcs[51]? with | some fn => if fn.body.isSome then runBody ⟨Tryd.prog, g, call Tryd.prog g KL lf n, KL 51, lf, std Tryd.prog⟩ fn [x0, x1] h else none | none => none) = _
  rw [Tryd.func51]
  kernel_rfl
end spec_l2Masks
namespace spec_l2Set
noncomputable def lp0 : Code := (codeAt (bodyOf Tryd.f52) [1, 1, 0, 1, 0, 0])
def st0 (x0 x1 x5 x6 : PV) (h : PHeap) : St := ⟨[x0, x1, .junk, .junk, .junk, x5, x6, .junk, .junk, .junk, .junk, .junk, .junk, .junk, .junk, .junk, .junk, .junk, .junk, .junk, .junk, .junk, .junk, .junk], h⟩
def se0_0_1_5_6_10 (x0 x1 x5 x6 x10 : PV) (h : PHeap) : St := ⟨[x0, x1, .junk, .junk, .junk, x5, x6, .junk, .junk, .junk, x10, .junk, .junk, .junk, .junk, .junk, .junk, .junk, .junk, .junk, .junk, .junk, .junk, .junk], h⟩
noncomputable def K0 (E : Env) (K : PX → St → Res) : PX → St → Res := (kBlock 0 (kSeq (ev (E.cx Tryd.prog kl) (codeAt (bodyOf Tryd.f52) [1, 1, 1])) K))
@[simp] theorem K0_ret (E : Env) (K : PX → St → Res) (s : St) : K0 E K .ret s = K .ret s := by kernel_rfl
noncomputable def body0 (E : Env) (K : PX → St → Res) (x0 x1 x5 x6 : PV) (h : PHeap) : Res :=
    (E.p.len 23 x0).bind fun v11 =>
    (E.p.bin .lss 3 x6 v11).bind fun v12 =>
    condP v12
     (
      (E.p.indexAddr 23 x0 x6).bind fun v13 =>
      (E.p.load 3 v13 h).bind fun v14 =>
      (E.p.bin .eql 3 v14 x1).bind fun v15 =>
      condP v15
       (
        (E.p.bin .shl 3 (.int .i64 1) x6).bind fun v16 =>
        (E.p.bin .or 3 x5 v16).bind fun v17 =>
        (E.p.bin .add 3 x6 (.int .i64 1)).bind fun v18 =>
        K .normal (st0 x0 x1 v17 v18 h))
       (
        (E.p.bin .add 3 x6 (.int .i64 1)).bind fun v19 =>
        K .normal (st0 x0 x1 x5 v19 h)))
     (
      K (.exit 0) (se0_0_1_5_6_10 x0 x1 x5 x6 v12 h))
theorem body0_eq (E : Env) (K : PX → St → Res) (x0 x1 x5 x6 : PV) (h : PHeap) : ev (E.cx Tryd.prog kl) lp0 (st0 x0 x1 x5 x6 h) K = body0 E K x0 x1 x5 x6 h := by kernel_rfl
theorem after0_se0_0_1_5_6_10 (E : Env) (x0 x1 x5 x6 x10 : PV) (h : PHeap) : K0 E (kTop Tryd.prog Tryd.f52) (.exit 0) (se0_0_1_5_6_10 x0 x1 x5 x6 x10 h) =
    (resV x5).bind fun v10 =>
    some (v10, h) := by kernel_rfl
noncomputable def main (E : Env) (x0 x1 : PV) (h : PHeap) : Res :=
    loopK (ev (E.cx Tryd.prog spec_l2Set.kl) spec_l2Set.lp0) E.lf (spec_l2Set.st0 x0 x1 (.int .i64 0) (.int .i64 0) h) (spec_l2Set.K0 E (kTop Tryd.prog Tryd.f52))
theorem main_eq (E : Env) (x0 x1 : PV) (h : PHeap) : runBody (E.cx Tryd.prog kl) Tryd.f52 [x0, x1] h = main E x0 x1 h := by kernel_rfl
theorem call_eq (g : Nat → PV) (lf n : Nat) (x0 x1 : PV) (h : PHeap) : CL g lf (n + 1) fn_spec_l2Set [x0, x1] h = main (env g lf n) x0 x1 h := by
  rw [← main_eq]
  show (match Tryd.prog.funcs[52]? with | some fn => if fn.body.isSome then runBody ⟨Tryd.prog, g, call Tryd.prog g KL lf n, KL 52, lf, std Tryd.prog⟩ fn [x0, x1] h else none | none => none) = _
  rw [Tryd.func52]
  kernel_rfl
end spec_l2Set
namespace spec_BoardOk
noncomputable def main (E : Env) (x0 x1 : PV) (h : PHeap) : Res :=
    (E.C fn_spec_l1In [x0, (.int .i64 1), (.int .i64 4)] h).bind fun v1 =>
    (wantV v1.1 true).bind fun v2 =>
    (bif v2 then some (x1, v1.2) else some (.tup [], v1.2)).bind fun v3 =>
    (wantV v1.1 true).bind fun v4 =>
    (bif v4 then E.C fn_spec_l1In [v3.1, (.int .i64 1), (.int .i64 4)] v3.2 else some (.tup [], v3.2)).bind fun v5 =>
    (E.p.pick v1.1 v5.1 (.bool false)).bind fun v6 =>
    (wantV v6 true).bind fun v7 =>
    (bif v7 then some (x0, v5.2) else some (.tup [], v5.2)).bind fun v8 =>
    (wantV v6 true).bind fun v9 =>
    (bif v9 then some (x1, v8.2) else some (.tup [], v8.2)).bind fun v10 =>
    (wantV v6 true).bind fun v11 =>
    (bif v11 then pv v10.2 (E.p.bin .mul 3 v8.1 v10.1) else some (.tup [], v10.2)).bind fun v12 =>
    (wantV v6 true).bind fun v13 =>
    (bif v13 then pv v12.2 (E.p.bin .leq 3 v12.1 (.int .i64 9)) else some (.tup [], v12.2)).bind fun v14 =>
    (E.p.pick v6 v14.1 (.bool false)).bind fun v15 =>
    (resV v15).bind fun v16 =>
    some (v16, v14.2)
theorem main_eq (E : Env) (x0 x1 : PV) (h : PHeap) : runBody (E.cx Tryd.prog kl) Tryd.f53 [x0, x1] h = main E x0 x1 h := by kernel_rfl
theorem call_eq (g : Nat → PV) (lf n : Nat) (x0 x1 : PV) (h : PHeap) : CL g lf (n + 1) fn_spec_BoardOk [x0, x1] h = main (env g lf n) x0 x1 h := by
  rw [← main_eq]
  show (match Tryd.prog.funcs[53]? with | some fn => if fn.body.isSome then runBody ⟨Tryd.prog, g, call Tryd.prog g KL lf n, KL 53, lf, std Tryd.prog⟩ fn [x0, x1] h else none | none => none) = _
  rw [Tryd.func53]
  kernel_rfl
end spec_BoardOk
namespace impl_BoardOk
noncomputable def main (E : Env) (x0 x1 : PV) (h : PHeap) : Res :=
    (E.C fn_impl_sizeOk [x0] h).bind fun v1 =>
    (wantV v1.1 true).bind fun v2 =>
    (bif v2 then some (x1, v1.2) else some (.tup [], v1.2)).bind fun v3 =>
    (wantV v1.1 true).bind fun v4 =>
    (bif v4 then E.C fn_impl_sizeOk [v3.1] v3.2 else some (.tup [], v3.2)).bind fun v5 =>
    (E.p.pick v1.1 v5.1 (.bool false)).bind fun v6 =>
    (wantV v6 true).bind fun v7 =>
    (bif v7 then some (x0, v5.2) else some (.tup [], v5.2)).bind fun v8 =>
    (wantV v6 true).bind fun v9 =>
    (bif v9 then some (x1, v8.2) else some (.tup [], v8.2)).bind fun v10 =>
    (wantV v6 true).bind fun v11 =>
    (bif v11 then pv v10.2 (E.p.bin .mul 3 v8.1 v10.1) else some (.tup [], v10.2)).bind fun v12 =>
    (wantV v6 true).bind fun v13 =>
    (bif v13 then pv v12.2 (E.p.bin .leq 3 v12.1 (.int .i64 9)) else some (.tup [], v12.2)).bind fun v14 =>
    (E.p.pick v6 v14.1 (.bool false)).bind fun v15 =>
    (resV v15).bind fun v16 =>
    some (v16, v14.2)
theorem main_eq (E : Env) (x0 x1 : PV) (h : PHeap) : runBody (E.cx Tryd.prog kl) Tryd.f54 [x0, x1] h = main E x0 x1 h := by kernel_rfl
theorem call_eq (g : Nat → PV) (lf n : Nat) (x0 x1 : PV) (h : PHeap) : CL g lf (n + 1) fn_impl_BoardOk [x0, x1] h = main (env g lf n) x0 x1 h := by
  rw [← main_eq]
  show (match Tryd.prog.funcs[54]? with | some fn => if fn.body.isSome then runBody ⟨Tryd.prog, g, call Tryd.prog g KL lf n, KL 54, lf, std Tryd.prog⟩ fn [x0, x1] h else none | none => none) = _
  rw [Tryd.func54]
  kernel_rfl
end impl_BoardOk
namespace impl_exchanged
noncomputable def main (E : Env) (x0 : PV) (h : PHeap) : Res :=
    (E.p.bin .eql 3 x0 (.int .i64 1)).bind fun v1 =>
    condP v1
     (
      (resV (.int .i64 2)).bind fun v2 =>
      some (v2, h))
     (
      (E.p.bin .eql 3 x0 (.int .i64 2)).bind fun v3 =>
      condP v3
       (
        (resV (.int .i64 1)).bind fun v4 =>
        some (v4, h))
       (
        (resV x0).bind fun v5 =>
        some (v5, h)))
theorem main_eq (E : Env) (x0 : PV) (h : PHeap) : runBody (E.cx Tryd.prog kl) Tryd.f55 [x0] h = main E x0 h := by kernel_rfl
theorem call_eq (g : Nat → PV) (lf n : Nat) (x0 : PV) (h : PHeap) : CL g lf (n + 1) fn_impl_exchanged [x0] h = main (env g lf n) x0 h := by
  rw [← main_eq]
  show (match Tryd.prog.funcs[55]? with | some fn => if fn.body.isSome then runBody ⟨Tryd.prog, g, call Tryd.prog g KL lf n, KL 55, lf, std Tryd.prog⟩ fn [x0] h else none | none => none) = _
  rw [Tryd.func55]
  kernel_rfl
end impl_exchanged
namespace impl_mirroredCell
noncomputable def main (E : Env) (x0 x1 x2 : PV) (h : PHeap) : Res :=
    (E.p.bin .rem 3 x2 x1).bind fun v1 =>
    (E.p.bin .mul 3 v1 x0).bind fun v2 =>
    (E.p.bin .quo 3 x2 x1).bind fun v3 =>
    (E.p.bin .add 3 v2 v3).bind fun v4 =>
    (resV v4).bind fun v5 =>
    some (v5, h)
theorem main_eq (E : Env) (x0 x1 x2 : PV) (h : PHeap) : runBody (E.cx Tryd.prog kl) Tryd.f56 [x0, x1, x2] h = main E x0 x1 x2 h := by kernel_rfl
theorem call_eq (g : Nat → PV) (lf n : Nat) (x0 x1 x2 : PV) (h : PHeap) : CL g lf (n + 1) fn_impl_mirroredCell [x0, x1, x2] h = main (env g lf n) x0 x1 x2 h := by
  rw [← main_eq]
  show (match Tryd.prog.funcs[56]? with | some fn => if fn.body.isSome then runBody ⟨Tryd.prog, g, call Tryd.prog g KL lf n, KL 56, lf, std Tryd.prog⟩ fn [x0, x1, x2] h else none | none => none) = _
  rw [Tryd.func56]
  kernel_rfl
end impl_mirroredCell
namespace spec_l20Position
noncomputable def lp0 : Code := (codeAt (bodyOf Tryd.f57) [1, 1, 1, 1, 0, 1, 0, 0])
def st0 (x0 x1 x7 x8 x9 x10 x11 : PV) (h : PHeap) : St := ⟨[x0, x1, .junk, .junk, .junk, .junk, .junk, x7, x8, x9, x10, x11, .junk, .junk, .junk, .junk, .junk, .junk, .junk, .junk, .junk, .junk, .junk, .junk, .junk, .junk, .junk, .junk, .junk, .junk, .junk, .junk, .junk, .junk, .junk, .junk, .junk, .junk, .junk, .junk, .junk, .junk, .junk, .junk, .junk, .junk, .junk, .junk, .junk, .junk, .junk, .junk, .junk, .junk, .junk, .junk, .junk, .junk, .junk, .junk, .junk, .junk, .junk, .junk, .junk, .junk, .junk, .junk, .junk, .junk, .junk, .junk, .junk], h⟩
def se0_0_1_7_8_9_10_11_32 (x0 x1 x7 x8 x9 x10 x11 x32 : PV) (h : PHeap) : St := ⟨[x0, x1, .junk, .junk, .junk, .junk, .junk, x7, x8, x9, x10, x11, .junk, .junk, .junk, .junk, .junk, .junk, .junk, .junk, .junk, .junk, .junk, .junk, .junk, .junk, .junk, .junk, .junk, .junk, .junk, .junk, x32, .junk, .junk, .junk, .junk, .junk, .junk, .junk, .junk, .junk, .junk, .junk, .junk, .junk, .junk, .junk, .junk, .junk, .junk, .junk, .junk, .junk, .junk, .junk, .junk, .junk, .junk, .junk, .junk, .junk, .junk, .junk, .junk, .junk, .junk, .junk, .junk, .junk, .junk, .junk, .junk], h⟩
noncomputable def K0 (E : Env) (K : PX → St → Res) : PX → St → Res := (kBlock 0 (kSeq (ev (E.cx Tryd.prog kl) (codeAt (bodyOf Tryd.f57) [1, 1, 1, 1, 1])) K))
@[simp] theorem K0_ret (E : Env) (K : PX → St → Res) (s : St) : K0 E K .ret s = K .ret s := by kernel_rfl
noncomputable def body0 (E : Env) (K : PX → St → Res) (x0 x1 x7 x8 x9 x10 x11 : PV) (h : PHeap) : Res :=
    (E.p.bin .mul 3 x7 x8).bind fun v58 =>
    (E.p.max v58 [(.int .i64 0)]).bind fun v59 =>
    (E.p.bin .lss 3 x11 v59).bind fun v60 =>
    (wantV v60 true).bind fun v61 =>
    (bif v61 then some (x11, h) else some (.tup [], h)).bind fun v62 =>
    (wantV v60 true).bind fun v63 =>
    (bif v63 then pv v62.2 (E.p.bin .lss 3 v62.1 (.int .i64 9)) else some (.tup [], v62.2)).bind fun v64 =>
    (E.p.pick v60 v64.1 (.bool false)).bind fun v65 =>
    condP v65
     (
      (E.C fn_spec_l20Rd_pick [x0, (.int .i64 3)] v64.2).bind fun v66 =>
      (E.p.bin .gtr 3 x10 (.int .i64 0)).bind fun v67 =>
      (wantV v67 true).bind fun v68 =>
      (bif v68 then some (x0, v66.2) else some (.tup [], v66.2)).bind fun v69 =>
      (wantV v67 true).bind fun v70 =>
      (bif v70 then E.C fn_spec_l20Rd_pick [v69.1, (.int .i64 4)] v69.2 else some (.tup [], v69.2)).bind fun v71 =>
      (wantV v67 true).bind fun v72 =>
      (bif v72 then some (x10, v71.2) else some (.tup [], v71.2)).bind fun v73 =>
      (wantV v67 true).bind fun v74 =>
      (bif v74 then pv v73.2 (E.p.bin .lss 3 v71.1 v73.1) else some (.tup [], v73.2)).bind fun v75 =>
      (E.p.pick v67 v75.1 (.bool false)).bind fun v76 =>
      condP v76
       (
        (E.p.buildSlice 23 1 [(0, (.int .i64 0))] v75.2).bind fun v77 =>
        (E.p.append 23 23 x9 v77.1 v77.2).bind fun v78 =>
        (E.p.bin .add 3 x11 (.int .i64 1)).bind fun v79 =>
        K .normal (st0 x0 x1 x7 x8 v78.1 x10 v79 v78.2))
       (
        (E.p.buildSlice 23 1 [(0, v66.1)] v75.2).bind fun v80 =>
        (E.p.append 23 23 x9 v80.1 v80.2).bind fun v81 =>
        (E.p.bin .add 3 x11 (.int .i64 1)).bind fun v82 =>
        K .normal (st0 x0 x1 x7 x8 v81.1 x10 v82 v81.2)))
     (
      K (.exit 0) (se0_0_1_7_8_9_10_11_32 x0 x1 x7 x8 x9 x10 x11 v65 v64.2))
theorem body0_eq (E : Env) (K : PX → St → Res) (x0 x1 x7 x8 x9 x10 x11 : PV) (h : PHeap) : ev (E.cx Tryd.prog kl) lp0 (st0 x0 x1 x7 x8 x9 x10 x11 h) K = body0 E K x0 x1 x7 x8 x9 x10 x11 h := by kernel_rfl
theorem after0_se0_0_1_7_8_9_10_11_32 (E : Env) (x0 x1 x7 x8 x9 x10 x11 x32 : PV) (h : PHeap) : K0 E (kTop Tryd.prog Tryd.f57) (.exit 0) (se0_0_1_7_8_9_10_11_32 x0 x1 x7 x8 x9 x10 x11 x32 h) =
    (E.p.bin .mul 3 x1 (.int .i64 2)).bind fun v32 =>
    (E.C fn_spec_l20Rd_odd [x0, v32] h).bind fun v33 =>
    condP v33.1
     (
      (E.C fn_spec_l20Rd_pick [x0, (.int .i64 2)] v33.2).bind fun v34 =>
      (E.p.bin .eql 3 v34.1 (.int .i64 0)).bind fun v35 =>
      condP v35
       (
        (E.p.buildSlice 23 1 [(0, (.int .i64 0))] v34.2).bind fun v36 =>
        (E.p.append 23 23 x9 v36.1 v36.2).bind fun v37 =>
        (resV x7).bind fun v38 =>
        (resV x8).bind fun v39 =>
        (resV v37.1).bind fun v40 =>
        some (.tup [v38, v39, v40], v37.2))
       (
        (E.p.len 23 x9).bind fun v41 =>
        (E.p.bin .gtr 3 v41 (.int .i64 0)).bind fun v42 =>
        condP v42
         (
          (E.p.buildSlice 23 2 [(0, (.int .i64 (-1))), (1, (.int .i64 3))] v34.2).bind fun v43 =>
          (E.C fn_spec_l20Rd_pick [x0, (.int .i64 2)] v43.2).bind fun v44 =>
          (E.p.indexAddr 23 v43.1 v44.1).bind fun v45 =>
          (E.p.load 3 v45 v44.2).bind fun v46 =>
          (E.p.indexAddr 23 x9 (.int .i64 0)).bind fun v47 =>
          (E.p.store 3 v47 v46 v44.2).bind fun v48 =>
          (resV x7).bind fun v49 =>
          (resV x8).bind fun v50 =>
          (resV x9).bind fun v51 =>
          some (.tup [v49, v50, v51], v48))
         (
          (resV x7).bind fun v52 =>
          (resV x8).bind fun v53 =>
          (resV x9).bind fun v54 =>
          some (.tup [v52, v53, v54], v34.2))))
     (
      (resV x7).bind fun v55 =>
      (resV x8).bind fun v56 =>
      (resV x9).bind fun v57 =>
      some (.tup [v55, v56, v57], v33.2)) := by kernel_rfl
noncomputable def main (E : Env) (x0 x1 : PV) (h : PHeap) : Res :=
    (E.p.bin .mul 3 x1 (.int .i64 2)).bind fun v1 =>
    (E.C fn_spec_l20Board [x0, v1] h).bind fun v2 =>
    (E.p.extract v2.1 0).bind fun v3 =>
    (E.p.extract v2.1 1).bind fun v4 =>
    (E.p.buildSlice 23 0 [] v2.2).bind fun v5 =>
    (E.C fn_spec_l20Rd_pick [x0, (.int .i64 4)] v5.2).bind fun v6 =>
    loopK (ev (E.cx Tryd.prog spec_l20Position.kl) spec_l20Position.lp0) E.lf (spec_l20Position.st0 x0 x1 v3 v4 v5.1 v6.1 (.int .i64 0) v6.2) (spec_l20Position.K0 E (kTop Tryd.prog Tryd.f57))
theorem main_eq (E : Env) (x0 x1 : PV) (h : PHeap) : runBody (E.cx Tryd.prog kl) Tryd.f57 [x0, x1] h = main E x0 x1 h := by kernel_rfl
theorem call_eq (g : Nat → PV) (lf n : Nat) (x0 x1 : PV) (h : PHeap) : CL g lf (n + 1) fn_spec_l20Position [x0, x1] h = main (env g lf n) x0 x1 h := by
  rw [← main_eq]
  show (match Tryd.prog.funcs[57]? with | some fn => if fn.body.isSome then runBody ⟨Tryd.prog, g, call Tryd.prog g KL lf n, KL 57, lf, std Tryd.prog⟩ fn [x0, x1] h else none | none => none) = _
  rw [Tryd.func57]
  kernel_rfl
end spec_l20Position
namespace spec_l20Rd_pick
noncomputable def main (E : Env) (x0 x1 : PV) (h : PHeap) : Res :=
    (E.p.ptr x0).bind fun v1 =>
    (E.p.fieldAddr 61 v1 1).bind fun v2 =>
    (E.p.load 3 v2 h).bind fun v3 =>
    (E.p.bin .add 3 v3 (.int .i64 1)).bind fun v4 =>
    (E.p.ptr x0).bind fun v5 =>
    (E.p.fieldAddr 61 v5 1).bind fun v6 =>
    (E.p.store 3 v6 v4 h).bind fun v7 =>
    (E.p.bin .lss 3 x1 (.int .i64 1)).bind fun v8 =>
    (wantV v8 false).bind fun v9 =>
    (bif v9 then some (x0, v7) else some (.tup [], v7)).bind fun v10 =>
    (wantV v8 false).bind fun v11 =>
    (bif v11 then pv v10.2 (E.p.ptr v10.1) else some (.tup [], v10.2)).bind fun v12 =>
    (wantV v8 false).bind fun v13 =>
    (bif v13 then pv v12.2 (E.p.fieldAddr 61 v12.1 0) else some (.tup [], v12.2)).bind fun v14 =>
    (wantV v8 false).bind fun v15 =>
    (bif v15 then pv v14.2 (E.p.load 22 v14.1 v14.2) else some (.tup [], v14.2)).bind fun v16 =>
    (wantV v8 false).bind fun v17 =>
    (bif v17 then pv v16.2 (E.p.len 22 v16.1) else some (.tup [], v16.2)).bind fun v18 =>
    (wantV v8 false).bind fun v19 =>
    (bif v19 then pv v18.2 (E.p.bin .eql 3 v18.1 (.int .i64 0)) else some (.tup [], v18.2)).bind fun v20 =>
    (E.p.pick v8 (.bool true) v20.1).bind fun v21 =>
    condP v21
     (
      (resV (.int .i64 0)).bind fun v22 =>
      some (v22, v20.2))
     (
      (E.p.ptr x0).bind fun v23 =>
      (E.p.fieldAddr 61 v23 1).bind fun v24 =>
      (E.p.load 3 v24 v20.2).bind fun v25 =>
      (E.p.bin .sub 3 v25 (.int .i64 1)).bind fun v26 =>
      (E.p.ptr x0).bind fun v27 =>
      (E.p.fieldAddr 61 v27 0).bind fun v28 =>
      (E.p.load 22 v28 v20.2).bind fun v29 =>
      (E.p.len 22 v29).bind fun v30 =>
      (E.p.bin .lss 3 v26 v30).bind fun v31 =>
      condP v31
       (
        (E.p.ptr x0).bind fun v32 =>
        (E.p.fieldAddr 61 v32 0).bind fun v33 =>
        (E.p.load 22 v33 v20.2).bind fun v34 =>
        (E.p.indexAddr 22 v34 v26).bind fun v35 =>
        (E.p.load 5 v35 v20.2).bind fun v36 =>
        (E.p.conv 5 3 v36).bind fun v37 =>
        (E.p.bin .rem 3 v37 x1).bind fun v38 =>
        (resV v38).bind fun v39 =>
        some (v39, v20.2))
       (
        (E.p.ptr x0).bind fun v40 =>
        (E.p.fieldAddr 61 v40 0).bind fun v41 =>
        (E.p.load 22 v41 v20.2).bind fun v42 =>
        (E.p.ptr x0).bind fun v43 =>
        (E.p.fieldAddr 61 v43 0).bind fun v44 =>
        (E.p.load 22 v44 v20.2).bind fun v45 =>
        (E.p.len 22 v45).bind fun v46 =>
        (E.p.bin .rem 3 v26 v46).bind fun v47 =>
        (E.p.indexAddr 22 v42 v47).bind fun v48 =>
        (E.p.load 5 v48 v20.2).bind fun v49 =>
        (E.p.conv 5 3 v49).bind fun v50 =>
        (E.p.bin .mul 3 v50 (.int .i64 131)).bind fun v51 =>
        (E.p.ptr x0).bind fun v52 =>
        (E.p.fieldAddr 61 v52 0).bind fun v53 =>
        (E.p.load 22 v53 v20.2).bind fun v54 =>
        (E.p.bin .mul 3 v26 (.int .i64 7)).bind fun v55 =>
        (E.p.bin .add 3 v55 (.int .i64 3)).bind fun v56 =>
        (E.p.ptr x0).bind fun v57 =>
        (E.p.fieldAddr 61 v57 0).bind fun v58 =>
        (E.p.load 22 v58 v20.2).bind fun v59 =>
        (E.p.len 22 v59).bind fun v60 =>
        (E.p.bin .rem 3 v56 v60).bind fun v61 =>
        (E.p.indexAddr 22 v54 v61).bind fun v62 =>
        (E.p.load 5 v62 v20.2).bind fun v63 =>
        (E.p.conv 5 3 v63).bind fun v64 =>
        (E.p.bin .mul 3 v64 (.int .i64 1117)).bind fun v65 =>
        (E.p.bin .add 3 v51 v65).bind fun v66 =>
        (E.p.bin .mul 3 v26 (.int .i64 29)).bind fun v67 =>
        (E.p.bin .add 3 v66 v67).bind fun v68 =>
        (E.p.ptr x0).bind fun v69 =>
        (E.p.fieldAddr 61 v69 0).bind fun v70 =>
        (E.p.load 22 v70 v20.2).bind fun v71 =>
        (E.p.len 22 v71).bind fun v72 =>
        (E.p.bin .quo 3 v26 v72).bind fun v73 =>
        (E.p.bin .mul 3 v73 (.int .i64 53)).bind fun v74 =>
        (E.p.bin .add 3 v68 v74).bind fun v75 =>
        (E.p.bin .quo 3 v75 (.int .i64 64)).bind fun v76 =>
        (E.p.bin .xor 3 v75 v76).bind fun v77 =>
        (E.p.bin .rem 3 v77 x1).bind fun v78 =>
        (resV v78).bind fun v79 =>
        some (v79, v20.2)))
theorem main_eq (E : Env) (x0 x1 : PV) (h : PHeap) : runBody (E.cx Tryd.prog kl) Tryd.f58 [x0, x1] h = main E x0 x1 h := by kernel_rfl
theorem call_eq (g : Nat → PV) (lf n : Nat) (x0 x1 : PV) (h : PHeap) : CL g lf (n + 1) fn_spec_l20Rd_pick [x0, x1] h = main (env g lf n) x0 x1 h := by
  rw [← main_eq]
  show (match Tryd.prog.funcs[58]? with | some fn => if fn.body.isSome then runBody ⟨Tryd.prog, g, call Tryd.prog g KL lf n, KL 58, lf, std Tryd.prog⟩ fn [x0, x1] h else none | none => none) = _
  rw [Tryd.func58]
  kernel_rfl
end spec_l20Rd_pick
namespace impl_cellOk
noncomputable def main (E : Env) (x0 x1 x2 : PV) (h : PHeap) : Res :=
    (E.C fn_impl_BoardOk [x0, x1] h).bind fun v1 =>
    (wantV v1.1 true).bind fun v2 =>
    (bif v2 then some (x2, v1.2) else some (.tup [], v1.2)).bind fun v3 =>
    (wantV v1.1 true).bind fun v4 =>
    (bif v4 then pv v3.2 (E.p.bin .geq 3 v3.1 (.int .i64 0)) else some (.tup [], v3.2)).bind fun v5 =>
    (E.p.pick v1.1 v5.1 (.bool false)).bind fun v6 =>
    (wantV v6 true).bind fun v7 =>
    (bif v7 then some (x2, v5.2) else some (.tup [], v5.2)).bind fun v8 =>
    (wantV v6 true).bind fun v9 =>
    (bif v9 then some (x0, v8.2) else some (.tup [], v8.2)).bind fun v10 =>
    (wantV v6 true).bind fun v11 =>
    (bif v11 then some (x1, v10.2) else some (.tup [], v10.2)).bind fun v12 =>
    (wantV v6 true).bind fun v13 =>
    (bif v13 then pv v12.2 (E.p.bin .mul 3 v10.1 v12.1) else some (.tup [], v12.2)).bind fun v14 =>
    (wantV v6 true).bind fun v15 =>
    (bif v15 then pv v14.2 (E.p.bin .lss 3 v8.1 v14.1) else some (.tup [], v14.2)).bind fun v16 =>
    (E.p.pick v6 v16.1 (.bool false)).bind fun v17 =>
    (resV v17).bind fun v18 =>
    some (v18, v16.2)
theorem main_eq (E : Env) (x0 x1 x2 : PV) (h : PHeap) : runBody (E.cx Tryd.prog kl) Tryd.f59 [x0, x1, x2] h = main E x0 x1 x2 h := by kernel_rfl
theorem call_eq (g : Nat → PV) (lf n : Nat) (x0 x1 x2 : PV) (h : PHeap) : CL g lf (n + 1) fn_impl_cellOk [x0, x1, x2] h = main (env g lf n) x0 x1 x2 h := by
  rw [← main_eq]
  show (match Tryd.prog.funcs[59]? with | some fn => if fn.body.isSome then runBody ⟨Tryd.prog, g, call Tryd.prog g KL lf n, KL 59, lf, std Tryd.prog⟩ fn [x0, x1, x2] h else none | none => none) = _
  rw [Tryd.func59]
  kernel_rfl
end impl_cellOk
namespace impl_cellsIn
noncomputable def lp0 : Code := (codeAt (bodyOf Tryd.f60) [1, 1, 0, 1, 0, 0])
def st0 (x0 x3 x5 : PV) (h : PHeap) : St := ⟨[x0, .junk, .junk, x3, .junk, x5, .junk, .junk, .junk, .junk, .junk, .junk, .junk, .junk, .junk, .junk, .junk, .junk, .junk], h⟩
def se0_0_3_5_6 (x0 x3 x5 x6 : PV) (h : PHeap) : St := ⟨[x0, .junk, .junk, x3, .junk, x5, x6, .junk, .junk, .junk, .junk, .junk, .junk, .junk, .junk, .junk, .junk, .junk, .junk], h⟩
noncomputable def K0 (E : Env) (K : PX → St → Res) : PX → St → Res := (kBlock 0 (kSeq (ev (E.cx Tryd.prog kl) (codeAt (bodyOf Tryd.f60) [1, 1, 1])) K))
@[simp] theorem K0_ret (E : Env) (K : PX → St → Res) (s : St) : K0 E K .ret s = K .ret s := by kernel_rfl
noncomputable def body0 (E : Env) (K : PX → St → Res) (x0 x3 x5 : PV) (h : PHeap) : Res :=
    (E.p.bin .lss 3 x5 (.int .i64 9)).bind fun v10 =>
    condP v10
     (
      (E.p.bin .shr 3 x0 x5).bind fun v11 =>
      (E.p.bin .and 3 v11 (.int .i64 1)).bind fun v12 =>
      (E.p.bin .eql 3 v12 (.int .i64 1)).bind fun v13 =>
      condP v13
       (
        (E.p.buildSlice 23 1 [(0, x5)] h).bind fun v14 =>
        (E.p.append 23 23 x3 v14.1 v14.2).bind fun v15 =>
        (E.p.bin .add 3 x5 (.int .i64 1)).bind fun v16 =>
        K .normal (st0 x0 v15.1 v16 v15.2))
       (
        (E.p.bin .add 3 x5 (.int .i64 1)).bind fun v17 =>
        K .normal (st0 x0 x3 v17 h)))
     (
      K (.exit 0) (se0_0_3_5_6 x0 x3 x5 v10 h))
theorem body0_eq (E : Env) (K : PX → St → Res) (x0 x3 x5 : PV) (h : PHeap) : ev (E.cx Tryd.prog kl) lp0 (st0 x0 x3 x5 h) K = body0 E K x0 x3 x5 h := by kernel_rfl
theorem after0_se0_0_3_5_6 (E : Env) (x0 x3 x5 x6 : PV) (h : PHeap) : K0 E (kTop Tryd.prog Tryd.f60) (.exit 0) (se0_0_3_5_6 x0 x3 x5 x6 h) =
    (resV x3).bind fun v9 =>
    some (v9, h) := by kernel_rfl
noncomputable def main (E : Env) (x0 : PV) (h : PHeap) : Res :=
    loopK (ev (E.cx Tryd.prog impl_cellsIn.kl) impl_cellsIn.lp0) E.lf (impl_cellsIn.st0 x0 .nilsl (.int .i64 0) h) (impl_cellsIn.K0 E (kTop Tryd.prog Tryd.f60))
theorem main_eq (E : Env) (x0 : PV) (h : PHeap) : runBody (E.cx Tryd.prog kl) Tryd.f60 [x0] h = main E x0 h := by kernel_rfl
theorem call_eq (g : Nat → PV) (lf n : Nat) (x0 : PV) (h : PHeap) : CL g lf (n + 1) fn_impl_cellsIn [x0] h = main (env g lf n) x0 h := by
  rw [← main_eq]
  show (match Tryd.prog.funcs[60]? with | some fn => if fn.body.isSome then runBody ⟨Tryd.prog, g, call Tryd.prog g KL lf n, KL 60, lf, std Tryd.prog⟩ fn [x0] h else none | none => none) = _
  rw [Tryd.func60]
  kernel_rfl
end impl_cellsIn
namespace spec_l2List
noncomputable def lp0 : Code := (codeAt (bodyOf Tryd.f61) [1, 1, 0, 1, 0, 0])
def st0 (x0 x3 x4 : PV) (h : PHeap) : St := ⟨[x0, .junk, .junk, x3, x4, .junk, .junk, .junk, .junk, .junk, .junk, .junk, .junk, .junk, .junk, .junk, .junk, .junk, .junk, .junk, .junk, .junk], h⟩
def se0_0_3_4_9 (x0 x3 x4 x9 : PV) (h : PHeap) : St := ⟨[x0, .junk, .junk, x3, x4, .junk, .junk, .junk, .junk, x9, .junk, .junk, .junk, .junk, .junk, .junk, .junk, .junk, .junk, .junk, .junk, .junk], h⟩
noncomputable def K0 (E : Env) (K : PX → St → Res) : PX → St → Res := (kBlock 0 (kSeq (ev (E.cx Tryd.prog kl) (codeAt (bodyOf Tryd.f61) [1, 1, 1])) K))
@[simp] theorem K0_ret (E : Env) (K : PX → St → Res) (s : St) : K0 E K .ret s = K .ret s := by kernel_rfl
noncomputable def body0 (E : Env) (K : PX → St → Res) (x0 x3 x4 : PV) (h : PHeap) : Res :=
    (E.p.bin .shr 3 x0 x4).bind fun v12 =>
    (E.p.bin .gtr 3 v12 (.int .i64 0)).bind fun v13 =>
    condP v13
     (
      (E.p.bin .shr 3 x0 x4).bind fun v14 =>
      (E.p.bin .rem 3 v14 (.int .i64 2)).bind fun v15 =>
      (E.p.bin .eql 3 v15 (.int .i64 1)).bind fun v16 =>
      condP v16
       (
        (E.p.buildSlice 23 1 [(0, x4)] h).bind fun v17 =>
        (E.p.append 23 23 x3 v17.1 v17.2).bind fun v18 =>
        (E.p.bin .add 3 x4 (.int .i64 1)).bind fun v19 =>
        K .normal (st0 x0 v18.1 v19 v18.2))
       (
        (E.p.bin .add 3 x4 (.int .i64 1)).bind fun v20 =>
        K .normal (st0 x0 x3 v20 h)))
     (
      K (.exit 0) (se0_0_3_4_9 x0 x3 x4 v13 h))
theorem body0_eq (E : Env) (K : PX → St → Res) (x0 x3 x4 : PV) (h : PHeap) : ev (E.cx Tryd.prog kl) lp0 (st0 x0 x3 x4 h) K = body0 E K x0 x3 x4 h := by kernel_rfl
theorem after0_se0_0_3_4_9 (E : Env) (x0 x3 x4 x9 : PV) (h : PHeap) : K0 E (kTop Tryd.prog Tryd.f61) (.exit 0) (se0_0_3_4_9 x0 x3 x4 x9 h) =
    (resV x3).bind fun v11 =>
    some (v11, h) := by kernel_rfl
noncomputable def main (E : Env) (x0 : PV) (h : PHeap) : Res :=
    (E.p.buildSlice 23 0 [] h).bind fun v1 =>
    loopK (ev (E.cx Tryd.prog spec_l2List.kl) spec_l2List.lp0) E.lf (spec_l2List.st0 x0 v1.1 (.int .i64 0) v1.2) (spec_l2List.K0 E (kTop Tryd.prog Tryd.f61))
theorem main_eq (E : Env) (x0 : PV) (h : PHeap) : runBody (E.cx Tryd.prog kl) Tryd.f61 [x0] h = main E x0 h := by kernel_rfl
theorem call_eq (g : Nat → PV) (lf n : Nat) (x0 : PV) (h : PHeap) : CL g lf (n + 1) fn_spec_l2List [x0] h = main (env g lf n) x0 h := by
  rw [← main_eq]
  show (match Tryd.prog.funcs[61]? with | some fn => if fn.body.isSome then runBody ⟨Tryd.prog, g, call Tryd.prog g KL lf n, KL 61, lf, std Tryd.prog⟩ fn [x0] h else none | none => none) = _
  rw [Tryd.func61]
  kernel_rfl
end spec_l2List
namespace spec_l2Grow
noncomputable def lp0 : Code := (codeAt (bodyOf Tryd.f62) [1, 1, 0, 1, 0, 0])
def st0 (x0 x1 x7 x8 : PV) (h : PHeap) : St := ⟨[x0, x1, .junk, .junk, .junk, .junk, .junk, x7, x8, .junk, .junk, .junk, .junk, .junk, .junk, .junk, .junk, .junk, .junk, .junk, .junk, .junk, .junk, .junk, .junk, .junk, .junk, .junk, .junk, .junk, .junk, .junk, .junk, .junk, .junk, .junk, .junk, .junk, .junk, .junk], h⟩
noncomputable def lp1 : Code := (codeAt (bodyOf Tryd.f62) [1, 1, 0, 1, 0, 0, 1, 0, 1, 0, 1, 0, 0])
def st1 (x0 x1 x7 x9 x10 : PV) (h : PHeap) : St := ⟨[x0, x1, .junk, .junk, .junk, .junk, .junk, x7, .junk, x9, x10, .junk, .junk, .junk, .junk, .junk, .junk, .junk, .junk, .junk, .junk, .junk, .junk, .junk, .junk, .junk, .junk, .junk, .junk, .junk, .junk, .junk, .junk, .junk, .junk, .junk, .junk, .junk, .junk, .junk], h⟩
def se0_0_1_7_14 (x0 x1 x7 x14 : PV) (h : PHeap) : St := ⟨[x0, x1, .junk, .junk, .junk, .junk, .junk, x7, .junk, .junk, .junk, .junk, .junk, .junk, x14, .junk, .junk, .junk, .junk, .junk, .junk, .junk, .junk, .junk, .junk, .junk, .junk, .junk, .junk, .junk, .junk, .junk, .junk, .junk, .junk, .junk, .junk, .junk, .junk, .junk], h⟩
def se2_0_1_7_9_10_19 (x0 x1 x7 x9 x10 x19 : PV) (h : PHeap) : St := ⟨[x0, x1, .junk, .junk, .junk, .junk, .junk, x7, .junk, x9, x10, .junk, .junk, .junk, .junk, .junk, .junk, .junk, .junk, x19, .junk, .junk, .junk, .junk, .junk, .junk, .junk, .junk, .junk, .junk, .junk, .junk, .junk, .junk, .junk, .junk, .junk, .junk, .junk, .junk], h⟩
noncomputable def K0 (E : Env) (K : PX → St → Res) : PX → St → Res := (kBlock 0 (kSeq (ev (E.cx Tryd.prog kl) (codeAt (bodyOf Tryd.f62) [1, 1, 1])) K))
@[simp] theorem K0_ret (E : Env) (K : PX → St → Res) (s : St) : K0 E K .ret s = K .ret s := by kernel_rfl
noncomputable def K1 (E : Env) (K : PX → St → Res) : PX → St → Res := (kBlock 2 (kSeq (ev (E.cx Tryd.prog kl) (codeAt (bodyOf Tryd.f62) [1, 1, 0, 1, 0, 0, 1, 0, 1, 1])) (kBlock 1 K)))
@[simp] theorem K1_ret (E : Env) (K : PX → St → Res) (s : St) : K1 E K .ret s = K .ret s := by kernel_rfl
noncomputable def body0 (E : Env) (K : PX → St → Res) (x0 x1 x7 x8 : PV) (h : PHeap) : Res :=
    condP x8
     (
      loopK (ev (E.cx Tryd.prog spec_l2Grow.kl) spec_l2Grow.lp1) E.lf (spec_l2Grow.st1 x0 x1 x7 x7 (.int .i64 0) h) (spec_l2Grow.K1 E K))
     (
      K (.exit 0) (se0_0_1_7_14 x0 x1 x7 x8 h))
theorem body0_eq (E : Env) (K : PX → St → Res) (x0 x1 x7 x8 : PV) (h : PHeap) : ev (E.cx Tryd.prog kl) lp0 (st0 x0 x1 x7 x8 h) K = body0 E K x0 x1 x7 x8 h := by kernel_rfl
noncomputable def body1 (E : Env) (K : PX → St → Res) (x0 x1 x7 x9 x10 : PV) (h : PHeap) : Res :=
    (E.p.len 23 x0).bind fun v15 =>
    (E.p.bin .lss 3 x10 v15).bind fun v16 =>
    condP v16
     (
      (E.p.bin .shr 3 x7 x10).bind fun v17 =>
      (E.p.bin .rem 3 v17 (.int .i64 2)).bind fun v18 =>
      (E.p.bin .eql 3 v18 (.int .i64 1)).bind fun v19 =>
      condP v19
       (
        (E.p.indexAddr 23 x0 x10).bind fun v20 =>
        (E.p.load 3 v20 h).bind fun v21 =>
        (E.p.bin .and 3 v21 x1).bind fun v22 =>
        (E.p.bin .or 3 x9 v22).bind fun v23 =>
        (E.p.bin .add 3 x10 (.int .i64 1)).bind fun v24 =>
        K .normal (st1 x0 x1 x7 v23 v24 h))
       (
        (E.p.bin .add 3 x10 (.int .i64 1)).bind fun v25 =>
        K .normal (st1 x0 x1 x7 x9 v25 h)))
     (
      K (.exit 2) (se2_0_1_7_9_10_19 x0 x1 x7 x9 x10 v16 h))
theorem body1_eq (E : Env) (K : PX → St → Res) (x0 x1 x7 x9 x10 : PV) (h : PHeap) : ev (E.cx Tryd.prog kl) lp1 (st1 x0 x1 x7 x9 x10 h) K = body1 E K x0 x1 x7 x9 x10 h := by kernel_rfl
theorem after0_se0_0_1_7_14 (E : Env) (x0 x1 x7 x14 : PV) (h : PHeap) : K0 E (kTop Tryd.prog Tryd.f62) (.exit 0) (se0_0_1_7_14 x0 x1 x7 x14 h) =
    (resV x7).bind fun v13 =>
    some (v13, h) := by kernel_rfl
theorem after1_se2_0_1_7_9_10_19 (E : Env) (K : PX → St → Res) (x0 x1 x7 x9 x10 x19 : PV) (h : PHeap) : K1 E K (.exit 2) (se2_0_1_7_9_10_19 x0 x1 x7 x9 x10 x19 h) =
    (E.p.bin .neq 3 x9 x7).bind fun v14 =>
    K .normal (st0 x0 x1 x9 v14 h) := by kernel_rfl
noncomputable def main (E : Env) (x0 x1 x2 : PV) (h : PHeap) : Res :=
    (E.p.bin .and 3 x2 x1).bind fun v1 =>
    loopK (ev (E.cx Tryd.prog spec_l2Grow.kl) spec_l2Grow.lp0) E.lf (spec_l2Grow.st0 x0 x1 v1 (.bool true) h) (spec_l2Grow.K0 E (kTop Tryd.prog Tryd.f62))
theorem main_eq (E : Env) (x0 x1 x2 : PV) (h : PHeap) : runBody (E.cx Tryd.prog kl) Tryd.f62 [x0, x1, x2] h = main E x0 x1 x2 h := by kernel_rfl
theorem call_eq (g : Nat → PV) (lf n : Nat) (x0 x1 x2 : PV) (h : PHeap) : CL g lf (n + 1) fn_spec_l2Grow [x0, x1, x2] h = main (env g lf n) x0 x1 x2 h := by
  rw [← main_eq]
  show (match Tryd.prog.funcs[62]? with | some fn => if fn.body.isSome then runBody ⟨Tryd.prog, g, call Tryd.prog g KL lf n, KL 62, lf, std Tryd.prog⟩ fn [x0, x1, x2] h else none | none => none) = _
  rw [Tryd.func62]
  kernel_rfl
end spec_l2Grow
namespace impl_gapAcross
noncomputable def lp0 : Code := (codeAt (bodyOf Tryd.f63) [1, 1, 1, 1, 0, 0])
def st0 (x0 x1 x2 x3 x11 x12 x13 x14 : PV) (h : PHeap) : St := ⟨[x0, x1, x2, x3, .junk, .junk, .junk, .junk, .junk, .junk, .junk, x11, x12, x13, x14, .junk, .junk, .junk, .junk, .junk, .junk, .junk, .junk, .junk, .junk, .junk, .junk, .junk, .junk, .junk, .junk, .junk, .junk, .junk, .junk, .junk, .junk, .junk, .junk, .junk, .junk, .junk, .junk, .junk, .junk, .junk, .junk, .junk, .junk, .junk, .junk, .junk, .junk, .junk, .junk, .junk], h⟩
def sr_10 (x10 : PV) (h : PHeap) : St := ⟨[.junk, .junk, .junk, .junk, .junk, .junk, .junk, .junk, .junk, .junk, x10, .junk, .junk, .junk, .junk, .junk, .junk, .junk, .junk, .junk, .junk, .junk, .junk, .junk, .junk, .junk, .junk, .junk, .junk, .junk, .junk, .junk, .junk, .junk, .junk, .junk, .junk, .junk, .junk, .junk, .junk, .junk, .junk, .junk, .junk, .junk, .junk, .junk, .junk, .junk, .junk, .junk, .junk, .junk, .junk, .junk], h⟩
noncomputable def K0 (E : Env) (K : PX → St → Res) : PX → St → Res := (kBlock 0 K)
@[simp] theorem K0_ret (E : Env) (K : PX → St → Res) (s : St) : K0 E K .ret s = K .ret s := by kernel_rfl
noncomputable def body0 (E : Env) (K : PX → St → Res) (x0 x1 x2 x3 x11 x12 x13 x14 : PV) (h : PHeap) : Res :=
    (E.p.bin .and 3 x13 x12).bind fun v16 =>
    (E.p.bin .neq 3 v16 (.int .i64 0)).bind fun v17 =>
    condP v17
     (
      K .ret (sr_10 x14 h))
     (
      (E.C fn_impl_withNear [x0, x1, x13] h).bind fun v18 =>
      (E.p.bin .or 3 x11 v18.1).bind fun v19 =>
      (E.p.bin .and 3 v19 x3).bind fun v20 =>
      (E.p.bin .andNot 3 v20 x13).bind fun v21 =>
      (E.p.bin .eql 3 v21 (.int .i64 0)).bind fun v22 =>
      condP v22
       (
        K .ret (sr_10 (.int .i64 (-1)) v18.2))
       (
        (E.p.bin .or 3 x13 v21).bind fun v23 =>
        (E.C fn_impl_grown [x0, x1, v23, x2] v18.2).bind fun v24 =>
        (E.p.bin .add 3 x14 (.int .i64 1)).bind fun v25 =>
        K .normal (st0 x0 x1 x2 x3 x11 x12 v24.1 v25 v24.2)))
theorem body0_eq (E : Env) (K : PX → St → Res) (x0 x1 x2 x3 x11 x12 x13 x14 : PV) (h : PHeap) : ev (E.cx Tryd.prog kl) lp0 (st0 x0 x1 x2 x3 x11 x12 x13 x14 h) K = body0 E K x0 x1 x2 x3 x11 x12 x13 x14 h := by kernel_rfl
theorem top_sr_10 (x10 : PV) (h : PHeap) : kTop Tryd.prog Tryd.f63 .ret (sr_10 x10 h) =
    (resV x10).bind fun v26 =>
    some (v26, h) := by kernel_rfl
noncomputable def main (E : Env) (x0 x1 x2 x3 x4 : PV) (h : PHeap) : Res :=
    (E.C fn_impl_sidesOf [x0, x1, x4] h).bind fun v1 =>
    (E.p.extract v1.1 0).bind fun v2 =>
    (E.p.extract v1.1 1).bind fun v3 =>
    (E.p.bin .and 3 v2 x2).bind fun v4 =>
    (E.C fn_impl_grown [x0, x1, v4, x2] v1.2).bind fun v5 =>
    loopK (ev (E.cx Tryd.prog impl_gapAcross.kl) impl_gapAcross.lp0) E.lf (impl_gapAcross.st0 x0 x1 x2 x3 v2 v3 v5.1 (.int .i64 0) v5.2) (impl_gapAcross.K0 E (kTop Tryd.prog Tryd.f63))
theorem main_eq (E : Env) (x0 x1 x2 x3 x4 : PV) (h : PHeap) : runBody (E.cx Tryd.prog kl) Tryd.f63 [x0, x1, x2, x3, x4] h = main E x0 x1 x2 x3 x4 h := by kernel_rfl
theorem call_eq (g : Nat → PV) (lf n : Nat) (x0 x1 x2 x3 x4 : PV) (h : PHeap) : CL g lf (n + 1) fn_impl_gapAcross [x0, x1, x2, x3, x4] h = main (env g lf n) x0 x1 x2 x3 x4 h := by
  rw [← main_eq]
  show (match Tryd.prog.funcs[63]? with | some fn => if fn.body.isSome then runBody ⟨Tryd.prog, g, call Tryd.prog g KL lf n, KL 63, lf, std Tryd.prog⟩ fn [x0, x1, x2, x3, x4] h else none | none => none) = _
  rw [Tryd.func63]
  kernel_rfl
end impl_gapAcross
namespace spec_l2Gap
noncomputable def lp0 : Code := (codeAt (bodyOf Tryd.f64) [1, 1, 1, 1, 0, 1, 0, 0])
def st0 (x0 x1 x2 x3 x4 x13 x14 x15 x16 : PV) (h : PHeap) : St := ⟨[x0, x1, x2, x3, x4, .junk, .junk, .junk, .junk, .junk, .junk, .junk, .junk, x13, x14, x15, x16, .junk, .junk, .junk, .junk, .junk, .junk, .junk, .junk, .junk, .junk, .junk, .junk, .junk, .junk, .junk, .junk, .junk, .junk, .junk, .junk, .junk, .junk, .junk, .junk, .junk, .junk, .junk, .junk, .junk, .junk, .junk, .junk, .junk, .junk, .junk, .junk, .junk, .junk, .junk, .junk, .junk, .junk, .junk, .junk, .junk, .junk, .junk, .junk, .junk, .junk, .junk, .junk, .junk, .junk, .junk, .junk, .junk, .junk, .junk, .junk], h⟩
noncomputable def lp1 : Code := (codeAt (bodyOf Tryd.f64) [1, 1, 1, 1, 0, 1, 0, 0, 1, 0, 0, 1, 1, 1, 0, 1, 0, 0])
def st1 (x0 x1 x2 x3 x4 x13 x14 x15 x16 x17 x18 : PV) (h : PHeap) : St := ⟨[x0, x1, x2, x3, x4, .junk, .junk, .junk, .junk, .junk, .junk, .junk, .junk, x13, x14, x15, x16, x17, x18, .junk, .junk, .junk, .junk, .junk, .junk, .junk, .junk, .junk, .junk, .junk, .junk, .junk, .junk, .junk, .junk, .junk, .junk, .junk, .junk, .junk, .junk, .junk, .junk, .junk, .junk, .junk, .junk, .junk, .junk, .junk, .junk, .junk, .junk, .junk, .junk, .junk, .junk, .junk, .junk, .junk, .junk, .junk, .junk, .junk, .junk, .junk, .junk, .junk, .junk, .junk, .junk, .junk, .junk, .junk, .junk, .junk, .junk], h⟩
def sr_12 (x12 : PV) (h : PHeap) : St := ⟨[.junk, .junk, .junk, .junk, .junk, .junk, .junk, .junk, .junk, .junk, .junk, .junk, x12, .junk, .junk, .junk, .junk, .junk, .junk, .junk, .junk, .junk, .junk, .junk, .junk, .junk, .junk, .junk, .junk, .junk, .junk, .junk, .junk, .junk, .junk, .junk, .junk, .junk, .junk, .junk, .junk, .junk, .junk, .junk, .junk, .junk, .junk, .junk, .junk, .junk, .junk, .junk, .junk, .junk, .junk, .junk, .junk, .junk, .junk, .junk, .junk, .junk, .junk, .junk, .junk, .junk, .junk, .junk, .junk, .junk, .junk, .junk, .junk, .junk, .junk, .junk, .junk], h⟩
def se0_0_1_2_3_4_13_14_15_16_31 (x0 x1 x2 x3 x4 x13 x14 x15 x16 x31 : PV) (h : PHeap) : St := ⟨[x0, x1, x2, x3, x4, .junk, .junk, .junk, .junk, .junk, .junk, .junk, .junk, x13, x14, x15, x16, .junk, .junk, .junk, .junk, .junk, .junk, .junk, .junk, .junk, .junk, .junk, .junk, .junk, .junk, x31, .junk, .junk, .junk, .junk, .junk, .junk, .junk, .junk, .junk, .junk, .junk, .junk, .junk, .junk, .junk, .junk, .junk, .junk, .junk, .junk, .junk, .junk, .junk, .junk, .junk, .junk, .junk, .junk, .junk, .junk, .junk, .junk, .junk, .junk, .junk, .junk, .junk, .junk, .junk, .junk, .junk, .junk, .junk, .junk, .junk], h⟩
def se2_0_1_2_3_4_13_14_15_16_17_18_57 (x0 x1 x2 x3 x4 x13 x14 x15 x16 x17 x18 x57 : PV) (h : PHeap) : St := ⟨[x0, x1, x2, x3, x4, .junk, .junk, .junk, .junk, .junk, .junk, .junk, .junk, x13, x14, x15, x16, x17, x18, .junk, .junk, .junk, .junk, .junk, .junk, .junk, .junk, .junk, .junk, .junk, .junk, .junk, .junk, .junk, .junk, .junk, .junk, .junk, .junk, .junk, .junk, .junk, .junk, .junk, .junk, .junk, .junk, .junk, .junk, .junk, .junk, .junk, .junk, .junk, .junk, .junk, .junk, x57, .junk, .junk, .junk, .junk, .junk, .junk, .junk, .junk, .junk, .junk, .junk, .junk, .junk, .junk, .junk, .junk, .junk, .junk, .junk], h⟩
noncomputable def K0 (E : Env) (K : PX → St → Res) : PX → St → Res := (kBlock 0 (kSeq (ev (E.cx Tryd.prog kl) (codeAt (bodyOf Tryd.f64) [1, 1, 1, 1, 1])) K))
@[simp] theorem K0_ret (E : Env) (K : PX → St → Res) (s : St) : K0 E K .ret s = K .ret s := by kernel_rfl
noncomputable def K1 (E : Env) (K : PX → St → Res) : PX → St → Res := (kBlock 2 (kSeq (ev (E.cx Tryd.prog kl) (codeAt (bodyOf Tryd.f64) [1, 1, 1, 1, 0, 1, 0, 0, 1, 0, 0, 1, 1, 1, 1])) (kBlock 1 (kSeq (ev (E.cx Tryd.prog kl) (codeAt (bodyOf Tryd.f64) [1, 1, 1, 1, 0, 1, 0, 0, 1, 1])) K))))
@[simp] theorem K1_ret (E : Env) (K : PX → St → Res) (s : St) : K1 E K .ret s = K .ret s := by kernel_rfl
noncomputable def body0 (E : Env) (K : PX → St → Res) (x0 x1 x2 x3 x4 x13 x14 x15 x16 : PV) (h : PHeap) : Res :=
    (E.p.bin .mul 3 x0 x1).bind fun v27 =>
    (E.p.bin .leq 3 x16 v27).bind fun v28 =>
    condP v28
     (
      (E.p.bin .or 3 x3 x14).bind fun v29 =>
      (E.p.bin .and 3 x15 x3).bind fun v30 =>
      (E.p.bin .or 3 x14 v30).bind fun v31 =>
      (E.C fn_spec_l2Grow [x2, v29, v31] h).bind fun v32 =>
      (E.p.bin .and 3 v32.1 x13).bind fun v33 =>
      (E.p.bin .neq 3 v33 (.int .i64 0)).bind fun v34 =>
      condP v34
       (
        K .ret (sr_12 x16 v32.2))
       (
        (E.p.bin .and 3 x15 x4).bind fun v35 =>
        (E.p.bin .or 3 v32.1 v35).bind fun v36 =>
        loopK (ev (E.cx Tryd.prog spec_l2Gap.kl) spec_l2Gap.lp1) E.lf (spec_l2Gap.st1 x0 x1 x2 x3 x4 x13 v32.1 x15 x16 v36 (.int .i64 0) v32.2) (spec_l2Gap.K1 E K)))
     (
      K (.exit 0) (se0_0_1_2_3_4_13_14_15_16_31 x0 x1 x2 x3 x4 x13 x14 x15 x16 v28 h))
theorem body0_eq (E : Env) (K : PX → St → Res) (x0 x1 x2 x3 x4 x13 x14 x15 x16 : PV) (h : PHeap) : ev (E.cx Tryd.prog kl) lp0 (st0 x0 x1 x2 x3 x4 x13 x14 x15 x16 h) K = body0 E K x0 x1 x2 x3 x4 x13 x14 x15 x16 h := by kernel_rfl
noncomputable def body1 (E : Env) (K : PX → St → Res) (x0 x1 x2 x3 x4 x13 x14 x15 x16 x17 x18 : PV) (h : PHeap) : Res :=
    (E.p.len 23 x2).bind fun v37 =>
    (E.p.bin .lss 3 x18 v37).bind fun v38 =>
    condP v38
     (
      (E.p.bin .shr 3 x14 x18).bind fun v39 =>
      (E.p.bin .rem 3 v39 (.int .i64 2)).bind fun v40 =>
      (E.p.bin .eql 3 v40 (.int .i64 1)).bind fun v41 =>
      condP v41
       (
        (E.p.indexAddr 23 x2 x18).bind fun v42 =>
        (E.p.load 3 v42 h).bind fun v43 =>
        (E.p.bin .and 3 v43 x4).bind fun v44 =>
        (E.p.bin .or 3 x17 v44).bind fun v45 =>
        (E.p.bin .add 3 x18 (.int .i64 1)).bind fun v46 =>
        K .normal (st1 x0 x1 x2 x3 x4 x13 x14 x15 x16 v45 v46 h))
       (
        (E.p.bin .add 3 x18 (.int .i64 1)).bind fun v47 =>
        K .normal (st1 x0 x1 x2 x3 x4 x13 x14 x15 x16 x17 v47 h)))
     (
      K (.exit 2) (se2_0_1_2_3_4_13_14_15_16_17_18_57 x0 x1 x2 x3 x4 x13 x14 x15 x16 x17 x18 v38 h))
theorem body1_eq (E : Env) (K : PX → St → Res) (x0 x1 x2 x3 x4 x13 x14 x15 x16 x17 x18 : PV) (h : PHeap) : ev (E.cx Tryd.prog kl) lp1 (st1 x0 x1 x2 x3 x4 x13 x14 x15 x16 x17 x18 h) K = body1 E K x0 x1 x2 x3 x4 x13 x14 x15 x16 x17 x18 h := by kernel_rfl
theorem after0_se0_0_1_2_3_4_13_14_15_16_31 (E : Env) (x0 x1 x2 x3 x4 x13 x14 x15 x16 x31 : PV) (h : PHeap) : K0 E (kTop Tryd.prog Tryd.f64) (.exit 0) (se0_0_1_2_3_4_13_14_15_16_31 x0 x1 x2 x3 x4 x13 x14 x15 x16 x31 h) =
    (resV (.int .i64 (-1))).bind fun v24 =>
    some (v24, h) := by kernel_rfl
theorem after1_se2_0_1_2_3_4_13_14_15_16_17_18_57 (E : Env) (K : PX → St → Res) (x0 x1 x2 x3 x4 x13 x14 x15 x16 x17 x18 x57 : PV) (h : PHeap) : K1 E K (.exit 2) (se2_0_1_2_3_4_13_14_15_16_17_18_57 x0 x1 x2 x3 x4 x13 x14 x15 x16 x17 x18 x57 h) =
    (E.p.bin .eql 3 x17 x14).bind fun v25 =>
    condP v25
     (
      K .ret (sr_12 (.int .i64 (-1)) h))
     (
      (E.p.bin .add 3 x16 (.int .i64 1)).bind fun v26 =>
      K .normal (st0 x0 x1 x2 x3 x4 x13 x17 x15 v26 h)) := by kernel_rfl
theorem top_sr_12 (x12 : PV) (h : PHeap) : kTop Tryd.prog Tryd.f64 .ret (sr_12 x12 h) =
    (resV x12).bind fun v48 =>
    some (v48, h) := by kernel_rfl
noncomputable def main (E : Env) (x0 x1 x2 x3 x4 x5 : PV) (h : PHeap) : Res :=
    (E.C fn_spec_l2Side [x0, x1, x5, (.bool true)] h).bind fun v1 =>
    (E.C fn_spec_l2Side [x0, x1, x5, (.bool false)] v1.2).bind fun v2 =>
    loopK (ev (E.cx Tryd.prog spec_l2Gap.kl) spec_l2Gap.lp0) E.lf (spec_l2Gap.st0 x0 x1 x2 x3 x4 v1.1 (.int .i64 0) v2.1 (.int .i64 0) v2.2) (spec_l2Gap.K0 E (kTop Tryd.prog Tryd.f64))
theorem main_eq (E : Env) (x0 x1 x2 x3 x4 x5 : PV) (h : PHeap) : runBody (E.cx Tryd.prog kl) Tryd.f64 [x0, x1, x2, x3, x4, x5] h = main E x0 x1 x2 x3 x4 x5 h := by kernel_rfl
theorem call_eq (g : Nat → PV) (lf n : Nat) (x0 x1 x2 x3 x4 x5 : PV) (h : PHeap) : CL g lf (n + 1) fn_spec_l2Gap [x0, x1, x2, x3, x4, x5] h = main (env g lf n) x0 x1 x2 x3 x4 x5 h := by
  rw [← main_eq]
  show (match Tryd.prog.funcs[64]? with | some fn => if fn.body.isSome then runBody ⟨Tryd.prog, g, call Tryd.prog g KL lf n, KL 64, lf, std Tryd.prog⟩ fn [x0, x1, x2, x3, x4, x5] h else none | none => none) = _
  rw [Tryd.func64]
  kernel_rfl
end spec_l2Gap
namespace impl_contentOk
noncomputable def main (E : Env) (x0 : PV) (h : PHeap) : Res :=
    (E.p.bin .eql 3 x0 (.int .i64 0)).bind fun v1 =>
    (wantV v1 false).bind fun v2 =>
    (bif v2 then some (x0, h) else some (.tup [], h)).bind fun v3 =>
    (wantV v1 false).bind fun v4 =>
    (bif v4 then pv v3.2 (E.p.bin .eql 3 v3.1 (.int .i64 1)) else some (.tup [], v3.2)).bind fun v5 =>
    (E.p.pick v1 (.bool true) v5.1).bind fun v6 =>
    (wantV v6 false).bind fun v7 =>
    (bif v7 then some (x0, v5.2) else some (.tup [], v5.2)).bind fun v8 =>
    (wantV v6 false).bind fun v9 =>
    (bif v9 then pv v8.2 (E.p.bin .eql 3 v8.1 (.int .i64 2)) else some (.tup [], v8.2)).bind fun v10 =>
    (E.p.pick v6 (.bool true) v10.1).bind fun v11 =>
    (resV v11).bind fun v12 =>
    some (v12, v10.2)
theorem main_eq (E : Env) (x0 : PV) (h : PHeap) : runBody (E.cx Tryd.prog kl) Tryd.f65 [x0] h = main E x0 h := by kernel_rfl
theorem call_eq (g : Nat → PV) (lf n : Nat) (x0 : PV) (h : PHeap) : CL g lf (n + 1) fn_impl_contentOk [x0] h = main (env g lf n) x0 h := by
  rw [← main_eq]
  show (match Tryd.prog.funcs[65]? with | some fn => if fn.body.isSome then runBody ⟨Tryd.prog, g, call Tryd.prog g KL lf n, KL 65, lf, std Tryd.prog⟩ fn [x0] h else none | none => none) = _
  rw [Tryd.func65]
  kernel_rfl
end impl_contentOk
namespace impl_withNear
noncomputable def lp0 : Code := (codeAt (bodyOf Tryd.f66) [1, 1, 0, 1, 0, 0])
def st0 (x0 x1 x2 x7 x14 x15 : PV) (h : PHeap) : St := ⟨[x0, x1, x2, .junk, .junk, .junk, .junk, x7, .junk, .junk, .junk, .junk, .junk, .junk, x14, x15, .junk, .junk, .junk, .junk, .junk, .junk, .junk, .junk, .junk, .junk, .junk, .junk, .junk, .junk, .junk, .junk, .junk, .junk, .junk, .junk, .junk, .junk, .junk], h⟩
noncomputable def lp1 : Code := (codeAt (bodyOf Tryd.f66) [1, 1, 0, 1, 0, 0, 1, 1, 0, 0, 1, 1, 1, 0, 0])
def st1 (x0 x1 x2 x7 x14 x15 x26 x27 x28 : PV) (h : PHeap) : St := ⟨[x0, x1, x2, .junk, .junk, .junk, .junk, x7, .junk, .junk, .junk, .junk, .junk, .junk, x14, x15, .junk, .junk, .junk, .junk, .junk, .junk, .junk, .junk, .junk, .junk, x26, x27, x28, .junk, .junk, .junk, .junk, .junk, .junk, .junk, .junk, .junk, .junk], h⟩
def se0_0_1_2_7_14_15_16 (x0 x1 x2 x7 x14 x15 x16 : PV) (h : PHeap) : St := ⟨[x0, x1, x2, .junk, .junk, .junk, .junk, x7, .junk, .junk, .junk, .junk, .junk, .junk, x14, x15, x16, .junk, .junk, .junk, .junk, .junk, .junk, .junk, .junk, .junk, .junk, .junk, .junk, .junk, .junk, .junk, .junk, .junk, .junk, .junk, .junk, .junk, .junk], h⟩
def se2_0_1_2_7_14_15_26_27_28_29 (x0 x1 x2 x7 x14 x15 x26 x27 x28 x29 : PV) (h : PHeap) : St := ⟨[x0, x1, x2, .junk, .junk, .junk, .junk, x7, .junk, .junk, .junk, .junk, .junk, .junk, x14, x15, .junk, .junk, .junk, .junk, .junk, .junk, .junk, .junk, .junk, .junk, x26, x27, x28, x29, .junk, .junk, .junk, .junk, .junk, .junk, .junk, .junk, .junk], h⟩
noncomputable def K0 (E : Env) (K : PX → St → Res) : PX → St → Res := (kBlock 0 (kSeq (ev (E.cx Tryd.prog kl) (codeAt (bodyOf Tryd.f66) [1, 1, 1])) K))
@[simp] theorem K0_ret (E : Env) (K : PX → St → Res) (s : St) : K0 E K .ret s = K .ret s := by kernel_rfl
noncomputable def K1 (E : Env) (K : PX → St → Res) : PX → St → Res := (kBlock 2 (kBlock 1 (kSeq (ev (E.cx Tryd.prog kl) (codeAt (bodyOf Tryd.f66) [1, 1, 0, 1, 0, 0, 1, 1, 1])) K)))
@[simp] theorem K1_ret (E : Env) (K : PX → St → Res) (s : St) : K1 E K .ret s = K .ret s := by kernel_rfl
noncomputable def body0 (E : Env) (K : PX → St → Res) (x0 x1 x2 x7 x14 x15 : PV) (h : PHeap) : Res :=
    (E.p.bin .lss 3 x15 x14).bind fun v17 =>
    condP v17
     (
      (E.p.bin .shr 3 x2 x15).bind fun v18 =>
      (E.p.bin .and 3 v18 (.int .i64 1)).bind fun v19 =>
      (E.p.bin .eql 3 v19 (.int .i64 0)).bind fun v20 =>
      condP v20
       (
        (E.p.bin .add 3 x15 (.int .i64 1)).bind fun v21 =>
        K .normal (st0 x0 x1 x2 x7 x14 v21 h))
       (
        (E.C fn_impl_NearCells [x0, x1, x15] h).bind fun v22 =>
        (E.p.len 23 v22.1).bind fun v23 =>
        loopK (ev (E.cx Tryd.prog impl_withNear.kl) impl_withNear.lp1) E.lf (impl_withNear.st1 x0 x1 x2 x7 x14 x15 v22.1 v23 (.int .i64 0) v22.2) (impl_withNear.K1 E K)))
     (
      K (.exit 0) (se0_0_1_2_7_14_15_16 x0 x1 x2 x7 x14 x15 v17 h))
theorem body0_eq (E : Env) (K : PX → St → Res) (x0 x1 x2 x7 x14 x15 : PV) (h : PHeap) : ev (E.cx Tryd.prog kl) lp0 (st0 x0 x1 x2 x7 x14 x15 h) K = body0 E K x0 x1 x2 x7 x14 x15 h := by kernel_rfl
noncomputable def body1 (E : Env) (K : PX → St → Res) (x0 x1 x2 x7 x14 x15 x26 x27 x28 : PV) (h : PHeap) : Res :=
    (E.p.bin .lss 3 x28 x27).bind fun v24 =>
    condP v24
     (
      (E.p.indexAddr 23 x26 x28).bind fun v25 =>
      (E.p.load 3 v25 h).bind fun v26 =>
      (E.p.bin .shl 3 (.int .i64 1) v26).bind fun v27 =>
      (E.p.bin .or 3 x7 v27).bind fun v28 =>
      (E.p.bin .add 3 x28 (.int .i64 1)).bind fun v29 =>
      K .normal (st1 x0 x1 x2 v28 x14 x15 x26 x27 v29 h))
     (
      K (.exit 2) (se2_0_1_2_7_14_15_26_27_28_29 x0 x1 x2 x7 x14 x15 x26 x27 x28 v24 h))
theorem body1_eq (E : Env) (K : PX → St → Res) (x0 x1 x2 x7 x14 x15 x26 x27 x28 : PV) (h : PHeap) : ev (E.cx Tryd.prog kl) lp1 (st1 x0 x1 x2 x7 x14 x15 x26 x27 x28 h) K = body1 E K x0 x1 x2 x7 x14 x15 x26 x27 x28 h := by kernel_rfl
theorem after0_se0_0_1_2_7_14_15_16 (E : Env) (x0 x1 x2 x7 x14 x15 x16 : PV) (h : PHeap) : K0 E (kTop Tryd.prog Tryd.f66) (.exit 0) (se0_0_1_2_7_14_15_16 x0 x1 x2 x7 x14 x15 x16 h) =
    (resV x7).bind fun v15 =>
    some (v15, h) := by kernel_rfl
theorem after1_se2_0_1_2_7_14_15_26_27_28_29 (E : Env) (K : PX → St → Res) (x0 x1 x2 x7 x14 x15 x26 x27 x28 x29 : PV) (h : PHeap) : K1 E K (.exit 2) (se2_0_1_2_7_14_15_26_27_28_29 x0 x1 x2 x7 x14 x15 x26 x27 x28 x29 h) =
    (E.p.bin .add 3 x15 (.int .i64 1)).bind fun v16 =>
    K .normal (st0 x0 x1 x2 x7 x14 v16 h) := by kernel_rfl
noncomputable def main (E : Env) (x0 x1 x2 : PV) (h : PHeap) : Res :=
    (E.p.bin .mul 3 x0 x1).bind fun v1 =>
    loopK (ev (E.cx Tryd.prog impl_withNear.kl) impl_withNear.lp0) E.lf (impl_withNear.st0 x0 x1 x2 x2 v1 (.int .i64 0) h) (impl_withNear.K0 E (kTop Tryd.prog Tryd.f66))
theorem main_eq (E : Env) (x0 x1 x2 : PV) (h : PHeap) : runBody (E.cx Tryd.prog kl) Tryd.f66 [x0, x1, x2] h = main E x0 x1 x2 h := by kernel_rfl
theorem call_eq (g : Nat → PV) (lf n : Nat) (x0 x1 x2 : PV) (h : PHeap) : CL g lf (n + 1) fn_impl_withNear [x0, x1, x2] h = main (env g lf n) x0 x1 x2 h := by
  rw [← main_eq]
  show (match Tryd.prog.funcs[66]? with | some fn => if fn.body.isSome then runBody ⟨Tryd.prog, g, call Tryd.prog g KL lf n, KL 66, lf, std Tryd.prog⟩ fn [x0, x1, x2] h else none | none => none) = _
  rw [Tryd.func66]
  kernel_rfl
end impl_withNear
namespace spec_l2Side
noncomputable def lp0 : Code := (codeAt (bodyOf Tryd.f67) [1, 1, 0, 1, 0, 0])
def st0 (x0 x1 x2 x3 x9 x10 : PV) (h : PHeap) : St := ⟨[x0, x1, x2, x3, .junk, .junk, .junk, .junk, .junk, x9, x10, .junk, .junk, .junk, .junk, .junk, .junk, .junk, .junk, .junk, .junk, .junk, .junk, .junk, .junk, .junk, .junk, .junk, .junk, .junk, .junk, .junk, .junk, .junk, .junk, .junk, .junk, .junk, .junk, .junk, .junk, .junk, .junk, .junk, .junk, .junk, .junk, .junk, .junk, .junk, .junk], h⟩
def se0_0_1_2_3_9_10_17 (x0 x1 x2 x3 x9 x10 x17 : PV) (h : PHeap) : St := ⟨[x0, x1, x2, x3, .junk, .junk, .junk, .junk, .junk, x9, x10, .junk, .junk, .junk, .junk, .junk, .junk, x17, .junk, .junk, .junk, .junk, .junk, .junk, .junk, .junk, .junk, .junk, .junk, .junk, .junk, .junk, .junk, .junk, .junk, .junk, .junk, .junk, .junk, .junk, .junk, .junk, .junk, .junk, .junk, .junk, .junk, .junk, .junk, .junk, .junk], h⟩
noncomputable def K0 (E : Env) (K : PX → St → Res) : PX → St → Res := (kBlock 0 (kSeq (ev (E.cx Tryd.prog kl) (codeAt (bodyOf Tryd.f67) [1, 1, 1])) K))
@[simp] theorem K0_ret (E : Env) (K : PX → St → Res) (s : St) : K0 E K .ret s = K .ret s := by kernel_rfl
noncomputable def body0 (E : Env) (K : PX → St → Res) (x0 x1 x2 x3 x9 x10 : PV) (h : PHeap) : Res :=
    (E.p.bin .mul 3 x0 x1).bind fun v57 =>
    (E.p.bin .lss 3 x10 v57).bind fun v58 =>
    condP v58
     (
      (E.p.bin .quo 3 x10 x1).bind fun v59 =>
      (E.p.bin .sub 3 x0 (.int .i64 1)).bind fun v60 =>
      (E.p.bin .eql 3 x2 (.int .i64 2)).bind fun v61 =>
      condP v61
       (
        (E.p.bin .rem 3 x10 x1).bind fun v62 =>
        (E.p.bin .sub 3 x1 (.int .i64 1)).bind fun v63 =>
        (wantV x3 true).bind fun v64 =>
        (bif v64 then some (v62, h) else some (.tup [], h)).bind fun v65 =>
        (wantV x3 true).bind fun v66 =>
        (bif v66 then some (v63, v65.2) else some (.tup [], v65.2)).bind fun v67 =>
        (wantV x3 true).bind fun v68 =>
        (bif v68 then pv v67.2 (E.p.bin .eql 3 v65.1 v67.1) else some (.tup [], v67.2)).bind fun v69 =>
        (E.p.pick x3 v69.1 (.bool false)).bind fun v70 =>
        (wantV v70 false).bind fun v71 =>
        (bif v71 then some (x3, v69.2) else some (.tup [], v69.2)).bind fun v72 =>
        (wantV v70 false).bind fun v73 =>
        (bif v73 then pv v72.2 (E.p.un .not v72.1) else some (.tup [], v72.2)).bind fun v74 =>
        (wantV v70 false).bind fun v75 =>
        (bif v75 then some (v74.1, v74.2) else some (.tup [], v74.2)).bind fun v76 =>
        (wantV v76.1 true).bind fun v77 =>
        (bif v77 then some (v62, v76.2) else some (.tup [], v76.2)).bind fun v78 =>
        (wantV v76.1 true).bind fun v79 =>
        (bif v79 then pv v78.2 (E.p.bin .eql 3 v78.1 (.int .i64 0)) else some (.tup [], v78.2)).bind fun v80 =>
        (wantV v70 false).bind fun v81 =>
        (bif v81 then pv v80.2 (E.p.pick v76.1 v80.1 (.bool false)) else some (.tup [], v80.2)).bind fun v82 =>
        (E.p.pick v70 (.bool true) v82.1).bind fun v83 =>
        condP v83
         (
          (E.p.bin .shl 3 (.int .i64 1) x10).bind fun v84 =>
          (E.p.bin .or 3 x9 v84).bind fun v85 =>
          (E.p.bin .add 3 x10 (.int .i64 1)).bind fun v86 =>
          K .normal (st0 x0 x1 x2 x3 v85 v86 v82.2))
         (
          (E.p.bin .add 3 x10 (.int .i64 1)).bind fun v87 =>
          K .normal (st0 x0 x1 x2 x3 x9 v87 v82.2)))
       (
        (wantV x3 true).bind fun v88 =>
        (bif v88 then some (v59, h) else some (.tup [], h)).bind fun v89 =>
        (wantV x3 true).bind fun v90 =>
        (bif v90 then some (v60, v89.2) else some (.tup [], v89.2)).bind fun v91 =>
        (wantV x3 true).bind fun v92 =>
        (bif v92 then pv v91.2 (E.p.bin .eql 3 v89.1 v91.1) else some (.tup [], v91.2)).bind fun v93 =>
        (E.p.pick x3 v93.1 (.bool false)).bind fun v94 =>
        (wantV v94 false).bind fun v95 =>
        (bif v95 then some (x3, v93.2) else some (.tup [], v93.2)).bind fun v96 =>
        (wantV v94 false).bind fun v97 =>
        (bif v97 then pv v96.2 (E.p.un .not v96.1) else some (.tup [], v96.2)).bind fun v98 =>
        (wantV v94 false).bind fun v99 =>
        (bif v99 then some (v98.1, v98.2) else some (.tup [], v98.2)).bind fun v100 =>
        (wantV v100.1 true).bind fun v101 =>
        (bif v101 then some (v59, v100.2) else some (.tup [], v100.2)).bind fun v102 =>
        (wantV v100.1 true).bind fun v103 =>
        (bif v103 then pv v102.2 (E.p.bin .eql 3 v102.1 (.int .i64 0)) else some (.tup [], v102.2)).bind fun v104 =>
        (wantV v94 false).bind fun v105 =>
        (bif v105 then pv v104.2 (E.p.pick v100.1 v104.1 (.bool false)) else some (.tup [], v104.2)).bind fun v106 =>
        (E.p.pick v94 (.bool true) v106.1).bind fun v107 =>
        condP v107
         (
          (E.p.bin .shl 3 (.int .i64 1) x10).bind fun v108 =>
          (E.p.bin .or 3 x9 v108).bind fun v109 =>
          (E.p.bin .add 3 x10 (.int .i64 1)).bind fun v110 =>
          K .normal (st0 x0 x1 x2 x3 v109 v110 v106.2))
         (
          (E.p.bin .add 3 x10 (.int .i64 1)).bind fun v111 =>
          K .normal (st0 x0 x1 x2 x3 x9 v111 v106.2))))
     (
      K (.exit 0) (se0_0_1_2_3_9_10_17 x0 x1 x2 x3 x9 x10 v58 h))
theorem body0_eq (E : Env) (K : PX → St → Res) (x0 x1 x2 x3 x9 x10 : PV) (h : PHeap) : ev (E.cx Tryd.prog kl) lp0 (st0 x0 x1 x2 x3 x9 x10 h) K = body0 E K x0 x1 x2 x3 x9 x10 h := by kernel_rfl
theorem after0_se0_0_1_2_3_9_10_17 (E : Env) (x0 x1 x2 x3 x9 x10 x17 : PV) (h : PHeap) : K0 E (kTop Tryd.prog Tryd.f67) (.exit 0) (se0_0_1_2_3_9_10_17 x0 x1 x2 x3 x9 x10 x17 h) =
    (resV x9).bind fun v56 =>
    some (v56, h) := by kernel_rfl
noncomputable def main (E : Env) (x0 x1 x2 x3 : PV) (h : PHeap) : Res :=
    loopK (ev (E.cx Tryd.prog spec_l2Side.kl) spec_l2Side.lp0) E.lf (spec_l2Side.st0 x0 x1 x2 x3 (.int .i64 0) (.int .i64 0) h) (spec_l2Side.K0 E (kTop Tryd.prog Tryd.f67))
theorem main_eq (E : Env) (x0 x1 x2 x3 : PV) (h : PHeap) : runBody (E.cx Tryd.prog kl) Tryd.f67 [x0, x1, x2, x3] h = main E x0 x1 x2 x3 h := by kernel_rfl
theorem call_eq (g : Nat → PV) (lf n : Nat) (x0 x1 x2 x3 : PV) (h : PHeap) : CL g lf (n + 1) fn_spec_l2Side [x0, x1, x2, x3] h = main (env g lf n) x0 x1 x2 x3 h := by
  rw [← main_eq]
  show (match Tryd.prog.funcs[67]? with | some fn => if fn.body.isSome then runBody ⟨Tryd.prog, g, call Tryd.prog g KL lf n, KL 67, lf, std Tryd.prog⟩ fn [x0, x1, x2, x3] h else none | none => none) = _
  rw [Tryd.func67]
  kernel_rfl
end spec_l2Side
namespace spec_l1Near
noncomputable def lp0 : Code := (codeAt (bodyOf Tryd.f68) [1, 1, 1, 1, 0, 1, 0, 0])
def st0 (x0 x1 x7 x8 x9 x10 : PV) (h : PHeap) : St := ⟨[x0, x1, .junk, .junk, .junk, .junk, .junk, x7, x8, x9, x10, .junk, .junk, .junk, .junk, .junk, .junk, .junk, .junk, .junk, .junk, .junk, .junk, .junk, .junk, .junk, .junk, .junk, .junk, .junk, .junk, .junk, .junk, .junk, .junk, .junk, .junk, .junk, .junk, .junk, .junk, .junk, .junk, .junk, .junk, .junk, .junk, .junk, .junk, .junk, .junk, .junk, .junk, .junk, .junk, .junk, .junk, .junk, .junk, .junk, .junk, .junk, .junk], h⟩
noncomputable def lp1 : Code := (codeAt (bodyOf Tryd.f68) [1, 1, 1, 1, 0, 1, 0, 0, 1, 0, 0, 1, 0, 0])
def st1 (x0 x1 x7 x8 x9 x10 x11 : PV) (h : PHeap) : St := ⟨[x0, x1, .junk, .junk, .junk, .junk, .junk, x7, x8, x9, x10, x11, .junk, .junk, .junk, .junk, .junk, .junk, .junk, .junk, .junk, .junk, .junk, .junk, .junk, .junk, .junk, .junk, .junk, .junk, .junk, .junk, .junk, .junk, .junk, .junk, .junk, .junk, .junk, .junk, .junk, .junk, .junk, .junk, .junk, .junk, .junk, .junk, .junk, .junk, .junk, .junk, .junk, .junk, .junk, .junk, .junk, .junk, .junk, .junk, .junk, .junk, .junk], h⟩
def se0_0_1_7_8_9_10_24 (x0 x1 x7 x8 x9 x10 x24 : PV) (h : PHeap) : St := ⟨[x0, x1, .junk, .junk, .junk, .junk, .junk, x7, x8, x9, x10, .junk, .junk, .junk, .junk, .junk, .junk, .junk, .junk, .junk, .junk, .junk, .junk, .junk, x24, .junk, .junk, .junk, .junk, .junk, .junk, .junk, .junk, .junk, .junk, .junk, .junk, .junk, .junk, .junk, .junk, .junk, .junk, .junk, .junk, .junk, .junk, .junk, .junk, .junk, .junk, .junk, .junk, .junk, .junk, .junk, .junk, .junk, .junk, .junk, .junk, .junk, .junk], h⟩
def se2_0_1_7_8_9_10_11_32 (x0 x1 x7 x8 x9 x10 x11 x32 : PV) (h : PHeap) : St := ⟨[x0, x1, .junk, .junk, .junk, .junk, .junk, x7, x8, x9, x10, x11, .junk, .junk, .junk, .junk, .junk, .junk, .junk, .junk, .junk, .junk, .junk, .junk, .junk, .junk, .junk, .junk, .junk, .junk, .junk, .junk, x32, .junk, .junk, .junk, .junk, .junk, .junk, .junk, .junk, .junk, .junk, .junk, .junk, .junk, .junk, .junk, .junk, .junk, .junk, .junk, .junk, .junk, .junk, .junk, .junk, .junk, .junk, .junk, .junk, .junk, .junk], h⟩
noncomputable def K0 (E : Env) (K : PX → St → Res) : PX → St → Res := (kBlock 0 (kSeq (ev (E.cx Tryd.prog kl) (codeAt (bodyOf Tryd.f68) [1, 1, 1, 1, 1])) K))
@[simp] theorem K0_ret (E : Env) (K : PX → St → Res) (s : St) : K0 E K .ret s = K .ret s := by kernel_rfl
noncomputable def K1 (E : Env) (K : PX → St → Res) : PX → St → Res := (kBlock 2 (kBlock 1 (kSeq (ev (E.cx Tryd.prog kl) (codeAt (bodyOf Tryd.f68) [1, 1, 1, 1, 0, 1, 0, 0, 1, 1])) K)))
@[simp] theorem K1_ret (E : Env) (K : PX → St → Res) (s : St) : K1 E K .ret s = K .ret s := by kernel_rfl
noncomputable def body0 (E : Env) (K : PX → St → Res) (x0 x1 x7 x8 x9 x10 : PV) (h : PHeap) : Res :=
    (E.p.bin .add 3 x8 (.int .i64 1)).bind fun v39 =>
    (E.p.bin .leq 3 x10 v39).bind fun v40 =>
    condP v40
     (
      (E.p.bin .sub 3 x9 (.int .i64 1)).bind fun v41 =>
      loopK (ev (E.cx Tryd.prog spec_l1Near.kl) spec_l1Near.lp1) E.lf (spec_l1Near.st1 x0 x1 x7 x8 x9 x10 v41 h) (spec_l1Near.K1 E K))
     (
      K (.exit 0) (se0_0_1_7_8_9_10_24 x0 x1 x7 x8 x9 x10 v40 h))
theorem body0_eq (E : Env) (K : PX → St → Res) (x0 x1 x7 x8 x9 x10 : PV) (h : PHeap) : ev (E.cx Tryd.prog kl) lp0 (st0 x0 x1 x7 x8 x9 x10 h) K = body0 E K x0 x1 x7 x8 x9 x10 h := by kernel_rfl
noncomputable def body1 (E : Env) (K : PX → St → Res) (x0 x1 x7 x8 x9 x10 x11 : PV) (h : PHeap) : Res :=
    (E.p.bin .add 3 x9 (.int .i64 1)).bind fun v42 =>
    (E.p.bin .leq 3 x11 v42).bind fun v43 =>
    condP v43
     (
      (E.p.bin .sub 3 x10 x8).bind fun v44 =>
      (E.p.bin .sub 3 x11 x9).bind fun v45 =>
      (E.p.bin .neq 3 v44 v45).bind fun v46 =>
      (wantV v46 true).bind fun v47 =>
      (bif v47 then some (x10, h) else some (.tup [], h)).bind fun v48 =>
      (wantV v46 true).bind fun v49 =>
      (bif v49 then some (x0, v48.2) else some (.tup [], v48.2)).bind fun v50 =>
      (wantV v46 true).bind fun v51 =>
      (bif v51 then pv v50.2 (E.p.bin .sub 3 v50.1 (.int .i64 1)) else some (.tup [], v50.2)).bind fun v52 =>
      (wantV v46 true).bind fun v53 =>
      (bif v53 then E.C fn_spec_l1In [v48.1, (.int .i64 0), v52.1] v52.2 else some (.tup [], v52.2)).bind fun v54 =>
      (E.p.pick v46 v54.1 (.bool false)).bind fun v55 =>
      (wantV v55 true).bind fun v56 =>
      (bif v56 then some (x11, v54.2) else some (.tup [], v54.2)).bind fun v57 =>
      (wantV v55 true).bind fun v58 =>
      (bif v58 then some (x1, v57.2) else some (.tup [], v57.2)).bind fun v59 =>
      (wantV v55 true).bind fun v60 =>
      (bif v60 then pv v59.2 (E.p.bin .sub 3 v59.1 (.int .i64 1)) else some (.tup [], v59.2)).bind fun v61 =>
      (wantV v55 true).bind fun v62 =>
      (bif v62 then E.C fn_spec_l1In [v57.1, (.int .i64 0), v61.1] v61.2 else some (.tup [], v61.2)).bind fun v63 =>
      (E.p.pick v55 v63.1 (.bool false)).bind fun v64 =>
      condP v64
       (
        (E.p.bin .mul 3 x10 x1).bind fun v65 =>
        (E.p.bin .add 3 v65 x11).bind fun v66 =>
        (E.p.buildSlice 23 1 [(0, v66)] v63.2).bind fun v67 =>
        (E.p.append 23 23 x7 v67.1 v67.2).bind fun v68 =>
        (E.p.bin .add 3 x11 (.int .i64 1)).bind fun v69 =>
        K .normal (st1 x0 x1 v68.1 x8 x9 x10 v69 v68.2))
       (
        (E.p.bin .add 3 x11 (.int .i64 1)).bind fun v70 =>
        K .normal (st1 x0 x1 x7 x8 x9 x10 v70 v63.2)))
     (
      K (.exit 2) (se2_0_1_7_8_9_10_11_32 x0 x1 x7 x8 x9 x10 x11 v43 h))
theorem body1_eq (E : Env) (K : PX → St → Res) (x0 x1 x7 x8 x9 x10 x11 : PV) (h : PHeap) : ev (E.cx Tryd.prog kl) lp1 (st1 x0 x1 x7 x8 x9 x10 x11 h) K = body1 E K x0 x1 x7 x8 x9 x10 x11 h := by kernel_rfl
theorem after0_se0_0_1_7_8_9_10_24 (E : Env) (x0 x1 x7 x8 x9 x10 x24 : PV) (h : PHeap) : K0 E (kTop Tryd.prog Tryd.f68) (.exit 0) (se0_0_1_7_8_9_10_24 x0 x1 x7 x8 x9 x10 x24 h) =
    (resV x7).bind fun v37 =>
    some (v37, h) := by kernel_rfl
theorem after1_se2_0_1_7_8_9_10_11_32 (E : Env) (K : PX → St → Res) (x0 x1 x7 x8 x9 x10 x11 x32 : PV) (h : PHeap) : K1 E K (.exit 2) (se2_0_1_7_8_9_10_11_32 x0 x1 x7 x8 x9 x10 x11 x32 h) =
    (E.p.bin .add 3 x10 (.int .i64 1)).bind fun v38 =>
    K .normal (st0 x0 x1 x7 x8 x9 v38 h) := by kernel_rfl
noncomputable def main (E : Env) (x0 x1 x2 : PV) (h : PHeap) : Res :=
    (E.p.buildSlice 23 0 [] h).bind fun v1 =>
    (E.p.bin .quo 3 x2 x1).bind fun v2 =>
    (E.p.bin .rem 3 x2 x1).bind fun v3 =>
    (E.p.bin .sub 3 v2 (.int .i64 1)).bind fun v4 =>
    loopK (ev (E.cx Tryd.prog spec_l1Near.kl) spec_l1Near.lp0) E.lf (spec_l1Near.st0 x0 x1 v1.1 v2 v3 v4 v1.2) (spec_l1Near.K0 E (kTop Tryd.prog Tryd.f68))
theorem main_eq (E : Env) (x0 x1 x2 : PV) (h : PHeap) : runBody (E.cx Tryd.prog kl) Tryd.f68 [x0, x1, x2] h = main E x0 x1 x2 h := by kernel_rfl
theorem call_eq (g : Nat → PV) (lf n : Nat) (x0 x1 x2 : PV) (h : PHeap) : CL g lf (n + 1) fn_spec_l1Near [x0, x1, x2] h = main (env g lf n) x0 x1 x2 h := by
  rw [← main_eq]
  show (match Tryd.prog.funcs[68]? with | some fn => if fn.body.isSome then runBody ⟨Tryd.prog, g, call Tryd.prog g KL lf n, KL 68, lf, std Tryd.prog⟩ fn [x0, x1, x2] h else none | none => none) = _
  rw [Tryd.func68]
  kernel_rfl
end spec_l1Near
namespace impl_sizeOk
noncomputable def main (E : Env) (x0 : PV) (h : PHeap) : Res :=
    (E.p.bin .geq 3 x0 (.int .i64 1)).bind fun v1 =>
    (wantV v1 true).bind fun v2 =>
    (bif v2 then some (x0, h) else some (.tup [], h)).bind fun v3 =>
    (wantV v1 true).bind fun v4 =>
    (bif v4 then pv v3.2 (E.p.bin .leq 3 v3.1 (.int .i64 4)) else some (.tup [], v3.2)).bind fun v5 =>
    (E.p.pick v1 v5.1 (.bool false)).bind fun v6 =>
    (resV v6).bind fun v7 =>
    some (v7, v5.2)
theorem main_eq (E : Env) (x0 : PV) (h : PHeap) : runBody (E.cx Tryd.prog kl) Tryd.f69 [x0] h = main E x0 h := by kernel_rfl
theorem call_eq (g : Nat → PV) (lf n : Nat) (x0 : PV) (h : PHeap) : CL g lf (n + 1) fn_impl_sizeOk [x0] h = main (env g lf n) x0 h := by
  rw [← main_eq]
  show (match Tryd.prog.funcs[69]? with | some fn => if fn.body.isSome then runBody ⟨Tryd.prog, g, call Tryd.prog g KL lf n, KL 69, lf, std Tryd.prog⟩ fn [x0] h else none | none => none) = _
  rw [Tryd.func69]
  kernel_rfl
end impl_sizeOk
namespace spec_l20Board
noncomputable def main (E : Env) (x0 x1 : PV) (h : PHeap) : Res :=
    (E.p.buildSlice 23 2 [(0, (.int .i64 1)), (1, (.int .i64 1))] h).bind fun v1 =>
    (E.p.buildSlice 23 2 [(0, (.int .i64 1)), (1, (.int .i64 2))] v1.2).bind fun v2 =>
    (E.p.buildSlice 23 2 [(0, (.int .i64 2)), (1, (.int .i64 1))] v2.2).bind fun v3 =>
    (E.p.buildSlice 23 2 [(0, (.int .i64 2)), (1, (.int .i64 2))] v3.2).bind fun v4 =>
    (E.p.buildSlice 23 2 [(0, (.int .i64 2)), (1, (.int .i64 3))] v4.2).bind fun v5 =>
    (E.p.buildSlice 23 2 [(0, (.int .i64 3)), (1, (.int .i64 2))] v5.2).bind fun v6 =>
    (E.p.buildSlice 23 2 [(0, (.int .i64 3)), (1, (.int .i64 3))] v6.2).bind fun v7 =>
    (E.p.buildSlice 23 2 [(0, (.int .i64 2)), (1, (.int .i64 4))] v7.2).bind fun v8 =>
    (E.p.buildSlice 23 2 [(0, (.int .i64 4)), (1, (.int .i64 2))] v8.2).bind fun v9 =>
    (E.p.buildSlice 23 2 [(0, (.int .i64 1)), (1, (.int .i64 4))] v9.2).bind fun v10 =>
    (E.p.buildSlice 23 2 [(0, (.int .i64 2)), (1, (.int .i64 2))] v10.2).bind fun v11 =>
    (E.p.buildSlice 23 2 [(0, (.int .i64 2)), (1, (.int .i64 3))] v11.2).bind fun v12 =>
    (E.p.buildSlice 23 2 [(0, (.int .i64 3)), (1, (.int .i64 2))] v12.2).bind fun v13 =>
    (E.p.buildSlice 64 13 [(0, v1.1), (1, v2.1), (2, v3.1), (3, v4.1), (4, v5.1), (5, v6.1), (6, v7.1), (7, v8.1), (8, v9.1), (9, v10.1), (10, v11.1), (11, v12.1), (12, v13.1)] v13.2).bind fun v14 =>
    (E.C fn_spec_l20Rd_pick [x0, (.int .i64 13)] v14.2).bind fun v15 =>
    (E.p.indexAddr 64 v14.1 v15.1).bind fun v16 =>
    (E.p.load 23 v16 v15.2).bind fun v17 =>
    (E.C fn_spec_l20Rd_odd [x0, x1] v15.2).bind fun v18 =>
    condP v18.1
     (
      (E.p.buildSlice 23 2 [(0, (.int .i64 0)), (1, (.int .i64 2))] v18.2).bind fun v19 =>
      (E.p.buildSlice 23 2 [(0, (.int .i64 3)), (1, (.int .i64 4))] v19.2).bind fun v20 =>
      (E.p.buildSlice 23 2 [(0, (.int .i64 5)), (1, (.int .i64 1))] v20.2).bind fun v21 =>
      (E.p.buildSlice 23 2 [(0, (.int .i64 2)), (1, (.int .i64 (-1)))] v21.2).bind fun v22 =>
      (E.p.buildSlice 23 2 [(0, (.int .i64 1)), (1, (.int .i64 5))] v22.2).bind fun v23 =>
      (E.p.buildSlice 64 5 [(0, v19.1), (1, v20.1), (2, v21.1), (3, v22.1), (4, v23.1)] v23.2).bind fun v24 =>
      (E.C fn_spec_l20Rd_pick [x0, (.int .i64 5)] v24.2).bind fun v25 =>
      (E.p.indexAddr 64 v24.1 v25.1).bind fun v26 =>
      (E.p.load 23 v26 v25.2).bind fun v27 =>
      (E.p.indexAddr 23 v27 (.int .i64 0)).bind fun v28 =>
      (E.p.load 3 v28 v25.2).bind fun v29 =>
      (E.p.indexAddr 23 v27 (.int .i64 1)).bind fun v30 =>
      (E.p.load 3 v30 v25.2).bind fun v31 =>
      (resV v29).bind fun v32 =>
      (resV v31).bind fun v33 =>
      some (.tup [v32, v33], v25.2))
     (
      (E.p.indexAddr 23 v17 (.int .i64 0)).bind fun v34 =>
      (E.p.load 3 v34 v18.2).bind fun v35 =>
      (E.p.indexAddr 23 v17 (.int .i64 1)).bind fun v36 =>
      (E.p.load 3 v36 v18.2).bind fun v37 =>
      (resV v35).bind fun v38 =>
      (resV v37).bind fun v39 =>
      some (.tup [v38, v39], v18.2))
theorem main_eq (E : Env) (x0 x1 : PV) (h : PHeap) : runBody (E.cx Tryd.prog kl) Tryd.f70 [x0, x1] h = main E x0 x1 h := by kernel_rfl
theorem call_eq (g : Nat → PV) (lf n : Nat) (x0 x1 : PV) (h : PHeap) : CL g lf (n + 1) fn_spec_l20Board [x0, x1] h = main (env g lf n) x0 x1 h := by
  rw [← main_eq]
  show (match Tryd.prog.funcs[70]? with | some fn => if fn.body.isSome then runBody ⟨Tryd.prog, g, call Tryd.prog g KL lf n, KL 70, lf, std Tryd.prog⟩ fn [x0, x1] h else none | none => none) = _
  rw [Tryd.func70]
  kernel_rfl
end spec_l20Board
namespace spec_l20Rd_odd
noncomputable def main (E : Env) (x0 x1 : PV) (h : PHeap) : Res :=
    (E.p.bin .gtr 3 x1 (.int .i64 0)).bind fun v1 =>
    (wantV v1 true).bind fun v2 =>
    (bif v2 then some (x0, h) else some (.tup [], h)).bind fun v3 =>
    (wantV v1 true).bind fun v4 =>
    (bif v4 then some (x1, v3.2) else some (.tup [], v3.2)).bind fun v5 =>
    (wantV v1 true).bind fun v6 =>
    (bif v6 then E.C fn_spec_l20Rd_pick [v3.1, v5.1] v5.2 else some (.tup [], v5.2)).bind fun v7 =>
    (wantV v1 true).bind fun v8 =>
    (bif v8 then some (x1, v7.2) else some (.tup [], v7.2)).bind fun v9 =>
    (wantV v1 true).bind fun v10 =>
    (bif v10 then pv v9.2 (E.p.bin .sub 3 v9.1 (.int .i64 1)) else some (.tup [], v9.2)).bind fun v11 =>
    (wantV v1 true).bind fun v12 =>
    (bif v12 then pv v11.2 (E.p.bin .eql 3 v7.1 v11.1) else some (.tup [], v11.2)).bind fun v13 =>
    (E.p.pick v1 v13.1 (.bool false)).bind fun v14 =>
    (resV v14).bind fun v15 =>
    some (v15, v13.2)
theorem main_eq (E : Env) (x0 x1 : PV) (h : PHeap) : runBody (E.cx Tryd.prog kl) Tryd.f71 [x0, x1] h = main E x0 x1 h := by kernel_rfl
theorem call_eq (g : Nat → PV) (lf n : Nat) (x0 x1 : PV) (h : PHeap) : CL g lf (n + 1) fn_spec_l20Rd_odd [x0, x1] h = main (env g lf n) x0 x1 h := by
  rw [← main_eq]
  show (match Tryd.prog.funcs[71]? with | some fn => if fn.body.isSome then runBody ⟨Tryd.prog, g, call Tryd.prog g KL lf n, KL 71, lf, std Tryd.prog⟩ fn [x0, x1] h else none | none => none) = _
  rw [Tryd.func71]
  kernel_rfl
end spec_l20Rd_odd
end Go.Proofs.YtiflfnlpkhghpaaDoor.G
