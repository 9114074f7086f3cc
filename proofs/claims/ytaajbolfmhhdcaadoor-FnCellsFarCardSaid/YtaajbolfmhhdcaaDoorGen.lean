/- Of each function of this seat's program its plain form over the interpreter, written by program; each equation is the kernel's. -/
import Derived.Test.YtaajbolfmhhdcaaDoorProg
import Derived.Test.YtaajbolfmhhdcaaDoorIp
import Derived.Test.YtaajbolfmhhdcaaDoorGenBase
import Derived.KernelRfl
set_option linter.unusedVariables false
set_option maxRecDepth 100000
namespace Go.Proofs.YtaajbolfmhhdcaaDoor.G
open Go Go.Ip Go.Proofs

namespace laws_FnNearCells
noncomputable def lp0 : Code := (codeAt (bodyOf Tryd.f3) [1, 1, 1, 1, 1, 1, 1, 1, 0, 1, 0, 0])
def st0 (x3 x4 x5 x6 x7 x8 x9 : PV) (h : PHeap) : St := ⟨[.junk, .junk, .junk, x3, x4, x5, x6, x7, x8, x9, .junk, .junk, .junk, .junk, .junk, .junk, .junk, .junk, .junk, .junk, .junk, .junk, .junk, .junk, .junk, .junk, .junk, .junk, .junk, .junk, .junk, .junk, .junk, .junk, .junk, .junk, .junk, .junk, .junk, .junk, .junk, .junk, .junk, .junk, .junk, .junk, .junk, .junk, .junk, .junk, .junk, .junk, .junk, .junk, .junk, .junk, .junk, .junk, .junk, .junk, .junk, .junk, .junk, .junk, .junk, .junk, .junk, .junk, .junk, .junk, .junk, .junk, .junk, .junk, .junk, .junk, .junk, .junk, .junk, .junk, .junk, .junk, .junk, .junk, .junk, .junk, .junk, .junk, .junk, .junk, .junk, .junk, .junk, .junk, .junk, .junk, .junk, .junk, .junk, .junk, .junk, .junk, .junk, .junk, .junk, .junk, .junk, .junk, .junk, .junk, .junk, .junk, .junk], h⟩
def sr_2 (x2 : PV) (h : PHeap) : St := ⟨[.junk, .junk, x2, .junk, .junk, .junk, .junk, .junk, .junk, .junk, .junk, .junk, .junk, .junk, .junk, .junk, .junk, .junk, .junk, .junk, .junk, .junk, .junk, .junk, .junk, .junk, .junk, .junk, .junk, .junk, .junk, .junk, .junk, .junk, .junk, .junk, .junk, .junk, .junk, .junk, .junk, .junk, .junk, .junk, .junk, .junk, .junk, .junk, .junk, .junk, .junk, .junk, .junk, .junk, .junk, .junk, .junk, .junk, .junk, .junk, .junk, .junk, .junk, .junk, .junk, .junk, .junk, .junk, .junk, .junk, .junk, .junk, .junk, .junk, .junk, .junk, .junk, .junk, .junk, .junk, .junk, .junk, .junk, .junk, .junk, .junk, .junk, .junk, .junk, .junk, .junk, .junk, .junk, .junk, .junk, .junk, .junk, .junk, .junk, .junk, .junk, .junk, .junk, .junk, .junk, .junk, .junk, .junk, .junk, .junk, .junk, .junk, .junk], h⟩
def se0_3_4_5_6_7_8_9_64 (x3 x4 x5 x6 x7 x8 x9 x64 : PV) (h : PHeap) : St := ⟨[.junk, .junk, .junk, x3, x4, x5, x6, x7, x8, x9, .junk, .junk, .junk, .junk, .junk, .junk, .junk, .junk, .junk, .junk, .junk, .junk, .junk, .junk, .junk, .junk, .junk, .junk, .junk, .junk, .junk, .junk, .junk, .junk, .junk, .junk, .junk, .junk, .junk, .junk, .junk, .junk, .junk, .junk, .junk, .junk, .junk, .junk, .junk, .junk, .junk, .junk, .junk, .junk, .junk, .junk, .junk, .junk, .junk, .junk, .junk, .junk, .junk, .junk, x64, .junk, .junk, .junk, .junk, .junk, .junk, .junk, .junk, .junk, .junk, .junk, .junk, .junk, .junk, .junk, .junk, .junk, .junk, .junk, .junk, .junk, .junk, .junk, .junk, .junk, .junk, .junk, .junk, .junk, .junk, .junk, .junk, .junk, .junk, .junk, .junk, .junk, .junk, .junk, .junk, .junk, .junk, .junk, .junk, .junk, .junk, .junk, .junk], h⟩
noncomputable def K0 (E : Env) (K : PX → St → Res) : PX → St → Res := (kBlock 0 (kSeq (ev (E.cx Tryd.prog kl) (codeAt (bodyOf Tryd.f3) [1, 1, 1, 1, 1, 1, 1, 1, 1])) K))
@[simp] theorem K0_ret (E : Env) (K : PX → St → Res) (s : St) : K0 E K .ret s = K .ret s := by kernel_rfl
noncomputable def body0 (E : Env) (K : PX → St → Res) (x3 x4 x5 x6 x7 x8 x9 : PV) (h : PHeap) : Res :=
    (E.p.len 25 x6).bind fun v110 =>
    (E.p.bin .lss 3 x9 v110).bind fun v111 =>
    condP v111
     (
      (E.p.indexAddr 25 x6 x9).bind fun v112 =>
      (E.p.load 3 v112 h).bind fun v113 =>
      (E.p.bin .eql 3 v113 x5).bind fun v114 =>
      (wantV v114 false).bind fun v115 =>
      (bif v115 then some (x3, h) else some (.tup [], h)).bind fun v116 =>
      (wantV v114 false).bind fun v117 =>
      (bif v117 then some (x4, v116.2) else some (.tup [], v116.2)).bind fun v118 =>
      (wantV v114 false).bind fun v119 =>
      (bif v119 then some (x6, v118.2) else some (.tup [], v118.2)).bind fun v120 =>
      (wantV v114 false).bind fun v121 =>
      (bif v121 then some (x9, v120.2) else some (.tup [], v120.2)).bind fun v122 =>
      (wantV v114 false).bind fun v123 =>
      (bif v123 then pv v122.2 (E.p.indexAddr 25 v120.1 v122.1) else some (.tup [], v122.2)).bind fun v124 =>
      (wantV v114 false).bind fun v125 =>
      (bif v125 then pv v124.2 (E.p.load 3 v124.1 v124.2) else some (.tup [], v124.2)).bind fun v126 =>
      (wantV v114 false).bind fun v127 =>
      (bif v127 then E.C fn_impl_NearCells [v116.1, v118.1, v126.1] v126.2 else some (.tup [], v126.2)).bind fun v128 =>
      (wantV v114 false).bind fun v129 =>
      (bif v129 then some (x5, v128.2) else some (.tup [], v128.2)).bind fun v130 =>
      (wantV v114 false).bind fun v131 =>
      (bif v131 then E.C fn_laws_hasInt [v128.1, v130.1] v130.2 else some (.tup [], v130.2)).bind fun v132 =>
      (wantV v114 false).bind fun v133 =>
      (bif v133 then pv v132.2 (E.p.un .not v132.1) else some (.tup [], v132.2)).bind fun v134 =>
      (E.p.pick v114 (.bool true) v134.1).bind fun v135 =>
      (wantV v135 false).bind fun v136 =>
      (bif v136 then some (x8, v134.2) else some (.tup [], v134.2)).bind fun v137 =>
      (wantV v135 false).bind fun v138 =>
      (bif v138 then some (x7, v137.2) else some (.tup [], v137.2)).bind fun v139 =>
      (wantV v135 false).bind fun v140 =>
      (bif v140 then some (x6, v139.2) else some (.tup [], v139.2)).bind fun v141 =>
      (wantV v135 false).bind fun v142 =>
      (bif v142 then some (x9, v141.2) else some (.tup [], v141.2)).bind fun v143 =>
      (wantV v135 false).bind fun v144 =>
      (bif v144 then pv v143.2 (E.p.indexAddr 25 v141.1 v143.1) else some (.tup [], v143.2)).bind fun v145 =>
      (wantV v135 false).bind fun v146 =>
      (bif v146 then pv v145.2 (E.p.load 3 v145.1 v145.2) else some (.tup [], v145.2)).bind fun v147 =>
      (wantV v135 false).bind fun v148 =>
      (bif v148 then pv v147.2 (E.p.bin .sub 3 v139.1 v147.1) else some (.tup [], v147.2)).bind fun v149 =>
      (wantV v135 false).bind fun v150 =>
      (bif v150 then E.C fn_laws_hasInt [v137.1, v149.1] v149.2 else some (.tup [], v149.2)).bind fun v151 =>
      (wantV v135 false).bind fun v152 =>
      (bif v152 then pv v151.2 (E.p.un .not v151.1) else some (.tup [], v151.2)).bind fun v153 =>
      (E.p.pick v135 (.bool true) v153.1).bind fun v154 =>
      condP v154
       (
        K .ret (sr_2 (.bool false) v153.2))
       (
        (E.p.bin .add 3 x9 (.int .i64 1)).bind fun v155 =>
        K .normal (st0 x3 x4 x5 x6 x7 x8 v155 v153.2)))
     (
      K (.exit 0) (se0_3_4_5_6_7_8_9_64 x3 x4 x5 x6 x7 x8 x9 v111 h))
theorem body0_eq (E : Env) (K : PX → St → Res) (x3 x4 x5 x6 x7 x8 x9 : PV) (h : PHeap) : ev (E.cx Tryd.prog kl) lp0 (st0 x3 x4 x5 x6 x7 x8 x9 h) K = body0 E K x3 x4 x5 x6 x7 x8 x9 h := by kernel_rfl
theorem after0_se0_3_4_5_6_7_8_9_64 (E : Env) (x3 x4 x5 x6 x7 x8 x9 x64 : PV) (h : PHeap) : K0 E (kTop Tryd.prog Tryd.f3) (.exit 0) (se0_3_4_5_6_7_8_9_64 x3 x4 x5 x6 x7 x8 x9 x64 h) =
    (E.C fn_laws_ascend [x6] h).bind fun v87 =>
    (wantV v87.1 true).bind fun v88 =>
    (bif v88 then some (x6, v87.2) else some (.tup [], v87.2)).bind fun v89 =>
    (wantV v87.1 true).bind fun v90 =>
    (bif v90 then pv v89.2 (E.p.len 25 v89.1) else some (.tup [], v89.2)).bind fun v91 =>
    (wantV v87.1 true).bind fun v92 =>
    (bif v92 then pv v91.2 (E.p.bin .leq 3 v91.1 (.int .i64 6)) else some (.tup [], v91.2)).bind fun v93 =>
    (E.p.pick v87.1 v93.1 (.bool false)).bind fun v94 =>
    (wantV v94 true).bind fun v95 =>
    (bif v95 then some (x8, v93.2) else some (.tup [], v93.2)).bind fun v96 =>
    (wantV v94 true).bind fun v97 =>
    (bif v97 then pv v96.2 (E.p.len 25 v96.1) else some (.tup [], v96.2)).bind fun v98 =>
    (wantV v94 true).bind fun v99 =>
    (bif v99 then some (x6, v98.2) else some (.tup [], v98.2)).bind fun v100 =>
    (wantV v94 true).bind fun v101 =>
    (bif v101 then pv v100.2 (E.p.len 25 v100.1) else some (.tup [], v100.2)).bind fun v102 =>
    (wantV v94 true).bind fun v103 =>
    (bif v103 then pv v102.2 (E.p.bin .eql 3 v98.1 v102.1) else some (.tup [], v102.2)).bind fun v104 =>
    (E.p.pick v94 v104.1 (.bool false)).bind fun v105 =>
    (wantV v105 true).bind fun v106 =>
    (bif v106 then E.C fn_laws_alive [] v104.2 else some (.tup [], v104.2)).bind fun v107 =>
    (E.p.pick v105 v107.1 (.bool false)).bind fun v108 =>
    (resV v108).bind fun v109 =>
    some (v109, v107.2) := by kernel_rfl
theorem top_sr_2 (x2 : PV) (h : PHeap) : kTop Tryd.prog Tryd.f3 .ret (sr_2 x2 h) =
    (resV x2).bind fun v156 =>
    some (v156, h) := by kernel_rfl
noncomputable def main (E : Env) (x0 : PV) (h : PHeap) : Res :=
    (E.p.len 22 x0).bind fun v1 =>
    (E.p.bin .gtr 3 v1 (.int .i64 1048576)).bind fun v2 =>
    condP v2
     (
      (resV (.bool true)).bind fun v3 =>
      some (v3, h))
     (
      (E.C fn_spec_DrawNearCells [x0] h).bind fun v4 =>
      (E.p.extract v4.1 0).bind fun v5 =>
      (E.p.extract v4.1 1).bind fun v6 =>
      (E.p.extract v4.1 2).bind fun v7 =>
      (E.C fn_impl_NearCells [v5, v6, v7] v4.2).bind fun v8 =>
      (E.C fn_spec_NearCells [v5, v6, v7] v8.2).bind fun v9 =>
      (E.C fn_laws_sameInts [v8.1, v9.1] v9.2).bind fun v10 =>
      (E.p.un .not v10.1).bind fun v11 =>
      condP v11
       (
        (resV (.bool false)).bind fun v12 =>
        some (v12, v10.2))
       (
        (E.C fn_spec_BoardOk [v5, v6] v10.2).bind fun v13 =>
        (E.p.un .not v13.1).bind fun v14 =>
        (wantV v14 false).bind fun v15 =>
        (bif v15 then some (v7, v13.2) else some (.tup [], v13.2)).bind fun v16 =>
        (wantV v14 false).bind fun v17 =>
        (bif v17 then pv v16.2 (E.p.bin .lss 3 v16.1 (.int .i64 0)) else some (.tup [], v16.2)).bind fun v18 =>
        (E.p.pick v14 (.bool true) v18.1).bind fun v19 =>
        (wantV v19 false).bind fun v20 =>
        (bif v20 then some (v7, v18.2) else some (.tup [], v18.2)).bind fun v21 =>
        (wantV v19 false).bind fun v22 =>
        (bif v22 then some (v5, v21.2) else some (.tup [], v21.2)).bind fun v23 =>
        (wantV v19 false).bind fun v24 =>
        (bif v24 then some (v6, v23.2) else some (.tup [], v23.2)).bind fun v25 =>
        (wantV v19 false).bind fun v26 =>
        (bif v26 then pv v25.2 (E.p.bin .mul 3 v23.1 v25.1) else some (.tup [], v25.2)).bind fun v27 =>
        (wantV v19 false).bind fun v28 =>
        (bif v28 then pv v27.2 (E.p.bin .geq 3 v21.1 v27.1) else some (.tup [], v27.2)).bind fun v29 =>
        (E.p.pick v19 (.bool true) v29.1).bind fun v30 =>
        condP v30
         (
          (E.p.len 25 v8.1).bind fun v31 =>
          (E.p.bin .eql 3 v31 (.int .i64 0)).bind fun v32 =>
          (wantV v32 true).bind fun v33 =>
          (bif v33 then E.C fn_laws_alive [] v29.2 else some (.tup [], v29.2)).bind fun v34 =>
          (E.p.pick v32 v34.1 (.bool false)).bind fun v35 =>
          (resV v35).bind fun v36 =>
          some (v36, v34.2))
         (
          (E.p.bin .mul 3 v5 v6).bind fun v37 =>
          (E.p.bin .sub 3 v37 (.int .i64 1)).bind fun v38 =>
          (E.p.bin .sub 3 v38 v7).bind fun v39 =>
          (E.C fn_impl_NearCells [v5, v6, v39] v29.2).bind fun v40 =>
          loopK (ev (E.cx Tryd.prog laws_FnNearCells.kl) laws_FnNearCells.lp0) E.lf (laws_FnNearCells.st0 v5 v6 v7 v8.1 v38 v40.1 (.int .i64 0) v40.2) (laws_FnNearCells.K0 E (kTop Tryd.prog Tryd.f3)))))
theorem main_eq (E : Env) (x0 : PV) (h : PHeap) : runBody (E.cx Tryd.prog kl) Tryd.f3 [x0] h = main E x0 h := by kernel_rfl
theorem call_eq (g : Nat → PV) (lf n : Nat) (x0 : PV) (h : PHeap) : CL g lf (n + 1) fn_laws_FnNearCells [x0] h = main (env g lf n) x0 h := by
  rw [← main_eq]
  show (match Tryd.prog.funcs[3]? with | some fn => if fn.body.isSome then runBody ⟨Tryd.prog, g, call Tryd.prog g KL lf n, KL 3, lf, std Tryd.prog⟩ fn [x0] h else none | none => none) = _
  rw [Tryd.func3]
  kernel_rfl
end laws_FnNearCells
namespace laws_FnCellsFar
noncomputable def lp0 : Code := (codeAt (bodyOf Tryd.f4) [1, 1, 1, 1, 1, 1, 1, 1, 0, 1, 0, 0])
def st0 (x3 x4 x5 x6 x7 x8 x9 x10 : PV) (h : PHeap) : St := ⟨[.junk, .junk, .junk, x3, x4, x5, x6, x7, x8, x9, x10, .junk, .junk, .junk, .junk, .junk, .junk, .junk, .junk, .junk, .junk, .junk, .junk, .junk, .junk, .junk, .junk, .junk, .junk, .junk, .junk, .junk, .junk, .junk, .junk, .junk, .junk, .junk, .junk, .junk, .junk, .junk, .junk, .junk, .junk, .junk, .junk, .junk, .junk, .junk, .junk, .junk, .junk, .junk, .junk, .junk, .junk, .junk, .junk, .junk, .junk, .junk, .junk, .junk, .junk, .junk, .junk, .junk, .junk, .junk, .junk, .junk, .junk, .junk, .junk, .junk, .junk, .junk, .junk, .junk, .junk, .junk, .junk, .junk, .junk, .junk, .junk, .junk, .junk, .junk, .junk, .junk, .junk, .junk, .junk, .junk, .junk, .junk, .junk, .junk, .junk, .junk, .junk, .junk, .junk, .junk, .junk, .junk], h⟩
def sr_2 (x2 : PV) (h : PHeap) : St := ⟨[.junk, .junk, x2, .junk, .junk, .junk, .junk, .junk, .junk, .junk, .junk, .junk, .junk, .junk, .junk, .junk, .junk, .junk, .junk, .junk, .junk, .junk, .junk, .junk, .junk, .junk, .junk, .junk, .junk, .junk, .junk, .junk, .junk, .junk, .junk, .junk, .junk, .junk, .junk, .junk, .junk, .junk, .junk, .junk, .junk, .junk, .junk, .junk, .junk, .junk, .junk, .junk, .junk, .junk, .junk, .junk, .junk, .junk, .junk, .junk, .junk, .junk, .junk, .junk, .junk, .junk, .junk, .junk, .junk, .junk, .junk, .junk, .junk, .junk, .junk, .junk, .junk, .junk, .junk, .junk, .junk, .junk, .junk, .junk, .junk, .junk, .junk, .junk, .junk, .junk, .junk, .junk, .junk, .junk, .junk, .junk, .junk, .junk, .junk, .junk, .junk, .junk, .junk, .junk, .junk, .junk, .junk, .junk], h⟩
def se0_3_4_5_6_7_8_9_10_48 (x3 x4 x5 x6 x7 x8 x9 x10 x48 : PV) (h : PHeap) : St := ⟨[.junk, .junk, .junk, x3, x4, x5, x6, x7, x8, x9, x10, .junk, .junk, .junk, .junk, .junk, .junk, .junk, .junk, .junk, .junk, .junk, .junk, .junk, .junk, .junk, .junk, .junk, .junk, .junk, .junk, .junk, .junk, .junk, .junk, .junk, .junk, .junk, .junk, .junk, .junk, .junk, .junk, .junk, .junk, .junk, .junk, .junk, x48, .junk, .junk, .junk, .junk, .junk, .junk, .junk, .junk, .junk, .junk, .junk, .junk, .junk, .junk, .junk, .junk, .junk, .junk, .junk, .junk, .junk, .junk, .junk, .junk, .junk, .junk, .junk, .junk, .junk, .junk, .junk, .junk, .junk, .junk, .junk, .junk, .junk, .junk, .junk, .junk, .junk, .junk, .junk, .junk, .junk, .junk, .junk, .junk, .junk, .junk, .junk, .junk, .junk, .junk, .junk, .junk, .junk, .junk, .junk], h⟩
noncomputable def K0 (E : Env) (K : PX → St → Res) : PX → St → Res := (kBlock 0 (kSeq (ev (E.cx Tryd.prog kl) (codeAt (bodyOf Tryd.f4) [1, 1, 1, 1, 1, 1, 1, 1, 1])) K))
@[simp] theorem K0_ret (E : Env) (K : PX → St → Res) (s : St) : K0 E K .ret s = K .ret s := by kernel_rfl
noncomputable def body0 (E : Env) (K : PX → St → Res) (x3 x4 x5 x6 x7 x8 x9 x10 : PV) (h : PHeap) : Res :=
    (E.p.len 25 x8).bind fun v87 =>
    (E.p.bin .lss 3 x10 v87).bind fun v88 =>
    condP v88
     (
      (E.p.indexAddr 25 x8 x10).bind fun v89 =>
      (E.p.load 3 v89 h).bind fun v90 =>
      (E.C fn_impl_CellsFar [x3, x4, v90, x6] h).bind fun v91 =>
      (E.p.bin .add 3 x7 (.int .i64 1)).bind fun v92 =>
      (E.p.bin .gtr 3 v91.1 v92).bind fun v93 =>
      (wantV v93 false).bind fun v94 =>
      (bif v94 then some (v91.1, v91.2) else some (.tup [], v91.2)).bind fun v95 =>
      (wantV v93 false).bind fun v96 =>
      (bif v96 then some (x7, v95.2) else some (.tup [], v95.2)).bind fun v97 =>
      (wantV v93 false).bind fun v98 =>
      (bif v98 then pv v97.2 (E.p.bin .sub 3 v97.1 (.int .i64 1)) else some (.tup [], v97.2)).bind fun v99 =>
      (wantV v93 false).bind fun v100 =>
      (bif v100 then pv v99.2 (E.p.bin .lss 3 v95.1 v99.1) else some (.tup [], v99.2)).bind fun v101 =>
      (E.p.pick v93 (.bool true) v101.1).bind fun v102 =>
      condP v102
       (
        K .ret (sr_2 (.bool false) v101.2))
       (
        (E.p.min x9 [v91.1]).bind fun v103 =>
        (E.p.bin .add 3 x10 (.int .i64 1)).bind fun v104 =>
        K .normal (st0 x3 x4 x5 x6 x7 x8 v103 v104 v101.2)))
     (
      K (.exit 0) (se0_3_4_5_6_7_8_9_10_48 x3 x4 x5 x6 x7 x8 x9 x10 v88 h))
theorem body0_eq (E : Env) (K : PX → St → Res) (x3 x4 x5 x6 x7 x8 x9 x10 : PV) (h : PHeap) : ev (E.cx Tryd.prog kl) lp0 (st0 x3 x4 x5 x6 x7 x8 x9 x10 h) K = body0 E K x3 x4 x5 x6 x7 x8 x9 x10 h := by kernel_rfl
theorem after0_se0_3_4_5_6_7_8_9_10_48 (E : Env) (x3 x4 x5 x6 x7 x8 x9 x10 x48 : PV) (h : PHeap) : K0 E (kTop Tryd.prog Tryd.f4) (.exit 0) (se0_3_4_5_6_7_8_9_10_48 x3 x4 x5 x6 x7 x8 x9 x10 x48 h) =
    (E.C fn_impl_CellsFar [x3, x4, x6, x5] h).bind fun v38 =>
    (E.p.bin .eql 3 v38.1 x7).bind fun v39 =>
    (wantV v39 true).bind fun v40 =>
    (bif v40 then some (x7, v38.2) else some (.tup [], v38.2)).bind fun v41 =>
    (wantV v39 true).bind fun v42 =>
    (bif v42 then pv v41.2 (E.p.bin .eql 3 v41.1 (.int .i64 0)) else some (.tup [], v41.2)).bind fun v43 =>
    (wantV v39 true).bind fun v44 =>
    (bif v44 then some (x5, v43.2) else some (.tup [], v43.2)).bind fun v45 =>
    (wantV v39 true).bind fun v46 =>
    (bif v46 then some (x6, v45.2) else some (.tup [], v45.2)).bind fun v47 =>
    (wantV v39 true).bind fun v48 =>
    (bif v48 then pv v47.2 (E.p.bin .eql 3 v45.1 v47.1) else some (.tup [], v47.2)).bind fun v49 =>
    (wantV v39 true).bind fun v50 =>
    (bif v50 then pv v49.2 (E.p.bin .eql 4 v43.1 v49.1) else some (.tup [], v49.2)).bind fun v51 =>
    (E.p.pick v39 v51.1 (.bool false)).bind fun v52 =>
    (wantV v52 true).bind fun v53 =>
    (bif v53 then some (x7, v51.2) else some (.tup [], v51.2)).bind fun v54 =>
    (wantV v52 true).bind fun v55 =>
    (bif v55 then pv v54.2 (E.p.bin .eql 3 v54.1 (.int .i64 1)) else some (.tup [], v54.2)).bind fun v56 =>
    (wantV v52 true).bind fun v57 =>
    (bif v57 then some (x8, v56.2) else some (.tup [], v56.2)).bind fun v58 =>
    (wantV v52 true).bind fun v59 =>
    (bif v59 then some (x6, v58.2) else some (.tup [], v58.2)).bind fun v60 =>
    (wantV v52 true).bind fun v61 =>
    (bif v61 then E.C fn_laws_hasInt [v58.1, v60.1] v60.2 else some (.tup [], v60.2)).bind fun v62 =>
    (wantV v52 true).bind fun v63 =>
    (bif v63 then pv v62.2 (E.p.bin .eql 4 v56.1 v62.1) else some (.tup [], v62.2)).bind fun v64 =>
    (E.p.pick v52 v64.1 (.bool false)).bind fun v65 =>
    (wantV v65 true).bind fun v66 =>
    (bif v66 then some (x7, v64.2) else some (.tup [], v64.2)).bind fun v67 =>
    (wantV v65 true).bind fun v68 =>
    (bif v68 then pv v67.2 (E.p.bin .eql 3 v67.1 (.int .i64 0)) else some (.tup [], v67.2)).bind fun v69 =>
    (wantV v65 true).bind fun v70 =>
    (bif v70 then some (v69.1, v69.2) else some (.tup [], v69.2)).bind fun v71 =>
    (wantV v71.1 false).bind fun v72 =>
    (bif v72 then some (x9, v71.2) else some (.tup [], v71.2)).bind fun v73 =>
    (wantV v71.1 false).bind fun v74 =>
    (bif v74 then some (x7, v73.2) else some (.tup [], v73.2)).bind fun v75 =>
    (wantV v71.1 false).bind fun v76 =>
    (bif v76 then pv v75.2 (E.p.bin .sub 3 v75.1 (.int .i64 1)) else some (.tup [], v75.2)).bind fun v77 =>
    (wantV v71.1 false).bind fun v78 =>
    (bif v78 then pv v77.2 (E.p.bin .eql 3 v73.1 v77.1) else some (.tup [], v77.2)).bind fun v79 =>
    (wantV v65 true).bind fun v80 =>
    (bif v80 then pv v79.2 (E.p.pick v71.1 (.bool true) v79.1) else some (.tup [], v79.2)).bind fun v81 =>
    (E.p.pick v65 v81.1 (.bool false)).bind fun v82 =>
    (wantV v82 true).bind fun v83 =>
    (bif v83 then E.C fn_laws_alive [] v81.2 else some (.tup [], v81.2)).bind fun v84 =>
    (E.p.pick v82 v84.1 (.bool false)).bind fun v85 =>
    (resV v85).bind fun v86 =>
    some (v86, v84.2) := by kernel_rfl
theorem top_sr_2 (x2 : PV) (h : PHeap) : kTop Tryd.prog Tryd.f4 .ret (sr_2 x2 h) =
    (resV x2).bind fun v105 =>
    some (v105, h) := by kernel_rfl
noncomputable def main (E : Env) (x0 : PV) (h : PHeap) : Res :=
    (E.p.len 22 x0).bind fun v1 =>
    (E.p.bin .gtr 3 v1 (.int .i64 1048576)).bind fun v2 =>
    condP v2
     (
      (resV (.bool true)).bind fun v3 =>
      some (v3, h))
     (
      (E.C fn_spec_DrawCellsFar [x0] h).bind fun v4 =>
      (E.p.extract v4.1 0).bind fun v5 =>
      (E.p.extract v4.1 1).bind fun v6 =>
      (E.p.extract v4.1 2).bind fun v7 =>
      (E.p.extract v4.1 3).bind fun v8 =>
      (E.C fn_impl_CellsFar [v5, v6, v7, v8] v4.2).bind fun v9 =>
      (E.C fn_spec_CellsFar [v5, v6, v7, v8] v9.2).bind fun v10 =>
      (E.p.bin .neq 3 v9.1 v10.1).bind fun v11 =>
      condP v11
       (
        (resV (.bool false)).bind fun v12 =>
        some (v12, v10.2))
       (
        (E.p.bin .lss 3 v9.1 (.int .i64 0)).bind fun v13 =>
        condP v13
         (
          (E.p.bin .eql 3 v9.1 (.int .i64 (-1))).bind fun v14 =>
          (wantV v14 true).bind fun v15 =>
          (bif v15 then E.C fn_laws_alive [] v10.2 else some (.tup [], v10.2)).bind fun v16 =>
          (E.p.pick v14 v16.1 (.bool false)).bind fun v17 =>
          (resV v17).bind fun v18 =>
          some (v18, v16.2))
         (
          (E.C fn_impl_NearCells [v5, v6, v7] v10.2).bind fun v19 =>
          loopK (ev (E.cx Tryd.prog laws_FnCellsFar.kl) laws_FnCellsFar.lp0) E.lf (laws_FnCellsFar.st0 v5 v6 v7 v8 v9.1 v19.1 (.int .i64 100) (.int .i64 0) v19.2) (laws_FnCellsFar.K0 E (kTop Tryd.prog Tryd.f4)))))
theorem main_eq (E : Env) (x0 : PV) (h : PHeap) : runBody (E.cx Tryd.prog kl) Tryd.f4 [x0] h = main E x0 h := by kernel_rfl
theorem call_eq (g : Nat → PV) (lf n : Nat) (x0 : PV) (h : PHeap) : CL g lf (n + 1) fn_laws_FnCellsFar [x0] h = main (env g lf n) x0 h := by
  rw [← main_eq]
  show (match Tryd.prog.funcs[4]? with | some fn => if fn.body.isSome then runBody ⟨Tryd.prog, g, call Tryd.prog g KL lf n, KL 4, lf, std Tryd.prog⟩ fn [x0] h else none | none => none) = _
  rw [Tryd.func4]
  kernel_rfl
end laws_FnCellsFar
namespace laws_FnNearCount
noncomputable def lp0 : Code := (codeAt (bodyOf Tryd.f5) [1, 1, 1, 1, 1, 0, 1, 0, 0])
def st0 (x3 x4 x5 x6 : PV) (h : PHeap) : St := ⟨[.junk, .junk, .junk, x3, x4, x5, x6, .junk, .junk, .junk, .junk, .junk, .junk, .junk, .junk, .junk, .junk, .junk, .junk, .junk, .junk, .junk, .junk, .junk, .junk, .junk, .junk, .junk, .junk, .junk, .junk, .junk, .junk, .junk, .junk, .junk, .junk, .junk, .junk, .junk, .junk, .junk, .junk, .junk, .junk, .junk, .junk, .junk, .junk, .junk, .junk, .junk, .junk, .junk, .junk, .junk, .junk, .junk, .junk, .junk, .junk], h⟩
def se0_3_4_5_6_30 (x3 x4 x5 x6 x30 : PV) (h : PHeap) : St := ⟨[.junk, .junk, .junk, x3, x4, x5, x6, .junk, .junk, .junk, .junk, .junk, .junk, .junk, .junk, .junk, .junk, .junk, .junk, .junk, .junk, .junk, .junk, .junk, .junk, .junk, .junk, .junk, .junk, .junk, x30, .junk, .junk, .junk, .junk, .junk, .junk, .junk, .junk, .junk, .junk, .junk, .junk, .junk, .junk, .junk, .junk, .junk, .junk, .junk, .junk, .junk, .junk, .junk, .junk, .junk, .junk, .junk, .junk, .junk, .junk], h⟩
noncomputable def K0 (E : Env) (K : PX → St → Res) : PX → St → Res := (kBlock 0 (kSeq (ev (E.cx Tryd.prog kl) (codeAt (bodyOf Tryd.f5) [1, 1, 1, 1, 1, 1])) K))
@[simp] theorem K0_ret (E : Env) (K : PX → St → Res) (s : St) : K0 E K .ret s = K .ret s := by kernel_rfl
noncomputable def body0 (E : Env) (K : PX → St → Res) (x3 x4 x5 x6 : PV) (h : PHeap) : Res :=
    (E.p.bin .mul 3 x3 x4).bind fun v36 =>
    (E.p.bin .lss 3 x6 v36).bind fun v37 =>
    condP v37
     (
      (E.C fn_impl_NearCells [x3, x4, x6] h).bind fun v38 =>
      (E.p.len 25 v38.1).bind fun v39 =>
      (E.p.bin .add 3 x5 v39).bind fun v40 =>
      (E.p.bin .add 3 x6 (.int .i64 1)).bind fun v41 =>
      K .normal (st0 x3 x4 v40 v41 v38.2))
     (
      K (.exit 0) (se0_3_4_5_6_30 x3 x4 x5 x6 v37 h))
theorem body0_eq (E : Env) (K : PX → St → Res) (x3 x4 x5 x6 : PV) (h : PHeap) : ev (E.cx Tryd.prog kl) lp0 (st0 x3 x4 x5 x6 h) K = body0 E K x3 x4 x5 x6 h := by kernel_rfl
theorem after0_se0_3_4_5_6_30 (E : Env) (x3 x4 x5 x6 x30 : PV) (h : PHeap) : K0 E (kTop Tryd.prog Tryd.f5) (.exit 0) (se0_3_4_5_6_30 x3 x4 x5 x6 x30 h) =
    (E.p.bin .sub 3 x4 (.int .i64 1)).bind fun v21 =>
    (E.p.bin .mul 3 x3 v21).bind fun v22 =>
    (E.p.bin .sub 3 x3 (.int .i64 1)).bind fun v23 =>
    (E.p.bin .mul 3 x4 v23).bind fun v24 =>
    (E.p.bin .add 3 v22 v24).bind fun v25 =>
    (E.p.bin .sub 3 x3 (.int .i64 1)).bind fun v26 =>
    (E.p.bin .sub 3 x4 (.int .i64 1)).bind fun v27 =>
    (E.p.bin .mul 3 v26 v27).bind fun v28 =>
    (E.p.bin .add 3 v25 v28).bind fun v29 =>
    (E.p.bin .mul 3 (.int .i64 2) v29).bind fun v30 =>
    (E.p.bin .eql 3 x5 v30).bind fun v31 =>
    (wantV v31 true).bind fun v32 =>
    (bif v32 then E.C fn_laws_alive [] h else some (.tup [], h)).bind fun v33 =>
    (E.p.pick v31 v33.1 (.bool false)).bind fun v34 =>
    (resV v34).bind fun v35 =>
    some (v35, v33.2) := by kernel_rfl
noncomputable def main (E : Env) (x0 : PV) (h : PHeap) : Res :=
    (E.p.len 22 x0).bind fun v1 =>
    (E.p.bin .gtr 3 v1 (.int .i64 1048576)).bind fun v2 =>
    condP v2
     (
      (resV (.bool true)).bind fun v3 =>
      some (v3, h))
     (
      (E.C fn_spec_DrawBoardOk [x0] h).bind fun v4 =>
      (E.p.extract v4.1 0).bind fun v5 =>
      (E.p.extract v4.1 1).bind fun v6 =>
      (E.C fn_spec_BoardOk [v5, v6] v4.2).bind fun v7 =>
      (E.p.un .not v7.1).bind fun v8 =>
      condP v8
       (
        (E.C fn_impl_BoardOk [v5, v6] v7.2).bind fun v9 =>
        (E.p.un .not v9.1).bind fun v10 =>
        (wantV v10 true).bind fun v11 =>
        (bif v11 then E.C fn_laws_alive [] v9.2 else some (.tup [], v9.2)).bind fun v12 =>
        (E.p.pick v10 v12.1 (.bool false)).bind fun v13 =>
        (resV v13).bind fun v14 =>
        some (v14, v12.2))
       (
        loopK (ev (E.cx Tryd.prog laws_FnNearCount.kl) laws_FnNearCount.lp0) E.lf (laws_FnNearCount.st0 v5 v6 (.int .i64 0) (.int .i64 0) v7.2) (laws_FnNearCount.K0 E (kTop Tryd.prog Tryd.f5))))
theorem main_eq (E : Env) (x0 : PV) (h : PHeap) : runBody (E.cx Tryd.prog kl) Tryd.f5 [x0] h = main E x0 h := by kernel_rfl
theorem call_eq (g : Nat → PV) (lf n : Nat) (x0 : PV) (h : PHeap) : CL g lf (n + 1) fn_laws_FnNearCount [x0] h = main (env g lf n) x0 h := by
  rw [← main_eq]
  show (match Tryd.prog.funcs[5]? with | some fn => if fn.body.isSome then runBody ⟨Tryd.prog, g, call Tryd.prog g KL lf n, KL 5, lf, std Tryd.prog⟩ fn [x0] h else none | none => none) = _
  rw [Tryd.func5]
  kernel_rfl
end laws_FnNearCount
namespace laws_FnExactNearCells
noncomputable def main (E : Env) (x0 x1 x2 : PV) (h : PHeap) : Res :=
    (E.C fn_spec_NearCells [x0, x1, x2] h).bind fun v1 =>
    (E.C fn_impl_NearCells [x0, x1, x2] v1.2).bind fun v2 =>
    (E.C fn_laws_eqIntS [v2.1, v1.1] v2.2).bind fun v3 =>
    (E.p.un .not v3.1).bind fun v4 =>
    condP v4
     (
      (resV (.bool false)).bind fun v5 =>
      some (v5, v3.2))
     (
      (E.C fn_laws_markIntS [v2.1, (.int .i64 1)] v3.2).bind fun v6 =>
      (E.C fn_laws_heldIntS [v2.1, (.int .i64 1)] v6.2).bind fun v7 =>
      (E.p.bin .lss 3 v7.1 (.int .i64 0)).bind fun v8 =>
      condP v8
       (
        (resV (.bool false)).bind fun v9 =>
        some (v9, v7.2))
       (
        (E.p.bin .neq 3 v7.1 v6.1).bind fun v10 =>
        condP v10
         (
          (resV (.bool false)).bind fun v11 =>
          some (v11, v7.2))
         (
          (E.C fn_impl_NearCells [x0, x1, x2] v7.2).bind fun v12 =>
          (E.C fn_laws_eqIntS [v12.1, v1.1] v12.2).bind fun v13 =>
          (E.p.un .not v13.1).bind fun v14 =>
          condP v14
           (
            (resV (.bool false)).bind fun v15 =>
            some (v15, v13.2))
           (
            (E.C fn_laws_heldIntS [v2.1, (.int .i64 1)] v13.2).bind fun v16 =>
            (E.p.bin .lss 3 v16.1 (.int .i64 0)).bind fun v17 =>
            condP v17
             (
              (resV (.bool false)).bind fun v18 =>
              some (v18, v16.2))
             (
              (E.p.bin .neq 3 v16.1 v6.1).bind fun v19 =>
              condP v19
               (
                (resV (.bool false)).bind fun v20 =>
                some (v20, v16.2))
               (
                (resV (.bool true)).bind fun v21 =>
                some (v21, v16.2)))))))
theorem main_eq (E : Env) (x0 x1 x2 : PV) (h : PHeap) : runBody (E.cx Tryd.prog kl) Tryd.f6 [x0, x1, x2] h = main E x0 x1 x2 h := by kernel_rfl
theorem call_eq (g : Nat → PV) (lf n : Nat) (x0 x1 x2 : PV) (h : PHeap) : CL g lf (n + 1) fn_laws_FnExactNearCells [x0, x1, x2] h = main (env g lf n) x0 x1 x2 h := by
  rw [← main_eq]
  show (match Tryd.prog.funcs[6]? with | some fn => if fn.body.isSome then runBody ⟨Tryd.prog, g, call Tryd.prog g KL lf n, KL 6, lf, std Tryd.prog⟩ fn [x0, x1, x2] h else none | none => none) = _
  rw [Tryd.func6]
  kernel_rfl
end laws_FnExactNearCells
namespace laws_FnExactCellsFar
noncomputable def main (E : Env) (x0 x1 x2 x3 : PV) (h : PHeap) : Res :=
    (E.C fn_spec_CellsFar [x0, x1, x2, x3] h).bind fun v1 =>
    (E.C fn_impl_CellsFar [x0, x1, x2, x3] v1.2).bind fun v2 =>
    (E.p.bin .neq 3 v2.1 v1.1).bind fun v3 =>
    condP v3
     (
      (resV (.bool false)).bind fun v4 =>
      some (v4, v2.2))
     (
      (resV (.bool true)).bind fun v5 =>
      some (v5, v2.2))
theorem main_eq (E : Env) (x0 x1 x2 x3 : PV) (h : PHeap) : runBody (E.cx Tryd.prog kl) Tryd.f7 [x0, x1, x2, x3] h = main E x0 x1 x2 x3 h := by kernel_rfl
theorem call_eq (g : Nat → PV) (lf n : Nat) (x0 x1 x2 x3 : PV) (h : PHeap) : CL g lf (n + 1) fn_laws_FnExactCellsFar [x0, x1, x2, x3] h = main (env g lf n) x0 x1 x2 x3 h := by
  rw [← main_eq]
  show (match Tryd.prog.funcs[7]? with | some fn => if fn.body.isSome then runBody ⟨Tryd.prog, g, call Tryd.prog g KL lf n, KL 7, lf, std Tryd.prog⟩ fn [x0, x1, x2, x3] h else none | none => none) = _
  rw [Tryd.func7]
  kernel_rfl
end laws_FnExactCellsFar
namespace spec_DrawNearCells
noncomputable def main (E : Env) (x0 : PV) (h : PHeap) : Res :=
    (E.C fn_spec_l20Open [x0] h).bind fun v1 =>
    (E.C fn_spec_l20Board [v1.1, (.int .i64 14)] v1.2).bind fun v2 =>
    (E.p.extract v2.1 0).bind fun v3 =>
    (E.p.extract v2.1 1).bind fun v4 =>
    (E.p.bin .mul 3 v3 v4).bind fun v5 =>
    (E.p.max v5 [(.int .i64 1)]).bind fun v6 =>
    (E.C fn_spec_l20Rd_pick [v1.1, v6] v2.2).bind fun v7 =>
    (E.C fn_spec_l20Rd_pick [v1.1, (.int .i64 40)] v7.2).bind fun v8 =>
    (E.p.bin .quo 3 v8.1 (.int .i64 39)).bind fun v9 =>
    (E.p.bin .mul 3 v9 (.int .i64 9)).bind fun v10 =>
    (E.p.bin .add 3 v7.1 v10).bind fun v11 =>
    (E.C fn_spec_l20Rd_pick [v1.1, (.int .i64 40)] v8.2).bind fun v12 =>
    (E.p.bin .quo 3 v12.1 (.int .i64 39)).bind fun v13 =>
    (E.p.bin .mul 3 v13 (.int .i64 20)).bind fun v14 =>
    (E.p.bin .sub 3 v11 v14).bind fun v15 =>
    (resV v3).bind fun v16 =>
    (resV v4).bind fun v17 =>
    (resV v15).bind fun v18 =>
    some (.tup [v16, v17, v18], v12.2)
theorem main_eq (E : Env) (x0 : PV) (h : PHeap) : runBody (E.cx Tryd.prog kl) Tryd.f8 [x0] h = main E x0 h := by kernel_rfl
theorem call_eq (g : Nat → PV) (lf n : Nat) (x0 : PV) (h : PHeap) : CL g lf (n + 1) fn_spec_DrawNearCells [x0] h = main (env g lf n) x0 h := by
  rw [← main_eq]
  show (match Tryd.prog.funcs[8]? with | some fn => if fn.body.isSome then runBody ⟨Tryd.prog, g, call Tryd.prog g KL lf n, KL 8, lf, std Tryd.prog⟩ fn [x0] h else none | none => none) = _
  rw [Tryd.func8]
  kernel_rfl
end spec_DrawNearCells
namespace impl_NearCells
noncomputable def lp0 : Code := (codeAt (bodyOf Tryd.f9) [1, 1, 1, 0, 1, 0, 0])
def st0 (x0 x1 x2 x7 x17 x18 : PV) (h : PHeap) : St := ⟨[x0, x1, x2, .junk, .junk, .junk, .junk, x7, .junk, .junk, .junk, .junk, .junk, .junk, .junk, .junk, .junk, x17, x18, .junk, .junk, .junk, .junk, .junk, .junk, .junk, .junk, .junk, .junk, .junk, .junk, .junk, .junk, .junk, .junk, .junk, .junk, .junk, .junk, .junk, .junk, .junk, .junk, .junk, .junk, .junk, .junk, .junk, .junk, .junk, .junk, .junk, .junk, .junk, .junk, .junk, .junk, .junk, .junk], h⟩
def se0_0_1_2_7_17_18_19 (x0 x1 x2 x7 x17 x18 x19 : PV) (h : PHeap) : St := ⟨[x0, x1, x2, .junk, .junk, .junk, .junk, x7, .junk, .junk, .junk, .junk, .junk, .junk, .junk, .junk, .junk, x17, x18, x19, .junk, .junk, .junk, .junk, .junk, .junk, .junk, .junk, .junk, .junk, .junk, .junk, .junk, .junk, .junk, .junk, .junk, .junk, .junk, .junk, .junk, .junk, .junk, .junk, .junk, .junk, .junk, .junk, .junk, .junk, .junk, .junk, .junk, .junk, .junk, .junk, .junk, .junk, .junk], h⟩
noncomputable def K0 (E : Env) (K : PX → St → Res) : PX → St → Res := (kBlock 0 (kSeq (ev (E.cx Tryd.prog kl) (codeAt (bodyOf Tryd.f9) [1, 1, 1, 1])) K))
@[simp] theorem K0_ret (E : Env) (K : PX → St → Res) (s : St) : K0 E K .ret s = K .ret s := by kernel_rfl
noncomputable def body0 (E : Env) (K : PX → St → Res) (x0 x1 x2 x7 x17 x18 : PV) (h : PHeap) : Res :=
    (E.p.bin .lss 3 x18 (.int .i64 6)).bind fun v44 =>
    condP v44
     (
      (E.p.index 46 x17 x18).bind fun v45 =>
      (E.p.alloc 45 h).bind fun v46 =>
      (E.p.store 45 v46.1 v45 v46.2).bind fun v47 =>
      (E.p.bin .quo 3 x2 x1).bind fun v48 =>
      (E.p.indexAddr 45 v46.1 (.int .i64 0)).bind fun v49 =>
      (E.p.load 3 v49 v47).bind fun v50 =>
      (E.p.bin .add 3 v48 v50).bind fun v51 =>
      (E.p.bin .rem 3 x2 x1).bind fun v52 =>
      (E.p.indexAddr 45 v46.1 (.int .i64 1)).bind fun v53 =>
      (E.p.load 3 v53 v47).bind fun v54 =>
      (E.p.bin .add 3 v52 v54).bind fun v55 =>
      (E.p.bin .geq 3 v51 (.int .i64 0)).bind fun v56 =>
      (wantV v56 true).bind fun v57 =>
      (bif v57 then some (v51, v47) else some (.tup [], v47)).bind fun v58 =>
      (wantV v56 true).bind fun v59 =>
      (bif v59 then some (x0, v58.2) else some (.tup [], v58.2)).bind fun v60 =>
      (wantV v56 true).bind fun v61 =>
      (bif v61 then pv v60.2 (E.p.bin .lss 3 v58.1 v60.1) else some (.tup [], v60.2)).bind fun v62 =>
      (E.p.pick v56 v62.1 (.bool false)).bind fun v63 =>
      (wantV v63 true).bind fun v64 =>
      (bif v64 then some (v55, v62.2) else some (.tup [], v62.2)).bind fun v65 =>
      (wantV v63 true).bind fun v66 =>
      (bif v66 then pv v65.2 (E.p.bin .geq 3 v65.1 (.int .i64 0)) else some (.tup [], v65.2)).bind fun v67 =>
      (E.p.pick v63 v67.1 (.bool false)).bind fun v68 =>
      (wantV v68 true).bind fun v69 =>
      (bif v69 then some (v55, v67.2) else some (.tup [], v67.2)).bind fun v70 =>
      (wantV v68 true).bind fun v71 =>
      (bif v71 then some (x1, v70.2) else some (.tup [], v70.2)).bind fun v72 =>
      (wantV v68 true).bind fun v73 =>
      (bif v73 then pv v72.2 (E.p.bin .lss 3 v70.1 v72.1) else some (.tup [], v72.2)).bind fun v74 =>
      (E.p.pick v68 v74.1 (.bool false)).bind fun v75 =>
      condP v75
       (
        (E.p.bin .mul 3 v51 x1).bind fun v76 =>
        (E.p.bin .add 3 v76 v55).bind fun v77 =>
        (E.p.buildSlice 25 1 [(0, v77)] v74.2).bind fun v78 =>
        (E.p.append 25 25 x7 v78.1 v78.2).bind fun v79 =>
        (E.p.bin .add 3 x18 (.int .i64 1)).bind fun v80 =>
        K .normal (st0 x0 x1 x2 v79.1 x17 v80 v79.2))
       (
        (E.p.bin .add 3 x18 (.int .i64 1)).bind fun v81 =>
        K .normal (st0 x0 x1 x2 x7 x17 v81 v74.2)))
     (
      K (.exit 0) (se0_0_1_2_7_17_18_19 x0 x1 x2 x7 x17 x18 v44 h))
theorem body0_eq (E : Env) (K : PX → St → Res) (x0 x1 x2 x7 x17 x18 : PV) (h : PHeap) : ev (E.cx Tryd.prog kl) lp0 (st0 x0 x1 x2 x7 x17 x18 h) K = body0 E K x0 x1 x2 x7 x17 x18 h := by kernel_rfl
theorem after0_se0_0_1_2_7_17_18_19 (E : Env) (x0 x1 x2 x7 x17 x18 x19 : PV) (h : PHeap) : K0 E (kTop Tryd.prog Tryd.f9) (.exit 0) (se0_0_1_2_7_17_18_19 x0 x1 x2 x7 x17 x18 x19 h) =
    (resV x7).bind fun v43 =>
    some (v43, h) := by kernel_rfl
noncomputable def main (E : Env) (x0 x1 x2 : PV) (h : PHeap) : Res :=
    (E.C fn_impl_cellOk [x0, x1, x2] h).bind fun v1 =>
    (E.p.un .not v1.1).bind fun v2 =>
    condP v2
     (
      (resV .nilsl).bind fun v3 =>
      some (v3, v1.2))
     (
      (E.p.load 46 (E.g 0) v1.2).bind fun v4 =>
      loopK (ev (E.cx Tryd.prog impl_NearCells.kl) impl_NearCells.lp0) E.lf (impl_NearCells.st0 x0 x1 x2 .nilsl v4 (.int .i64 0) v1.2) (impl_NearCells.K0 E (kTop Tryd.prog Tryd.f9)))
theorem main_eq (E : Env) (x0 x1 x2 : PV) (h : PHeap) : runBody (E.cx Tryd.prog kl) Tryd.f9 [x0, x1, x2] h = main E x0 x1 x2 h := by kernel_rfl
theorem call_eq (g : Nat → PV) (lf n : Nat) (x0 x1 x2 : PV) (h : PHeap) : CL g lf (n + 1) fn_impl_NearCells [x0, x1, x2] h = main (env g lf n) x0 x1 x2 h := by
  rw [← main_eq]
  show (match Tryd.prog.funcs[9]? with | some fn => if fn.body.isSome then runBody ⟨Tryd.prog, g, call Tryd.prog g KL lf n, KL 9, lf, std Tryd.prog⟩ fn [x0, x1, x2] h else none | none => none) = _
  rw [Tryd.func9]
  kernel_rfl
end impl_NearCells
namespace laws_sameInts
noncomputable def lp0 : Code := (codeAt (bodyOf Tryd.f10) [1, 1, 0, 1, 0, 0])
def st0 (x0 x1 x5 : PV) (h : PHeap) : St := ⟨[x0, x1, .junk, .junk, .junk, x5, .junk, .junk, .junk, .junk, .junk, .junk, .junk, .junk, .junk, .junk, .junk, .junk, .junk, .junk, .junk, .junk, .junk, .junk, .junk, .junk], h⟩
def sr_4 (x4 : PV) (h : PHeap) : St := ⟨[.junk, .junk, .junk, .junk, x4, .junk, .junk, .junk, .junk, .junk, .junk, .junk, .junk, .junk, .junk, .junk, .junk, .junk, .junk, .junk, .junk, .junk, .junk, .junk, .junk, .junk], h⟩
def se0_0_1_5_14 (x0 x1 x5 x14 : PV) (h : PHeap) : St := ⟨[x0, x1, .junk, .junk, .junk, x5, .junk, .junk, .junk, .junk, .junk, .junk, .junk, .junk, x14, .junk, .junk, .junk, .junk, .junk, .junk, .junk, .junk, .junk, .junk, .junk], h⟩
noncomputable def K0 (E : Env) (K : PX → St → Res) : PX → St → Res := (kBlock 0 (kSeq (ev (E.cx Tryd.prog kl) (codeAt (bodyOf Tryd.f10) [1, 1, 1])) K))
@[simp] theorem K0_ret (E : Env) (K : PX → St → Res) (s : St) : K0 E K .ret s = K .ret s := by kernel_rfl
noncomputable def body0 (E : Env) (K : PX → St → Res) (x0 x1 x5 : PV) (h : PHeap) : Res :=
    (E.p.len 25 x0).bind fun v14 =>
    (E.p.bin .lss 3 x5 v14).bind fun v15 =>
    condP v15
     (
      (E.p.indexAddr 25 x0 x5).bind fun v16 =>
      (E.p.load 3 v16 h).bind fun v17 =>
      (E.p.indexAddr 25 x1 x5).bind fun v18 =>
      (E.p.load 3 v18 h).bind fun v19 =>
      (E.p.bin .neq 3 v17 v19).bind fun v20 =>
      condP v20
       (
        K .ret (sr_4 (.bool false) h))
       (
        (E.p.bin .add 3 x5 (.int .i64 1)).bind fun v21 =>
        K .normal (st0 x0 x1 v21 h)))
     (
      K (.exit 0) (se0_0_1_5_14 x0 x1 x5 v15 h))
theorem body0_eq (E : Env) (K : PX → St → Res) (x0 x1 x5 : PV) (h : PHeap) : ev (E.cx Tryd.prog kl) lp0 (st0 x0 x1 x5 h) K = body0 E K x0 x1 x5 h := by kernel_rfl
theorem after0_se0_0_1_5_14 (E : Env) (x0 x1 x5 x14 : PV) (h : PHeap) : K0 E (kTop Tryd.prog Tryd.f10) (.exit 0) (se0_0_1_5_14 x0 x1 x5 x14 h) =
    (resV (.bool true)).bind fun v13 =>
    some (v13, h) := by kernel_rfl
theorem top_sr_4 (x4 : PV) (h : PHeap) : kTop Tryd.prog Tryd.f10 .ret (sr_4 x4 h) =
    (resV x4).bind fun v22 =>
    some (v22, h) := by kernel_rfl
noncomputable def main (E : Env) (x0 x1 : PV) (h : PHeap) : Res :=
    (E.p.len 25 x0).bind fun v1 =>
    (E.p.len 25 x1).bind fun v2 =>
    (E.p.bin .neq 3 v1 v2).bind fun v3 =>
    condP v3
     (
      (resV (.bool false)).bind fun v4 =>
      some (v4, h))
     (
      loopK (ev (E.cx Tryd.prog laws_sameInts.kl) laws_sameInts.lp0) E.lf (laws_sameInts.st0 x0 x1 (.int .i64 0) h) (laws_sameInts.K0 E (kTop Tryd.prog Tryd.f10)))
theorem main_eq (E : Env) (x0 x1 : PV) (h : PHeap) : runBody (E.cx Tryd.prog kl) Tryd.f10 [x0, x1] h = main E x0 x1 h := by kernel_rfl
theorem call_eq (g : Nat → PV) (lf n : Nat) (x0 x1 : PV) (h : PHeap) : CL g lf (n + 1) fn_laws_sameInts [x0, x1] h = main (env g lf n) x0 x1 h := by
  rw [← main_eq]
  show (match Tryd.prog.funcs[10]? with | some fn => if fn.body.isSome then runBody ⟨Tryd.prog, g, call Tryd.prog g KL lf n, KL 10, lf, std Tryd.prog⟩ fn [x0, x1] h else none | none => none) = _
  rw [Tryd.func10]
  kernel_rfl
end laws_sameInts
namespace spec_NearCells
noncomputable def main (E : Env) (x0 x1 x2 : PV) (h : PHeap) : Res :=
    (E.C fn_spec_BoardOk [x0, x1] h).bind fun v1 =>
    (E.p.un .not v1.1).bind fun v2 =>
    (wantV v2 false).bind fun v3 =>
    (bif v3 then some (x2, v1.2) else some (.tup [], v1.2)).bind fun v4 =>
    (wantV v2 false).bind fun v5 =>
    (bif v5 then some (x0, v4.2) else some (.tup [], v4.2)).bind fun v6 =>
    (wantV v2 false).bind fun v7 =>
    (bif v7 then some (x1, v6.2) else some (.tup [], v6.2)).bind fun v8 =>
    (wantV v2 false).bind fun v9 =>
    (bif v9 then pv v8.2 (E.p.bin .mul 3 v6.1 v8.1) else some (.tup [], v8.2)).bind fun v10 =>
    (wantV v2 false).bind fun v11 =>
    (bif v11 then pv v10.2 (E.p.bin .sub 3 v10.1 (.int .i64 1)) else some (.tup [], v10.2)).bind fun v12 =>
    (wantV v2 false).bind fun v13 =>
    (bif v13 then E.C fn_spec_l1In [v4.1, (.int .i64 0), v12.1] v12.2 else some (.tup [], v12.2)).bind fun v14 =>
    (wantV v2 false).bind fun v15 =>
    (bif v15 then pv v14.2 (E.p.un .not v14.1) else some (.tup [], v14.2)).bind fun v16 =>
    (E.p.pick v2 (.bool true) v16.1).bind fun v17 =>
    condP v17
     (
      (E.p.buildSlice 25 0 [] v16.2).bind fun v18 =>
      (resV v18.1).bind fun v19 =>
      some (v19, v18.2))
     (
      (E.C fn_spec_l1Near [x0, x1, x2] v16.2).bind fun v20 =>
      (resV v20.1).bind fun v21 =>
      some (v21, v20.2))
theorem main_eq (E : Env) (x0 x1 x2 : PV) (h : PHeap) : runBody (E.cx Tryd.prog kl) Tryd.f11 [x0, x1, x2] h = main E x0 x1 x2 h := by kernel_rfl
theorem call_eq (g : Nat → PV) (lf n : Nat) (x0 x1 x2 : PV) (h : PHeap) : CL g lf (n + 1) fn_spec_NearCells [x0, x1, x2] h = main (env g lf n) x0 x1 x2 h := by
  rw [← main_eq]
  show (match Tryd.prog.funcs[11]? with | some fn => if fn.body.isSome then runBody ⟨Tryd.prog, g, call Tryd.prog g KL lf n, KL 11, lf, std Tryd.prog⟩ fn [x0, x1, x2] h else none | none => none) = _
  rw [Tryd.func11]
  kernel_rfl
end spec_NearCells
namespace spec_BoardOk
noncomputable def main (E : Env) (x0 x1 : PV) (h : PHeap) : Res :=
    (E.C fn_spec_l1In [x0, (.int .i64 1), (.int .i64 4)] h).bind fun v1 =>
    (wantV v1.1 true).bind fun v2 =>
    (bif v2 then some (x1, v1.2) else some (.tup [], v1.2)).bind fun v3 =>
    (wantV v1.1 true).bind fun v4 =>
    (bif v4 then E.C fn_spec_l1In [v3.1, (.int .i64 1), (.int .i64 4)] v3.2 else some (.tup [], v3.2)).bind fun v5 =>
    (E.p.pick v1.1 v5.1 (.bool false)).bind fun v6 =>
    (wantV v6 true).bind fun v7 =>
    (bif v7 then some (x0, v5.2) else some (.tup [], v5.2)).bind fun v8 =>
    (wantV v6 true).bind fun v9 =>
    (bif v9 then some (x1, v8.2) else some (.tup [], v8.2)).bind fun v10 =>
    (wantV v6 true).bind fun v11 =>
    (bif v11 then pv v10.2 (E.p.bin .mul 3 v8.1 v10.1) else some (.tup [], v10.2)).bind fun v12 =>
    (wantV v6 true).bind fun v13 =>
    (bif v13 then pv v12.2 (E.p.bin .leq 3 v12.1 (.int .i64 9)) else some (.tup [], v12.2)).bind fun v14 =>
    (E.p.pick v6 v14.1 (.bool false)).bind fun v15 =>
    (resV v15).bind fun v16 =>
    some (v16, v14.2)
theorem main_eq (E : Env) (x0 x1 : PV) (h : PHeap) : runBody (E.cx Tryd.prog kl) Tryd.f12 [x0, x1] h = main E x0 x1 h := by kernel_rfl
theorem call_eq (g : Nat → PV) (lf n : Nat) (x0 x1 : PV) (h : PHeap) : CL g lf (n + 1) fn_spec_BoardOk [x0, x1] h = main (env g lf n) x0 x1 h := by
  rw [← main_eq]
  show (match Tryd.prog.funcs[12]? with | some fn => if fn.body.isSome then runBody ⟨Tryd.prog, g, call Tryd.prog g KL lf n, KL 12, lf, std Tryd.prog⟩ fn [x0, x1] h else none | none => none) = _
  rw [Tryd.func12]
  kernel_rfl
end spec_BoardOk
namespace laws_alive
noncomputable def main (E : Env) (h : PHeap) : Res :=
    (E.C fn_impl_BoardOk [(.int .i64 2), (.int .i64 2)] h).bind fun v1 =>
    (wantV v1.1 true).bind fun v2 =>
    (bif v2 then E.C fn_impl_BoardOk [(.int .i64 0), (.int .i64 2)] v1.2 else some (.tup [], v1.2)).bind fun v3 =>
    (wantV v1.1 true).bind fun v4 =>
    (bif v4 then pv v3.2 (E.p.un .not v3.1) else some (.tup [], v3.2)).bind fun v5 =>
    (E.p.pick v1.1 v5.1 (.bool false)).bind fun v6 =>
    (resV v6).bind fun v7 =>
    some (v7, v5.2)
theorem main_eq (E : Env) (h : PHeap) : runBody (E.cx Tryd.prog kl) Tryd.f13 [] h = main E  h := by kernel_rfl
theorem call_eq (g : Nat → PV) (lf n : Nat) (h : PHeap) : CL g lf (n + 1) fn_laws_alive [] h = main (env g lf n)  h := by
  rw [← main_eq]
  show (match Tryd.prog.funcs[13]? with | some fn => if fn.body.isSome then runBody ⟨Tryd.prog, g, call Tryd.prog g KL lf n, KL 13, lf, std Tryd.prog⟩ fn [] h else none | none => none) = _
  rw [Tryd.func13]
  kernel_rfl
end laws_alive
namespace laws_hasInt
noncomputable def lp0 : Code := (codeAt (bodyOf Tryd.f14) [1, 0, 1, 0, 0])
def st0 (x0 x1 x5 : PV) (h : PHeap) : St := ⟨[x0, x1, .junk, .junk, .junk, x5, .junk, .junk, .junk, .junk, .junk, .junk, .junk, .junk, .junk, .junk, .junk, .junk], h⟩
def sr_4 (x4 : PV) (h : PHeap) : St := ⟨[.junk, .junk, .junk, .junk, x4, .junk, .junk, .junk, .junk, .junk, .junk, .junk, .junk, .junk, .junk, .junk, .junk, .junk], h⟩
def se0_0_1_5_9 (x0 x1 x5 x9 : PV) (h : PHeap) : St := ⟨[x0, x1, .junk, .junk, .junk, x5, .junk, .junk, .junk, x9, .junk, .junk, .junk, .junk, .junk, .junk, .junk, .junk], h⟩
noncomputable def K0 (E : Env) (K : PX → St → Res) : PX → St → Res := (kBlock 0 (kSeq (ev (E.cx Tryd.prog kl) (codeAt (bodyOf Tryd.f14) [1, 1])) K))
@[simp] theorem K0_ret (E : Env) (K : PX → St → Res) (s : St) : K0 E K .ret s = K .ret s := by kernel_rfl
noncomputable def body0 (E : Env) (K : PX → St → Res) (x0 x1 x5 : PV) (h : PHeap) : Res :=
    (E.p.len 25 x0).bind fun v8 =>
    (E.p.bin .lss 3 x5 v8).bind fun v9 =>
    condP v9
     (
      (E.p.indexAddr 25 x0 x5).bind fun v10 =>
      (E.p.load 3 v10 h).bind fun v11 =>
      (E.p.bin .eql 3 v11 x1).bind fun v12 =>
      condP v12
       (
        K .ret (sr_4 (.bool true) h))
       (
        (E.p.bin .add 3 x5 (.int .i64 1)).bind fun v13 =>
        K .normal (st0 x0 x1 v13 h)))
     (
      K (.exit 0) (se0_0_1_5_9 x0 x1 x5 v9 h))
theorem body0_eq (E : Env) (K : PX → St → Res) (x0 x1 x5 : PV) (h : PHeap) : ev (E.cx Tryd.prog kl) lp0 (st0 x0 x1 x5 h) K = body0 E K x0 x1 x5 h := by kernel_rfl
theorem after0_se0_0_1_5_9 (E : Env) (x0 x1 x5 x9 : PV) (h : PHeap) : K0 E (kTop Tryd.prog Tryd.f14) (.exit 0) (se0_0_1_5_9 x0 x1 x5 x9 h) =
    (resV (.bool false)).bind fun v7 =>
    some (v7, h) := by kernel_rfl
theorem top_sr_4 (x4 : PV) (h : PHeap) : kTop Tryd.prog Tryd.f14 .ret (sr_4 x4 h) =
    (resV x4).bind fun v14 =>
    some (v14, h) := by kernel_rfl
noncomputable def main (E : Env) (x0 x1 : PV) (h : PHeap) : Res :=
    loopK (ev (E.cx Tryd.prog laws_hasInt.kl) laws_hasInt.lp0) E.lf (laws_hasInt.st0 x0 x1 (.int .i64 0) h) (laws_hasInt.K0 E (kTop Tryd.prog Tryd.f14))
theorem main_eq (E : Env) (x0 x1 : PV) (h : PHeap) : runBody (E.cx Tryd.prog kl) Tryd.f14 [x0, x1] h = main E x0 x1 h := by kernel_rfl
theorem call_eq (g : Nat → PV) (lf n : Nat) (x0 x1 : PV) (h : PHeap) : CL g lf (n + 1) fn_laws_hasInt [x0, x1] h = main (env g lf n) x0 x1 h := by
  rw [← main_eq]
  show (match Tryd.prog.funcs[14]? with | some fn => if fn.body.isSome then runBody ⟨Tryd.prog, g, call Tryd.prog g KL lf n, KL 14, lf, std Tryd.prog⟩ fn [x0, x1] h else none | none => none) = _
  rw [Tryd.func14]
  kernel_rfl
end laws_hasInt
namespace laws_ascend
noncomputable def lp0 : Code := (codeAt (bodyOf Tryd.f15) [1, 0, 1, 0, 0])
def st0 (x0 x3 : PV) (h : PHeap) : St := ⟨[x0, .junk, .junk, x3, .junk, .junk, .junk, .junk, .junk, .junk, .junk, .junk, .junk, .junk, .junk, .junk, .junk, .junk, .junk, .junk], h⟩
def sr_2 (x2 : PV) (h : PHeap) : St := ⟨[.junk, .junk, x2, .junk, .junk, .junk, .junk, .junk, .junk, .junk, .junk, .junk, .junk, .junk, .junk, .junk, .junk, .junk, .junk, .junk], h⟩
def se0_0_3_7 (x0 x3 x7 : PV) (h : PHeap) : St := ⟨[x0, .junk, .junk, x3, .junk, .junk, .junk, x7, .junk, .junk, .junk, .junk, .junk, .junk, .junk, .junk, .junk, .junk, .junk, .junk], h⟩
noncomputable def K0 (E : Env) (K : PX → St → Res) : PX → St → Res := (kBlock 0 (kSeq (ev (E.cx Tryd.prog kl) (codeAt (bodyOf Tryd.f15) [1, 1])) K))
@[simp] theorem K0_ret (E : Env) (K : PX → St → Res) (s : St) : K0 E K .ret s = K .ret s := by kernel_rfl
noncomputable def body0 (E : Env) (K : PX → St → Res) (x0 x3 : PV) (h : PHeap) : Res :=
    (E.p.len 25 x0).bind fun v11 =>
    (E.p.bin .lss 3 x3 v11).bind fun v12 =>
    condP v12
     (
      (E.p.bin .sub 3 x3 (.int .i64 1)).bind fun v13 =>
      (E.p.indexAddr 25 x0 v13).bind fun v14 =>
      (E.p.load 3 v14 h).bind fun v15 =>
      (E.p.indexAddr 25 x0 x3).bind fun v16 =>
      (E.p.load 3 v16 h).bind fun v17 =>
      (E.p.bin .geq 3 v15 v17).bind fun v18 =>
      condP v18
       (
        K .ret (sr_2 (.bool false) h))
       (
        (E.p.bin .add 3 x3 (.int .i64 1)).bind fun v19 =>
        K .normal (st0 x0 v19 h)))
     (
      K (.exit 0) (se0_0_3_7 x0 x3 v12 h))
theorem body0_eq (E : Env) (K : PX → St → Res) (x0 x3 : PV) (h : PHeap) : ev (E.cx Tryd.prog kl) lp0 (st0 x0 x3 h) K = body0 E K x0 x3 h := by kernel_rfl
theorem after0_se0_0_3_7 (E : Env) (x0 x3 x7 : PV) (h : PHeap) : K0 E (kTop Tryd.prog Tryd.f15) (.exit 0) (se0_0_3_7 x0 x3 x7 h) =
    (resV (.bool true)).bind fun v10 =>
    some (v10, h) := by kernel_rfl
theorem top_sr_2 (x2 : PV) (h : PHeap) : kTop Tryd.prog Tryd.f15 .ret (sr_2 x2 h) =
    (resV x2).bind fun v20 =>
    some (v20, h) := by kernel_rfl
noncomputable def main (E : Env) (x0 : PV) (h : PHeap) : Res :=
    loopK (ev (E.cx Tryd.prog laws_ascend.kl) laws_ascend.lp0) E.lf (laws_ascend.st0 x0 (.int .i64 1) h) (laws_ascend.K0 E (kTop Tryd.prog Tryd.f15))
theorem main_eq (E : Env) (x0 : PV) (h : PHeap) : runBody (E.cx Tryd.prog kl) Tryd.f15 [x0] h = main E x0 h := by kernel_rfl
theorem call_eq (g : Nat → PV) (lf n : Nat) (x0 : PV) (h : PHeap) : CL g lf (n + 1) fn_laws_ascend [x0] h = main (env g lf n) x0 h := by
  rw [← main_eq]
  show (match Tryd.prog.funcs[15]? with | some fn => if fn.body.isSome then runBody ⟨Tryd.prog, g, call Tryd.prog g KL lf n, KL 15, lf, std Tryd.prog⟩ fn [x0] h else none | none => none) = _
  rw [Tryd.func15]
  kernel_rfl
end laws_ascend
namespace spec_DrawCellsFar
noncomputable def main (E : Env) (x0 : PV) (h : PHeap) : Res :=
    (E.C fn_spec_l20Open [x0] h).bind fun v1 =>
    (E.C fn_spec_l20Board [v1.1, (.int .i64 14)] v1.2).bind fun v2 =>
    (E.p.extract v2.1 0).bind fun v3 =>
    (E.p.extract v2.1 1).bind fun v4 =>
    (E.p.bin .mul 3 v3 v4).bind fun v5 =>
    (E.p.max v5 [(.int .i64 1)]).bind fun v6 =>
    (E.C fn_spec_l20Rd_pick [v1.1, v6] v2.2).bind fun v7 =>
    (E.C fn_spec_l20Rd_pick [v1.1, (.int .i64 40)] v7.2).bind fun v8 =>
    (E.p.bin .quo 3 v8.1 (.int .i64 39)).bind fun v9 =>
    (E.p.bin .mul 3 v9 (.int .i64 9)).bind fun v10 =>
    (E.p.bin .add 3 v7.1 v10).bind fun v11 =>
    (E.C fn_spec_l20Rd_pick [v1.1, v6] v8.2).bind fun v12 =>
    (E.C fn_spec_l20Rd_pick [v1.1, (.int .i64 40)] v12.2).bind fun v13 =>
    (E.p.bin .quo 3 v13.1 (.int .i64 39)).bind fun v14 =>
    (E.p.bin .mul 3 v14 (.int .i64 9)).bind fun v15 =>
    (E.p.bin .sub 3 v12.1 v15).bind fun v16 =>
    (resV v3).bind fun v17 =>
    (resV v4).bind fun v18 =>
    (resV v11).bind fun v19 =>
    (resV v16).bind fun v20 =>
    some (.tup [v17, v18, v19, v20], v13.2)
theorem main_eq (E : Env) (x0 : PV) (h : PHeap) : runBody (E.cx Tryd.prog kl) Tryd.f16 [x0] h = main E x0 h := by kernel_rfl
theorem call_eq (g : Nat → PV) (lf n : Nat) (x0 : PV) (h : PHeap) : CL g lf (n + 1) fn_spec_DrawCellsFar [x0] h = main (env g lf n) x0 h := by
  rw [← main_eq]
  show (match Tryd.prog.funcs[16]? with | some fn => if fn.body.isSome then runBody ⟨Tryd.prog, g, call Tryd.prog g KL lf n, KL 16, lf, std Tryd.prog⟩ fn [x0] h else none | none => none) = _
  rw [Tryd.func16]
  kernel_rfl
end spec_DrawCellsFar
namespace impl_CellsFar
noncomputable def lp0 : Code := (codeAt (bodyOf Tryd.f17) [1, 1, 1, 0, 1, 0, 0])
def st0 (x0 x1 x3 x9 x27 x28 : PV) (h : PHeap) : St := ⟨[x0, x1, .junk, x3, .junk, .junk, .junk, .junk, .junk, x9, .junk, .junk, .junk, .junk, .junk, .junk, .junk, .junk, .junk, .junk, .junk, .junk, .junk, .junk, .junk, .junk, .junk, x27, x28, .junk, .junk, .junk, .junk, .junk, .junk, .junk, .junk, .junk, .junk, .junk, .junk, .junk], h⟩
def sr_8 (x8 : PV) (h : PHeap) : St := ⟨[.junk, .junk, .junk, .junk, .junk, .junk, .junk, .junk, x8, .junk, .junk, .junk, .junk, .junk, .junk, .junk, .junk, .junk, .junk, .junk, .junk, .junk, .junk, .junk, .junk, .junk, .junk, .junk, .junk, .junk, .junk, .junk, .junk, .junk, .junk, .junk, .junk, .junk, .junk, .junk, .junk, .junk], h⟩
def se0_0_1_3_9_27_28_29 (x0 x1 x3 x9 x27 x28 x29 : PV) (h : PHeap) : St := ⟨[x0, x1, .junk, x3, .junk, .junk, .junk, .junk, .junk, x9, .junk, .junk, .junk, .junk, .junk, .junk, .junk, .junk, .junk, .junk, .junk, .junk, .junk, .junk, .junk, .junk, .junk, x27, x28, x29, .junk, .junk, .junk, .junk, .junk, .junk, .junk, .junk, .junk, .junk, .junk, .junk], h⟩
noncomputable def K0 (E : Env) (K : PX → St → Res) : PX → St → Res := (kBlock 0 (kSeq (ev (E.cx Tryd.prog kl) (codeAt (bodyOf Tryd.f17) [1, 1, 1, 1])) K))
@[simp] theorem K0_ret (E : Env) (K : PX → St → Res) (s : St) : K0 E K .ret s = K .ret s := by kernel_rfl
noncomputable def body0 (E : Env) (K : PX → St → Res) (x0 x1 x3 x9 x27 x28 : PV) (h : PHeap) : Res :=
    (E.p.bin .lss 3 x28 x27).bind fun v24 =>
    condP v24
     (
      (E.p.bin .shr 3 x9 x3).bind fun v25 =>
      (E.p.bin .and 3 v25 (.int .i64 1)).bind fun v26 =>
      (E.p.bin .eql 3 v26 (.int .i64 1)).bind fun v27 =>
      condP v27
       (
        K .ret (sr_8 x28 h))
       (
        (E.C fn_impl_withNear [x0, x1, x9] h).bind fun v28 =>
        (E.p.bin .add 3 x28 (.int .i64 1)).bind fun v29 =>
        K .normal (st0 x0 x1 x3 v28.1 x27 v29 v28.2)))
     (
      K (.exit 0) (se0_0_1_3_9_27_28_29 x0 x1 x3 x9 x27 x28 v24 h))
theorem body0_eq (E : Env) (K : PX → St → Res) (x0 x1 x3 x9 x27 x28 : PV) (h : PHeap) : ev (E.cx Tryd.prog kl) lp0 (st0 x0 x1 x3 x9 x27 x28 h) K = body0 E K x0 x1 x3 x9 x27 x28 h := by kernel_rfl
theorem after0_se0_0_1_3_9_27_28_29 (E : Env) (x0 x1 x3 x9 x27 x28 x29 : PV) (h : PHeap) : K0 E (kTop Tryd.prog Tryd.f17) (.exit 0) (se0_0_1_3_9_27_28_29 x0 x1 x3 x9 x27 x28 x29 h) =
    (resV (.int .i64 (-1))).bind fun v23 =>
    some (v23, h) := by kernel_rfl
theorem top_sr_8 (x8 : PV) (h : PHeap) : kTop Tryd.prog Tryd.f17 .ret (sr_8 x8 h) =
    (resV x8).bind fun v30 =>
    some (v30, h) := by kernel_rfl
noncomputable def main (E : Env) (x0 x1 x2 x3 : PV) (h : PHeap) : Res :=
    (E.C fn_impl_cellOk [x0, x1, x2] h).bind fun v1 =>
    (E.p.un .not v1.1).bind fun v2 =>
    (wantV v2 false).bind fun v3 =>
    (bif v3 then some (x0, v1.2) else some (.tup [], v1.2)).bind fun v4 =>
    (wantV v2 false).bind fun v5 =>
    (bif v5 then some (x1, v4.2) else some (.tup [], v4.2)).bind fun v6 =>
    (wantV v2 false).bind fun v7 =>
    (bif v7 then some (x3, v6.2) else some (.tup [], v6.2)).bind fun v8 =>
    (wantV v2 false).bind fun v9 =>
    (bif v9 then E.C fn_impl_cellOk [v4.1, v6.1, v8.1] v8.2 else some (.tup [], v8.2)).bind fun v10 =>
    (wantV v2 false).bind fun v11 =>
    (bif v11 then pv v10.2 (E.p.un .not v10.1) else some (.tup [], v10.2)).bind fun v12 =>
    (E.p.pick v2 (.bool true) v12.1).bind fun v13 =>
    condP v13
     (
      (resV (.int .i64 (-1))).bind fun v14 =>
      some (v14, v12.2))
     (
      (E.p.bin .shl 3 (.int .i64 1) x2).bind fun v15 =>
      (E.p.bin .mul 3 x0 x1).bind fun v16 =>
      loopK (ev (E.cx Tryd.prog impl_CellsFar.kl) impl_CellsFar.lp0) E.lf (impl_CellsFar.st0 x0 x1 x3 v15 v16 (.int .i64 0) v12.2) (impl_CellsFar.K0 E (kTop Tryd.prog Tryd.f17)))
theorem main_eq (E : Env) (x0 x1 x2 x3 : PV) (h : PHeap) : runBody (E.cx Tryd.prog kl) Tryd.f17 [x0, x1, x2, x3] h = main E x0 x1 x2 x3 h := by kernel_rfl
theorem call_eq (g : Nat → PV) (lf n : Nat) (x0 x1 x2 x3 : PV) (h : PHeap) : CL g lf (n + 1) fn_impl_CellsFar [x0, x1, x2, x3] h = main (env g lf n) x0 x1 x2 x3 h := by
  rw [← main_eq]
  show (match Tryd.prog.funcs[17]? with | some fn => if fn.body.isSome then runBody ⟨Tryd.prog, g, call Tryd.prog g KL lf n, KL 17, lf, std Tryd.prog⟩ fn [x0, x1, x2, x3] h else none | none => none) = _
  rw [Tryd.func17]
  kernel_rfl
end impl_CellsFar
namespace spec_CellsFar
noncomputable def main (E : Env) (x0 x1 x2 x3 : PV) (h : PHeap) : Res :=
    (E.C fn_spec_BoardOk [x0, x1] h).bind fun v1 =>
    (E.p.un .not v1.1).bind fun v2 =>
    (wantV v2 false).bind fun v3 =>
    (bif v3 then some (x2, v1.2) else some (.tup [], v1.2)).bind fun v4 =>
    (wantV v2 false).bind fun v5 =>
    (bif v5 then some (x0, v4.2) else some (.tup [], v4.2)).bind fun v6 =>
    (wantV v2 false).bind fun v7 =>
    (bif v7 then some (x1, v6.2) else some (.tup [], v6.2)).bind fun v8 =>
    (wantV v2 false).bind fun v9 =>
    (bif v9 then pv v8.2 (E.p.bin .mul 3 v6.1 v8.1) else some (.tup [], v8.2)).bind fun v10 =>
    (wantV v2 false).bind fun v11 =>
    (bif v11 then pv v10.2 (E.p.bin .sub 3 v10.1 (.int .i64 1)) else some (.tup [], v10.2)).bind fun v12 =>
    (wantV v2 false).bind fun v13 =>
    (bif v13 then E.C fn_spec_l1In [v4.1, (.int .i64 0), v12.1] v12.2 else some (.tup [], v12.2)).bind fun v14 =>
    (wantV v2 false).bind fun v15 =>
    (bif v15 then pv v14.2 (E.p.un .not v14.1) else some (.tup [], v14.2)).bind fun v16 =>
    (E.p.pick v2 (.bool true) v16.1).bind fun v17 =>
    (wantV v17 false).bind fun v18 =>
    (bif v18 then some (x3, v16.2) else some (.tup [], v16.2)).bind fun v19 =>
    (wantV v17 false).bind fun v20 =>
    (bif v20 then some (x0, v19.2) else some (.tup [], v19.2)).bind fun v21 =>
    (wantV v17 false).bind fun v22 =>
    (bif v22 then some (x1, v21.2) else some (.tup [], v21.2)).bind fun v23 =>
    (wantV v17 false).bind fun v24 =>
    (bif v24 then pv v23.2 (E.p.bin .mul 3 v21.1 v23.1) else some (.tup [], v23.2)).bind fun v25 =>
    (wantV v17 false).bind fun v26 =>
    (bif v26 then pv v25.2 (E.p.bin .sub 3 v25.1 (.int .i64 1)) else some (.tup [], v25.2)).bind fun v27 =>
    (wantV v17 false).bind fun v28 =>
    (bif v28 then E.C fn_spec_l1In [v19.1, (.int .i64 0), v27.1] v27.2 else some (.tup [], v27.2)).bind fun v29 =>
    (wantV v17 false).bind fun v30 =>
    (bif v30 then pv v29.2 (E.p.un .not v29.1) else some (.tup [], v29.2)).bind fun v31 =>
    (E.p.pick v17 (.bool true) v31.1).bind fun v32 =>
    condP v32
     (
      (resV (.int .i64 (-1))).bind fun v33 =>
      some (v33, v31.2))
     (
      (E.p.bin .quo 3 x3 x1).bind fun v34 =>
      (E.p.bin .quo 3 x2 x1).bind fun v35 =>
      (E.p.bin .sub 3 v34 v35).bind fun v36 =>
      (E.p.bin .rem 3 x3 x1).bind fun v37 =>
      (E.p.bin .rem 3 x2 x1).bind fun v38 =>
      (E.p.bin .sub 3 v37 v38).bind fun v39 =>
      (E.p.bin .lss 3 v36 (.int .i64 0)).bind fun v40 =>
      condP v40
       (
        (E.p.un .neg v36).bind fun v41 =>
        (E.p.un .neg v39).bind fun v42 =>
        (E.p.bin .geq 3 v42 (.int .i64 0)).bind fun v43 =>
        condP v43
         (
          (E.p.bin .add 3 v41 v42).bind fun v44 =>
          (resV v44).bind fun v45 =>
          some (v45, v31.2))
         (
          (E.p.un .neg v42).bind fun v46 =>
          (E.p.max v41 [v46]).bind fun v47 =>
          (resV v47).bind fun v48 =>
          some (v48, v31.2)))
       (
        (E.p.bin .geq 3 v39 (.int .i64 0)).bind fun v49 =>
        condP v49
         (
          (E.p.bin .add 3 v36 v39).bind fun v50 =>
          (resV v50).bind fun v51 =>
          some (v51, v31.2))
         (
          (E.p.un .neg v39).bind fun v52 =>
          (E.p.max v36 [v52]).bind fun v53 =>
          (resV v53).bind fun v54 =>
          some (v54, v31.2))))
theorem main_eq (E : Env) (x0 x1 x2 x3 : PV) (h : PHeap) : runBody (E.cx Tryd.prog kl) Tryd.f18 [x0, x1, x2, x3] h = main E x0 x1 x2 x3 h := by kernel_rfl
theorem call_eq (g : Nat → PV) (lf n : Nat) (x0 x1 x2 x3 : PV) (h : PHeap) : CL g lf (n + 1) fn_spec_CellsFar [x0, x1, x2, x3] h = main (env g lf n) x0 x1 x2 x3 h := by
  rw [← main_eq]
  show (match Tryd.prog.funcs[18]? with | some fn => if fn.body.isSome then runBody ⟨Tryd.prog, g, call Tryd.prog g KL lf n, KL 18, lf, std Tryd.prog⟩ fn [x0, x1, x2, x3] h else none | none => none) = _
  rw [Tryd.func18]
  kernel_rfl
end spec_CellsFar
namespace spec_DrawBoardOk
noncomputable def main (E : Env) (x0 : PV) (h : PHeap) : Res :=
    (E.C fn_spec_l20Open [x0] h).bind fun v1 =>
    (E.C fn_spec_l20Board [v1.1, (.int .i64 2)] v1.2).bind fun v2 =>
    (E.p.extract v2.1 0).bind fun v3 =>
    (E.p.extract v2.1 1).bind fun v4 =>
    (resV v3).bind fun v5 =>
    (resV v4).bind fun v6 =>
    some (.tup [v5, v6], v2.2)
theorem main_eq (E : Env) (x0 : PV) (h : PHeap) : runBody (E.cx Tryd.prog kl) Tryd.f19 [x0] h = main E x0 h := by kernel_rfl
theorem call_eq (g : Nat → PV) (lf n : Nat) (x0 : PV) (h : PHeap) : CL g lf (n + 1) fn_spec_DrawBoardOk [x0] h = main (env g lf n) x0 h := by
  rw [← main_eq]
  show (match Tryd.prog.funcs[19]? with | some fn => if fn.body.isSome then runBody ⟨Tryd.prog, g, call Tryd.prog g KL lf n, KL 19, lf, std Tryd.prog⟩ fn [x0] h else none | none => none) = _
  rw [Tryd.func19]
  kernel_rfl
end spec_DrawBoardOk
namespace impl_BoardOk
noncomputable def main (E : Env) (x0 x1 : PV) (h : PHeap) : Res :=
    (E.C fn_impl_sizeOk [x0] h).bind fun v1 =>
    (wantV v1.1 true).bind fun v2 =>
    (bif v2 then some (x1, v1.2) else some (.tup [], v1.2)).bind fun v3 =>
    (wantV v1.1 true).bind fun v4 =>
    (bif v4 then E.C fn_impl_sizeOk [v3.1] v3.2 else some (.tup [], v3.2)).bind fun v5 =>
    (E.p.pick v1.1 v5.1 (.bool false)).bind fun v6 =>
    (wantV v6 true).bind fun v7 =>
    (bif v7 then some (x0, v5.2) else some (.tup [], v5.2)).bind fun v8 =>
    (wantV v6 true).bind fun v9 =>
    (bif v9 then some (x1, v8.2) else some (.tup [], v8.2)).bind fun v10 =>
    (wantV v6 true).bind fun v11 =>
    (bif v11 then pv v10.2 (E.p.bin .mul 3 v8.1 v10.1) else some (.tup [], v10.2)).bind fun v12 =>
    (wantV v6 true).bind fun v13 =>
    (bif v13 then pv v12.2 (E.p.bin .leq 3 v12.1 (.int .i64 9)) else some (.tup [], v12.2)).bind fun v14 =>
    (E.p.pick v6 v14.1 (.bool false)).bind fun v15 =>
    (resV v15).bind fun v16 =>
    some (v16, v14.2)
theorem main_eq (E : Env) (x0 x1 : PV) (h : PHeap) : runBody (E.cx Tryd.prog kl) Tryd.f20 [x0, x1] h = main E x0 x1 h := by kernel_rfl
theorem call_eq (g : Nat → PV) (lf n : Nat) (x0 x1 : PV) (h : PHeap) : CL g lf (n + 1) fn_impl_BoardOk [x0, x1] h = main (env g lf n) x0 x1 h := by
  rw [← main_eq]
  show (match Tryd.prog.funcs[20]? with | some fn => if fn.body.isSome then runBody ⟨Tryd.prog, g, call Tryd.prog g KL lf n, KL 20, lf, std Tryd.prog⟩ fn [x0, x1] h else none | none => none) = _
  rw [Tryd.func20]
  kernel_rfl
end impl_BoardOk
namespace laws_eqIntS
noncomputable def lp0 : Code := (codeAt (bodyOf Tryd.f21) [1, 1, 0, 1, 0, 0])
def st0 (x0 x1 x5 : PV) (h : PHeap) : St := ⟨[x0, x1, .junk, .junk, .junk, x5, .junk, .junk, .junk, .junk, .junk, .junk, .junk, .junk, .junk, .junk, .junk, .junk, .junk, .junk, .junk, .junk, .junk, .junk, .junk, .junk], h⟩
def sr_4 (x4 : PV) (h : PHeap) : St := ⟨[.junk, .junk, .junk, .junk, x4, .junk, .junk, .junk, .junk, .junk, .junk, .junk, .junk, .junk, .junk, .junk, .junk, .junk, .junk, .junk, .junk, .junk, .junk, .junk, .junk, .junk], h⟩
def se0_0_1_5_14 (x0 x1 x5 x14 : PV) (h : PHeap) : St := ⟨[x0, x1, .junk, .junk, .junk, x5, .junk, .junk, .junk, .junk, .junk, .junk, .junk, .junk, x14, .junk, .junk, .junk, .junk, .junk, .junk, .junk, .junk, .junk, .junk, .junk], h⟩
noncomputable def K0 (E : Env) (K : PX → St → Res) : PX → St → Res := (kBlock 0 (kSeq (ev (E.cx Tryd.prog kl) (codeAt (bodyOf Tryd.f21) [1, 1, 1])) K))
@[simp] theorem K0_ret (E : Env) (K : PX → St → Res) (s : St) : K0 E K .ret s = K .ret s := by kernel_rfl
noncomputable def body0 (E : Env) (K : PX → St → Res) (x0 x1 x5 : PV) (h : PHeap) : Res :=
    (E.p.len 25 x0).bind fun v14 =>
    (E.p.bin .lss 3 x5 v14).bind fun v15 =>
    condP v15
     (
      (E.p.indexAddr 25 x0 x5).bind fun v16 =>
      (E.p.load 3 v16 h).bind fun v17 =>
      (E.p.indexAddr 25 x1 x5).bind fun v18 =>
      (E.p.load 3 v18 h).bind fun v19 =>
      (E.p.bin .neq 3 v17 v19).bind fun v20 =>
      condP v20
       (
        K .ret (sr_4 (.bool false) h))
       (
        (E.p.bin .add 3 x5 (.int .i64 1)).bind fun v21 =>
        K .normal (st0 x0 x1 v21 h)))
     (
      K (.exit 0) (se0_0_1_5_14 x0 x1 x5 v15 h))
theorem body0_eq (E : Env) (K : PX → St → Res) (x0 x1 x5 : PV) (h : PHeap) : ev (E.cx Tryd.prog kl) lp0 (st0 x0 x1 x5 h) K = body0 E K x0 x1 x5 h := by kernel_rfl
theorem after0_se0_0_1_5_14 (E : Env) (x0 x1 x5 x14 : PV) (h : PHeap) : K0 E (kTop Tryd.prog Tryd.f21) (.exit 0) (se0_0_1_5_14 x0 x1 x5 x14 h) =
    (resV (.bool true)).bind fun v13 =>
    some (v13, h) := by kernel_rfl
theorem top_sr_4 (x4 : PV) (h : PHeap) : kTop Tryd.prog Tryd.f21 .ret (sr_4 x4 h) =
    (resV x4).bind fun v22 =>
    some (v22, h) := by kernel_rfl
noncomputable def main (E : Env) (x0 x1 : PV) (h : PHeap) : Res :=
    (E.p.len 25 x0).bind fun v1 =>
    (E.p.len 25 x1).bind fun v2 =>
    (E.p.bin .neq 3 v1 v2).bind fun v3 =>
    condP v3
     (
      (resV (.bool false)).bind fun v4 =>
      some (v4, h))
     (
      loopK (ev (E.cx Tryd.prog laws_eqIntS.kl) laws_eqIntS.lp0) E.lf (laws_eqIntS.st0 x0 x1 (.int .i64 0) h) (laws_eqIntS.K0 E (kTop Tryd.prog Tryd.f21)))
theorem main_eq (E : Env) (x0 x1 : PV) (h : PHeap) : runBody (E.cx Tryd.prog kl) Tryd.f21 [x0, x1] h = main E x0 x1 h := by kernel_rfl
theorem call_eq (g : Nat → PV) (lf n : Nat) (x0 x1 : PV) (h : PHeap) : CL g lf (n + 1) fn_laws_eqIntS [x0, x1] h = main (env g lf n) x0 x1 h := by
  rw [← main_eq]
  show (match Tryd.prog.funcs[21]? with | some fn => if fn.body.isSome then runBody ⟨Tryd.prog, g, call Tryd.prog g KL lf n, KL 21, lf, std Tryd.prog⟩ fn [x0, x1] h else none | none => none) = _
  rw [Tryd.func21]
  kernel_rfl
end laws_eqIntS
namespace laws_markIntS
noncomputable def lp0 : Code := (codeAt (bodyOf Tryd.f22) [1, 0, 1, 0, 0])
def st0 (x0 x1 x5 : PV) (h : PHeap) : St := ⟨[x0, x1, .junk, .junk, .junk, x5, .junk, .junk, .junk, .junk, .junk, .junk, .junk, .junk, .junk, .junk, .junk, .junk, .junk], h⟩
def se0_0_1_5_9 (x0 x1 x5 x9 : PV) (h : PHeap) : St := ⟨[x0, x1, .junk, .junk, .junk, x5, .junk, .junk, .junk, x9, .junk, .junk, .junk, .junk, .junk, .junk, .junk, .junk, .junk], h⟩
noncomputable def K0 (E : Env) (K : PX → St → Res) : PX → St → Res := (kBlock 0 (kSeq (ev (E.cx Tryd.prog kl) (codeAt (bodyOf Tryd.f22) [1, 1])) K))
@[simp] theorem K0_ret (E : Env) (K : PX → St → Res) (s : St) : K0 E K .ret s = K .ret s := by kernel_rfl
noncomputable def body0 (E : Env) (K : PX → St → Res) (x0 x1 x5 : PV) (h : PHeap) : Res :=
    (E.p.len 25 x0).bind fun v8 =>
    (E.p.bin .lss 3 x5 v8).bind fun v9 =>
    condP v9
     (
      (E.p.indexAddr 25 x0 x5).bind fun v10 =>
      (E.p.store 3 v10 x1 h).bind fun v11 =>
      (E.p.bin .add 3 x1 (.int .i64 1)).bind fun v12 =>
      (E.p.bin .add 3 x5 (.int .i64 1)).bind fun v13 =>
      K .normal (st0 x0 v12 v13 v11))
     (
      K (.exit 0) (se0_0_1_5_9 x0 x1 x5 v9 h))
theorem body0_eq (E : Env) (K : PX → St → Res) (x0 x1 x5 : PV) (h : PHeap) : ev (E.cx Tryd.prog kl) lp0 (st0 x0 x1 x5 h) K = body0 E K x0 x1 x5 h := by kernel_rfl
theorem after0_se0_0_1_5_9 (E : Env) (x0 x1 x5 x9 : PV) (h : PHeap) : K0 E (kTop Tryd.prog Tryd.f22) (.exit 0) (se0_0_1_5_9 x0 x1 x5 x9 h) =
    (resV x1).bind fun v7 =>
    some (v7, h) := by kernel_rfl
noncomputable def main (E : Env) (x0 x1 : PV) (h : PHeap) : Res :=
    loopK (ev (E.cx Tryd.prog laws_markIntS.kl) laws_markIntS.lp0) E.lf (laws_markIntS.st0 x0 x1 (.int .i64 0) h) (laws_markIntS.K0 E (kTop Tryd.prog Tryd.f22))
theorem main_eq (E : Env) (x0 x1 : PV) (h : PHeap) : runBody (E.cx Tryd.prog kl) Tryd.f22 [x0, x1] h = main E x0 x1 h := by kernel_rfl
theorem call_eq (g : Nat → PV) (lf n : Nat) (x0 x1 : PV) (h : PHeap) : CL g lf (n + 1) fn_laws_markIntS [x0, x1] h = main (env g lf n) x0 x1 h := by
  rw [← main_eq]
  show (match Tryd.prog.funcs[22]? with | some fn => if fn.body.isSome then runBody ⟨Tryd.prog, g, call Tryd.prog g KL lf n, KL 22, lf, std Tryd.prog⟩ fn [x0, x1] h else none | none => none) = _
  rw [Tryd.func22]
  kernel_rfl
end laws_markIntS
namespace laws_heldIntS
noncomputable def lp0 : Code := (codeAt (bodyOf Tryd.f23) [1, 0, 1, 0, 0])
def st0 (x0 x1 x5 : PV) (h : PHeap) : St := ⟨[x0, x1, .junk, .junk, .junk, x5, .junk, .junk, .junk, .junk, .junk, .junk, .junk, .junk, .junk, .junk, .junk, .junk, .junk, .junk, .junk], h⟩
def sr_4 (x4 : PV) (h : PHeap) : St := ⟨[.junk, .junk, .junk, .junk, x4, .junk, .junk, .junk, .junk, .junk, .junk, .junk, .junk, .junk, .junk, .junk, .junk, .junk, .junk, .junk, .junk], h⟩
def se0_0_1_5_9 (x0 x1 x5 x9 : PV) (h : PHeap) : St := ⟨[x0, x1, .junk, .junk, .junk, x5, .junk, .junk, .junk, x9, .junk, .junk, .junk, .junk, .junk, .junk, .junk, .junk, .junk, .junk, .junk], h⟩
noncomputable def K0 (E : Env) (K : PX → St → Res) : PX → St → Res := (kBlock 0 (kSeq (ev (E.cx Tryd.prog kl) (codeAt (bodyOf Tryd.f23) [1, 1])) K))
@[simp] theorem K0_ret (E : Env) (K : PX → St → Res) (s : St) : K0 E K .ret s = K .ret s := by kernel_rfl
noncomputable def body0 (E : Env) (K : PX → St → Res) (x0 x1 x5 : PV) (h : PHeap) : Res :=
    (E.p.len 25 x0).bind fun v9 =>
    (E.p.bin .lss 3 x5 v9).bind fun v10 =>
    condP v10
     (
      (E.p.indexAddr 25 x0 x5).bind fun v11 =>
      (E.p.load 3 v11 h).bind fun v12 =>
      (E.p.bin .neq 3 v12 x1).bind fun v13 =>
      condP v13
       (
        K .ret (sr_4 (.int .i64 (-1)) h))
       (
        (E.p.bin .add 3 x1 (.int .i64 1)).bind fun v14 =>
        (E.p.bin .add 3 x5 (.int .i64 1)).bind fun v15 =>
        K .normal (st0 x0 v14 v15 h)))
     (
      K (.exit 0) (se0_0_1_5_9 x0 x1 x5 v10 h))
theorem body0_eq (E : Env) (K : PX → St → Res) (x0 x1 x5 : PV) (h : PHeap) : ev (E.cx Tryd.prog kl) lp0 (st0 x0 x1 x5 h) K = body0 E K x0 x1 x5 h := by kernel_rfl
theorem after0_se0_0_1_5_9 (E : Env) (x0 x1 x5 x9 : PV) (h : PHeap) : K0 E (kTop Tryd.prog Tryd.f23) (.exit 0) (se0_0_1_5_9 x0 x1 x5 x9 h) =
    (resV x1).bind fun v8 =>
    some (v8, h) := by kernel_rfl
theorem top_sr_4 (x4 : PV) (h : PHeap) : kTop Tryd.prog Tryd.f23 .ret (sr_4 x4 h) =
    (resV x4).bind fun v16 =>
    some (v16, h) := by kernel_rfl
noncomputable def main (E : Env) (x0 x1 : PV) (h : PHeap) : Res :=
    loopK (ev (E.cx Tryd.prog laws_heldIntS.kl) laws_heldIntS.lp0) E.lf (laws_heldIntS.st0 x0 x1 (.int .i64 0) h) (laws_heldIntS.K0 E (kTop Tryd.prog Tryd.f23))
theorem main_eq (E : Env) (x0 x1 : PV) (h : PHeap) : runBody (E.cx Tryd.prog kl) Tryd.f23 [x0, x1] h = main E x0 x1 h := by kernel_rfl
theorem call_eq (g : Nat → PV) (lf n : Nat) (x0 x1 : PV) (h : PHeap) : CL g lf (n + 1) fn_laws_heldIntS [x0, x1] h = main (env g lf n) x0 x1 h := by
  rw [← main_eq]
  show (match Tryd.prog.funcs[23]? with | some fn => if fn.body.isSome then runBody ⟨Tryd.prog, g, call Tryd.prog g KL lf n, KL 23, lf, std Tryd.prog⟩ fn [x0, x1] h else none | none => none) = _
  rw [Tryd.func23]
  kernel_rfl
end laws_heldIntS
namespace spec_l20Open
noncomputable def main (E : Env) (x0 : PV) (h : PHeap) : Res :=
    (E.p.len 22 x0).bind fun v1 =>
    (E.p.bin .gtr 3 v1 (.int .i64 2000)).bind fun v2 =>
    condP v2
     (
      (E.p.slice 22 x0 none (some (.int .i64 2000)) h).bind fun v3 =>
      (E.p.build 50 [(0, v3)]).bind fun v4 =>
      (E.p.box v4 h).bind fun v5 =>
      (resV v5.1).bind fun v6 =>
      some (v6, v5.2))
     (
      (E.p.build 50 [(0, x0)]).bind fun v7 =>
      (E.p.box v7 h).bind fun v8 =>
      (resV v8.1).bind fun v9 =>
      some (v9, v8.2))
theorem main_eq (E : Env) (x0 : PV) (h : PHeap) : runBody (E.cx Tryd.prog kl) Tryd.f24 [x0] h = main E x0 h := by kernel_rfl
theorem call_eq (g : Nat → PV) (lf n : Nat) (x0 : PV) (h : PHeap) : CL g lf (n + 1) fn_spec_l20Open [x0] h = main (env g lf n) x0 h := by
  rw [← main_eq]
  show (match Tryd.prog.funcs[24]? with | some fn => if fn.body.isSome then runBody ⟨Tryd.prog, g, call Tryd.prog g KL lf n, KL 24, lf, std Tryd.prog⟩ fn [x0] h else none | none => none) = _
  rw [Tryd.func24]
  kernel_rfl
end spec_l20Open
namespace spec_l20Board
noncomputable def main (E : Env) (x0 x1 : PV) (h : PHeap) : Res :=
    (E.p.buildSlice 25 2 [(0, (.int .i64 1)), (1, (.int .i64 1))] h).bind fun v1 =>
    (E.p.buildSlice 25 2 [(0, (.int .i64 1)), (1, (.int .i64 2))] v1.2).bind fun v2 =>
    (E.p.buildSlice 25 2 [(0, (.int .i64 2)), (1, (.int .i64 1))] v2.2).bind fun v3 =>
    (E.p.buildSlice 25 2 [(0, (.int .i64 2)), (1, (.int .i64 2))] v3.2).bind fun v4 =>
    (E.p.buildSlice 25 2 [(0, (.int .i64 2)), (1, (.int .i64 3))] v4.2).bind fun v5 =>
    (E.p.buildSlice 25 2 [(0, (.int .i64 3)), (1, (.int .i64 2))] v5.2).bind fun v6 =>
    (E.p.buildSlice 25 2 [(0, (.int .i64 3)), (1, (.int .i64 3))] v6.2).bind fun v7 =>
    (E.p.buildSlice 25 2 [(0, (.int .i64 2)), (1, (.int .i64 4))] v7.2).bind fun v8 =>
    (E.p.buildSlice 25 2 [(0, (.int .i64 4)), (1, (.int .i64 2))] v8.2).bind fun v9 =>
    (E.p.buildSlice 25 2 [(0, (.int .i64 1)), (1, (.int .i64 4))] v9.2).bind fun v10 =>
    (E.p.buildSlice 25 2 [(0, (.int .i64 2)), (1, (.int .i64 2))] v10.2).bind fun v11 =>
    (E.p.buildSlice 25 2 [(0, (.int .i64 2)), (1, (.int .i64 3))] v11.2).bind fun v12 =>
    (E.p.buildSlice 25 2 [(0, (.int .i64 3)), (1, (.int .i64 2))] v12.2).bind fun v13 =>
    (E.p.buildSlice 51 13 [(0, v1.1), (1, v2.1), (2, v3.1), (3, v4.1), (4, v5.1), (5, v6.1), (6, v7.1), (7, v8.1), (8, v9.1), (9, v10.1), (10, v11.1), (11, v12.1), (12, v13.1)] v13.2).bind fun v14 =>
    (E.C fn_spec_l20Rd_pick [x0, (.int .i64 13)] v14.2).bind fun v15 =>
    (E.p.indexAddr 51 v14.1 v15.1).bind fun v16 =>
    (E.p.load 25 v16 v15.2).bind fun v17 =>
    (E.C fn_spec_l20Rd_odd [x0, x1] v15.2).bind fun v18 =>
    condP v18.1
     (
      (E.p.buildSlice 25 2 [(0, (.int .i64 0)), (1, (.int .i64 2))] v18.2).bind fun v19 =>
      (E.p.buildSlice 25 2 [(0, (.int .i64 3)), (1, (.int .i64 4))] v19.2).bind fun v20 =>
      (E.p.buildSlice 25 2 [(0, (.int .i64 5)), (1, (.int .i64 1))] v20.2).bind fun v21 =>
      (E.p.buildSlice 25 2 [(0, (.int .i64 2)), (1, (.int .i64 (-1)))] v21.2).bind fun v22 =>
      (E.p.buildSlice 25 2 [(0, (.int .i64 1)), (1, (.int .i64 5))] v22.2).bind fun v23 =>
      (E.p.buildSlice 51 5 [(0, v19.1), (1, v20.1), (2, v21.1), (3, v22.1), (4, v23.1)] v23.2).bind fun v24 =>
      (E.C fn_spec_l20Rd_pick [x0, (.int .i64 5)] v24.2).bind fun v25 =>
      (E.p.indexAddr 51 v24.1 v25.1).bind fun v26 =>
      (E.p.load 25 v26 v25.2).bind fun v27 =>
      (E.p.indexAddr 25 v27 (.int .i64 0)).bind fun v28 =>
      (E.p.load 3 v28 v25.2).bind fun v29 =>
      (E.p.indexAddr 25 v27 (.int .i64 1)).bind fun v30 =>
      (E.p.load 3 v30 v25.2).bind fun v31 =>
      (resV v29).bind fun v32 =>
      (resV v31).bind fun v33 =>
      some (.tup [v32, v33], v25.2))
     (
      (E.p.indexAddr 25 v17 (.int .i64 0)).bind fun v34 =>
      (E.p.load 3 v34 v18.2).bind fun v35 =>
      (E.p.indexAddr 25 v17 (.int .i64 1)).bind fun v36 =>
      (E.p.load 3 v36 v18.2).bind fun v37 =>
      (resV v35).bind fun v38 =>
      (resV v37).bind fun v39 =>
      some (.tup [v38, v39], v18.2))
theorem main_eq (E : Env) (x0 x1 : PV) (h : PHeap) : runBody (E.cx Tryd.prog kl) Tryd.f25 [x0, x1] h = main E x0 x1 h := by kernel_rfl
theorem call_eq (g : Nat → PV) (lf n : Nat) (x0 x1 : PV) (h : PHeap) : CL g lf (n + 1) fn_spec_l20Board [x0, x1] h = main (env g lf n) x0 x1 h := by
  rw [← main_eq]
  show (match Tryd.prog.funcs[25]? with | some fn => if fn.body.isSome then runBody ⟨Tryd.prog, g, call Tryd.prog g KL lf n, KL 25, lf, std Tryd.prog⟩ fn [x0, x1] h else none | none => none) = _
  rw [Tryd.func25]
  kernel_rfl
end spec_l20Board
namespace spec_l20Rd_pick
noncomputable def main (E : Env) (x0 x1 : PV) (h : PHeap) : Res :=
    (E.p.ptr x0).bind fun v1 =>
    (E.p.fieldAddr 50 v1 1).bind fun v2 =>
    (E.p.load 3 v2 h).bind fun v3 =>
    (E.p.bin .add 3 v3 (.int .i64 1)).bind fun v4 =>
    (E.p.ptr x0).bind fun v5 =>
    (E.p.fieldAddr 50 v5 1).bind fun v6 =>
    (E.p.store 3 v6 v4 h).bind fun v7 =>
    (E.p.bin .lss 3 x1 (.int .i64 1)).bind fun v8 =>
    (wantV v8 false).bind fun v9 =>
    (bif v9 then some (x0, v7) else some (.tup [], v7)).bind fun v10 =>
    (wantV v8 false).bind fun v11 =>
    (bif v11 then pv v10.2 (E.p.ptr v10.1) else some (.tup [], v10.2)).bind fun v12 =>
    (wantV v8 false).bind fun v13 =>
    (bif v13 then pv v12.2 (E.p.fieldAddr 50 v12.1 0) else some (.tup [], v12.2)).bind fun v14 =>
    (wantV v8 false).bind fun v15 =>
    (bif v15 then pv v14.2 (E.p.load 22 v14.1 v14.2) else some (.tup [], v14.2)).bind fun v16 =>
    (wantV v8 false).bind fun v17 =>
    (bif v17 then pv v16.2 (E.p.len 22 v16.1) else some (.tup [], v16.2)).bind fun v18 =>
    (wantV v8 false).bind fun v19 =>
    (bif v19 then pv v18.2 (E.p.bin .eql 3 v18.1 (.int .i64 0)) else some (.tup [], v18.2)).bind fun v20 =>
    (E.p.pick v8 (.bool true) v20.1).bind fun v21 =>
    condP v21
     (
      (resV (.int .i64 0)).bind fun v22 =>
      some (v22, v20.2))
     (
      (E.p.ptr x0).bind fun v23 =>
      (E.p.fieldAddr 50 v23 1).bind fun v24 =>
      (E.p.load 3 v24 v20.2).bind fun v25 =>
      (E.p.bin .sub 3 v25 (.int .i64 1)).bind fun v26 =>
      (E.p.ptr x0).bind fun v27 =>
      (E.p.fieldAddr 50 v27 0).bind fun v28 =>
      (E.p.load 22 v28 v20.2).bind fun v29 =>
      (E.p.len 22 v29).bind fun v30 =>
      (E.p.bin .lss 3 v26 v30).bind fun v31 =>
      condP v31
       (
        (E.p.ptr x0).bind fun v32 =>
        (E.p.fieldAddr 50 v32 0).bind fun v33 =>
        (E.p.load 22 v33 v20.2).bind fun v34 =>
        (E.p.indexAddr 22 v34 v26).bind fun v35 =>
        (E.p.load 5 v35 v20.2).bind fun v36 =>
        (E.p.conv 5 3 v36).bind fun v37 =>
        (E.p.bin .rem 3 v37 x1).bind fun v38 =>
        (resV v38).bind fun v39 =>
        some (v39, v20.2))
       (
        (E.p.ptr x0).bind fun v40 =>
        (E.p.fieldAddr 50 v40 0).bind fun v41 =>
        (E.p.load 22 v41 v20.2).bind fun v42 =>
        (E.p.ptr x0).bind fun v43 =>
        (E.p.fieldAddr 50 v43 0).bind fun v44 =>
        (E.p.load 22 v44 v20.2).bind fun v45 =>
        (E.p.len 22 v45).bind fun v46 =>
        (E.p.bin .rem 3 v26 v46).bind fun v47 =>
        (E.p.indexAddr 22 v42 v47).bind fun v48 =>
        (E.p.load 5 v48 v20.2).bind fun v49 =>
        (E.p.conv 5 3 v49).bind fun v50 =>
        (E.p.bin .mul 3 v50 (.int .i64 131)).bind fun v51 =>
        (E.p.ptr x0).bind fun v52 =>
        (E.p.fieldAddr 50 v52 0).bind fun v53 =>
        (E.p.load 22 v53 v20.2).bind fun v54 =>
        (E.p.bin .mul 3 v26 (.int .i64 7)).bind fun v55 =>
        (E.p.bin .add 3 v55 (.int .i64 3)).bind fun v56 =>
        (E.p.ptr x0).bind fun v57 =>
        (E.p.fieldAddr 50 v57 0).bind fun v58 =>
        (E.p.load 22 v58 v20.2).bind fun v59 =>
        (E.p.len 22 v59).bind fun v60 =>
        (E.p.bin .rem 3 v56 v60).bind fun v61 =>
        (E.p.indexAddr 22 v54 v61).bind fun v62 =>
        (E.p.load 5 v62 v20.2).bind fun v63 =>
        (E.p.conv 5 3 v63).bind fun v64 =>
        (E.p.bin .mul 3 v64 (.int .i64 1117)).bind fun v65 =>
        (E.p.bin .add 3 v51 v65).bind fun v66 =>
        (E.p.bin .mul 3 v26 (.int .i64 29)).bind fun v67 =>
        (E.p.bin .add 3 v66 v67).bind fun v68 =>
        (E.p.ptr x0).bind fun v69 =>
        (E.p.fieldAddr 50 v69 0).bind fun v70 =>
        (E.p.load 22 v70 v20.2).bind fun v71 =>
        (E.p.len 22 v71).bind fun v72 =>
        (E.p.bin .quo 3 v26 v72).bind fun v73 =>
        (E.p.bin .mul 3 v73 (.int .i64 53)).bind fun v74 =>
        (E.p.bin .add 3 v68 v74).bind fun v75 =>
        (E.p.bin .quo 3 v75 (.int .i64 64)).bind fun v76 =>
        (E.p.bin .xor 3 v75 v76).bind fun v77 =>
        (E.p.bin .rem 3 v77 x1).bind fun v78 =>
        (resV v78).bind fun v79 =>
        some (v79, v20.2)))
theorem main_eq (E : Env) (x0 x1 : PV) (h : PHeap) : runBody (E.cx Tryd.prog kl) Tryd.f26 [x0, x1] h = main E x0 x1 h := by kernel_rfl
theorem call_eq (g : Nat → PV) (lf n : Nat) (x0 x1 : PV) (h : PHeap) : CL g lf (n + 1) fn_spec_l20Rd_pick [x0, x1] h = main (env g lf n) x0 x1 h := by
  rw [← main_eq]
  show (match Tryd.prog.funcs[26]? with | some fn => if fn.body.isSome then runBody ⟨Tryd.prog, g, call Tryd.prog g KL lf n, KL 26, lf, std Tryd.prog⟩ fn [x0, x1] h else none | none => none) = _
  rw [Tryd.func26]
  kernel_rfl
end spec_l20Rd_pick
namespace impl_cellOk
noncomputable def main (E : Env) (x0 x1 x2 : PV) (h : PHeap) : Res :=
    (E.C fn_impl_BoardOk [x0, x1] h).bind fun v1 =>
    (wantV v1.1 true).bind fun v2 =>
    (bif v2 then some (x2, v1.2) else some (.tup [], v1.2)).bind fun v3 =>
    (wantV v1.1 true).bind fun v4 =>
    (bif v4 then pv v3.2 (E.p.bin .geq 3 v3.1 (.int .i64 0)) else some (.tup [], v3.2)).bind fun v5 =>
    (E.p.pick v1.1 v5.1 (.bool false)).bind fun v6 =>
    (wantV v6 true).bind fun v7 =>
    (bif v7 then some (x2, v5.2) else some (.tup [], v5.2)).bind fun v8 =>
    (wantV v6 true).bind fun v9 =>
    (bif v9 then some (x0, v8.2) else some (.tup [], v8.2)).bind fun v10 =>
    (wantV v6 true).bind fun v11 =>
    (bif v11 then some (x1, v10.2) else some (.tup [], v10.2)).bind fun v12 =>
    (wantV v6 true).bind fun v13 =>
    (bif v13 then pv v12.2 (E.p.bin .mul 3 v10.1 v12.1) else some (.tup [], v12.2)).bind fun v14 =>
    (wantV v6 true).bind fun v15 =>
    (bif v15 then pv v14.2 (E.p.bin .lss 3 v8.1 v14.1) else some (.tup [], v14.2)).bind fun v16 =>
    (E.p.pick v6 v16.1 (.bool false)).bind fun v17 =>
    (resV v17).bind fun v18 =>
    some (v18, v16.2)
theorem main_eq (E : Env) (x0 x1 x2 : PV) (h : PHeap) : runBody (E.cx Tryd.prog kl) Tryd.f27 [x0, x1, x2] h = main E x0 x1 x2 h := by kernel_rfl
theorem call_eq (g : Nat → PV) (lf n : Nat) (x0 x1 x2 : PV) (h : PHeap) : CL g lf (n + 1) fn_impl_cellOk [x0, x1, x2] h = main (env g lf n) x0 x1 x2 h := by
  rw [← main_eq]
  show (match Tryd.prog.funcs[27]? with | some fn => if fn.body.isSome then runBody ⟨Tryd.prog, g, call Tryd.prog g KL lf n, KL 27, lf, std Tryd.prog⟩ fn [x0, x1, x2] h else none | none => none) = _
  rw [Tryd.func27]
  kernel_rfl
end impl_cellOk
namespace spec_l1In
noncomputable def main (E : Env) (x0 x1 x2 : PV) (h : PHeap) : Res :=
    (E.p.bin .geq 3 x0 x1).bind fun v1 =>
    (wantV v1 true).bind fun v2 =>
    (bif v2 then some (x0, h) else some (.tup [], h)).bind fun v3 =>
    (wantV v1 true).bind fun v4 =>
    (bif v4 then some (x2, v3.2) else some (.tup [], v3.2)).bind fun v5 =>
    (wantV v1 true).bind fun v6 =>
    (bif v6 then pv v5.2 (E.p.bin .leq 3 v3.1 v5.1) else some (.tup [], v5.2)).bind fun v7 =>
    (E.p.pick v1 v7.1 (.bool false)).bind fun v8 =>
    (resV v8).bind fun v9 =>
    some (v9, v7.2)
theorem main_eq (E : Env) (x0 x1 x2 : PV) (h : PHeap) : runBody (E.cx Tryd.prog kl) Tryd.f28 [x0, x1, x2] h = main E x0 x1 x2 h := by kernel_rfl
theorem call_eq (g : Nat → PV) (lf n : Nat) (x0 x1 x2 : PV) (h : PHeap) : CL g lf (n + 1) fn_spec_l1In [x0, x1, x2] h = main (env g lf n) x0 x1 x2 h := by
  rw [← main_eq]
  show (match Tryd.prog.funcs[28]? with | some fn => if fn.body.isSome then runBody ⟨Tryd.prog, g, call Tryd.prog g KL lf n, KL 28, lf, std Tryd.prog⟩ fn [x0, x1, x2] h else none | none => none) = _
  rw [Tryd.func28]
  kernel_rfl
end spec_l1In
namespace spec_l1Near
noncomputable def lp0 : Code := (codeAt (bodyOf Tryd.f29) [1, 1, 1, 1, 0, 1, 0, 0])
def st0 (x0 x1 x7 x8 x9 x10 : PV) (h : PHeap) : St := ⟨[x0, x1, .junk, .junk, .junk, .junk, .junk, x7, x8, x9, x10, .junk, .junk, .junk, .junk, .junk, .junk, .junk, .junk, .junk, .junk, .junk, .junk, .junk, .junk, .junk, .junk, .junk, .junk, .junk, .junk, .junk, .junk, .junk, .junk, .junk, .junk, .junk, .junk, .junk, .junk, .junk, .junk, .junk, .junk, .junk, .junk, .junk, .junk, .junk, .junk, .junk, .junk, .junk, .junk, .junk, .junk, .junk, .junk, .junk, .junk, .junk, .junk], h⟩
noncomputable def lp1 : Code := (codeAt (bodyOf Tryd.f29) [1, 1, 1, 1, 0, 1, 0, 0, 1, 0, 0, 1, 0, 0])
def st1 (x0 x1 x7 x8 x9 x10 x11 : PV) (h : PHeap) : St := ⟨[x0, x1, .junk, .junk, .junk, .junk, .junk, x7, x8, x9, x10, x11, .junk, .junk, .junk, .junk, .junk, .junk, .junk, .junk, .junk, .junk, .junk, .junk, .junk, .junk, .junk, .junk, .junk, .junk, .junk, .junk, .junk, .junk, .junk, .junk, .junk, .junk, .junk, .junk, .junk, .junk, .junk, .junk, .junk, .junk, .junk, .junk, .junk, .junk, .junk, .junk, .junk, .junk, .junk, .junk, .junk, .junk, .junk, .junk, .junk, .junk, .junk], h⟩
def se0_0_1_7_8_9_10_24 (x0 x1 x7 x8 x9 x10 x24 : PV) (h : PHeap) : St := ⟨[x0, x1, .junk, .junk, .junk, .junk, .junk, x7, x8, x9, x10, .junk, .junk, .junk, .junk, .junk, .junk, .junk, .junk, .junk, .junk, .junk, .junk, .junk, x24, .junk, .junk, .junk, .junk, .junk, .junk, .junk, .junk, .junk, .junk, .junk, .junk, .junk, .junk, .junk, .junk, .junk, .junk, .junk, .junk, .junk, .junk, .junk, .junk, .junk, .junk, .junk, .junk, .junk, .junk, .junk, .junk, .junk, .junk, .junk, .junk, .junk, .junk], h⟩
def se2_0_1_7_8_9_10_11_32 (x0 x1 x7 x8 x9 x10 x11 x32 : PV) (h : PHeap) : St := ⟨[x0, x1, .junk, .junk, .junk, .junk, .junk, x7, x8, x9, x10, x11, .junk, .junk, .junk, .junk, .junk, .junk, .junk, .junk, .junk, .junk, .junk, .junk, .junk, .junk, .junk, .junk, .junk, .junk, .junk, .junk, x32, .junk, .junk, .junk, .junk, .junk, .junk, .junk, .junk, .junk, .junk, .junk, .junk, .junk, .junk, .junk, .junk, .junk, .junk, .junk, .junk, .junk, .junk, .junk, .junk, .junk, .junk, .junk, .junk, .junk, .junk], h⟩
noncomputable def K0 (E : Env) (K : PX → St → Res) : PX → St → Res := (kBlock 0 (kSeq (ev (E.cx Tryd.prog kl) (codeAt (bodyOf Tryd.f29) [1, 1, 1, 1, 1])) K))
@[simp] theorem K0_ret (E : Env) (K : PX → St → Res) (s : St) : K0 E K .ret s = K .ret s := by kernel_rfl
noncomputable def K1 (E : Env) (K : PX → St → Res) : PX → St → Res := (kBlock 2 (kBlock 1 (kSeq (ev (E.cx Tryd.prog kl) (codeAt (bodyOf Tryd.f29) [1, 1, 1, 1, 0, 1, 0, 0, 1, 1])) K)))
@[simp] theorem K1_ret (E : Env) (K : PX → St → Res) (s : St) : K1 E K .ret s = K .ret s := by kernel_rfl
noncomputable def body0 (E : Env) (K : PX → St → Res) (x0 x1 x7 x8 x9 x10 : PV) (h : PHeap) : Res :=
    (E.p.bin .add 3 x8 (.int .i64 1)).bind fun v39 =>
    (E.p.bin .leq 3 x10 v39).bind fun v40 =>
    condP v40
     (
      (E.p.bin .sub 3 x9 (.int .i64 1)).bind fun v41 =>
      loopK (ev (E.cx Tryd.prog spec_l1Near.kl) spec_l1Near.lp1) E.lf (spec_l1Near.st1 x0 x1 x7 x8 x9 x10 v41 h) (spec_l1Near.K1 E K))
     (
      K (.exit 0) (se0_0_1_7_8_9_10_24 x0 x1 x7 x8 x9 x10 v40 h))
theorem body0_eq (E : Env) (K : PX → St → Res) (x0 x1 x7 x8 x9 x10 : PV) (h : PHeap) : ev (E.cx Tryd.prog kl) lp0 (st0 x0 x1 x7 x8 x9 x10 h) K = body0 E K x0 x1 x7 x8 x9 x10 h := by kernel_rfl
noncomputable def body1 (E : Env) (K : PX → St → Res) (x0 x1 x7 x8 x9 x10 x11 : PV) (h : PHeap) : Res :=
    (E.p.bin .add 3 x9 (.int .i64 1)).bind fun v42 =>
    (E.p.bin .leq 3 x11 v42).bind fun v43 =>
    condP v43
     (
      (E.p.bin .sub 3 x10 x8).bind fun v44 =>
      (E.p.bin .sub 3 x11 x9).bind fun v45 =>
      (E.p.bin .neq 3 v44 v45).bind fun v46 =>
      (wantV v46 true).bind fun v47 =>
      (bif v47 then some (x10, h) else some (.tup [], h)).bind fun v48 =>
      (wantV v46 true).bind fun v49 =>
      (bif v49 then some (x0, v48.2) else some (.tup [], v48.2)).bind fun v50 =>
      (wantV v46 true).bind fun v51 =>
      (bif v51 then pv v50.2 (E.p.bin .sub 3 v50.1 (.int .i64 1)) else some (.tup [], v50.2)).bind fun v52 =>
      (wantV v46 true).bind fun v53 =>
      (bif v53 then E.C fn_spec_l1In [v48.1, (.int .i64 0), v52.1] v52.2 else some (.tup [], v52.2)).bind fun v54 =>
      (E.p.pick v46 v54.1 (.bool false)).bind fun v55 =>
      (wantV v55 true).bind fun v56 =>
      (bif v56 then some (x11, v54.2) else some (.tup [], v54.2)).bind fun v57 =>
      (wantV v55 true).bind fun v58 =>
      (bif v58 then some (x1, v57.2) else some (.tup [], v57.2)).bind fun v59 =>
      (wantV v55 true).bind fun v60 =>
      (bif v60 then pv v59.2 (E.p.bin .sub 3 v59.1 (.int .i64 1)) else some (.tup [], v59.2)).bind fun v61 =>
      (wantV v55 true).bind fun v62 =>
      (bif v62 then E.C fn_spec_l1In [v57.1, (.int .i64 0), v61.1] v61.2 else some (.tup [], v61.2)).bind fun v63 =>
      (E.p.pick v55 v63.1 (.bool false)).bind fun v64 =>
      condP v64
       (
        (E.p.bin .mul 3 x10 x1).bind fun v65 =>
        (E.p.bin .add 3 v65 x11).bind fun v66 =>
        (E.p.buildSlice 25 1 [(0, v66)] v63.2).bind fun v67 =>
        (E.p.append 25 25 x7 v67.1 v67.2).bind fun v68 =>
        (E.p.bin .add 3 x11 (.int .i64 1)).bind fun v69 =>
        K .normal (st1 x0 x1 v68.1 x8 x9 x10 v69 v68.2))
       (
        (E.p.bin .add 3 x11 (.int .i64 1)).bind fun v70 =>
        K .normal (st1 x0 x1 x7 x8 x9 x10 v70 v63.2)))
     (
      K (.exit 2) (se2_0_1_7_8_9_10_11_32 x0 x1 x7 x8 x9 x10 x11 v43 h))
theorem body1_eq (E : Env) (K : PX → St → Res) (x0 x1 x7 x8 x9 x10 x11 : PV) (h : PHeap) : ev (E.cx Tryd.prog kl) lp1 (st1 x0 x1 x7 x8 x9 x10 x11 h) K = body1 E K x0 x1 x7 x8 x9 x10 x11 h := by kernel_rfl
theorem after0_se0_0_1_7_8_9_10_24 (E : Env) (x0 x1 x7 x8 x9 x10 x24 : PV) (h : PHeap) : K0 E (kTop Tryd.prog Tryd.f29) (.exit 0) (se0_0_1_7_8_9_10_24 x0 x1 x7 x8 x9 x10 x24 h) =
    (resV x7).bind fun v37 =>
    some (v37, h) := by kernel_rfl
theorem after1_se2_0_1_7_8_9_10_11_32 (E : Env) (K : PX → St → Res) (x0 x1 x7 x8 x9 x10 x11 x32 : PV) (h : PHeap) : K1 E K (.exit 2) (se2_0_1_7_8_9_10_11_32 x0 x1 x7 x8 x9 x10 x11 x32 h) =
    (E.p.bin .add 3 x10 (.int .i64 1)).bind fun v38 =>
    K .normal (st0 x0 x1 x7 x8 x9 v38 h) := by kernel_rfl
noncomputable def main (E : Env) (x0 x1 x2 : PV) (h : PHeap) : Res :=
    (E.p.buildSlice 25 0 [] h).bind fun v1 =>
    (E.p.bin .quo 3 x2 x1).bind fun v2 =>
    (E.p.bin .rem 3 x2 x1).bind fun v3 =>
    (E.p.bin .sub 3 v2 (.int .i64 1)).bind fun v4 =>
    loopK (ev (E.cx Tryd.prog spec_l1Near.kl) spec_l1Near.lp0) E.lf (spec_l1Near.st0 x0 x1 v1.1 v2 v3 v4 v1.2) (spec_l1Near.K0 E (kTop Tryd.prog Tryd.f29))
theorem main_eq (E : Env) (x0 x1 x2 : PV) (h : PHeap) : runBody (E.cx Tryd.prog kl) Tryd.f29 [x0, x1, x2] h = main E x0 x1 x2 h := by kernel_rfl
theorem call_eq (g : Nat → PV) (lf n : Nat) (x0 x1 x2 : PV) (h : PHeap) : CL g lf (n + 1) fn_spec_l1Near [x0, x1, x2] h = main (env g lf n) x0 x1 x2 h := by
  rw [← main_eq]
  show (match Tryd.prog.funcs[29]? with | some fn => if fn.body.isSome then runBody ⟨Tryd.prog, g, call Tryd.prog g KL lf n, KL 29, lf, std Tryd.prog⟩ fn [x0, x1, x2] h else none | none => none) = _
  rw [Tryd.func29]
  kernel_rfl
end spec_l1Near
namespace impl_withNear
noncomputable def lp0 : Code := (codeAt (bodyOf Tryd.f30) [1, 1, 0, 1, 0, 0])
def st0 (x0 x1 x2 x7 x14 x15 : PV) (h : PHeap) : St := ⟨[x0, x1, x2, .junk, .junk, .junk, .junk, x7, .junk, .junk, .junk, .junk, .junk, .junk, x14, x15, .junk, .junk, .junk, .junk, .junk, .junk, .junk, .junk, .junk, .junk, .junk, .junk, .junk, .junk, .junk, .junk, .junk, .junk, .junk, .junk, .junk, .junk, .junk], h⟩
noncomputable def lp1 : Code := (codeAt (bodyOf Tryd.f30) [1, 1, 0, 1, 0, 0, 1, 1, 0, 0, 1, 1, 1, 0, 0])
def st1 (x0 x1 x2 x7 x14 x15 x26 x27 x28 : PV) (h : PHeap) : St := ⟨[x0, x1, x2, .junk, .junk, .junk, .junk, x7, .junk, .junk, .junk, .junk, .junk, .junk, x14, x15, .junk, .junk, .junk, .junk, .junk, .junk, .junk, .junk, .junk, .junk, x26, x27, x28, .junk, .junk, .junk, .junk, .junk, .junk, .junk, .junk, .junk, .junk], h⟩
def se0_0_1_2_7_14_15_16 (x0 x1 x2 x7 x14 x15 x16 : PV) (h : PHeap) : St := ⟨[x0, x1, x2, .junk, .junk, .junk, .junk, x7, .junk, .junk, .junk, .junk, .junk, .junk, x14, x15, x16, .junk, .junk, .junk, .junk, .junk, .junk, .junk, .junk, .junk, .junk, .junk, .junk, .junk, .junk, .junk, .junk, .junk, .junk, .junk, .junk, .junk, .junk], h⟩
def se2_0_1_2_7_14_15_26_27_28_29 (x0 x1 x2 x7 x14 x15 x26 x27 x28 x29 : PV) (h : PHeap) : St := ⟨[x0, x1, x2, .junk, .junk, .junk, .junk, x7, .junk, .junk, .junk, .junk, .junk, .junk, x14, x15, .junk, .junk, .junk, .junk, .junk, .junk, .junk, .junk, .junk, .junk, x26, x27, x28, x29, .junk, .junk, .junk, .junk, .junk, .junk, .junk, .junk, .junk], h⟩
noncomputable def K0 (E : Env) (K : PX → St → Res) : PX → St → Res := (kBlock 0 (kSeq (ev (E.cx Tryd.prog kl) (codeAt (bodyOf Tryd.f30) [1, 1, 1])) K))
@[simp] theorem K0_ret (E : Env) (K : PX → St → Res) (s : St) : K0 E K .ret s = K .ret s := by kernel_rfl
noncomputable def K1 (E : Env) (K : PX → St → Res) : PX → St → Res := (kBlock 2 (kBlock 1 (kSeq (ev (E.cx Tryd.prog kl) (codeAt (bodyOf Tryd.f30) [1, 1, 0, 1, 0, 0, 1, 1, 1])) K)))
@[simp] theorem K1_ret (E : Env) (K : PX → St → Res) (s : St) : K1 E K .ret s = K .ret s := by kernel_rfl
noncomputable def body0 (E : Env) (K : PX → St → Res) (x0 x1 x2 x7 x14 x15 : PV) (h : PHeap) : Res :=
    (E.p.bin .lss 3 x15 x14).bind fun v17 =>
    condP v17
     (
      (E.p.bin .shr 3 x2 x15).bind fun v18 =>
      (E.p.bin .and 3 v18 (.int .i64 1)).bind fun v19 =>
      (E.p.bin .eql 3 v19 (.int .i64 0)).bind fun v20 =>
      condP v20
       (
        (E.p.bin .add 3 x15 (.int .i64 1)).bind fun v21 =>
        K .normal (st0 x0 x1 x2 x7 x14 v21 h))
       (
        (E.C fn_impl_NearCells [x0, x1, x15] h).bind fun v22 =>
        (E.p.len 25 v22.1).bind fun v23 =>
        loopK (ev (E.cx Tryd.prog impl_withNear.kl) impl_withNear.lp1) E.lf (impl_withNear.st1 x0 x1 x2 x7 x14 x15 v22.1 v23 (.int .i64 0) v22.2) (impl_withNear.K1 E K)))
     (
      K (.exit 0) (se0_0_1_2_7_14_15_16 x0 x1 x2 x7 x14 x15 v17 h))
theorem body0_eq (E : Env) (K : PX → St → Res) (x0 x1 x2 x7 x14 x15 : PV) (h : PHeap) : ev (E.cx Tryd.prog kl) lp0 (st0 x0 x1 x2 x7 x14 x15 h) K = body0 E K x0 x1 x2 x7 x14 x15 h := by kernel_rfl
noncomputable def body1 (E : Env) (K : PX → St → Res) (x0 x1 x2 x7 x14 x15 x26 x27 x28 : PV) (h : PHeap) : Res :=
    (E.p.bin .lss 3 x28 x27).bind fun v24 =>
    condP v24
     (
      (E.p.indexAddr 25 x26 x28).bind fun v25 =>
      (E.p.load 3 v25 h).bind fun v26 =>
      (E.p.bin .shl 3 (.int .i64 1) v26).bind fun v27 =>
      (E.p.bin .or 3 x7 v27).bind fun v28 =>
      (E.p.bin .add 3 x28 (.int .i64 1)).bind fun v29 =>
      K .normal (st1 x0 x1 x2 v28 x14 x15 x26 x27 v29 h))
     (
      K (.exit 2) (se2_0_1_2_7_14_15_26_27_28_29 x0 x1 x2 x7 x14 x15 x26 x27 x28 v24 h))
theorem body1_eq (E : Env) (K : PX → St → Res) (x0 x1 x2 x7 x14 x15 x26 x27 x28 : PV) (h : PHeap) : ev (E.cx Tryd.prog kl) lp1 (st1 x0 x1 x2 x7 x14 x15 x26 x27 x28 h) K = body1 E K x0 x1 x2 x7 x14 x15 x26 x27 x28 h := by kernel_rfl
theorem after0_se0_0_1_2_7_14_15_16 (E : Env) (x0 x1 x2 x7 x14 x15 x16 : PV) (h : PHeap) : K0 E (kTop Tryd.prog Tryd.f30) (.exit 0) (se0_0_1_2_7_14_15_16 x0 x1 x2 x7 x14 x15 x16 h) =
    (resV x7).bind fun v15 =>
    some (v15, h) := by kernel_rfl
theorem after1_se2_0_1_2_7_14_15_26_27_28_29 (E : Env) (K : PX → St → Res) (x0 x1 x2 x7 x14 x15 x26 x27 x28 x29 : PV) (h : PHeap) : K1 E K (.exit 2) (se2_0_1_2_7_14_15_26_27_28_29 x0 x1 x2 x7 x14 x15 x26 x27 x28 x29 h) =
    (E.p.bin .add 3 x15 (.int .i64 1)).bind fun v16 =>
    K .normal (st0 x0 x1 x2 x7 x14 v16 h) := by kernel_rfl
noncomputable def main (E : Env) (x0 x1 x2 : PV) (h : PHeap) : Res :=
    (E.p.bin .mul 3 x0 x1).bind fun v1 =>
    loopK (ev (E.cx Tryd.prog impl_withNear.kl) impl_withNear.lp0) E.lf (impl_withNear.st0 x0 x1 x2 x2 v1 (.int .i64 0) h) (impl_withNear.K0 E (kTop Tryd.prog Tryd.f30))
theorem main_eq (E : Env) (x0 x1 x2 : PV) (h : PHeap) : runBody (E.cx Tryd.prog kl) Tryd.f30 [x0, x1, x2] h = main E x0 x1 x2 h := by kernel_rfl
theorem call_eq (g : Nat → PV) (lf n : Nat) (x0 x1 x2 : PV) (h : PHeap) : CL g lf (n + 1) fn_impl_withNear [x0, x1, x2] h = main (env g lf n) x0 x1 x2 h := by
  rw [← main_eq]
  show (match Tryd.prog.funcs[30]? with | some fn => if fn.body.isSome then runBody ⟨Tryd.prog, g, call Tryd.prog g KL lf n, KL 30, lf, std Tryd.prog⟩ fn [x0, x1, x2] h else none | none => none) = _
  rw [Tryd.func30]
  kernel_rfl
end impl_withNear
namespace impl_sizeOk
noncomputable def main (E : Env) (x0 : PV) (h : PHeap) : Res :=
    (E.p.bin .geq 3 x0 (.int .i64 1)).bind fun v1 =>
    (wantV v1 true).bind fun v2 =>
    (bif v2 then some (x0, h) else some (.tup [], h)).bind fun v3 =>
    (wantV v1 true).bind fun v4 =>
    (bif v4 then pv v3.2 (E.p.bin .leq 3 v3.1 (.int .i64 4)) else some (.tup [], v3.2)).bind fun v5 =>
    (E.p.pick v1 v5.1 (.bool false)).bind fun v6 =>
    (resV v6).bind fun v7 =>
    some (v7, v5.2)
theorem main_eq (E : Env) (x0 : PV) (h : PHeap) : runBody (E.cx Tryd.prog kl) Tryd.f31 [x0] h = main E x0 h := by kernel_rfl
theorem call_eq (g : Nat → PV) (lf n : Nat) (x0 : PV) (h : PHeap) : CL g lf (n + 1) fn_impl_sizeOk [x0] h = main (env g lf n) x0 h := by
  rw [← main_eq]
  show (match Tryd.prog.funcs[31]? with | some fn => if fn.body.isSome then runBody ⟨Tryd.prog, g, call Tryd.prog g KL lf n, KL 31, lf, std Tryd.prog⟩ fn [x0] h else none | none => none) = _
  rw [Tryd.func31]
  kernel_rfl
end impl_sizeOk
namespace spec_l20Rd_odd
noncomputable def main (E : Env) (x0 x1 : PV) (h : PHeap) : Res :=
    (E.p.bin .gtr 3 x1 (.int .i64 0)).bind fun v1 =>
    (wantV v1 true).bind fun v2 =>
    (bif v2 then some (x0, h) else some (.tup [], h)).bind fun v3 =>
    (wantV v1 true).bind fun v4 =>
    (bif v4 then some (x1, v3.2) else some (.tup [], v3.2)).bind fun v5 =>
    (wantV v1 true).bind fun v6 =>
    (bif v6 then E.C fn_spec_l20Rd_pick [v3.1, v5.1] v5.2 else some (.tup [], v5.2)).bind fun v7 =>
    (wantV v1 true).bind fun v8 =>
    (bif v8 then some (x1, v7.2) else some (.tup [], v7.2)).bind fun v9 =>
    (wantV v1 true).bind fun v10 =>
    (bif v10 then pv v9.2 (E.p.bin .sub 3 v9.1 (.int .i64 1)) else some (.tup [], v9.2)).bind fun v11 =>
    (wantV v1 true).bind fun v12 =>
    (bif v12 then pv v11.2 (E.p.bin .eql 3 v7.1 v11.1) else some (.tup [], v11.2)).bind fun v13 =>
    (E.p.pick v1 v13.1 (.bool false)).bind fun v14 =>
    (resV v14).bind fun v15 =>
    some (v15, v13.2)
theorem main_eq (E : Env) (x0 x1 : PV) (h : PHeap) : runBody (E.cx Tryd.prog kl) Tryd.f32 [x0, x1] h = main E x0 x1 h := by kernel_rfl
theorem call_eq (g : Nat → PV) (lf n : Nat) (x0 x1 : PV) (h : PHeap) : CL g lf (n + 1) fn_spec_l20Rd_odd [x0, x1] h = main (env g lf n) x0 x1 h := by
  rw [← main_eq]
  show (match Tryd.prog.funcs[32]? with | some fn => if fn.body.isSome then runBody ⟨Tryd.prog, g, call Tryd.prog g KL lf n, KL 32, lf, std Tryd.prog⟩ fn [x0, x1] h else none | none => none) = _
  rw [Tryd.func32]
  kernel_rfl
end spec_l20Rd_odd
end Go.Proofs.YtaajbolfmhhdcaaDoor.G
