/- Texts of this seat, in their order, put together by program. -/
import Derived.Test.YtihlmjapddjjjabDoorK8
import Derived.Test.YtihlmjapddjjjabDoorProg
import Derived.KernelRfl
set_option linter.unusedSimpArgs false
set_option linter.unusedVariables false
set_option linter.unusedSectionVars false
/- Of each function of this seat's program its plain form over the interpreter, written by program; each equation is the kernel's. -/
set_option linter.unusedVariables false
set_option maxRecDepth 100000
namespace Go.Proofs.YtihlmjapddjjjabDoor.G
open Go Go.Ip Go.Proofs

namespace laws_FnLeastLinks
noncomputable def lp0 : Code := (codeAt (bodyOf Tryd.f3) [1, 1, 1, 1, 1, 1, 0, 1, 0, 0])
def st0 (x3 x4 x5 x6 x7 : PV) (h : PHeap) : St := ⟨[.junk, .junk, .junk, x3, x4, x5, x6, x7, .junk, .junk, .junk, .junk, .junk, .junk, .junk, .junk, .junk, .junk, .junk, .junk, .junk, .junk, .junk, .junk, .junk, .junk, .junk, .junk, .junk, .junk, .junk, .junk, .junk, .junk, .junk, .junk, .junk, .junk, .junk, .junk, .junk, .junk, .junk, .junk, .junk, .junk, .junk, .junk, .junk, .junk, .junk, .junk, .junk, .junk, .junk, .junk, .junk, .junk, .junk, .junk, .junk, .junk, .junk, .junk, .junk, .junk, .junk, .junk, .junk, .junk, .junk, .junk, .junk, .junk, .junk, .junk, .junk, .junk, .junk, .junk, .junk, .junk, .junk, .junk, .junk, .junk, .junk, .junk, .junk, .junk, .junk, .junk, .junk, .junk, .junk, .junk, .junk, .junk, .junk, .junk, .junk, .junk, .junk, .junk, .junk, .junk, .junk, .junk, .junk, .junk, .junk], h⟩
noncomputable def lp1 : Code := (codeAt (bodyOf Tryd.f3) [1, 1, 1, 1, 1, 1, 0, 1, 0, 0, 1, 0, 0, 1, 0, 1, 0, 0])
def st1 (x3 x4 x5 x6 x7 x8 : PV) (h : PHeap) : St := ⟨[.junk, .junk, .junk, x3, x4, x5, x6, x7, x8, .junk, .junk, .junk, .junk, .junk, .junk, .junk, .junk, .junk, .junk, .junk, .junk, .junk, .junk, .junk, .junk, .junk, .junk, .junk, .junk, .junk, .junk, .junk, .junk, .junk, .junk, .junk, .junk, .junk, .junk, .junk, .junk, .junk, .junk, .junk, .junk, .junk, .junk, .junk, .junk, .junk, .junk, .junk, .junk, .junk, .junk, .junk, .junk, .junk, .junk, .junk, .junk, .junk, .junk, .junk, .junk, .junk, .junk, .junk, .junk, .junk, .junk, .junk, .junk, .junk, .junk, .junk, .junk, .junk, .junk, .junk, .junk, .junk, .junk, .junk, .junk, .junk, .junk, .junk, .junk, .junk, .junk, .junk, .junk, .junk, .junk, .junk, .junk, .junk, .junk, .junk, .junk, .junk, .junk, .junk, .junk, .junk, .junk, .junk, .junk, .junk, .junk], h⟩
noncomputable def lp2 : Code := (codeAt (bodyOf Tryd.f3) [1, 1, 1, 1, 1, 1, 0, 1, 0, 0, 1, 0, 0, 1, 1, 1, 0, 0])
def st2 (x3 x4 x5 x6 x7 x9 : PV) (h : PHeap) : St := ⟨[.junk, .junk, .junk, x3, x4, x5, x6, x7, .junk, x9, .junk, .junk, .junk, .junk, .junk, .junk, .junk, .junk, .junk, .junk, .junk, .junk, .junk, .junk, .junk, .junk, .junk, .junk, .junk, .junk, .junk, .junk, .junk, .junk, .junk, .junk, .junk, .junk, .junk, .junk, .junk, .junk, .junk, .junk, .junk, .junk, .junk, .junk, .junk, .junk, .junk, .junk, .junk, .junk, .junk, .junk, .junk, .junk, .junk, .junk, .junk, .junk, .junk, .junk, .junk, .junk, .junk, .junk, .junk, .junk, .junk, .junk, .junk, .junk, .junk, .junk, .junk, .junk, .junk, .junk, .junk, .junk, .junk, .junk, .junk, .junk, .junk, .junk, .junk, .junk, .junk, .junk, .junk, .junk, .junk, .junk, .junk, .junk, .junk, .junk, .junk, .junk, .junk, .junk, .junk, .junk, .junk, .junk, .junk, .junk, .junk], h⟩
def sr_2 (x2 : PV) (h : PHeap) : St := ⟨[.junk, .junk, x2, .junk, .junk, .junk, .junk, .junk, .junk, .junk, .junk, .junk, .junk, .junk, .junk, .junk, .junk, .junk, .junk, .junk, .junk, .junk, .junk, .junk, .junk, .junk, .junk, .junk, .junk, .junk, .junk, .junk, .junk, .junk, .junk, .junk, .junk, .junk, .junk, .junk, .junk, .junk, .junk, .junk, .junk, .junk, .junk, .junk, .junk, .junk, .junk, .junk, .junk, .junk, .junk, .junk, .junk, .junk, .junk, .junk, .junk, .junk, .junk, .junk, .junk, .junk, .junk, .junk, .junk, .junk, .junk, .junk, .junk, .junk, .junk, .junk, .junk, .junk, .junk, .junk, .junk, .junk, .junk, .junk, .junk, .junk, .junk, .junk, .junk, .junk, .junk, .junk, .junk, .junk, .junk, .junk, .junk, .junk, .junk, .junk, .junk, .junk, .junk, .junk, .junk, .junk, .junk, .junk, .junk, .junk, .junk], h⟩
def se0_3_4_5_6_7_33 (x3 x4 x5 x6 x7 x33 : PV) (h : PHeap) : St := ⟨[.junk, .junk, .junk, x3, x4, x5, x6, x7, .junk, .junk, .junk, .junk, .junk, .junk, .junk, .junk, .junk, .junk, .junk, .junk, .junk, .junk, .junk, .junk, .junk, .junk, .junk, .junk, .junk, .junk, .junk, .junk, .junk, x33, .junk, .junk, .junk, .junk, .junk, .junk, .junk, .junk, .junk, .junk, .junk, .junk, .junk, .junk, .junk, .junk, .junk, .junk, .junk, .junk, .junk, .junk, .junk, .junk, .junk, .junk, .junk, .junk, .junk, .junk, .junk, .junk, .junk, .junk, .junk, .junk, .junk, .junk, .junk, .junk, .junk, .junk, .junk, .junk, .junk, .junk, .junk, .junk, .junk, .junk, .junk, .junk, .junk, .junk, .junk, .junk, .junk, .junk, .junk, .junk, .junk, .junk, .junk, .junk, .junk, .junk, .junk, .junk, .junk, .junk, .junk, .junk, .junk, .junk, .junk, .junk, .junk], h⟩
def se2_3_4_5_6_7_8_47 (x3 x4 x5 x6 x7 x8 x47 : PV) (h : PHeap) : St := ⟨[.junk, .junk, .junk, x3, x4, x5, x6, x7, x8, .junk, .junk, .junk, .junk, .junk, .junk, .junk, .junk, .junk, .junk, .junk, .junk, .junk, .junk, .junk, .junk, .junk, .junk, .junk, .junk, .junk, .junk, .junk, .junk, .junk, .junk, .junk, .junk, .junk, .junk, .junk, .junk, .junk, .junk, .junk, .junk, .junk, .junk, x47, .junk, .junk, .junk, .junk, .junk, .junk, .junk, .junk, .junk, .junk, .junk, .junk, .junk, .junk, .junk, .junk, .junk, .junk, .junk, .junk, .junk, .junk, .junk, .junk, .junk, .junk, .junk, .junk, .junk, .junk, .junk, .junk, .junk, .junk, .junk, .junk, .junk, .junk, .junk, .junk, .junk, .junk, .junk, .junk, .junk, .junk, .junk, .junk, .junk, .junk, .junk, .junk, .junk, .junk, .junk, .junk, .junk, .junk, .junk, .junk, .junk, .junk, .junk], h⟩
def se4_3_4_5_6_7_9_62 (x3 x4 x5 x6 x7 x9 x62 : PV) (h : PHeap) : St := ⟨[.junk, .junk, .junk, x3, x4, x5, x6, x7, .junk, x9, .junk, .junk, .junk, .junk, .junk, .junk, .junk, .junk, .junk, .junk, .junk, .junk, .junk, .junk, .junk, .junk, .junk, .junk, .junk, .junk, .junk, .junk, .junk, .junk, .junk, .junk, .junk, .junk, .junk, .junk, .junk, .junk, .junk, .junk, .junk, .junk, .junk, .junk, .junk, .junk, .junk, .junk, .junk, .junk, .junk, .junk, .junk, .junk, .junk, .junk, .junk, .junk, x62, .junk, .junk, .junk, .junk, .junk, .junk, .junk, .junk, .junk, .junk, .junk, .junk, .junk, .junk, .junk, .junk, .junk, .junk, .junk, .junk, .junk, .junk, .junk, .junk, .junk, .junk, .junk, .junk, .junk, .junk, .junk, .junk, .junk, .junk, .junk, .junk, .junk, .junk, .junk, .junk, .junk, .junk, .junk, .junk, .junk, .junk, .junk, .junk], h⟩
noncomputable def K0 (E : Env) (K : PX → St → Res) : PX → St → Res := (kBlock 0 (kSeq (ev (E.cx Tryd.prog kl) (codeAt (bodyOf Tryd.f3) [1, 1, 1, 1, 1, 1, 1])) K))
@[simp] theorem K0_ret (E : Env) (K : PX → St → Res) (s : St) : K0 E K .ret s = K .ret s := by kernel_rfl
noncomputable def K1 (E : Env) (K : PX → St → Res) : PX → St → Res := (kBlock 2 (kSeq (ev (E.cx Tryd.prog kl) (codeAt (bodyOf Tryd.f3) [1, 1, 1, 1, 1, 1, 0, 1, 0, 0, 1, 0, 0, 1, 1])) (kBlock 1 (kSeq (ev (E.cx Tryd.prog kl) (codeAt (bodyOf Tryd.f3) [1, 1, 1, 1, 1, 1, 0, 1, 0, 0, 1, 1])) K))))
@[simp] theorem K1_ret (E : Env) (K : PX → St → Res) (s : St) : K1 E K .ret s = K .ret s := by kernel_rfl
noncomputable def K2 (E : Env) (K : PX → St → Res) : PX → St → Res := (kBlock 4 (kBlock 1 (kSeq (ev (E.cx Tryd.prog kl) (codeAt (bodyOf Tryd.f3) [1, 1, 1, 1, 1, 1, 0, 1, 0, 0, 1, 1])) K)))
@[simp] theorem K2_ret (E : Env) (K : PX → St → Res) (s : St) : K2 E K .ret s = K .ret s := by kernel_rfl
noncomputable def body0 (E : Env) (K : PX → St → Res) (x3 x4 x5 x6 x7 : PV) (h : PHeap) : Res :=
    (E.p.len 26 x5).bind fun v98 =>
    (E.p.bin .lss 3 x7 v98).bind fun v99 =>
    condP v99
     (
      (E.p.indexAddr 26 x5 x7).bind fun v100 =>
      (E.p.load 3 v100 h).bind fun v101 =>
      (E.C fn_impl_LinksEnds [x3, x4, v101] h).bind fun v102 =>
      (E.p.un .not v102.1).bind fun v103 =>
      condP v103
       (
        K .ret (sr_2 (.bool false) v102.2))
       (
        loopK (ev (E.cx Tryd.prog laws_FnLeastLinks.kl) laws_FnLeastLinks.lp1) E.lf (laws_FnLeastLinks.st1 x3 x4 x5 x6 x7 (.int .i64 0) v102.2) (laws_FnLeastLinks.K1 E K)))
     (
      K (.exit 0) (se0_3_4_5_6_7_33 x3 x4 x5 x6 x7 v99 h))
theorem body0_eq (E : Env) (K : PX → St → Res) (x3 x4 x5 x6 x7 : PV) (h : PHeap) : ev (E.cx Tryd.prog kl) lp0 (st0 x3 x4 x5 x6 x7 h) K = body0 E K x3 x4 x5 x6 x7 h := by kernel_rfl
noncomputable def body1 (E : Env) (K : PX → St → Res) (x3 x4 x5 x6 x7 x8 : PV) (h : PHeap) : Res :=
    (E.p.len 26 x6).bind fun v104 =>
    (E.p.bin .lss 3 x8 v104).bind fun v105 =>
    condP v105
     (
      (E.p.indexAddr 26 x5 x7).bind fun v106 =>
      (E.p.load 3 v106 h).bind fun v107 =>
      (E.p.indexAddr 26 x6 x8).bind fun v108 =>
      (E.p.load 3 v108 h).bind fun v109 =>
      (E.p.bin .and 3 v107 v109).bind fun v110 =>
      (E.p.bin .eql 3 v110 (.int .i64 0)).bind fun v111 =>
      condP v111
       (
        K .ret (sr_2 (.bool false) h))
       (
        (E.p.bin .add 3 x8 (.int .i64 1)).bind fun v112 =>
        K .normal (st1 x3 x4 x5 x6 x7 v112 h)))
     (
      K (.exit 2) (se2_3_4_5_6_7_8_47 x3 x4 x5 x6 x7 x8 v105 h))
theorem body1_eq (E : Env) (K : PX → St → Res) (x3 x4 x5 x6 x7 x8 : PV) (h : PHeap) : ev (E.cx Tryd.prog kl) lp1 (st1 x3 x4 x5 x6 x7 x8 h) K = body1 E K x3 x4 x5 x6 x7 x8 h := by kernel_rfl
noncomputable def body2 (E : Env) (K : PX → St → Res) (x3 x4 x5 x6 x7 x9 : PV) (h : PHeap) : Res :=
    (E.p.bin .lss 3 x9 x7).bind fun v113 =>
    condP v113
     (
      (E.p.indexAddr 26 x5 x9).bind fun v114 =>
      (E.p.load 3 v114 h).bind fun v115 =>
      (E.p.indexAddr 26 x5 x7).bind fun v116 =>
      (E.p.load 3 v116 h).bind fun v117 =>
      (E.p.bin .andNot 3 v115 v117).bind fun v118 =>
      (E.p.bin .eql 3 v118 (.int .i64 0)).bind fun v119 =>
      (wantV v119 false).bind fun v120 =>
      (bif v120 then some (x5, h) else some (.tup [], h)).bind fun v121 =>
      (wantV v119 false).bind fun v122 =>
      (bif v122 then some (x7, v121.2) else some (.tup [], v121.2)).bind fun v123 =>
      (wantV v119 false).bind fun v124 =>
      (bif v124 then pv v123.2 (E.p.indexAddr 26 v121.1 v123.1) else some (.tup [], v123.2)).bind fun v125 =>
      (wantV v119 false).bind fun v126 =>
      (bif v126 then pv v125.2 (E.p.load 3 v125.1 v125.2) else some (.tup [], v125.2)).bind fun v127 =>
      (wantV v119 false).bind fun v128 =>
      (bif v128 then some (x5, v127.2) else some (.tup [], v127.2)).bind fun v129 =>
      (wantV v119 false).bind fun v130 =>
      (bif v130 then some (x9, v129.2) else some (.tup [], v129.2)).bind fun v131 =>
      (wantV v119 false).bind fun v132 =>
      (bif v132 then pv v131.2 (E.p.indexAddr 26 v129.1 v131.1) else some (.tup [], v131.2)).bind fun v133 =>
      (wantV v119 false).bind fun v134 =>
      (bif v134 then pv v133.2 (E.p.load 3 v133.1 v133.2) else some (.tup [], v133.2)).bind fun v135 =>
      (wantV v119 false).bind fun v136 =>
      (bif v136 then pv v135.2 (E.p.bin .andNot 3 v127.1 v135.1) else some (.tup [], v135.2)).bind fun v137 =>
      (wantV v119 false).bind fun v138 =>
      (bif v138 then pv v137.2 (E.p.bin .eql 3 v137.1 (.int .i64 0)) else some (.tup [], v137.2)).bind fun v139 =>
      (E.p.pick v119 (.bool true) v139.1).bind fun v140 =>
      condP v140
       (
        K .ret (sr_2 (.bool false) v139.2))
       (
        (E.p.bin .add 3 x9 (.int .i64 1)).bind fun v141 =>
        K .normal (st2 x3 x4 x5 x6 x7 v141 v139.2)))
     (
      K (.exit 4) (se4_3_4_5_6_7_9_62 x3 x4 x5 x6 x7 x9 v113 h))
theorem body2_eq (E : Env) (K : PX → St → Res) (x3 x4 x5 x6 x7 x9 : PV) (h : PHeap) : ev (E.cx Tryd.prog kl) lp2 (st2 x3 x4 x5 x6 x7 x9 h) K = body2 E K x3 x4 x5 x6 x7 x9 h := by kernel_rfl
theorem after0_se0_3_4_5_6_7_33 (E : Env) (x3 x4 x5 x6 x7 x33 : PV) (h : PHeap) : K0 E (kTop Tryd.prog Tryd.f3) (.exit 0) (se0_3_4_5_6_7_33 x3 x4 x5 x6 x7 x33 h) =
    (E.C fn_laws_ascend [x5] h).bind fun v28 =>
    (wantV v28.1 true).bind fun v29 =>
    (bif v29 then some (x3, v28.2) else some (.tup [], v28.2)).bind fun v30 =>
    (wantV v28.1 true).bind fun v31 =>
    (bif v31 then some (x4, v30.2) else some (.tup [], v30.2)).bind fun v32 =>
    (wantV v28.1 true).bind fun v33 =>
    (bif v33 then E.C fn_spec_WiresOk [v30.1, v32.1] v32.2 else some (.tup [], v32.2)).bind fun v34 =>
    (wantV v28.1 true).bind fun v35 =>
    (bif v35 then pv v34.2 (E.p.un .not v34.1) else some (.tup [], v34.2)).bind fun v36 =>
    (wantV v28.1 true).bind fun v37 =>
    (bif v37 then some (v36.1, v36.2) else some (.tup [], v36.2)).bind fun v38 =>
    (wantV v38.1 false).bind fun v39 =>
    (bif v39 then some (x5, v38.2) else some (.tup [], v38.2)).bind fun v40 =>
    (wantV v38.1 false).bind fun v41 =>
    (bif v41 then pv v40.2 (E.p.len 26 v40.1) else some (.tup [], v40.2)).bind fun v42 =>
    (wantV v38.1 false).bind fun v43 =>
    (bif v43 then pv v42.2 (E.p.bin .gtr 3 v42.1 (.int .i64 0)) else some (.tup [], v42.2)).bind fun v44 =>
    (wantV v38.1 false).bind fun v45 =>
    (bif v45 then some (x3, v44.2) else some (.tup [], v44.2)).bind fun v46 =>
    (wantV v38.1 false).bind fun v47 =>
    (bif v47 then some (x4, v46.2) else some (.tup [], v46.2)).bind fun v48 =>
    (wantV v38.1 false).bind fun v49 =>
    (bif v49 then some (x4, v48.2) else some (.tup [], v48.2)).bind fun v50 =>
    (wantV v38.1 false).bind fun v51 =>
    (bif v51 then pv v50.2 (E.p.len 23 v50.1) else some (.tup [], v50.2)).bind fun v52 =>
    (wantV v38.1 false).bind fun v53 =>
    (bif v53 then pv v52.2 (E.p.bin .shl 3 (.int .i64 1) v52.1) else some (.tup [], v52.2)).bind fun v54 =>
    (wantV v38.1 false).bind fun v55 =>
    (bif v55 then pv v54.2 (E.p.bin .sub 3 v54.1 (.int .i64 1)) else some (.tup [], v54.2)).bind fun v56 =>
    (wantV v38.1 false).bind fun v57 =>
    (bif v57 then E.C fn_impl_LinksEnds [v46.1, v48.1, v56.1] v56.2 else some (.tup [], v56.2)).bind fun v58 =>
    (wantV v38.1 false).bind fun v59 =>
    (bif v59 then pv v58.2 (E.p.bin .eql 4 v44.1 v58.1) else some (.tup [], v58.2)).bind fun v60 =>
    (wantV v28.1 true).bind fun v61 =>
    (bif v61 then pv v60.2 (E.p.pick v38.1 (.bool true) v60.1) else some (.tup [], v60.2)).bind fun v62 =>
    (E.p.pick v28.1 v62.1 (.bool false)).bind fun v63 =>
    (wantV v63 true).bind fun v64 =>
    (bif v64 then E.C fn_laws_alive [] v62.2 else some (.tup [], v62.2)).bind fun v65 =>
    (E.p.pick v63 v65.1 (.bool false)).bind fun v66 =>
    (resV v66).bind fun v67 =>
    some (v67, v65.2) := by kernel_rfl
theorem after1_se2_3_4_5_6_7_8_47 (E : Env) (K : PX → St → Res) (x3 x4 x5 x6 x7 x8 x47 : PV) (h : PHeap) : K1 E K (.exit 2) (se2_3_4_5_6_7_8_47 x3 x4 x5 x6 x7 x8 x47 h) =
    loopK (ev (E.cx Tryd.prog laws_FnLeastLinks.kl) laws_FnLeastLinks.lp2) E.lf (laws_FnLeastLinks.st2 x3 x4 x5 x6 x7 (.int .i64 0) h) (laws_FnLeastLinks.K2 E K) := by kernel_rfl
theorem after2_se4_3_4_5_6_7_9_62 (E : Env) (K : PX → St → Res) (x3 x4 x5 x6 x7 x9 x62 : PV) (h : PHeap) : K2 E K (.exit 4) (se4_3_4_5_6_7_9_62 x3 x4 x5 x6 x7 x9 x62 h) =
    (E.p.bin .add 3 x7 (.int .i64 1)).bind fun v97 =>
    K .normal (st0 x3 x4 x5 x6 v97 h) := by kernel_rfl
theorem top_sr_2 (x2 : PV) (h : PHeap) : kTop Tryd.prog Tryd.f3 .ret (sr_2 x2 h) =
    (resV x2).bind fun v142 =>
    some (v142, h) := by kernel_rfl
noncomputable def main (E : Env) (x0 : PV) (h : PHeap) : Res :=
    (E.p.len 22 x0).bind fun v1 =>
    (E.p.bin .gtr 3 v1 (.int .i64 1048576)).bind fun v2 =>
    condP v2
     (
      (resV (.bool true)).bind fun v3 =>
      some (v3, h))
     (
      (E.C fn_spec_DrawLeastLinks [x0] h).bind fun v4 =>
      (E.p.extract v4.1 0).bind fun v5 =>
      (E.p.extract v4.1 1).bind fun v6 =>
      (E.C fn_impl_LeastLinks [v5, v6] v4.2).bind fun v7 =>
      (E.C fn_spec_LeastLinks [v5, v6] v7.2).bind fun v8 =>
      (E.C fn_laws_sameInts [v7.1, v8.1] v8.2).bind fun v9 =>
      (E.p.un .not v9.1).bind fun v10 =>
      condP v10
       (
        (resV (.bool false)).bind fun v11 =>
        some (v11, v9.2))
       (
        (E.C fn_impl_LeastCuts [v5, v6] v9.2).bind fun v12 =>
        loopK (ev (E.cx Tryd.prog laws_FnLeastLinks.kl) laws_FnLeastLinks.lp0) E.lf (laws_FnLeastLinks.st0 v5 v6 v7.1 v12.1 (.int .i64 0) v12.2) (laws_FnLeastLinks.K0 E (kTop Tryd.prog Tryd.f3))))
theorem main_eq (E : Env) (x0 : PV) (h : PHeap) : runBody (E.cx Tryd.prog kl) Tryd.f3 [x0] h = main E x0 h := by kernel_rfl
theorem call_eq (g : Nat → PV) (lf n : Nat) (x0 : PV) (h : PHeap) : CL g lf (n + 1) fn_laws_FnLeastLinks [x0] h = main (env g lf n) x0 h := by
  rw [← main_eq]
  show call Tryd.prog g KL lf (n + 1) 3 [x0] h = _
  rw [call_succ, Tryd.func3]
  kernel_rfl
end laws_FnLeastLinks
namespace laws_FnLeastCuts
noncomputable def lp0 : Code := (codeAt (bodyOf Tryd.f4) [1, 1, 1, 1, 1, 1, 1, 1, 0, 1, 0, 0])
def st0 (x5 x6 x7 x8 : PV) (h : PHeap) : St := ⟨[.junk, .junk, .junk, .junk, .junk, x5, x6, x7, x8, .junk, .junk, .junk, .junk, .junk, .junk, .junk, .junk, .junk, .junk, .junk, .junk, .junk, .junk, .junk, .junk, .junk, .junk, .junk, .junk, .junk, .junk, .junk, .junk, .junk, .junk, .junk, .junk, .junk, .junk, .junk, .junk, .junk, .junk, .junk, .junk, .junk, .junk, .junk, .junk, .junk, .junk, .junk, .junk, .junk, .junk, .junk, .junk, .junk, .junk, .junk, .junk, .junk, .junk, .junk, .junk, .junk, .junk, .junk, .junk, .junk, .junk, .junk, .junk, .junk, .junk, .junk, .junk, .junk, .junk, .junk, .junk, .junk, .junk, .junk, .junk, .junk, .junk, .junk, .junk, .junk, .junk, .junk, .junk, .junk, .junk, .junk, .junk], h⟩
noncomputable def lp1 : Code := (codeAt (bodyOf Tryd.f4) [1, 1, 1, 1, 1, 1, 1, 1, 0, 1, 0, 0, 1, 0, 0, 1, 1, 0, 1, 0, 0])
def st1 (x5 x6 x7 x8 x9 x10 x11 : PV) (h : PHeap) : St := ⟨[.junk, .junk, .junk, .junk, .junk, x5, x6, x7, x8, x9, x10, x11, .junk, .junk, .junk, .junk, .junk, .junk, .junk, .junk, .junk, .junk, .junk, .junk, .junk, .junk, .junk, .junk, .junk, .junk, .junk, .junk, .junk, .junk, .junk, .junk, .junk, .junk, .junk, .junk, .junk, .junk, .junk, .junk, .junk, .junk, .junk, .junk, .junk, .junk, .junk, .junk, .junk, .junk, .junk, .junk, .junk, .junk, .junk, .junk, .junk, .junk, .junk, .junk, .junk, .junk, .junk, .junk, .junk, .junk, .junk, .junk, .junk, .junk, .junk, .junk, .junk, .junk, .junk, .junk, .junk, .junk, .junk, .junk, .junk, .junk, .junk, .junk, .junk, .junk, .junk, .junk, .junk, .junk, .junk, .junk, .junk], h⟩
noncomputable def lp2 : Code := (codeAt (bodyOf Tryd.f4) [1, 1, 1, 1, 1, 1, 1, 1, 0, 1, 0, 0, 1, 0, 0, 1, 1, 1, 0, 1, 0, 0])
def st2 (x5 x6 x7 x8 x9 x10 x12 : PV) (h : PHeap) : St := ⟨[.junk, .junk, .junk, .junk, .junk, x5, x6, x7, x8, x9, x10, .junk, x12, .junk, .junk, .junk, .junk, .junk, .junk, .junk, .junk, .junk, .junk, .junk, .junk, .junk, .junk, .junk, .junk, .junk, .junk, .junk, .junk, .junk, .junk, .junk, .junk, .junk, .junk, .junk, .junk, .junk, .junk, .junk, .junk, .junk, .junk, .junk, .junk, .junk, .junk, .junk, .junk, .junk, .junk, .junk, .junk, .junk, .junk, .junk, .junk, .junk, .junk, .junk, .junk, .junk, .junk, .junk, .junk, .junk, .junk, .junk, .junk, .junk, .junk, .junk, .junk, .junk, .junk, .junk, .junk, .junk, .junk, .junk, .junk, .junk, .junk, .junk, .junk, .junk, .junk, .junk, .junk, .junk, .junk, .junk, .junk], h⟩
def se0_5_6_7_8_49 (x5 x6 x7 x8 x49 : PV) (h : PHeap) : St := ⟨[.junk, .junk, .junk, .junk, .junk, x5, x6, x7, x8, .junk, .junk, .junk, .junk, .junk, .junk, .junk, .junk, .junk, .junk, .junk, .junk, .junk, .junk, .junk, .junk, .junk, .junk, .junk, .junk, .junk, .junk, .junk, .junk, .junk, .junk, .junk, .junk, .junk, .junk, .junk, .junk, .junk, .junk, .junk, .junk, .junk, .junk, .junk, .junk, x49, .junk, .junk, .junk, .junk, .junk, .junk, .junk, .junk, .junk, .junk, .junk, .junk, .junk, .junk, .junk, .junk, .junk, .junk, .junk, .junk, .junk, .junk, .junk, .junk, .junk, .junk, .junk, .junk, .junk, .junk, .junk, .junk, .junk, .junk, .junk, .junk, .junk, .junk, .junk, .junk, .junk, .junk, .junk, .junk, .junk, .junk, .junk], h⟩
def se2_5_6_7_8_9_10_11_55 (x5 x6 x7 x8 x9 x10 x11 x55 : PV) (h : PHeap) : St := ⟨[.junk, .junk, .junk, .junk, .junk, x5, x6, x7, x8, x9, x10, x11, .junk, .junk, .junk, .junk, .junk, .junk, .junk, .junk, .junk, .junk, .junk, .junk, .junk, .junk, .junk, .junk, .junk, .junk, .junk, .junk, .junk, .junk, .junk, .junk, .junk, .junk, .junk, .junk, .junk, .junk, .junk, .junk, .junk, .junk, .junk, .junk, .junk, .junk, .junk, .junk, .junk, .junk, .junk, x55, .junk, .junk, .junk, .junk, .junk, .junk, .junk, .junk, .junk, .junk, .junk, .junk, .junk, .junk, .junk, .junk, .junk, .junk, .junk, .junk, .junk, .junk, .junk, .junk, .junk, .junk, .junk, .junk, .junk, .junk, .junk, .junk, .junk, .junk, .junk, .junk, .junk, .junk, .junk, .junk, .junk], h⟩
def se4_5_6_7_8_9_10_12_71 (x5 x6 x7 x8 x9 x10 x12 x71 : PV) (h : PHeap) : St := ⟨[.junk, .junk, .junk, .junk, .junk, x5, x6, x7, x8, x9, x10, .junk, x12, .junk, .junk, .junk, .junk, .junk, .junk, .junk, .junk, .junk, .junk, .junk, .junk, .junk, .junk, .junk, .junk, .junk, .junk, .junk, .junk, .junk, .junk, .junk, .junk, .junk, .junk, .junk, .junk, .junk, .junk, .junk, .junk, .junk, .junk, .junk, .junk, .junk, .junk, .junk, .junk, .junk, .junk, .junk, .junk, .junk, .junk, .junk, .junk, .junk, .junk, .junk, .junk, .junk, .junk, .junk, .junk, .junk, .junk, x71, .junk, .junk, .junk, .junk, .junk, .junk, .junk, .junk, .junk, .junk, .junk, .junk, .junk, .junk, .junk, .junk, .junk, .junk, .junk, .junk, .junk, .junk, .junk, .junk, .junk], h⟩
def sr_2 (x2 : PV) (h : PHeap) : St := ⟨[.junk, .junk, x2, .junk, .junk, .junk, .junk, .junk, .junk, .junk, .junk, .junk, .junk, .junk, .junk, .junk, .junk, .junk, .junk, .junk, .junk, .junk, .junk, .junk, .junk, .junk, .junk, .junk, .junk, .junk, .junk, .junk, .junk, .junk, .junk, .junk, .junk, .junk, .junk, .junk, .junk, .junk, .junk, .junk, .junk, .junk, .junk, .junk, .junk, .junk, .junk, .junk, .junk, .junk, .junk, .junk, .junk, .junk, .junk, .junk, .junk, .junk, .junk, .junk, .junk, .junk, .junk, .junk, .junk, .junk, .junk, .junk, .junk, .junk, .junk, .junk, .junk, .junk, .junk, .junk, .junk, .junk, .junk, .junk, .junk, .junk, .junk, .junk, .junk, .junk, .junk, .junk, .junk, .junk, .junk, .junk, .junk], h⟩
noncomputable def K0 (E : Env) (K : PX → St → Res) : PX → St → Res := (kBlock 0 (kSeq (ev (E.cx Tryd.prog kl) (codeAt (bodyOf Tryd.f4) [1, 1, 1, 1, 1, 1, 1, 1, 1])) K))
@[simp] theorem K0_ret (E : Env) (K : PX → St → Res) (s : St) : K0 E K .ret s = K .ret s := by kernel_rfl
noncomputable def K1 (E : Env) (K : PX → St → Res) : PX → St → Res := (kBlock 2 (kSeq (ev (E.cx Tryd.prog kl) (codeAt (bodyOf Tryd.f4) [1, 1, 1, 1, 1, 1, 1, 1, 0, 1, 0, 0, 1, 0, 0, 1, 1, 1])) (kBlock 1 (kSeq (ev (E.cx Tryd.prog kl) (codeAt (bodyOf Tryd.f4) [1, 1, 1, 1, 1, 1, 1, 1, 0, 1, 0, 0, 1, 1])) K))))
@[simp] theorem K1_ret (E : Env) (K : PX → St → Res) (s : St) : K1 E K .ret s = K .ret s := by kernel_rfl
noncomputable def K2 (E : Env) (K : PX → St → Res) : PX → St → Res := (kBlock 4 (kSeq (ev (E.cx Tryd.prog kl) (codeAt (bodyOf Tryd.f4) [1, 1, 1, 1, 1, 1, 1, 1, 0, 1, 0, 0, 1, 0, 0, 1, 1, 1, 1])) (kBlock 1 (kSeq (ev (E.cx Tryd.prog kl) (codeAt (bodyOf Tryd.f4) [1, 1, 1, 1, 1, 1, 1, 1, 0, 1, 0, 0, 1, 1])) K))))
@[simp] theorem K2_ret (E : Env) (K : PX → St → Res) (s : St) : K2 E K .ret s = K .ret s := by kernel_rfl
noncomputable def body0 (E : Env) (K : PX → St → Res) (x5 x6 x7 x8 : PV) (h : PHeap) : Res :=
    (E.p.bin .leq 3 x8 x6).bind fun v75 =>
    condP v75
     (
      loopK (ev (E.cx Tryd.prog laws_FnLeastCuts.kl) laws_FnLeastCuts.lp1) E.lf (laws_FnLeastCuts.st1 x5 x6 x7 x8 (.bool false) (.bool false) (.int .i64 0) h) (laws_FnLeastCuts.K1 E K))
     (
      K (.exit 0) (se0_5_6_7_8_49 x5 x6 x7 x8 v75 h))
theorem body0_eq (E : Env) (K : PX → St → Res) (x5 x6 x7 x8 : PV) (h : PHeap) : ev (E.cx Tryd.prog kl) lp0 (st0 x5 x6 x7 x8 h) K = body0 E K x5 x6 x7 x8 h := by kernel_rfl
noncomputable def body1 (E : Env) (K : PX → St → Res) (x5 x6 x7 x8 x9 x10 x11 : PV) (h : PHeap) : Res :=
    (E.p.len 26 x7).bind fun v76 =>
    (E.p.bin .lss 3 x11 v76).bind fun v77 =>
    condP v77
     (
      (wantV x9 false).bind fun v78 =>
      (bif v78 then some (x7, h) else some (.tup [], h)).bind fun v79 =>
      (wantV x9 false).bind fun v80 =>
      (bif v80 then some (x11, v79.2) else some (.tup [], v79.2)).bind fun v81 =>
      (wantV x9 false).bind fun v82 =>
      (bif v82 then pv v81.2 (E.p.indexAddr 26 v79.1 v81.1) else some (.tup [], v81.2)).bind fun v83 =>
      (wantV x9 false).bind fun v84 =>
      (bif v84 then pv v83.2 (E.p.load 3 v83.1 v83.2) else some (.tup [], v83.2)).bind fun v85 =>
      (wantV x9 false).bind fun v86 =>
      (bif v86 then some (x8, v85.2) else some (.tup [], v85.2)).bind fun v87 =>
      (wantV x9 false).bind fun v88 =>
      (bif v88 then pv v87.2 (E.p.bin .andNot 3 v85.1 v87.1) else some (.tup [], v87.2)).bind fun v89 =>
      (wantV x9 false).bind fun v90 =>
      (bif v90 then pv v89.2 (E.p.bin .eql 3 v89.1 (.int .i64 0)) else some (.tup [], v89.2)).bind fun v91 =>
      (E.p.pick x9 (.bool true) v91.1).bind fun v92 =>
      (E.p.bin .add 3 x11 (.int .i64 1)).bind fun v93 =>
      K .normal (st1 x5 x6 x7 x8 v92 x10 v93 v91.2))
     (
      K (.exit 2) (se2_5_6_7_8_9_10_11_55 x5 x6 x7 x8 x9 x10 x11 v77 h))
theorem body1_eq (E : Env) (K : PX → St → Res) (x5 x6 x7 x8 x9 x10 x11 : PV) (h : PHeap) : ev (E.cx Tryd.prog kl) lp1 (st1 x5 x6 x7 x8 x9 x10 x11 h) K = body1 E K x5 x6 x7 x8 x9 x10 x11 h := by kernel_rfl
noncomputable def body2 (E : Env) (K : PX → St → Res) (x5 x6 x7 x8 x9 x10 x12 : PV) (h : PHeap) : Res :=
    (E.p.len 26 x5).bind fun v94 =>
    (E.p.bin .lss 3 x12 v94).bind fun v95 =>
    condP v95
     (
      (wantV x10 false).bind fun v96 =>
      (bif v96 then some (x5, h) else some (.tup [], h)).bind fun v97 =>
      (wantV x10 false).bind fun v98 =>
      (bif v98 then some (x12, v97.2) else some (.tup [], v97.2)).bind fun v99 =>
      (wantV x10 false).bind fun v100 =>
      (bif v100 then pv v99.2 (E.p.indexAddr 26 v97.1 v99.1) else some (.tup [], v99.2)).bind fun v101 =>
      (wantV x10 false).bind fun v102 =>
      (bif v102 then pv v101.2 (E.p.load 3 v101.1 v101.2) else some (.tup [], v101.2)).bind fun v103 =>
      (wantV x10 false).bind fun v104 =>
      (bif v104 then some (x8, v103.2) else some (.tup [], v103.2)).bind fun v105 =>
      (wantV x10 false).bind fun v106 =>
      (bif v106 then pv v105.2 (E.p.bin .and 3 v103.1 v105.1) else some (.tup [], v105.2)).bind fun v107 =>
      (wantV x10 false).bind fun v108 =>
      (bif v108 then pv v107.2 (E.p.bin .eql 3 v107.1 (.int .i64 0)) else some (.tup [], v107.2)).bind fun v109 =>
      (E.p.pick x10 (.bool true) v109.1).bind fun v110 =>
      (E.p.bin .add 3 x12 (.int .i64 1)).bind fun v111 =>
      K .normal (st2 x5 x6 x7 x8 x9 v110 v111 v109.2))
     (
      K (.exit 4) (se4_5_6_7_8_9_10_12_71 x5 x6 x7 x8 x9 x10 x12 v95 h))
theorem body2_eq (E : Env) (K : PX → St → Res) (x5 x6 x7 x8 x9 x10 x12 : PV) (h : PHeap) : ev (E.cx Tryd.prog kl) lp2 (st2 x5 x6 x7 x8 x9 x10 x12 h) K = body2 E K x5 x6 x7 x8 x9 x10 x12 h := by kernel_rfl
theorem after0_se0_5_6_7_8_49 (E : Env) (x5 x6 x7 x8 x49 : PV) (h : PHeap) : K0 E (kTop Tryd.prog Tryd.f4) (.exit 0) (se0_5_6_7_8_49 x5 x6 x7 x8 x49 h) =
    (E.C fn_laws_ascend [x5] h).bind fun v43 =>
    (wantV v43.1 true).bind fun v44 =>
    (bif v44 then some (x5, v43.2) else some (.tup [], v43.2)).bind fun v45 =>
    (wantV v43.1 true).bind fun v46 =>
    (bif v46 then pv v45.2 (E.p.len 26 v45.1) else some (.tup [], v45.2)).bind fun v47 =>
    (wantV v43.1 true).bind fun v48 =>
    (bif v48 then pv v47.2 (E.p.bin .gtr 3 v47.1 (.int .i64 0)) else some (.tup [], v47.2)).bind fun v49 =>
    (E.p.pick v43.1 v49.1 (.bool false)).bind fun v50 =>
    (wantV v50 true).bind fun v51 =>
    (bif v51 then E.C fn_laws_alive [] v49.2 else some (.tup [], v49.2)).bind fun v52 =>
    (E.p.pick v50 v52.1 (.bool false)).bind fun v53 =>
    (resV v53).bind fun v54 =>
    some (v54, v52.2) := by kernel_rfl
theorem after1_se2_5_6_7_8_9_10_11_55 (E : Env) (K : PX → St → Res) (x5 x6 x7 x8 x9 x10 x11 x55 : PV) (h : PHeap) : K1 E K (.exit 2) (se2_5_6_7_8_9_10_11_55 x5 x6 x7 x8 x9 x10 x11 x55 h) =
    loopK (ev (E.cx Tryd.prog laws_FnLeastCuts.kl) laws_FnLeastCuts.lp2) E.lf (laws_FnLeastCuts.st2 x5 x6 x7 x8 x9 x10 (.int .i64 0) h) (laws_FnLeastCuts.K2 E K) := by kernel_rfl
theorem after2_se4_5_6_7_8_9_10_12_71 (E : Env) (K : PX → St → Res) (x5 x6 x7 x8 x9 x10 x12 x71 : PV) (h : PHeap) : K2 E K (.exit 4) (se4_5_6_7_8_9_10_12_71 x5 x6 x7 x8 x9 x10 x12 x71 h) =
    (E.p.bin .eql 4 x9 x10).bind fun v73 =>
    condP v73
     (
      K .ret (sr_2 (.bool false) h))
     (
      (E.p.bin .add 3 x8 (.int .i64 1)).bind fun v74 =>
      K .normal (st0 x5 x6 x7 v74 h)) := by kernel_rfl
theorem top_sr_2 (x2 : PV) (h : PHeap) : kTop Tryd.prog Tryd.f4 .ret (sr_2 x2 h) =
    (resV x2).bind fun v112 =>
    some (v112, h) := by kernel_rfl
noncomputable def main (E : Env) (x0 : PV) (h : PHeap) : Res :=
    (E.p.len 22 x0).bind fun v1 =>
    (E.p.bin .gtr 3 v1 (.int .i64 1048576)).bind fun v2 =>
    condP v2
     (
      (resV (.bool true)).bind fun v3 =>
      some (v3, h))
     (
      (E.C fn_spec_DrawLeastCuts [x0] h).bind fun v4 =>
      (E.p.extract v4.1 0).bind fun v5 =>
      (E.p.extract v4.1 1).bind fun v6 =>
      (E.C fn_impl_LeastCuts [v5, v6] v4.2).bind fun v7 =>
      (E.C fn_spec_LeastCuts [v5, v6] v7.2).bind fun v8 =>
      (E.C fn_laws_sameInts [v7.1, v8.1] v8.2).bind fun v9 =>
      (E.p.un .not v9.1).bind fun v10 =>
      condP v10
       (
        (resV (.bool false)).bind fun v11 =>
        some (v11, v9.2))
       (
        (E.C fn_spec_WiresOk [v5, v6] v9.2).bind fun v12 =>
        (E.p.un .not v12.1).bind fun v13 =>
        condP v13
         (
          (E.p.len 26 v7.1).bind fun v14 =>
          (E.p.bin .eql 3 v14 (.int .i64 0)).bind fun v15 =>
          (wantV v15 true).bind fun v16 =>
          (bif v16 then E.C fn_laws_alive [] v12.2 else some (.tup [], v12.2)).bind fun v17 =>
          (E.p.pick v15 v17.1 (.bool false)).bind fun v18 =>
          (resV v18).bind fun v19 =>
          some (v19, v17.2))
         (
          (E.p.len 23 v6).bind fun v20 =>
          (E.p.bin .shl 3 (.int .i64 1) v20).bind fun v21 =>
          (E.p.bin .sub 3 v21 (.int .i64 1)).bind fun v22 =>
          (E.C fn_impl_LeastLinks [v5, v6] v12.2).bind fun v23 =>
          loopK (ev (E.cx Tryd.prog laws_FnLeastCuts.kl) laws_FnLeastCuts.lp0) E.lf (laws_FnLeastCuts.st0 v7.1 v22 v23.1 (.int .i64 0) v23.2) (laws_FnLeastCuts.K0 E (kTop Tryd.prog Tryd.f4)))))
theorem main_eq (E : Env) (x0 : PV) (h : PHeap) : runBody (E.cx Tryd.prog kl) Tryd.f4 [x0] h = main E x0 h := by kernel_rfl
theorem call_eq (g : Nat → PV) (lf n : Nat) (x0 : PV) (h : PHeap) : CL g lf (n + 1) fn_laws_FnLeastCuts [x0] h = main (env g lf n) x0 h := by
  rw [← main_eq]
  show call Tryd.prog g KL lf (n + 1) 4 [x0] h = _
  rw [call_succ, Tryd.func4]
  kernel_rfl
end laws_FnLeastCuts
namespace laws_FnWireGap
noncomputable def lp0 : Code := (codeAt (bodyOf Tryd.f5) [1, 1, 1, 1, 1, 1, 1, 1, 0, 1, 0, 0])
def st0 (x3 x4 x5 x6 x8 : PV) (h : PHeap) : St := ⟨[.junk, .junk, .junk, x3, x4, x5, x6, .junk, x8, .junk, .junk, .junk, .junk, .junk, .junk, .junk, .junk, .junk, .junk, .junk, .junk, .junk, .junk, .junk, .junk, .junk, .junk, .junk, .junk, .junk, .junk, .junk, .junk, .junk, .junk, .junk, .junk, .junk, .junk, .junk, .junk, .junk, .junk, .junk, .junk, .junk, .junk, .junk, .junk, .junk, .junk, .junk, .junk, .junk, .junk, .junk, .junk, .junk, .junk, .junk, .junk, .junk, .junk, .junk, .junk, .junk, .junk, .junk, .junk, .junk, .junk, .junk, .junk, .junk, .junk, .junk, .junk, .junk, .junk, .junk, .junk, .junk, .junk, .junk, .junk, .junk, .junk, .junk, .junk, .junk, .junk], h⟩
def sr_2 (x2 : PV) (h : PHeap) : St := ⟨[.junk, .junk, x2, .junk, .junk, .junk, .junk, .junk, .junk, .junk, .junk, .junk, .junk, .junk, .junk, .junk, .junk, .junk, .junk, .junk, .junk, .junk, .junk, .junk, .junk, .junk, .junk, .junk, .junk, .junk, .junk, .junk, .junk, .junk, .junk, .junk, .junk, .junk, .junk, .junk, .junk, .junk, .junk, .junk, .junk, .junk, .junk, .junk, .junk, .junk, .junk, .junk, .junk, .junk, .junk, .junk, .junk, .junk, .junk, .junk, .junk, .junk, .junk, .junk, .junk, .junk, .junk, .junk, .junk, .junk, .junk, .junk, .junk, .junk, .junk, .junk, .junk, .junk, .junk, .junk, .junk, .junk, .junk, .junk, .junk, .junk, .junk, .junk, .junk, .junk, .junk], h⟩
def se0_3_4_5_6_8_63 (x3 x4 x5 x6 x8 x63 : PV) (h : PHeap) : St := ⟨[.junk, .junk, .junk, x3, x4, x5, x6, .junk, x8, .junk, .junk, .junk, .junk, .junk, .junk, .junk, .junk, .junk, .junk, .junk, .junk, .junk, .junk, .junk, .junk, .junk, .junk, .junk, .junk, .junk, .junk, .junk, .junk, .junk, .junk, .junk, .junk, .junk, .junk, .junk, .junk, .junk, .junk, .junk, .junk, .junk, .junk, .junk, .junk, .junk, .junk, .junk, .junk, .junk, .junk, .junk, .junk, .junk, .junk, .junk, .junk, .junk, .junk, x63, .junk, .junk, .junk, .junk, .junk, .junk, .junk, .junk, .junk, .junk, .junk, .junk, .junk, .junk, .junk, .junk, .junk, .junk, .junk, .junk, .junk, .junk, .junk, .junk, .junk, .junk, .junk], h⟩
noncomputable def K0 (E : Env) (K : PX → St → Res) : PX → St → Res := (kBlock 0 (kSeq (ev (E.cx Tryd.prog kl) (codeAt (bodyOf Tryd.f5) [1, 1, 1, 1, 1, 1, 1, 1, 1])) K))
@[simp] theorem K0_ret (E : Env) (K : PX → St → Res) (s : St) : K0 E K .ret s = K .ret s := by kernel_rfl
noncomputable def body0 (E : Env) (K : PX → St → Res) (x3 x4 x5 x6 x8 : PV) (h : PHeap) : Res :=
    (E.p.len 26 x5).bind fun v63 =>
    (E.p.bin .lss 3 x8 v63).bind fun v64 =>
    (wantV v64 true).bind fun v65 =>
    (bif v65 then some (x6, h) else some (.tup [], h)).bind fun v66 =>
    (wantV v64 true).bind fun v67 =>
    (bif v67 then pv v66.2 (E.p.bin .gtr 3 v66.1 (.int .i64 0)) else some (.tup [], v66.2)).bind fun v68 =>
    (E.p.pick v64 v68.1 (.bool false)).bind fun v69 =>
    condP v69
     (
      (E.p.indexAddr 26 x5 x8).bind fun v70 =>
      (E.p.load 3 v70 v68.2).bind fun v71 =>
      (E.p.bin .eql 3 v71 (.int .i64 0)).bind fun v72 =>
      condP v72
       (
        (E.p.buildSlice 26 0 [] v68.2).bind fun v73 =>
        (E.p.append 26 26 v73.1 x5 v73.2).bind fun v74 =>
        (E.p.indexAddr 26 v74.1 x8).bind fun v75 =>
        (E.p.store 3 v75 (.int .i64 1) v74.2).bind fun v76 =>
        (E.C fn_impl_WireGap [x3, x4, v74.1] v76).bind fun v77 =>
        (E.p.bin .eql 3 v77.1 x6).bind fun v78 =>
        (wantV v78 false).bind fun v79 =>
        (bif v79 then some (v77.1, v77.2) else some (.tup [], v77.2)).bind fun v80 =>
        (wantV v78 false).bind fun v81 =>
        (bif v81 then some (x6, v80.2) else some (.tup [], v80.2)).bind fun v82 =>
        (wantV v78 false).bind fun v83 =>
        (bif v83 then pv v82.2 (E.p.bin .sub 3 v82.1 (.int .i64 1)) else some (.tup [], v82.2)).bind fun v84 =>
        (wantV v78 false).bind fun v85 =>
        (bif v85 then pv v84.2 (E.p.bin .eql 3 v80.1 v84.1) else some (.tup [], v84.2)).bind fun v86 =>
        (E.p.pick v78 (.bool true) v86.1).bind fun v87 =>
        K .ret (sr_2 v87 v86.2))
       (
        (E.p.bin .add 3 x8 (.int .i64 1)).bind fun v88 =>
        K .normal (st0 x3 x4 x5 x6 v88 v68.2)))
     (
      K (.exit 0) (se0_3_4_5_6_8_63 x3 x4 x5 x6 x8 v69 v68.2))
theorem body0_eq (E : Env) (K : PX → St → Res) (x3 x4 x5 x6 x8 : PV) (h : PHeap) : ev (E.cx Tryd.prog kl) lp0 (st0 x3 x4 x5 x6 x8 h) K = body0 E K x3 x4 x5 x6 x8 h := by kernel_rfl
theorem after0_se0_3_4_5_6_8_63 (E : Env) (x3 x4 x5 x6 x8 x63 : PV) (h : PHeap) : K0 E (kTop Tryd.prog Tryd.f5) (.exit 0) (se0_3_4_5_6_8_63 x3 x4 x5 x6 x8 x63 h) =
    (E.C fn_laws_alive [] h).bind fun v61 =>
    (resV v61.1).bind fun v62 =>
    some (v62, v61.2) := by kernel_rfl
theorem top_sr_2 (x2 : PV) (h : PHeap) : kTop Tryd.prog Tryd.f5 .ret (sr_2 x2 h) =
    (resV x2).bind fun v89 =>
    some (v89, h) := by kernel_rfl
noncomputable def main (E : Env) (x0 : PV) (h : PHeap) : Res :=
    (E.p.len 22 x0).bind fun v1 =>
    (E.p.bin .gtr 3 v1 (.int .i64 1048576)).bind fun v2 =>
    condP v2
     (
      (resV (.bool true)).bind fun v3 =>
      some (v3, h))
     (
      (E.C fn_spec_DrawWireGap [x0] h).bind fun v4 =>
      (E.p.extract v4.1 0).bind fun v5 =>
      (E.p.extract v4.1 1).bind fun v6 =>
      (E.p.extract v4.1 2).bind fun v7 =>
      (E.C fn_impl_WireGap [v5, v6, v7] v4.2).bind fun v8 =>
      (E.C fn_spec_WireGap [v5, v6, v7] v8.2).bind fun v9 =>
      (E.p.bin .neq 3 v8.1 v9.1).bind fun v10 =>
      condP v10
       (
        (resV (.bool false)).bind fun v11 =>
        some (v11, v9.2))
       (
        (E.C fn_spec_OwnersOk [v5, v6, v7] v9.2).bind fun v12 =>
        (E.p.un .not v12.1).bind fun v13 =>
        condP v13
         (
          (E.p.bin .eql 3 v8.1 (.int .i64 (-1))).bind fun v14 =>
          (wantV v14 true).bind fun v15 =>
          (bif v15 then E.C fn_laws_alive [] v12.2 else some (.tup [], v12.2)).bind fun v16 =>
          (E.p.pick v14 v16.1 (.bool false)).bind fun v17 =>
          (resV v17).bind fun v18 =>
          some (v18, v16.2))
         (
          (E.C fn_impl_WiresWon [v5, v6, v7] v12.2).bind fun v19 =>
          (E.p.bin .eql 3 v8.1 (.int .i64 0)).bind fun v20 =>
          (E.p.bin .eql 3 v19.1 (.int .i64 1)).bind fun v21 =>
          (E.p.bin .neq 4 v20 v21).bind fun v22 =>
          (wantV v22 false).bind fun v23 =>
          (bif v23 then some (v8.1, v19.2) else some (.tup [], v19.2)).bind fun v24 =>
          (wantV v22 false).bind fun v25 =>
          (bif v25 then pv v24.2 (E.p.bin .eql 3 v24.1 (.int .i64 (-1))) else some (.tup [], v24.2)).bind fun v26 =>
          (wantV v22 false).bind fun v27 =>
          (bif v27 then some (v19.1, v26.2) else some (.tup [], v26.2)).bind fun v28 =>
          (wantV v22 false).bind fun v29 =>
          (bif v29 then pv v28.2 (E.p.bin .eql 3 v28.1 (.int .i64 2)) else some (.tup [], v28.2)).bind fun v30 =>
          (wantV v22 false).bind fun v31 =>
          (bif v31 then pv v30.2 (E.p.bin .neq 4 v26.1 v30.1) else some (.tup [], v30.2)).bind fun v32 =>
          (E.p.pick v22 (.bool true) v32.1).bind fun v33 =>
          condP v33
           (
            (resV (.bool false)).bind fun v34 =>
            some (v34, v32.2))
           (
            loopK (ev (E.cx Tryd.prog laws_FnWireGap.kl) laws_FnWireGap.lp0) E.lf (laws_FnWireGap.st0 v5 v6 v7 v8.1 (.int .i64 0) v32.2) (laws_FnWireGap.K0 E (kTop Tryd.prog Tryd.f5))))))
theorem main_eq (E : Env) (x0 : PV) (h : PHeap) : runBody (E.cx Tryd.prog kl) Tryd.f5 [x0] h = main E x0 h := by kernel_rfl
theorem call_eq (g : Nat → PV) (lf n : Nat) (x0 : PV) (h : PHeap) : CL g lf (n + 1) fn_laws_FnWireGap [x0] h = main (env g lf n) x0 h := by
  rw [← main_eq]
  show call Tryd.prog g KL lf (n + 1) 5 [x0] h = _
  rw [call_succ, Tryd.func5]
  kernel_rfl
end laws_FnWireGap
namespace laws_FnWiresMore
noncomputable def main (E : Env) (x0 : PV) (h : PHeap) : Res :=
    (E.p.len 22 x0).bind fun v1 =>
    (E.p.bin .gtr 3 v1 (.int .i64 1048576)).bind fun v2 =>
    condP v2
     (
      (resV (.bool true)).bind fun v3 =>
      some (v3, h))
     (
      (E.C fn_spec_DrawWiresWinner [x0] h).bind fun v4 =>
      (E.p.extract v4.1 0).bind fun v5 =>
      (E.p.extract v4.1 1).bind fun v6 =>
      (E.p.extract v4.1 2).bind fun v7 =>
      (E.p.extract v4.1 3).bind fun v8 =>
      (E.C fn_spec_WiresOk [v5, v6] v4.2).bind fun v9 =>
      (E.p.un .not v9.1).bind fun v10 =>
      (wantV v10 false).bind fun v11 =>
      (bif v11 then some (v8, v9.2) else some (.tup [], v9.2)).bind fun v12 =>
      (wantV v10 false).bind fun v13 =>
      (bif v13 then pv v12.2 (E.p.bin .gtr 3 v12.1 (.int .i64 2)) else some (.tup [], v12.2)).bind fun v14 =>
      (E.p.pick v10 (.bool true) v14.1).bind fun v15 =>
      (wantV v15 false).bind fun v16 =>
      (bif v16 then some (v6, v14.2) else some (.tup [], v14.2)).bind fun v17 =>
      (wantV v15 false).bind fun v18 =>
      (bif v18 then pv v17.2 (E.p.len 23 v17.1) else some (.tup [], v17.2)).bind fun v19 =>
      (wantV v15 false).bind fun v20 =>
      (bif v20 then pv v19.2 (E.p.bin .gtr 3 v19.1 (.int .i64 6)) else some (.tup [], v19.2)).bind fun v21 =>
      (E.p.pick v15 (.bool true) v21.1).bind fun v22 =>
      condP v22
       (
        (E.C fn_laws_alive [] v21.2).bind fun v23 =>
        (resV v23.1).bind fun v24 =>
        some (v24, v23.2))
       (
        (E.p.buildSlice 23 0 [] v21.2).bind fun v25 =>
        (E.p.append 23 23 v25.1 v6 v25.2).bind fun v26 =>
        (E.p.build 41 [(0, (.int .i64 0)), (1, (.int .i64 1))]).bind fun v27 =>
        (E.p.buildSlice 23 1 [(0, v27)] v26.2).bind fun v28 =>
        (E.p.append 23 23 v26.1 v28.1 v28.2).bind fun v29 =>
        (E.p.buildSlice 23 0 [] v29.2).bind fun v30 =>
        (E.p.append 23 23 v30.1 v29.1 v30.2).bind fun v31 =>
        (E.p.build 41 [(0, (.int .i64 1)), (1, (.int .i64 0))]).bind fun v32 =>
        (E.p.buildSlice 23 1 [(0, v32)] v31.2).bind fun v33 =>
        (E.p.append 23 23 v31.1 v33.1 v33.2).bind fun v34 =>
        (E.p.len 23 v6).bind fun v35 =>
        (E.p.make 26 v35 v35 v34.2).bind fun v36 =>
        (E.C fn_impl_WiresWinner [v5, v6, v36.1, v8] v36.2).bind fun v37 =>
        (E.p.len 23 v29.1).bind fun v38 =>
        (E.p.make 26 v38 v38 v37.2).bind fun v39 =>
        (E.C fn_impl_WiresWinner [v5, v29.1, v39.1, v8] v39.2).bind fun v40 =>
        (E.C fn_laws_alive [] v40.2).bind fun v41 =>
        (wantV v41.1 true).bind fun v42 =>
        (bif v42 then some (v37.1, v41.2) else some (.tup [], v41.2)).bind fun v43 =>
        (wantV v41.1 true).bind fun v44 =>
        (bif v44 then pv v43.2 (E.p.bin .neq 3 v43.1 (.int .i64 1)) else some (.tup [], v43.2)).bind fun v45 =>
        (wantV v41.1 true).bind fun v46 =>
        (bif v46 then some (v45.1, v45.2) else some (.tup [], v45.2)).bind fun v47 =>
        (wantV v47.1 false).bind fun v48 =>
        (bif v48 then some (v40.1, v47.2) else some (.tup [], v47.2)).bind fun v49 =>
        (wantV v47.1 false).bind fun v50 =>
        (bif v50 then pv v49.2 (E.p.bin .eql 3 v49.1 (.int .i64 1)) else some (.tup [], v49.2)).bind fun v51 =>
        (wantV v41.1 true).bind fun v52 =>
        (bif v52 then pv v51.2 (E.p.pick v47.1 (.bool true) v51.1) else some (.tup [], v51.2)).bind fun v53 =>
        (wantV v41.1 true).bind fun v54 =>
        (bif v54 then some (v53.1, v53.2) else some (.tup [], v53.2)).bind fun v55 =>
        (wantV v55.1 true).bind fun v56 =>
        (bif v56 then some (v5, v55.2) else some (.tup [], v55.2)).bind fun v57 =>
        (wantV v55.1 true).bind fun v58 =>
        (bif v58 then some (v34.1, v57.2) else some (.tup [], v57.2)).bind fun v59 =>
        (wantV v55.1 true).bind fun v60 =>
        (bif v60 then some (v34.1, v59.2) else some (.tup [], v59.2)).bind fun v61 =>
        (wantV v55.1 true).bind fun v62 =>
        (bif v62 then pv v61.2 (E.p.len 23 v61.1) else some (.tup [], v61.2)).bind fun v63 =>
        (wantV v55.1 true).bind fun v64 =>
        (bif v64 then E.p.make 26 v63.1 v63.1 v63.2 else some (.tup [], v63.2)).bind fun v65 =>
        (wantV v55.1 true).bind fun v66 =>
        (bif v66 then some (v8, v65.2) else some (.tup [], v65.2)).bind fun v67 =>
        (wantV v55.1 true).bind fun v68 =>
        (bif v68 then E.C fn_impl_WiresWinner [v57.1, v59.1, v65.1, v67.1] v67.2 else some (.tup [], v67.2)).bind fun v69 =>
        (wantV v55.1 true).bind fun v70 =>
        (bif v70 then pv v69.2 (E.p.bin .eql 3 v69.1 (.int .i64 1)) else some (.tup [], v69.2)).bind fun v71 =>
        (wantV v41.1 true).bind fun v72 =>
        (bif v72 then pv v71.2 (E.p.pick v55.1 v71.1 (.bool false)) else some (.tup [], v71.2)).bind fun v73 =>
        (wantV v41.1 true).bind fun v74 =>
        (bif v74 then some (v73.1, v73.2) else some (.tup [], v73.2)).bind fun v75 =>
        (wantV v75.1 true).bind fun v76 =>
        (bif v76 then some (v37.1, v75.2) else some (.tup [], v75.2)).bind fun v77 =>
        (wantV v75.1 true).bind fun v78 =>
        (bif v78 then pv v77.2 (E.p.bin .neq 3 v77.1 (.int .i64 0)) else some (.tup [], v77.2)).bind fun v79 =>
        (wantV v41.1 true).bind fun v80 =>
        (bif v80 then pv v79.2 (E.p.pick v75.1 v79.1 (.bool false)) else some (.tup [], v79.2)).bind fun v81 =>
        (E.p.pick v41.1 v81.1 (.bool false)).bind fun v82 =>
        (resV v82).bind fun v83 =>
        some (v83, v81.2)))
theorem main_eq (E : Env) (x0 : PV) (h : PHeap) : runBody (E.cx Tryd.prog kl) Tryd.f6 [x0] h = main E x0 h := by kernel_rfl
theorem call_eq (g : Nat → PV) (lf n : Nat) (x0 : PV) (h : PHeap) : CL g lf (n + 1) fn_laws_FnWiresMore [x0] h = main (env g lf n) x0 h := by
  rw [← main_eq]
  show call Tryd.prog g KL lf (n + 1) 6 [x0] h = _
  rw [call_succ, Tryd.func6]
  kernel_rfl
end laws_FnWiresMore
namespace laws_FnExactLinksEnds
noncomputable def main (E : Env) (x0 x1 x2 : PV) (h : PHeap) : Res :=
    (E.C fn_laws_szWireS [x1, (.int .i64 1048576)] h).bind fun v1 =>
    (E.p.bin .lss 3 v1.1 (.int .i64 0)).bind fun v2 =>
    condP v2
     (
      (resV (.bool true)).bind fun v3 =>
      some (v3, v1.2))
     (
      (E.C fn_laws_toWireS [x1] v1.2).bind fun v4 =>
      (E.C fn_spec_LinksEnds [x0, v4.1, x2] v4.2).bind fun v5 =>
      (E.C fn_laws_toWireS [x1] v5.2).bind fun v6 =>
      (E.C fn_impl_LinksEnds [x0, v6.1, x2] v6.2).bind fun v7 =>
      (E.p.bin .neq 4 v7.1 v5.1).bind fun v8 =>
      condP v8
       (
        (resV (.bool false)).bind fun v9 =>
        some (v9, v7.2))
       (
        (E.C fn_laws_toWireS [x1] v7.2).bind fun v10 =>
        (E.C fn_laws_eqWireS [v6.1, v10.1] v10.2).bind fun v11 =>
        (E.p.un .not v11.1).bind fun v12 =>
        condP v12
         (
          (resV (.bool false)).bind fun v13 =>
          some (v13, v11.2))
         (
          (resV (.bool true)).bind fun v14 =>
          some (v14, v11.2))))
theorem main_eq (E : Env) (x0 x1 x2 : PV) (h : PHeap) : runBody (E.cx Tryd.prog kl) Tryd.f7 [x0, x1, x2] h = main E x0 x1 x2 h := by kernel_rfl
theorem call_eq (g : Nat → PV) (lf n : Nat) (x0 x1 x2 : PV) (h : PHeap) : CL g lf (n + 1) fn_laws_FnExactLinksEnds [x0, x1, x2] h = main (env g lf n) x0 x1 x2 h := by
  rw [← main_eq]
  show call Tryd.prog g KL lf (n + 1) 7 [x0, x1, x2] h = _
  rw [call_succ, Tryd.func7]
  kernel_rfl
end laws_FnExactLinksEnds
namespace spec_DrawLeastLinks
noncomputable def main (E : Env) (x0 : PV) (h : PHeap) : Res :=
    (E.C fn_spec_l20Open [x0] h).bind fun v1 =>
    (E.C fn_spec_l20Wires [v1.1, (.int .i64 9)] v1.2).bind fun v2 =>
    (E.p.extract v2.1 0).bind fun v3 =>
    (E.p.extract v2.1 1).bind fun v4 =>
    (resV v3).bind fun v5 =>
    (resV v4).bind fun v6 =>
    some (.tup [v5, v6], v2.2)
theorem main_eq (E : Env) (x0 : PV) (h : PHeap) : runBody (E.cx Tryd.prog kl) Tryd.f8 [x0] h = main E x0 h := by kernel_rfl
theorem call_eq (g : Nat → PV) (lf n : Nat) (x0 : PV) (h : PHeap) : CL g lf (n + 1) fn_spec_DrawLeastLinks [x0] h = main (env g lf n) x0 h := by
  rw [← main_eq]
  show call Tryd.prog g KL lf (n + 1) 8 [x0] h = _
  rw [call_succ, Tryd.func8]
  kernel_rfl
end spec_DrawLeastLinks
namespace impl_LeastLinks
noncomputable def main (E : Env) (x0 x1 : PV) (h : PHeap) : Res :=
    (E.p.box x1 h).bind fun v1 =>
    (E.p.load 23 v1.1 v1.2).bind fun v2 =>
    (E.C fn_impl_WiresOk [x0, v2] v1.2).bind fun v3 =>
    (E.p.un .not v3.1).bind fun v4 =>
    condP v4
     (
      (resV .nilsl).bind fun v5 =>
      some (v5, v3.2))
     (
      (E.p.load 23 v1.1 v3.2).bind fun v6 =>
      (E.p.clos fn_impl_LeastLinks_1 [v1.1]).bind fun v7 =>
      (E.C fn_impl_leastSets [v6, v7] v3.2).bind fun v8 =>
      (resV v8.1).bind fun v9 =>
      some (v9, v8.2))
theorem main_eq (E : Env) (x0 x1 : PV) (h : PHeap) : runBody (E.cx Tryd.prog kl) Tryd.f9 [x0, x1] h = main E x0 x1 h := by kernel_rfl
theorem call_eq (g : Nat → PV) (lf n : Nat) (x0 x1 : PV) (h : PHeap) : CL g lf (n + 1) fn_impl_LeastLinks [x0, x1] h = main (env g lf n) x0 x1 h := by
  rw [← main_eq]
  show call Tryd.prog g KL lf (n + 1) 9 [x0, x1] h = _
  rw [call_succ, Tryd.func9]
  kernel_rfl
end impl_LeastLinks
namespace laws_sameInts
noncomputable def lp0 : Code := (codeAt (bodyOf Tryd.f10) [1, 1, 0, 1, 0, 0])
def st0 (x0 x1 x5 : PV) (h : PHeap) : St := ⟨[x0, x1, .junk, .junk, .junk, x5, .junk, .junk, .junk, .junk, .junk, .junk, .junk, .junk, .junk, .junk, .junk, .junk, .junk, .junk, .junk, .junk, .junk, .junk, .junk, .junk], h⟩
def sr_4 (x4 : PV) (h : PHeap) : St := ⟨[.junk, .junk, .junk, .junk, x4, .junk, .junk, .junk, .junk, .junk, .junk, .junk, .junk, .junk, .junk, .junk, .junk, .junk, .junk, .junk, .junk, .junk, .junk, .junk, .junk, .junk], h⟩
def se0_0_1_5_14 (x0 x1 x5 x14 : PV) (h : PHeap) : St := ⟨[x0, x1, .junk, .junk, .junk, x5, .junk, .junk, .junk, .junk, .junk, .junk, .junk, .junk, x14, .junk, .junk, .junk, .junk, .junk, .junk, .junk, .junk, .junk, .junk, .junk], h⟩
noncomputable def K0 (E : Env) (K : PX → St → Res) : PX → St → Res := (kBlock 0 (kSeq (ev (E.cx Tryd.prog kl) (codeAt (bodyOf Tryd.f10) [1, 1, 1])) K))
@[simp] theorem K0_ret (E : Env) (K : PX → St → Res) (s : St) : K0 E K .ret s = K .ret s := by kernel_rfl
noncomputable def body0 (E : Env) (K : PX → St → Res) (x0 x1 x5 : PV) (h : PHeap) : Res :=
    (E.p.len 26 x0).bind fun v14 =>
    (E.p.bin .lss 3 x5 v14).bind fun v15 =>
    condP v15
     (
      (E.p.indexAddr 26 x0 x5).bind fun v16 =>
      (E.p.load 3 v16 h).bind fun v17 =>
      (E.p.indexAddr 26 x1 x5).bind fun v18 =>
      (E.p.load 3 v18 h).bind fun v19 =>
      (E.p.bin .neq 3 v17 v19).bind fun v20 =>
      condP v20
       (
        K .ret (sr_4 (.bool false) h))
       (
        (E.p.bin .add 3 x5 (.int .i64 1)).bind fun v21 =>
        K .normal (st0 x0 x1 v21 h)))
     (
      K (.exit 0) (se0_0_1_5_14 x0 x1 x5 v15 h))
theorem body0_eq (E : Env) (K : PX → St → Res) (x0 x1 x5 : PV) (h : PHeap) : ev (E.cx Tryd.prog kl) lp0 (st0 x0 x1 x5 h) K = body0 E K x0 x1 x5 h := by kernel_rfl
theorem after0_se0_0_1_5_14 (E : Env) (x0 x1 x5 x14 : PV) (h : PHeap) : K0 E (kTop Tryd.prog Tryd.f10) (.exit 0) (se0_0_1_5_14 x0 x1 x5 x14 h) =
    (resV (.bool true)).bind fun v13 =>
    some (v13, h) := by kernel_rfl
theorem top_sr_4 (x4 : PV) (h : PHeap) : kTop Tryd.prog Tryd.f10 .ret (sr_4 x4 h) =
    (resV x4).bind fun v22 =>
    some (v22, h) := by kernel_rfl
noncomputable def main (E : Env) (x0 x1 : PV) (h : PHeap) : Res :=
    (E.p.len 26 x0).bind fun v1 =>
    (E.p.len 26 x1).bind fun v2 =>
    (E.p.bin .neq 3 v1 v2).bind fun v3 =>
    condP v3
     (
      (resV (.bool false)).bind fun v4 =>
      some (v4, h))
     (
      loopK (ev (E.cx Tryd.prog laws_sameInts.kl) laws_sameInts.lp0) E.lf (laws_sameInts.st0 x0 x1 (.int .i64 0) h) (laws_sameInts.K0 E (kTop Tryd.prog Tryd.f10)))
theorem main_eq (E : Env) (x0 x1 : PV) (h : PHeap) : runBody (E.cx Tryd.prog kl) Tryd.f10 [x0, x1] h = main E x0 x1 h := by kernel_rfl
theorem call_eq (g : Nat → PV) (lf n : Nat) (x0 x1 : PV) (h : PHeap) : CL g lf (n + 1) fn_laws_sameInts [x0, x1] h = main (env g lf n) x0 x1 h := by
  rw [← main_eq]
  show call Tryd.prog g KL lf (n + 1) 10 [x0, x1] h = _
  rw [call_succ, Tryd.func10]
  kernel_rfl
end laws_sameInts
namespace spec_LeastLinks
noncomputable def lp0 : Code := (codeAt (bodyOf Tryd.f11) [1, 1, 0, 1, 0, 0])
def st0 (x0 x1 x5 x6 : PV) (h : PHeap) : St := ⟨[x0, x1, .junk, .junk, .junk, x5, x6, .junk, .junk, .junk, .junk, .junk, .junk, .junk, .junk, .junk, .junk, .junk, .junk, .junk, .junk, .junk, .junk, .junk, .junk, .junk, .junk, .junk, .junk, .junk, .junk, .junk, .junk, .junk, .junk, .junk, .junk, .junk, .junk, .junk, .junk, .junk, .junk, .junk, .junk, .junk, .junk, .junk, .junk, .junk, .junk, .junk, .junk, .junk, .junk, .junk, .junk, .junk, .junk], h⟩
noncomputable def lp1 : Code := (codeAt (bodyOf Tryd.f11) [1, 1, 0, 1, 0, 0, 1, 0, 0, 1, 0, 1, 0, 0])
def st1 (x0 x1 x5 x6 x7 x8 : PV) (h : PHeap) : St := ⟨[x0, x1, .junk, .junk, .junk, x5, x6, x7, x8, .junk, .junk, .junk, .junk, .junk, .junk, .junk, .junk, .junk, .junk, .junk, .junk, .junk, .junk, .junk, .junk, .junk, .junk, .junk, .junk, .junk, .junk, .junk, .junk, .junk, .junk, .junk, .junk, .junk, .junk, .junk, .junk, .junk, .junk, .junk, .junk, .junk, .junk, .junk, .junk, .junk, .junk, .junk, .junk, .junk, .junk, .junk, .junk, .junk, .junk], h⟩
def se0_0_1_5_6_19 (x0 x1 x5 x6 x19 : PV) (h : PHeap) : St := ⟨[x0, x1, .junk, .junk, .junk, x5, x6, .junk, .junk, .junk, .junk, .junk, .junk, .junk, .junk, .junk, .junk, .junk, .junk, x19, .junk, .junk, .junk, .junk, .junk, .junk, .junk, .junk, .junk, .junk, .junk, .junk, .junk, .junk, .junk, .junk, .junk, .junk, .junk, .junk, .junk, .junk, .junk, .junk, .junk, .junk, .junk, .junk, .junk, .junk, .junk, .junk, .junk, .junk, .junk, .junk, .junk, .junk, .junk], h⟩
def se2_0_1_5_6_7_8_34 (x0 x1 x5 x6 x7 x8 x34 : PV) (h : PHeap) : St := ⟨[x0, x1, .junk, .junk, .junk, x5, x6, x7, x8, .junk, .junk, .junk, .junk, .junk, .junk, .junk, .junk, .junk, .junk, .junk, .junk, .junk, .junk, .junk, .junk, .junk, .junk, .junk, .junk, .junk, .junk, .junk, .junk, .junk, x34, .junk, .junk, .junk, .junk, .junk, .junk, .junk, .junk, .junk, .junk, .junk, .junk, .junk, .junk, .junk, .junk, .junk, .junk, .junk, .junk, .junk, .junk, .junk, .junk], h⟩
noncomputable def K0 (E : Env) (K : PX → St → Res) : PX → St → Res := (kBlock 0 (kSeq (ev (E.cx Tryd.prog kl) (codeAt (bodyOf Tryd.f11) [1, 1, 1])) K))
@[simp] theorem K0_ret (E : Env) (K : PX → St → Res) (s : St) : K0 E K .ret s = K .ret s := by kernel_rfl
noncomputable def K1 (E : Env) (K : PX → St → Res) : PX → St → Res := (kBlock 2 (kSeq (ev (E.cx Tryd.prog kl) (codeAt (bodyOf Tryd.f11) [1, 1, 0, 1, 0, 0, 1, 0, 0, 1, 1])) (kBlock 1 (kSeq (ev (E.cx Tryd.prog kl) (codeAt (bodyOf Tryd.f11) [1, 1, 0, 1, 0, 0, 1, 1])) K))))
@[simp] theorem K1_ret (E : Env) (K : PX → St → Res) (s : St) : K1 E K .ret s = K .ret s := by kernel_rfl
noncomputable def body0 (E : Env) (K : PX → St → Res) (x0 x1 x5 x6 : PV) (h : PHeap) : Res :=
    (E.C fn_spec_WiresOk [x0, x1] h).bind fun v51 =>
    (wantV v51.1 true).bind fun v52 =>
    (bif v52 then some (x6, v51.2) else some (.tup [], v51.2)).bind fun v53 =>
    (wantV v51.1 true).bind fun v54 =>
    (bif v54 then some (x1, v53.2) else some (.tup [], v53.2)).bind fun v55 =>
    (wantV v51.1 true).bind fun v56 =>
    (bif v56 then pv v55.2 (E.p.len 23 v55.1) else some (.tup [], v55.2)).bind fun v57 =>
    (wantV v51.1 true).bind fun v58 =>
    (bif v58 then pv v57.2 (E.p.bin .shl 3 (.int .i64 1) v57.1) else some (.tup [], v57.2)).bind fun v59 =>
    (wantV v51.1 true).bind fun v60 =>
    (bif v60 then pv v59.2 (E.p.bin .lss 3 v53.1 v59.1) else some (.tup [], v59.2)).bind fun v61 =>
    (E.p.pick v51.1 v61.1 (.bool false)).bind fun v62 =>
    condP v62
     (
      (E.C fn_spec_l9Reach [x1, x6, (.int .i64 0)] v61.2).bind fun v63 =>
      (E.p.bin .shr 3 v63.1 (.int .u64 1)).bind fun v64 =>
      (E.p.bin .rem 3 v64 (.int .i64 2)).bind fun v65 =>
      (E.p.bin .eql 3 v65 (.int .i64 1)).bind fun v66 =>
      loopK (ev (E.cx Tryd.prog spec_LeastLinks.kl) spec_LeastLinks.lp1) E.lf (spec_LeastLinks.st1 x0 x1 x5 x6 v66 (.int .i64 0) v63.2) (spec_LeastLinks.K1 E K))
     (
      K (.exit 0) (se0_0_1_5_6_19 x0 x1 x5 x6 v62 v61.2))
theorem body0_eq (E : Env) (K : PX → St → Res) (x0 x1 x5 x6 : PV) (h : PHeap) : ev (E.cx Tryd.prog kl) lp0 (st0 x0 x1 x5 x6 h) K = body0 E K x0 x1 x5 x6 h := by kernel_rfl
noncomputable def body1 (E : Env) (K : PX → St → Res) (x0 x1 x5 x6 x7 x8 : PV) (h : PHeap) : Res :=
    (E.p.len 23 x1).bind fun v67 =>
    (E.p.bin .lss 3 x8 v67).bind fun v68 =>
    (wantV v68 true).bind fun v69 =>
    (bif v69 then some (x7, h) else some (.tup [], h)).bind fun v70 =>
    (E.p.pick v68 v70.1 (.bool false)).bind fun v71 =>
    condP v71
     (
      (E.p.bin .shr 3 x6 x8).bind fun v72 =>
      (E.p.bin .rem 3 v72 (.int .i64 2)).bind fun v73 =>
      (E.p.bin .eql 3 v73 (.int .i64 0)).bind fun v74 =>
      (wantV v74 false).bind fun v75 =>
      (bif v75 then some (x1, v70.2) else some (.tup [], v70.2)).bind fun v76 =>
      (wantV v74 false).bind fun v77 =>
      (bif v77 then some (x6, v76.2) else some (.tup [], v76.2)).bind fun v78 =>
      (wantV v74 false).bind fun v79 =>
      (bif v79 then some (x8, v78.2) else some (.tup [], v78.2)).bind fun v80 =>
      (wantV v74 false).bind fun v81 =>
      (bif v81 then pv v80.2 (E.p.bin .shl 3 (.int .i64 1) v80.1) else some (.tup [], v80.2)).bind fun v82 =>
      (wantV v74 false).bind fun v83 =>
      (bif v83 then pv v82.2 (E.p.bin .andNot 3 v78.1 v82.1) else some (.tup [], v82.2)).bind fun v84 =>
      (wantV v74 false).bind fun v85 =>
      (bif v85 then E.C fn_spec_l9Reach [v76.1, v84.1, (.int .i64 0)] v84.2 else some (.tup [], v84.2)).bind fun v86 =>
      (wantV v74 false).bind fun v87 =>
      (bif v87 then pv v86.2 (E.p.bin .shr 3 v86.1 (.int .u64 1)) else some (.tup [], v86.2)).bind fun v88 =>
      (wantV v74 false).bind fun v89 =>
      (bif v89 then pv v88.2 (E.p.bin .rem 3 v88.1 (.int .i64 2)) else some (.tup [], v88.2)).bind fun v90 =>
      (wantV v74 false).bind fun v91 =>
      (bif v91 then pv v90.2 (E.p.bin .eql 3 v90.1 (.int .i64 0)) else some (.tup [], v90.2)).bind fun v92 =>
      (E.p.pick v74 (.bool true) v92.1).bind fun v93 =>
      (E.p.bin .add 3 x8 (.int .i64 1)).bind fun v94 =>
      K .normal (st1 x0 x1 x5 x6 v93 v94 v92.2))
     (
      K (.exit 2) (se2_0_1_5_6_7_8_34 x0 x1 x5 x6 x7 x8 v71 v70.2))
theorem body1_eq (E : Env) (K : PX → St → Res) (x0 x1 x5 x6 x7 x8 : PV) (h : PHeap) : ev (E.cx Tryd.prog kl) lp1 (st1 x0 x1 x5 x6 x7 x8 h) K = body1 E K x0 x1 x5 x6 x7 x8 h := by kernel_rfl
theorem after0_se0_0_1_5_6_19 (E : Env) (x0 x1 x5 x6 x19 : PV) (h : PHeap) : K0 E (kTop Tryd.prog Tryd.f11) (.exit 0) (se0_0_1_5_6_19 x0 x1 x5 x6 x19 h) =
    (resV x5).bind fun v46 =>
    some (v46, h) := by kernel_rfl
theorem after1_se2_0_1_5_6_7_8_34 (E : Env) (K : PX → St → Res) (x0 x1 x5 x6 x7 x8 x34 : PV) (h : PHeap) : K1 E K (.exit 2) (se2_0_1_5_6_7_8_34 x0 x1 x5 x6 x7 x8 x34 h) =
    condP x7
     (
      (E.p.buildSlice 26 1 [(0, x6)] h).bind fun v47 =>
      (E.p.append 26 26 x5 v47.1 v47.2).bind fun v48 =>
      (E.p.bin .add 3 x6 (.int .i64 1)).bind fun v49 =>
      K .normal (st0 x0 x1 v48.1 v49 v48.2))
     (
      (E.p.bin .add 3 x6 (.int .i64 1)).bind fun v50 =>
      K .normal (st0 x0 x1 x5 v50 h)) := by kernel_rfl
noncomputable def main (E : Env) (x0 x1 : PV) (h : PHeap) : Res :=
    (E.p.buildSlice 26 0 [] h).bind fun v1 =>
    loopK (ev (E.cx Tryd.prog spec_LeastLinks.kl) spec_LeastLinks.lp0) E.lf (spec_LeastLinks.st0 x0 x1 v1.1 (.int .i64 0) v1.2) (spec_LeastLinks.K0 E (kTop Tryd.prog Tryd.f11))
theorem main_eq (E : Env) (x0 x1 : PV) (h : PHeap) : runBody (E.cx Tryd.prog kl) Tryd.f11 [x0, x1] h = main E x0 x1 h := by kernel_rfl
theorem call_eq (g : Nat → PV) (lf n : Nat) (x0 x1 : PV) (h : PHeap) : CL g lf (n + 1) fn_spec_LeastLinks [x0, x1] h = main (env g lf n) x0 x1 h := by
  rw [← main_eq]
  show call Tryd.prog g KL lf (n + 1) 11 [x0, x1] h = _
  rw [call_succ, Tryd.func11]
  kernel_rfl
end spec_LeastLinks
namespace impl_LeastCuts
noncomputable def main (E : Env) (x0 x1 : PV) (h : PHeap) : Res :=
    (E.p.box x1 h).bind fun v1 =>
    (E.p.load 23 v1.1 v1.2).bind fun v2 =>
    (E.C fn_impl_WiresOk [x0, v2] v1.2).bind fun v3 =>
    (E.p.un .not v3.1).bind fun v4 =>
    condP v4
     (
      (resV .nilsl).bind fun v5 =>
      some (v5, v3.2))
     (
      (E.p.load 23 v1.1 v3.2).bind fun v6 =>
      (E.p.clos fn_impl_LeastCuts_1 [v1.1]).bind fun v7 =>
      (E.C fn_impl_leastSets [v6, v7] v3.2).bind fun v8 =>
      (resV v8.1).bind fun v9 =>
      some (v9, v8.2))
theorem main_eq (E : Env) (x0 x1 : PV) (h : PHeap) : runBody (E.cx Tryd.prog kl) Tryd.f12 [x0, x1] h = main E x0 x1 h := by kernel_rfl
theorem call_eq (g : Nat → PV) (lf n : Nat) (x0 x1 : PV) (h : PHeap) : CL g lf (n + 1) fn_impl_LeastCuts [x0, x1] h = main (env g lf n) x0 x1 h := by
  rw [← main_eq]
  show call Tryd.prog g KL lf (n + 1) 12 [x0, x1] h = _
  rw [call_succ, Tryd.func12]
  kernel_rfl
end impl_LeastCuts
namespace impl_LinksEnds
noncomputable def main (E : Env) (x0 x1 x2 : PV) (h : PHeap) : Res :=
    (E.C fn_impl_WiresOk [x0, x1] h).bind fun v1 =>
    (wantV v1.1 true).bind fun v2 =>
    (bif v2 then some (x1, v1.2) else some (.tup [], v1.2)).bind fun v3 =>
    (wantV v1.1 true).bind fun v4 =>
    (bif v4 then some (x2, v3.2) else some (.tup [], v3.2)).bind fun v5 =>
    (wantV v1.1 true).bind fun v6 =>
    (bif v6 then E.C fn_impl_wireSetOk [v3.1, v5.1] v5.2 else some (.tup [], v5.2)).bind fun v7 =>
    (E.p.pick v1.1 v7.1 (.bool false)).bind fun v8 =>
    (wantV v8 true).bind fun v9 =>
    (bif v9 then some (x1, v7.2) else some (.tup [], v7.2)).bind fun v10 =>
    (wantV v8 true).bind fun v11 =>
    (bif v11 then some (x2, v10.2) else some (.tup [], v10.2)).bind fun v12 =>
    (wantV v8 true).bind fun v13 =>
    (bif v13 then E.C fn_impl_linked [v10.1, v12.1] v12.2 else some (.tup [], v12.2)).bind fun v14 =>
    (E.p.pick v8 v14.1 (.bool false)).bind fun v15 =>
    (resV v15).bind fun v16 =>
    some (v16, v14.2)
theorem main_eq (E : Env) (x0 x1 x2 : PV) (h : PHeap) : runBody (E.cx Tryd.prog kl) Tryd.f13 [x0, x1, x2] h = main E x0 x1 x2 h := by kernel_rfl
theorem call_eq (g : Nat → PV) (lf n : Nat) (x0 x1 x2 : PV) (h : PHeap) : CL g lf (n + 1) fn_impl_LinksEnds [x0, x1, x2] h = main (env g lf n) x0 x1 x2 h := by
  rw [← main_eq]
  show call Tryd.prog g KL lf (n + 1) 13 [x0, x1, x2] h = _
  rw [call_succ, Tryd.func13]
  kernel_rfl
end impl_LinksEnds
namespace laws_ascend
noncomputable def lp0 : Code := (codeAt (bodyOf Tryd.f14) [1, 0, 1, 0, 0])
def st0 (x0 x3 : PV) (h : PHeap) : St := ⟨[x0, .junk, .junk, x3, .junk, .junk, .junk, .junk, .junk, .junk, .junk, .junk, .junk, .junk, .junk, .junk, .junk, .junk, .junk, .junk], h⟩
def sr_2 (x2 : PV) (h : PHeap) : St := ⟨[.junk, .junk, x2, .junk, .junk, .junk, .junk, .junk, .junk, .junk, .junk, .junk, .junk, .junk, .junk, .junk, .junk, .junk, .junk, .junk], h⟩
def se0_0_3_7 (x0 x3 x7 : PV) (h : PHeap) : St := ⟨[x0, .junk, .junk, x3, .junk, .junk, .junk, x7, .junk, .junk, .junk, .junk, .junk, .junk, .junk, .junk, .junk, .junk, .junk, .junk], h⟩
noncomputable def K0 (E : Env) (K : PX → St → Res) : PX → St → Res := (kBlock 0 (kSeq (ev (E.cx Tryd.prog kl) (codeAt (bodyOf Tryd.f14) [1, 1])) K))
@[simp] theorem K0_ret (E : Env) (K : PX → St → Res) (s : St) : K0 E K .ret s = K .ret s := by kernel_rfl
noncomputable def body0 (E : Env) (K : PX → St → Res) (x0 x3 : PV) (h : PHeap) : Res :=
    (E.p.len 26 x0).bind fun v11 =>
    (E.p.bin .lss 3 x3 v11).bind fun v12 =>
    condP v12
     (
      (E.p.bin .sub 3 x3 (.int .i64 1)).bind fun v13 =>
      (E.p.indexAddr 26 x0 v13).bind fun v14 =>
      (E.p.load 3 v14 h).bind fun v15 =>
      (E.p.indexAddr 26 x0 x3).bind fun v16 =>
      (E.p.load 3 v16 h).bind fun v17 =>
      (E.p.bin .geq 3 v15 v17).bind fun v18 =>
      condP v18
       (
        K .ret (sr_2 (.bool false) h))
       (
        (E.p.bin .add 3 x3 (.int .i64 1)).bind fun v19 =>
        K .normal (st0 x0 v19 h)))
     (
      K (.exit 0) (se0_0_3_7 x0 x3 v12 h))
theorem body0_eq (E : Env) (K : PX → St → Res) (x0 x3 : PV) (h : PHeap) : ev (E.cx Tryd.prog kl) lp0 (st0 x0 x3 h) K = body0 E K x0 x3 h := by kernel_rfl
theorem after0_se0_0_3_7 (E : Env) (x0 x3 x7 : PV) (h : PHeap) : K0 E (kTop Tryd.prog Tryd.f14) (.exit 0) (se0_0_3_7 x0 x3 x7 h) =
    (resV (.bool true)).bind fun v10 =>
    some (v10, h) := by kernel_rfl
theorem top_sr_2 (x2 : PV) (h : PHeap) : kTop Tryd.prog Tryd.f14 .ret (sr_2 x2 h) =
    (resV x2).bind fun v20 =>
    some (v20, h) := by kernel_rfl
noncomputable def main (E : Env) (x0 : PV) (h : PHeap) : Res :=
    loopK (ev (E.cx Tryd.prog laws_ascend.kl) laws_ascend.lp0) E.lf (laws_ascend.st0 x0 (.int .i64 1) h) (laws_ascend.K0 E (kTop Tryd.prog Tryd.f14))
theorem main_eq (E : Env) (x0 : PV) (h : PHeap) : runBody (E.cx Tryd.prog kl) Tryd.f14 [x0] h = main E x0 h := by kernel_rfl
theorem call_eq (g : Nat → PV) (lf n : Nat) (x0 : PV) (h : PHeap) : CL g lf (n + 1) fn_laws_ascend [x0] h = main (env g lf n) x0 h := by
  rw [← main_eq]
  show call Tryd.prog g KL lf (n + 1) 14 [x0] h = _
  rw [call_succ, Tryd.func14]
  kernel_rfl
end laws_ascend
namespace spec_WiresOk
noncomputable def lp0 : Code := (codeAt (bodyOf Tryd.f15) [1, 0, 1, 0, 0])
def st0 (x0 x1 x5 : PV) (h : PHeap) : St := ⟨[x0, x1, .junk, .junk, .junk, x5, .junk, .junk, .junk, .junk, .junk, .junk, .junk, .junk, .junk, .junk, .junk, .junk, .junk, .junk, .junk, .junk, .junk, .junk, .junk, .junk, .junk, .junk, .junk, .junk, .junk, .junk, .junk, .junk, .junk, .junk, .junk, .junk, .junk, .junk, .junk, .junk, .junk, .junk, .junk, .junk, .junk, .junk, .junk, .junk, .junk], h⟩
def sr_4 (x4 : PV) (h : PHeap) : St := ⟨[.junk, .junk, .junk, .junk, x4, .junk, .junk, .junk, .junk, .junk, .junk, .junk, .junk, .junk, .junk, .junk, .junk, .junk, .junk, .junk, .junk, .junk, .junk, .junk, .junk, .junk, .junk, .junk, .junk, .junk, .junk, .junk, .junk, .junk, .junk, .junk, .junk, .junk, .junk, .junk, .junk, .junk, .junk, .junk, .junk, .junk, .junk, .junk, .junk, .junk, .junk], h⟩
def se0_0_1_5_10 (x0 x1 x5 x10 : PV) (h : PHeap) : St := ⟨[x0, x1, .junk, .junk, .junk, x5, .junk, .junk, .junk, .junk, x10, .junk, .junk, .junk, .junk, .junk, .junk, .junk, .junk, .junk, .junk, .junk, .junk, .junk, .junk, .junk, .junk, .junk, .junk, .junk, .junk, .junk, .junk, .junk, .junk, .junk, .junk, .junk, .junk, .junk, .junk, .junk, .junk, .junk, .junk, .junk, .junk, .junk, .junk, .junk, .junk], h⟩
noncomputable def K0 (E : Env) (K : PX → St → Res) : PX → St → Res := (kBlock 0 (kSeq (ev (E.cx Tryd.prog kl) (codeAt (bodyOf Tryd.f15) [1, 1])) K))
@[simp] theorem K0_ret (E : Env) (K : PX → St → Res) (s : St) : K0 E K .ret s = K .ret s := by kernel_rfl
noncomputable def body0 (E : Env) (K : PX → St → Res) (x0 x1 x5 : PV) (h : PHeap) : Res :=
    (E.p.len 23 x1).bind fun v56 =>
    (E.p.bin .lss 3 x5 v56).bind fun v57 =>
    condP v57
     (
      (E.p.indexAddr 23 x1 x5).bind fun v58 =>
      (E.p.load 41 v58 h).bind fun v59 =>
      (E.p.alloc 41 h).bind fun v60 =>
      (E.p.store 41 v60.1 v59 v60.2).bind fun v61 =>
      (E.p.fieldAddr 41 v60.1 0).bind fun v62 =>
      (E.p.load 3 v62 v61).bind fun v63 =>
      (E.p.bin .lss 3 v63 (.int .i64 0)).bind fun v64 =>
      (wantV v64 false).bind fun v65 =>
      (bif v65 then pv v61 (E.p.fieldAddr 41 v60.1 0) else some (.tup [], v61)).bind fun v66 =>
      (wantV v64 false).bind fun v67 =>
      (bif v67 then pv v66.2 (E.p.load 3 v66.1 v66.2) else some (.tup [], v66.2)).bind fun v68 =>
      (wantV v64 false).bind fun v69 =>
      (bif v69 then some (x0, v68.2) else some (.tup [], v68.2)).bind fun v70 =>
      (wantV v64 false).bind fun v71 =>
      (bif v71 then pv v70.2 (E.p.bin .geq 3 v68.1 v70.1) else some (.tup [], v70.2)).bind fun v72 =>
      (E.p.pick v64 (.bool true) v72.1).bind fun v73 =>
      (wantV v73 false).bind fun v74 =>
      (bif v74 then pv v72.2 (E.p.fieldAddr 41 v60.1 1) else some (.tup [], v72.2)).bind fun v75 =>
      (wantV v73 false).bind fun v76 =>
      (bif v76 then pv v75.2 (E.p.load 3 v75.1 v75.2) else some (.tup [], v75.2)).bind fun v77 =>
      (wantV v73 false).bind fun v78 =>
      (bif v78 then pv v77.2 (E.p.bin .lss 3 v77.1 (.int .i64 0)) else some (.tup [], v77.2)).bind fun v79 =>
      (E.p.pick v73 (.bool true) v79.1).bind fun v80 =>
      (wantV v80 false).bind fun v81 =>
      (bif v81 then pv v79.2 (E.p.fieldAddr 41 v60.1 1) else some (.tup [], v79.2)).bind fun v82 =>
      (wantV v80 false).bind fun v83 =>
      (bif v83 then pv v82.2 (E.p.load 3 v82.1 v82.2) else some (.tup [], v82.2)).bind fun v84 =>
      (wantV v80 false).bind fun v85 =>
      (bif v85 then some (x0, v84.2) else some (.tup [], v84.2)).bind fun v86 =>
      (wantV v80 false).bind fun v87 =>
      (bif v87 then pv v86.2 (E.p.bin .geq 3 v84.1 v86.1) else some (.tup [], v86.2)).bind fun v88 =>
      (E.p.pick v80 (.bool true) v88.1).bind fun v89 =>
      (wantV v89 false).bind fun v90 =>
      (bif v90 then pv v88.2 (E.p.fieldAddr 41 v60.1 0) else some (.tup [], v88.2)).bind fun v91 =>
      (wantV v89 false).bind fun v92 =>
      (bif v92 then pv v91.2 (E.p.load 3 v91.1 v91.2) else some (.tup [], v91.2)).bind fun v93 =>
      (wantV v89 false).bind fun v94 =>
      (bif v94 then pv v93.2 (E.p.fieldAddr 41 v60.1 1) else some (.tup [], v93.2)).bind fun v95 =>
      (wantV v89 false).bind fun v96 =>
      (bif v96 then pv v95.2 (E.p.load 3 v95.1 v95.2) else some (.tup [], v95.2)).bind fun v97 =>
      (wantV v89 false).bind fun v98 =>
      (bif v98 then pv v97.2 (E.p.bin .eql 3 v93.1 v97.1) else some (.tup [], v97.2)).bind fun v99 =>
      (E.p.pick v89 (.bool true) v99.1).bind fun v100 =>
      condP v100
       (
        K .ret (sr_4 (.bool false) v99.2))
       (
        (E.p.bin .add 3 x5 (.int .i64 1)).bind fun v101 =>
        K .normal (st0 x0 x1 v101 v99.2)))
     (
      K (.exit 0) (se0_0_1_5_10 x0 x1 x5 v57 h))
theorem body0_eq (E : Env) (K : PX → St → Res) (x0 x1 x5 : PV) (h : PHeap) : ev (E.cx Tryd.prog kl) lp0 (st0 x0 x1 x5 h) K = body0 E K x0 x1 x5 h := by kernel_rfl
theorem after0_se0_0_1_5_10 (E : Env) (x0 x1 x5 x10 : PV) (h : PHeap) : K0 E (kTop Tryd.prog Tryd.f15) (.exit 0) (se0_0_1_5_10 x0 x1 x5 x10 h) =
    (E.C fn_spec_l1In [x0, (.int .i64 2), (.int .i64 5)] h).bind fun v47 =>
    (wantV v47.1 true).bind fun v48 =>
    (bif v48 then some (x1, v47.2) else some (.tup [], v47.2)).bind fun v49 =>
    (wantV v47.1 true).bind fun v50 =>
    (bif v50 then pv v49.2 (E.p.len 23 v49.1) else some (.tup [], v49.2)).bind fun v51 =>
    (wantV v47.1 true).bind fun v52 =>
    (bif v52 then pv v51.2 (E.p.bin .leq 3 v51.1 (.int .i64 8)) else some (.tup [], v51.2)).bind fun v53 =>
    (E.p.pick v47.1 v53.1 (.bool false)).bind fun v54 =>
    (resV v54).bind fun v55 =>
    some (v55, v53.2) := by kernel_rfl
theorem top_sr_4 (x4 : PV) (h : PHeap) : kTop Tryd.prog Tryd.f15 .ret (sr_4 x4 h) =
    (resV x4).bind fun v102 =>
    some (v102, h) := by kernel_rfl
noncomputable def main (E : Env) (x0 x1 : PV) (h : PHeap) : Res :=
    loopK (ev (E.cx Tryd.prog spec_WiresOk.kl) spec_WiresOk.lp0) E.lf (spec_WiresOk.st0 x0 x1 (.int .i64 0) h) (spec_WiresOk.K0 E (kTop Tryd.prog Tryd.f15))
theorem main_eq (E : Env) (x0 x1 : PV) (h : PHeap) : runBody (E.cx Tryd.prog kl) Tryd.f15 [x0, x1] h = main E x0 x1 h := by kernel_rfl
theorem call_eq (g : Nat → PV) (lf n : Nat) (x0 x1 : PV) (h : PHeap) : CL g lf (n + 1) fn_spec_WiresOk [x0, x1] h = main (env g lf n) x0 x1 h := by
  rw [← main_eq]
  show call Tryd.prog g KL lf (n + 1) 15 [x0, x1] h = _
  rw [call_succ, Tryd.func15]
  kernel_rfl
end spec_WiresOk
namespace laws_alive
noncomputable def main (E : Env) (h : PHeap) : Res :=
    (E.C fn_impl_BoardOk [(.int .i64 2), (.int .i64 2)] h).bind fun v1 =>
    (wantV v1.1 true).bind fun v2 =>
    (bif v2 then E.C fn_impl_BoardOk [(.int .i64 0), (.int .i64 2)] v1.2 else some (.tup [], v1.2)).bind fun v3 =>
    (wantV v1.1 true).bind fun v4 =>
    (bif v4 then pv v3.2 (E.p.un .not v3.1) else some (.tup [], v3.2)).bind fun v5 =>
    (E.p.pick v1.1 v5.1 (.bool false)).bind fun v6 =>
    (resV v6).bind fun v7 =>
    some (v7, v5.2)
theorem main_eq (E : Env) (h : PHeap) : runBody (E.cx Tryd.prog kl) Tryd.f16 [] h = main E  h := by kernel_rfl
theorem call_eq (g : Nat → PV) (lf n : Nat) (h : PHeap) : CL g lf (n + 1) fn_laws_alive [] h = main (env g lf n)  h := by
  rw [← main_eq]
  show call Tryd.prog g KL lf (n + 1) 16 [] h = _
  rw [call_succ, Tryd.func16]
  kernel_rfl
end laws_alive
namespace spec_DrawLeastCuts
noncomputable def main (E : Env) (x0 : PV) (h : PHeap) : Res :=
    (E.C fn_spec_l20Open [x0] h).bind fun v1 =>
    (E.C fn_spec_l20Wires [v1.1, (.int .i64 9)] v1.2).bind fun v2 =>
    (E.p.extract v2.1 0).bind fun v3 =>
    (E.p.extract v2.1 1).bind fun v4 =>
    (resV v3).bind fun v5 =>
    (resV v4).bind fun v6 =>
    some (.tup [v5, v6], v2.2)
theorem main_eq (E : Env) (x0 : PV) (h : PHeap) : runBody (E.cx Tryd.prog kl) Tryd.f17 [x0] h = main E x0 h := by kernel_rfl
theorem call_eq (g : Nat → PV) (lf n : Nat) (x0 : PV) (h : PHeap) : CL g lf (n + 1) fn_spec_DrawLeastCuts [x0] h = main (env g lf n) x0 h := by
  rw [← main_eq]
  show call Tryd.prog g KL lf (n + 1) 17 [x0] h = _
  rw [call_succ, Tryd.func17]
  kernel_rfl
end spec_DrawLeastCuts
namespace spec_LeastCuts
noncomputable def lp0 : Code := (codeAt (bodyOf Tryd.f18) [1, 1, 1, 0, 1, 0, 0])
def st0 (x0 x1 x5 x6 x7 : PV) (h : PHeap) : St := ⟨[x0, x1, .junk, .junk, .junk, x5, x6, x7, .junk, .junk, .junk, .junk, .junk, .junk, .junk, .junk, .junk, .junk, .junk, .junk, .junk, .junk, .junk, .junk, .junk, .junk, .junk, .junk, .junk, .junk, .junk, .junk, .junk, .junk, .junk, .junk, .junk, .junk, .junk, .junk, .junk, .junk, .junk, .junk, .junk, .junk, .junk, .junk, .junk, .junk, .junk, .junk, .junk, .junk, .junk, .junk, .junk, .junk, .junk, .junk, .junk, .junk, .junk, .junk, .junk, .junk, .junk, .junk], h⟩
noncomputable def lp1 : Code := (codeAt (bodyOf Tryd.f18) [1, 1, 1, 0, 1, 0, 0, 1, 0, 0, 1, 0, 1, 0, 0])
def st1 (x0 x1 x5 x6 x7 x8 x9 : PV) (h : PHeap) : St := ⟨[x0, x1, .junk, .junk, .junk, x5, x6, x7, x8, x9, .junk, .junk, .junk, .junk, .junk, .junk, .junk, .junk, .junk, .junk, .junk, .junk, .junk, .junk, .junk, .junk, .junk, .junk, .junk, .junk, .junk, .junk, .junk, .junk, .junk, .junk, .junk, .junk, .junk, .junk, .junk, .junk, .junk, .junk, .junk, .junk, .junk, .junk, .junk, .junk, .junk, .junk, .junk, .junk, .junk, .junk, .junk, .junk, .junk, .junk, .junk, .junk, .junk, .junk, .junk, .junk, .junk, .junk], h⟩
def se0_0_1_5_6_7_24 (x0 x1 x5 x6 x7 x24 : PV) (h : PHeap) : St := ⟨[x0, x1, .junk, .junk, .junk, x5, x6, x7, .junk, .junk, .junk, .junk, .junk, .junk, .junk, .junk, .junk, .junk, .junk, .junk, .junk, .junk, .junk, .junk, x24, .junk, .junk, .junk, .junk, .junk, .junk, .junk, .junk, .junk, .junk, .junk, .junk, .junk, .junk, .junk, .junk, .junk, .junk, .junk, .junk, .junk, .junk, .junk, .junk, .junk, .junk, .junk, .junk, .junk, .junk, .junk, .junk, .junk, .junk, .junk, .junk, .junk, .junk, .junk, .junk, .junk, .junk, .junk], h⟩
def se2_0_1_5_6_7_8_9_41 (x0 x1 x5 x6 x7 x8 x9 x41 : PV) (h : PHeap) : St := ⟨[x0, x1, .junk, .junk, .junk, x5, x6, x7, x8, x9, .junk, .junk, .junk, .junk, .junk, .junk, .junk, .junk, .junk, .junk, .junk, .junk, .junk, .junk, .junk, .junk, .junk, .junk, .junk, .junk, .junk, .junk, .junk, .junk, .junk, .junk, .junk, .junk, .junk, .junk, .junk, x41, .junk, .junk, .junk, .junk, .junk, .junk, .junk, .junk, .junk, .junk, .junk, .junk, .junk, .junk, .junk, .junk, .junk, .junk, .junk, .junk, .junk, .junk, .junk, .junk, .junk, .junk], h⟩
noncomputable def K0 (E : Env) (K : PX → St → Res) : PX → St → Res := (kBlock 0 (kSeq (ev (E.cx Tryd.prog kl) (codeAt (bodyOf Tryd.f18) [1, 1, 1, 1])) K))
@[simp] theorem K0_ret (E : Env) (K : PX → St → Res) (s : St) : K0 E K .ret s = K .ret s := by kernel_rfl
noncomputable def K1 (E : Env) (K : PX → St → Res) : PX → St → Res := (kBlock 2 (kSeq (ev (E.cx Tryd.prog kl) (codeAt (bodyOf Tryd.f18) [1, 1, 1, 0, 1, 0, 0, 1, 0, 0, 1, 1])) (kBlock 1 (kSeq (ev (E.cx Tryd.prog kl) (codeAt (bodyOf Tryd.f18) [1, 1, 1, 0, 1, 0, 0, 1, 1])) K))))
@[simp] theorem K1_ret (E : Env) (K : PX → St → Res) (s : St) : K1 E K .ret s = K .ret s := by kernel_rfl
noncomputable def body0 (E : Env) (K : PX → St → Res) (x0 x1 x5 x6 x7 : PV) (h : PHeap) : Res :=
    (E.C fn_spec_WiresOk [x0, x1] h).bind fun v59 =>
    (wantV v59.1 true).bind fun v60 =>
    (bif v60 then some (x7, v59.2) else some (.tup [], v59.2)).bind fun v61 =>
    (wantV v59.1 true).bind fun v62 =>
    (bif v62 then some (x1, v61.2) else some (.tup [], v61.2)).bind fun v63 =>
    (wantV v59.1 true).bind fun v64 =>
    (bif v64 then pv v63.2 (E.p.len 23 v63.1) else some (.tup [], v63.2)).bind fun v65 =>
    (wantV v59.1 true).bind fun v66 =>
    (bif v66 then pv v65.2 (E.p.bin .shl 3 (.int .i64 1) v65.1) else some (.tup [], v65.2)).bind fun v67 =>
    (wantV v59.1 true).bind fun v68 =>
    (bif v68 then pv v67.2 (E.p.bin .lss 3 v61.1 v67.1) else some (.tup [], v67.2)).bind fun v69 =>
    (E.p.pick v59.1 v69.1 (.bool false)).bind fun v70 =>
    condP v70
     (
      (E.p.bin .andNot 3 x6 x7).bind fun v71 =>
      (E.C fn_spec_l9Reach [x1, v71, (.int .i64 0)] v69.2).bind fun v72 =>
      (E.p.bin .shr 3 v72.1 (.int .u64 1)).bind fun v73 =>
      (E.p.bin .rem 3 v73 (.int .i64 2)).bind fun v74 =>
      (E.p.bin .eql 3 v74 (.int .i64 0)).bind fun v75 =>
      loopK (ev (E.cx Tryd.prog spec_LeastCuts.kl) spec_LeastCuts.lp1) E.lf (spec_LeastCuts.st1 x0 x1 x5 x6 x7 v75 (.int .i64 0) v72.2) (spec_LeastCuts.K1 E K))
     (
      K (.exit 0) (se0_0_1_5_6_7_24 x0 x1 x5 x6 x7 v70 v69.2))
theorem body0_eq (E : Env) (K : PX → St → Res) (x0 x1 x5 x6 x7 : PV) (h : PHeap) : ev (E.cx Tryd.prog kl) lp0 (st0 x0 x1 x5 x6 x7 h) K = body0 E K x0 x1 x5 x6 x7 h := by kernel_rfl
noncomputable def body1 (E : Env) (K : PX → St → Res) (x0 x1 x5 x6 x7 x8 x9 : PV) (h : PHeap) : Res :=
    (E.p.len 23 x1).bind fun v76 =>
    (E.p.bin .lss 3 x9 v76).bind fun v77 =>
    (wantV v77 true).bind fun v78 =>
    (bif v78 then some (x8, h) else some (.tup [], h)).bind fun v79 =>
    (E.p.pick v77 v79.1 (.bool false)).bind fun v80 =>
    condP v80
     (
      (E.p.bin .shr 3 x7 x9).bind fun v81 =>
      (E.p.bin .rem 3 v81 (.int .i64 2)).bind fun v82 =>
      (E.p.bin .eql 3 v82 (.int .i64 0)).bind fun v83 =>
      (wantV v83 false).bind fun v84 =>
      (bif v84 then some (x1, v79.2) else some (.tup [], v79.2)).bind fun v85 =>
      (wantV v83 false).bind fun v86 =>
      (bif v86 then some (x6, v85.2) else some (.tup [], v85.2)).bind fun v87 =>
      (wantV v83 false).bind fun v88 =>
      (bif v88 then some (x7, v87.2) else some (.tup [], v87.2)).bind fun v89 =>
      (wantV v83 false).bind fun v90 =>
      (bif v90 then pv v89.2 (E.p.bin .andNot 3 v87.1 v89.1) else some (.tup [], v89.2)).bind fun v91 =>
      (wantV v83 false).bind fun v92 =>
      (bif v92 then some (x9, v91.2) else some (.tup [], v91.2)).bind fun v93 =>
      (wantV v83 false).bind fun v94 =>
      (bif v94 then pv v93.2 (E.p.bin .shl 3 (.int .i64 1) v93.1) else some (.tup [], v93.2)).bind fun v95 =>
      (wantV v83 false).bind fun v96 =>
      (bif v96 then pv v95.2 (E.p.bin .or 3 v91.1 v95.1) else some (.tup [], v95.2)).bind fun v97 =>
      (wantV v83 false).bind fun v98 =>
      (bif v98 then E.C fn_spec_l9Reach [v85.1, v97.1, (.int .i64 0)] v97.2 else some (.tup [], v97.2)).bind fun v99 =>
      (wantV v83 false).bind fun v100 =>
      (bif v100 then pv v99.2 (E.p.bin .shr 3 v99.1 (.int .u64 1)) else some (.tup [], v99.2)).bind fun v101 =>
      (wantV v83 false).bind fun v102 =>
      (bif v102 then pv v101.2 (E.p.bin .rem 3 v101.1 (.int .i64 2)) else some (.tup [], v101.2)).bind fun v103 =>
      (wantV v83 false).bind fun v104 =>
      (bif v104 then pv v103.2 (E.p.bin .eql 3 v103.1 (.int .i64 1)) else some (.tup [], v103.2)).bind fun v105 =>
      (E.p.pick v83 (.bool true) v105.1).bind fun v106 =>
      (E.p.bin .add 3 x9 (.int .i64 1)).bind fun v107 =>
      K .normal (st1 x0 x1 x5 x6 x7 v106 v107 v105.2))
     (
      K (.exit 2) (se2_0_1_5_6_7_8_9_41 x0 x1 x5 x6 x7 x8 x9 v80 v79.2))
theorem body1_eq (E : Env) (K : PX → St → Res) (x0 x1 x5 x6 x7 x8 x9 : PV) (h : PHeap) : ev (E.cx Tryd.prog kl) lp1 (st1 x0 x1 x5 x6 x7 x8 x9 h) K = body1 E K x0 x1 x5 x6 x7 x8 x9 h := by kernel_rfl
theorem after0_se0_0_1_5_6_7_24 (E : Env) (x0 x1 x5 x6 x7 x24 : PV) (h : PHeap) : K0 E (kTop Tryd.prog Tryd.f18) (.exit 0) (se0_0_1_5_6_7_24 x0 x1 x5 x6 x7 x24 h) =
    (resV x5).bind fun v54 =>
    some (v54, h) := by kernel_rfl
theorem after1_se2_0_1_5_6_7_8_9_41 (E : Env) (K : PX → St → Res) (x0 x1 x5 x6 x7 x8 x9 x41 : PV) (h : PHeap) : K1 E K (.exit 2) (se2_0_1_5_6_7_8_9_41 x0 x1 x5 x6 x7 x8 x9 x41 h) =
    condP x8
     (
      (E.p.buildSlice 26 1 [(0, x7)] h).bind fun v55 =>
      (E.p.append 26 26 x5 v55.1 v55.2).bind fun v56 =>
      (E.p.bin .add 3 x7 (.int .i64 1)).bind fun v57 =>
      K .normal (st0 x0 x1 v56.1 x6 v57 v56.2))
     (
      (E.p.bin .add 3 x7 (.int .i64 1)).bind fun v58 =>
      K .normal (st0 x0 x1 x5 x6 v58 h)) := by kernel_rfl
noncomputable def main (E : Env) (x0 x1 : PV) (h : PHeap) : Res :=
    (E.p.buildSlice 26 0 [] h).bind fun v1 =>
    (E.p.len 23 x1).bind fun v2 =>
    (E.p.bin .shl 3 (.int .i64 1) v2).bind fun v3 =>
    (E.p.bin .sub 3 v3 (.int .i64 1)).bind fun v4 =>
    loopK (ev (E.cx Tryd.prog spec_LeastCuts.kl) spec_LeastCuts.lp0) E.lf (spec_LeastCuts.st0 x0 x1 v1.1 v4 (.int .i64 0) v1.2) (spec_LeastCuts.K0 E (kTop Tryd.prog Tryd.f18))
theorem main_eq (E : Env) (x0 x1 : PV) (h : PHeap) : runBody (E.cx Tryd.prog kl) Tryd.f18 [x0, x1] h = main E x0 x1 h := by kernel_rfl
theorem call_eq (g : Nat → PV) (lf n : Nat) (x0 x1 : PV) (h : PHeap) : CL g lf (n + 1) fn_spec_LeastCuts [x0, x1] h = main (env g lf n) x0 x1 h := by
  rw [← main_eq]
  show call Tryd.prog g KL lf (n + 1) 18 [x0, x1] h = _
  rw [call_succ, Tryd.func18]
  kernel_rfl
end spec_LeastCuts
namespace spec_DrawWireGap
noncomputable def main (E : Env) (x0 : PV) (h : PHeap) : Res :=
    (E.C fn_spec_l20Open [x0] h).bind fun v1 =>
    (E.C fn_spec_l20Owned [v1.1, (.int .i64 12)] v1.2).bind fun v2 =>
    (E.p.extract v2.1 0).bind fun v3 =>
    (E.p.extract v2.1 1).bind fun v4 =>
    (E.p.extract v2.1 2).bind fun v5 =>
    (resV v3).bind fun v6 =>
    (resV v4).bind fun v7 =>
    (resV v5).bind fun v8 =>
    some (.tup [v6, v7, v8], v2.2)
theorem main_eq (E : Env) (x0 : PV) (h : PHeap) : runBody (E.cx Tryd.prog kl) Tryd.f19 [x0] h = main E x0 h := by kernel_rfl
theorem call_eq (g : Nat → PV) (lf n : Nat) (x0 : PV) (h : PHeap) : CL g lf (n + 1) fn_spec_DrawWireGap [x0] h = main (env g lf n) x0 h := by
  rw [← main_eq]
  show call Tryd.prog g KL lf (n + 1) 19 [x0] h = _
  rw [call_succ, Tryd.func19]
  kernel_rfl
end spec_DrawWireGap
namespace impl_WireGap
noncomputable def lp0 : Code := (codeAt (bodyOf Tryd.f20) [1, 1, 1, 0, 1, 0, 0])
def st0 (x1 x7 x19 x20 x21 : PV) (h : PHeap) : St := ⟨[.junk, x1, .junk, .junk, .junk, .junk, .junk, x7, .junk, .junk, .junk, .junk, .junk, .junk, .junk, .junk, .junk, .junk, .junk, x19, x20, x21, .junk, .junk, .junk, .junk, .junk, .junk, .junk, .junk, .junk, .junk, .junk], h⟩
def sr_6 (x6 : PV) (h : PHeap) : St := ⟨[.junk, .junk, .junk, .junk, .junk, .junk, x6, .junk, .junk, .junk, .junk, .junk, .junk, .junk, .junk, .junk, .junk, .junk, .junk, .junk, .junk, .junk, .junk, .junk, .junk, .junk, .junk, .junk, .junk, .junk, .junk, .junk, .junk], h⟩
def se0_1_7_19_20_21_22 (x1 x7 x19 x20 x21 x22 : PV) (h : PHeap) : St := ⟨[.junk, x1, .junk, .junk, .junk, .junk, .junk, x7, .junk, .junk, .junk, .junk, .junk, .junk, .junk, .junk, .junk, .junk, .junk, x19, x20, x21, x22, .junk, .junk, .junk, .junk, .junk, .junk, .junk, .junk, .junk, .junk], h⟩
noncomputable def K0 (E : Env) (K : PX → St → Res) : PX → St → Res := (kBlock 0 (kSeq (ev (E.cx Tryd.prog kl) (codeAt (bodyOf Tryd.f20) [1, 1, 1, 1])) K))
@[simp] theorem K0_ret (E : Env) (K : PX → St → Res) (s : St) : K0 E K .ret s = K .ret s := by kernel_rfl
noncomputable def body0 (E : Env) (K : PX → St → Res) (x1 x7 x19 x20 x21 : PV) (h : PHeap) : Res :=
    (E.p.bin .lss 3 x21 x20).bind fun v16 =>
    condP v16
     (
      (E.p.indexAddr 26 x19 x21).bind fun v17 =>
      (E.p.load 3 v17 h).bind fun v18 =>
      (E.p.bin .or 3 x7 v18).bind fun v19 =>
      (E.C fn_impl_linked [x1, v19] h).bind fun v20 =>
      condP v20.1
       (
        (E.C fn_impl_countIn [v18] v20.2).bind fun v21 =>
        K .ret (sr_6 v21.1 v21.2))
       (
        (E.p.bin .add 3 x21 (.int .i64 1)).bind fun v22 =>
        K .normal (st0 x1 x7 x19 x20 v22 v20.2)))
     (
      K (.exit 0) (se0_1_7_19_20_21_22 x1 x7 x19 x20 x21 v16 h))
theorem body0_eq (E : Env) (K : PX → St → Res) (x1 x7 x19 x20 x21 : PV) (h : PHeap) : ev (E.cx Tryd.prog kl) lp0 (st0 x1 x7 x19 x20 x21 h) K = body0 E K x1 x7 x19 x20 x21 h := by kernel_rfl
theorem after0_se0_1_7_19_20_21_22 (E : Env) (x1 x7 x19 x20 x21 x22 : PV) (h : PHeap) : K0 E (kTop Tryd.prog Tryd.f20) (.exit 0) (se0_1_7_19_20_21_22 x1 x7 x19 x20 x21 x22 h) =
    (resV (.int .i64 (-1))).bind fun v15 =>
    some (v15, h) := by kernel_rfl
theorem top_sr_6 (x6 : PV) (h : PHeap) : kTop Tryd.prog Tryd.f20 .ret (sr_6 x6 h) =
    (resV x6).bind fun v23 =>
    some (v23, h) := by kernel_rfl
noncomputable def main (E : Env) (x0 x1 x2 : PV) (h : PHeap) : Res :=
    (E.C fn_impl_OwnersOk [x0, x1, x2] h).bind fun v1 =>
    (E.p.un .not v1.1).bind fun v2 =>
    condP v2
     (
      (resV (.int .i64 (-1))).bind fun v3 =>
      some (v3, v1.2))
     (
      (E.C fn_impl_setOf [x2, (.int .i64 1)] v1.2).bind fun v4 =>
      (E.C fn_impl_setOf [x2, (.int .i64 0)] v4.2).bind fun v5 =>
      (E.C fn_impl_partsBySize [v5.1] v5.2).bind fun v6 =>
      (E.p.len 26 v6.1).bind fun v7 =>
      loopK (ev (E.cx Tryd.prog impl_WireGap.kl) impl_WireGap.lp0) E.lf (impl_WireGap.st0 x1 v4.1 v6.1 v7 (.int .i64 0) v6.2) (impl_WireGap.K0 E (kTop Tryd.prog Tryd.f20)))
theorem main_eq (E : Env) (x0 x1 x2 : PV) (h : PHeap) : runBody (E.cx Tryd.prog kl) Tryd.f20 [x0, x1, x2] h = main E x0 x1 x2 h := by kernel_rfl
theorem call_eq (g : Nat → PV) (lf n : Nat) (x0 x1 x2 : PV) (h : PHeap) : CL g lf (n + 1) fn_impl_WireGap [x0, x1, x2] h = main (env g lf n) x0 x1 x2 h := by
  rw [← main_eq]
  show call Tryd.prog g KL lf (n + 1) 20 [x0, x1, x2] h = _
  rw [call_succ, Tryd.func20]
  kernel_rfl
end impl_WireGap
namespace spec_WireGap
noncomputable def lp0 : Code := (codeAt (bodyOf Tryd.f21) [1, 1, 1, 1, 1, 0, 1, 0, 0])
def st0 (x0 x1 x7 x8 x9 x10 : PV) (h : PHeap) : St := ⟨[x0, x1, .junk, .junk, .junk, .junk, .junk, x7, x8, x9, x10, .junk, .junk, .junk, .junk, .junk, .junk, .junk, .junk, .junk, .junk, .junk, .junk, .junk, .junk, .junk, .junk, .junk, .junk, .junk, .junk, .junk, .junk, .junk, .junk, .junk, .junk, .junk, .junk, .junk, .junk, .junk, .junk, .junk, .junk, .junk, .junk, .junk, .junk, .junk, .junk, .junk, .junk, .junk, .junk, .junk, .junk, .junk, .junk, .junk, .junk, .junk, .junk, .junk, .junk, .junk, .junk, .junk, .junk, .junk, .junk, .junk, .junk, .junk, .junk, .junk, .junk, .junk, .junk, .junk, .junk, .junk, .junk, .junk, .junk, .junk, .junk, .junk, .junk, .junk, .junk, .junk, .junk, .junk, .junk, .junk, .junk, .junk, .junk, .junk, .junk, .junk, .junk], h⟩
noncomputable def lp1 : Code := (codeAt (bodyOf Tryd.f21) [1, 1, 1, 1, 1, 0, 1, 0, 0, 1, 0, 0, 1, 1, 0, 1, 0, 0])
def st1 (x0 x1 x7 x8 x9 x10 x11 x12 : PV) (h : PHeap) : St := ⟨[x0, x1, .junk, .junk, .junk, .junk, .junk, x7, x8, x9, x10, x11, x12, .junk, .junk, .junk, .junk, .junk, .junk, .junk, .junk, .junk, .junk, .junk, .junk, .junk, .junk, .junk, .junk, .junk, .junk, .junk, .junk, .junk, .junk, .junk, .junk, .junk, .junk, .junk, .junk, .junk, .junk, .junk, .junk, .junk, .junk, .junk, .junk, .junk, .junk, .junk, .junk, .junk, .junk, .junk, .junk, .junk, .junk, .junk, .junk, .junk, .junk, .junk, .junk, .junk, .junk, .junk, .junk, .junk, .junk, .junk, .junk, .junk, .junk, .junk, .junk, .junk, .junk, .junk, .junk, .junk, .junk, .junk, .junk, .junk, .junk, .junk, .junk, .junk, .junk, .junk, .junk, .junk, .junk, .junk, .junk, .junk, .junk, .junk, .junk, .junk, .junk], h⟩
noncomputable def lp2 : Code := (codeAt (bodyOf Tryd.f21) [1, 1, 1, 1, 1, 0, 1, 0, 0, 1, 0, 0, 1, 1, 1, 0, 1, 0, 0])
def st2 (x0 x1 x7 x8 x9 x10 x11 x13 : PV) (h : PHeap) : St := ⟨[x0, x1, .junk, .junk, .junk, .junk, .junk, x7, x8, x9, x10, x11, .junk, x13, .junk, .junk, .junk, .junk, .junk, .junk, .junk, .junk, .junk, .junk, .junk, .junk, .junk, .junk, .junk, .junk, .junk, .junk, .junk, .junk, .junk, .junk, .junk, .junk, .junk, .junk, .junk, .junk, .junk, .junk, .junk, .junk, .junk, .junk, .junk, .junk, .junk, .junk, .junk, .junk, .junk, .junk, .junk, .junk, .junk, .junk, .junk, .junk, .junk, .junk, .junk, .junk, .junk, .junk, .junk, .junk, .junk, .junk, .junk, .junk, .junk, .junk, .junk, .junk, .junk, .junk, .junk, .junk, .junk, .junk, .junk, .junk, .junk, .junk, .junk, .junk, .junk, .junk, .junk, .junk, .junk, .junk, .junk, .junk, .junk, .junk, .junk, .junk, .junk], h⟩
def sr_6 (x6 : PV) (h : PHeap) : St := ⟨[.junk, .junk, .junk, .junk, .junk, .junk, x6, .junk, .junk, .junk, .junk, .junk, .junk, .junk, .junk, .junk, .junk, .junk, .junk, .junk, .junk, .junk, .junk, .junk, .junk, .junk, .junk, .junk, .junk, .junk, .junk, .junk, .junk, .junk, .junk, .junk, .junk, .junk, .junk, .junk, .junk, .junk, .junk, .junk, .junk, .junk, .junk, .junk, .junk, .junk, .junk, .junk, .junk, .junk, .junk, .junk, .junk, .junk, .junk, .junk, .junk, .junk, .junk, .junk, .junk, .junk, .junk, .junk, .junk, .junk, .junk, .junk, .junk, .junk, .junk, .junk, .junk, .junk, .junk, .junk, .junk, .junk, .junk, .junk, .junk, .junk, .junk, .junk, .junk, .junk, .junk, .junk, .junk, .junk, .junk, .junk, .junk, .junk, .junk, .junk, .junk, .junk, .junk], h⟩
def se0_0_1_7_8_9_10_29 (x0 x1 x7 x8 x9 x10 x29 : PV) (h : PHeap) : St := ⟨[x0, x1, .junk, .junk, .junk, .junk, .junk, x7, x8, x9, x10, .junk, .junk, .junk, .junk, .junk, .junk, .junk, .junk, .junk, .junk, .junk, .junk, .junk, .junk, .junk, .junk, .junk, .junk, x29, .junk, .junk, .junk, .junk, .junk, .junk, .junk, .junk, .junk, .junk, .junk, .junk, .junk, .junk, .junk, .junk, .junk, .junk, .junk, .junk, .junk, .junk, .junk, .junk, .junk, .junk, .junk, .junk, .junk, .junk, .junk, .junk, .junk, .junk, .junk, .junk, .junk, .junk, .junk, .junk, .junk, .junk, .junk, .junk, .junk, .junk, .junk, .junk, .junk, .junk, .junk, .junk, .junk, .junk, .junk, .junk, .junk, .junk, .junk, .junk, .junk, .junk, .junk, .junk, .junk, .junk, .junk, .junk, .junk, .junk, .junk, .junk, .junk], h⟩
def se2_0_1_7_8_9_10_11_12_41 (x0 x1 x7 x8 x9 x10 x11 x12 x41 : PV) (h : PHeap) : St := ⟨[x0, x1, .junk, .junk, .junk, .junk, .junk, x7, x8, x9, x10, x11, x12, .junk, .junk, .junk, .junk, .junk, .junk, .junk, .junk, .junk, .junk, .junk, .junk, .junk, .junk, .junk, .junk, .junk, .junk, .junk, .junk, .junk, .junk, .junk, .junk, .junk, .junk, .junk, .junk, x41, .junk, .junk, .junk, .junk, .junk, .junk, .junk, .junk, .junk, .junk, .junk, .junk, .junk, .junk, .junk, .junk, .junk, .junk, .junk, .junk, .junk, .junk, .junk, .junk, .junk, .junk, .junk, .junk, .junk, .junk, .junk, .junk, .junk, .junk, .junk, .junk, .junk, .junk, .junk, .junk, .junk, .junk, .junk, .junk, .junk, .junk, .junk, .junk, .junk, .junk, .junk, .junk, .junk, .junk, .junk, .junk, .junk, .junk, .junk, .junk, .junk], h⟩
def se4_0_1_7_8_9_10_11_13_85 (x0 x1 x7 x8 x9 x10 x11 x13 x85 : PV) (h : PHeap) : St := ⟨[x0, x1, .junk, .junk, .junk, .junk, .junk, x7, x8, x9, x10, x11, .junk, x13, .junk, .junk, .junk, .junk, .junk, .junk, .junk, .junk, .junk, .junk, .junk, .junk, .junk, .junk, .junk, .junk, .junk, .junk, .junk, .junk, .junk, .junk, .junk, .junk, .junk, .junk, .junk, .junk, .junk, .junk, .junk, .junk, .junk, .junk, .junk, .junk, .junk, .junk, .junk, .junk, .junk, .junk, .junk, .junk, .junk, .junk, .junk, .junk, .junk, .junk, .junk, .junk, .junk, .junk, .junk, .junk, .junk, .junk, .junk, .junk, .junk, .junk, .junk, .junk, .junk, .junk, .junk, .junk, .junk, .junk, .junk, x85, .junk, .junk, .junk, .junk, .junk, .junk, .junk, .junk, .junk, .junk, .junk, .junk, .junk, .junk, .junk, .junk, .junk], h⟩
noncomputable def K0 (E : Env) (K : PX → St → Res) : PX → St → Res := (kBlock 0 (kSeq (ev (E.cx Tryd.prog kl) (codeAt (bodyOf Tryd.f21) [1, 1, 1, 1, 1, 1])) K))
@[simp] theorem K0_ret (E : Env) (K : PX → St → Res) (s : St) : K0 E K .ret s = K .ret s := by kernel_rfl
noncomputable def K1 (E : Env) (K : PX → St → Res) : PX → St → Res := (kBlock 2 (kSeq (ev (E.cx Tryd.prog kl) (codeAt (bodyOf Tryd.f21) [1, 1, 1, 1, 1, 0, 1, 0, 0, 1, 0, 0, 1, 1, 1])) (kBlock 1 (kSeq (ev (E.cx Tryd.prog kl) (codeAt (bodyOf Tryd.f21) [1, 1, 1, 1, 1, 0, 1, 0, 0, 1, 1])) K))))
@[simp] theorem K1_ret (E : Env) (K : PX → St → Res) (s : St) : K1 E K .ret s = K .ret s := by kernel_rfl
noncomputable def K2 (E : Env) (K : PX → St → Res) : PX → St → Res := (kBlock 4 (kSeq (ev (E.cx Tryd.prog kl) (codeAt (bodyOf Tryd.f21) [1, 1, 1, 1, 1, 0, 1, 0, 0, 1, 0, 0, 1, 1, 1, 1])) (kBlock 1 (kSeq (ev (E.cx Tryd.prog kl) (codeAt (bodyOf Tryd.f21) [1, 1, 1, 1, 1, 0, 1, 0, 0, 1, 1])) K))))
@[simp] theorem K2_ret (E : Env) (K : PX → St → Res) (s : St) : K2 E K .ret s = K .ret s := by kernel_rfl
noncomputable def body0 (E : Env) (K : PX → St → Res) (x0 x1 x7 x8 x9 x10 : PV) (h : PHeap) : Res :=
    (E.p.len 23 x1).bind fun v75 =>
    (E.p.bin .leq 3 x10 v75).bind fun v76 =>
    condP v76
     (
      (E.p.bin .shr 3 x9 (.int .u64 1)).bind fun v77 =>
      (E.p.bin .rem 3 v77 (.int .i64 2)).bind fun v78 =>
      (E.p.bin .eql 3 v78 (.int .i64 1)).bind fun v79 =>
      condP v79
       (
        K .ret (sr_6 x10 h))
       (
        loopK (ev (E.cx Tryd.prog spec_WireGap.kl) spec_WireGap.lp1) E.lf (spec_WireGap.st1 x0 x1 x7 x8 x9 x10 x9 (.int .i64 0) h) (spec_WireGap.K1 E K)))
     (
      K (.exit 0) (se0_0_1_7_8_9_10_29 x0 x1 x7 x8 x9 x10 v76 h))
theorem body0_eq (E : Env) (K : PX → St → Res) (x0 x1 x7 x8 x9 x10 : PV) (h : PHeap) : ev (E.cx Tryd.prog kl) lp0 (st0 x0 x1 x7 x8 x9 x10 h) K = body0 E K x0 x1 x7 x8 x9 x10 h := by kernel_rfl
noncomputable def body1 (E : Env) (K : PX → St → Res) (x0 x1 x7 x8 x9 x10 x11 x12 : PV) (h : PHeap) : Res :=
    (E.p.len 23 x1).bind fun v80 =>
    (E.p.bin .lss 3 x12 v80).bind fun v81 =>
    condP v81
     (
      (E.p.bin .shr 3 x8 x12).bind fun v82 =>
      (E.p.bin .rem 3 v82 (.int .i64 2)).bind fun v83 =>
      (E.p.bin .eql 3 v83 (.int .i64 1)).bind fun v84 =>
      (wantV v84 true).bind fun v85 =>
      (bif v85 then some (x9, h) else some (.tup [], h)).bind fun v86 =>
      (wantV v84 true).bind fun v87 =>
      (bif v87 then some (x1, v86.2) else some (.tup [], v86.2)).bind fun v88 =>
      (wantV v84 true).bind fun v89 =>
      (bif v89 then some (x12, v88.2) else some (.tup [], v88.2)).bind fun v90 =>
      (wantV v84 true).bind fun v91 =>
      (bif v91 then pv v90.2 (E.p.indexAddr 23 v88.1 v90.1) else some (.tup [], v90.2)).bind fun v92 =>
      (wantV v84 true).bind fun v93 =>
      (bif v93 then pv v92.2 (E.p.fieldAddr 41 v92.1 0) else some (.tup [], v92.2)).bind fun v94 =>
      (wantV v84 true).bind fun v95 =>
      (bif v95 then pv v94.2 (E.p.load 3 v94.1 v94.2) else some (.tup [], v94.2)).bind fun v96 =>
      (wantV v84 true).bind fun v97 =>
      (bif v97 then pv v96.2 (E.p.bin .shr 3 v86.1 v96.1) else some (.tup [], v96.2)).bind fun v98 =>
      (wantV v84 true).bind fun v99 =>
      (bif v99 then pv v98.2 (E.p.bin .rem 3 v98.1 (.int .i64 2)) else some (.tup [], v98.2)).bind fun v100 =>
      (wantV v84 true).bind fun v101 =>
      (bif v101 then some (x9, v100.2) else some (.tup [], v100.2)).bind fun v102 =>
      (wantV v84 true).bind fun v103 =>
      (bif v103 then some (x1, v102.2) else some (.tup [], v102.2)).bind fun v104 =>
      (wantV v84 true).bind fun v105 =>
      (bif v105 then some (x12, v104.2) else some (.tup [], v104.2)).bind fun v106 =>
      (wantV v84 true).bind fun v107 =>
      (bif v107 then pv v106.2 (E.p.indexAddr 23 v104.1 v106.1) else some (.tup [], v106.2)).bind fun v108 =>
      (wantV v84 true).bind fun v109 =>
      (bif v109 then pv v108.2 (E.p.fieldAddr 41 v108.1 1) else some (.tup [], v108.2)).bind fun v110 =>
      (wantV v84 true).bind fun v111 =>
      (bif v111 then pv v110.2 (E.p.load 3 v110.1 v110.2) else some (.tup [], v110.2)).bind fun v112 =>
      (wantV v84 true).bind fun v113 =>
      (bif v113 then pv v112.2 (E.p.bin .shr 3 v102.1 v112.1) else some (.tup [], v112.2)).bind fun v114 =>
      (wantV v84 true).bind fun v115 =>
      (bif v115 then pv v114.2 (E.p.bin .rem 3 v114.1 (.int .i64 2)) else some (.tup [], v114.2)).bind fun v116 =>
      (wantV v84 true).bind fun v117 =>
      (bif v117 then pv v116.2 (E.p.bin .neq 3 v100.1 v116.1) else some (.tup [], v116.2)).bind fun v118 =>
      (E.p.pick v84 v118.1 (.bool false)).bind fun v119 =>
      condP v119
       (
        (E.p.indexAddr 23 x1 x12).bind fun v120 =>
        (E.p.fieldAddr 41 v120 0).bind fun v121 =>
        (E.p.load 3 v121 v118.2).bind fun v122 =>
        (E.p.bin .shl 3 (.int .i64 1) v122).bind fun v123 =>
        (E.p.bin .or 3 x11 v123).bind fun v124 =>
        (E.p.indexAddr 23 x1 x12).bind fun v125 =>
        (E.p.fieldAddr 41 v125 1).bind fun v126 =>
        (E.p.load 3 v126 v118.2).bind fun v127 =>
        (E.p.bin .shl 3 (.int .i64 1) v127).bind fun v128 =>
        (E.p.bin .or 3 v124 v128).bind fun v129 =>
        (E.p.bin .add 3 x12 (.int .i64 1)).bind fun v130 =>
        K .normal (st1 x0 x1 x7 x8 x9 x10 v129 v130 v118.2))
       (
        (E.p.bin .add 3 x12 (.int .i64 1)).bind fun v131 =>
        K .normal (st1 x0 x1 x7 x8 x9 x10 x11 v131 v118.2)))
     (
      K (.exit 2) (se2_0_1_7_8_9_10_11_12_41 x0 x1 x7 x8 x9 x10 x11 x12 v81 h))
theorem body1_eq (E : Env) (K : PX → St → Res) (x0 x1 x7 x8 x9 x10 x11 x12 : PV) (h : PHeap) : ev (E.cx Tryd.prog kl) lp1 (st1 x0 x1 x7 x8 x9 x10 x11 x12 h) K = body1 E K x0 x1 x7 x8 x9 x10 x11 x12 h := by kernel_rfl
noncomputable def body2 (E : Env) (K : PX → St → Res) (x0 x1 x7 x8 x9 x10 x11 x13 : PV) (h : PHeap) : Res :=
    (E.p.bin .lss 3 x13 x0).bind fun v132 =>
    condP v132
     (
      (E.p.bin .shr 3 x11 x13).bind fun v133 =>
      (E.p.bin .rem 3 v133 (.int .i64 2)).bind fun v134 =>
      (E.p.bin .eql 3 v134 (.int .i64 1)).bind fun v135 =>
      condP v135
       (
        (E.C fn_spec_l9Reach [x1, x7, x13] h).bind fun v136 =>
        (E.p.bin .or 3 x11 v136.1).bind fun v137 =>
        (E.p.bin .add 3 x13 (.int .i64 1)).bind fun v138 =>
        K .normal (st2 x0 x1 x7 x8 x9 x10 v137 v138 v136.2))
       (
        (E.p.bin .add 3 x13 (.int .i64 1)).bind fun v139 =>
        K .normal (st2 x0 x1 x7 x8 x9 x10 x11 v139 h)))
     (
      K (.exit 4) (se4_0_1_7_8_9_10_11_13_85 x0 x1 x7 x8 x9 x10 x11 x13 v132 h))
theorem body2_eq (E : Env) (K : PX → St → Res) (x0 x1 x7 x8 x9 x10 x11 x13 : PV) (h : PHeap) : ev (E.cx Tryd.prog kl) lp2 (st2 x0 x1 x7 x8 x9 x10 x11 x13 h) K = body2 E K x0 x1 x7 x8 x9 x10 x11 x13 h := by kernel_rfl
theorem after0_se0_0_1_7_8_9_10_29 (E : Env) (x0 x1 x7 x8 x9 x10 x29 : PV) (h : PHeap) : K0 E (kTop Tryd.prog Tryd.f21) (.exit 0) (se0_0_1_7_8_9_10_29 x0 x1 x7 x8 x9 x10 x29 h) =
    (resV (.int .i64 (-1))).bind fun v64 =>
    some (v64, h) := by kernel_rfl
theorem after1_se2_0_1_7_8_9_10_11_12_41 (E : Env) (K : PX → St → Res) (x0 x1 x7 x8 x9 x10 x11 x12 x41 : PV) (h : PHeap) : K1 E K (.exit 2) (se2_0_1_7_8_9_10_11_12_41 x0 x1 x7 x8 x9 x10 x11 x12 x41 h) =
    loopK (ev (E.cx Tryd.prog spec_WireGap.kl) spec_WireGap.lp2) E.lf (spec_WireGap.st2 x0 x1 x7 x8 x9 x10 x11 (.int .i64 0) h) (spec_WireGap.K2 E K) := by kernel_rfl
theorem after2_se4_0_1_7_8_9_10_11_13_85 (E : Env) (K : PX → St → Res) (x0 x1 x7 x8 x9 x10 x11 x13 x85 : PV) (h : PHeap) : K2 E K (.exit 4) (se4_0_1_7_8_9_10_11_13_85 x0 x1 x7 x8 x9 x10 x11 x13 x85 h) =
    (E.p.bin .eql 3 x11 x9).bind fun v73 =>
    condP v73
     (
      K .ret (sr_6 (.int .i64 (-1)) h))
     (
      (E.p.bin .add 3 x10 (.int .i64 1)).bind fun v74 =>
      K .normal (st0 x0 x1 x7 x8 x11 v74 h)) := by kernel_rfl
theorem top_sr_6 (x6 : PV) (h : PHeap) : kTop Tryd.prog Tryd.f21 .ret (sr_6 x6 h) =
    (resV x6).bind fun v140 =>
    some (v140, h) := by kernel_rfl
noncomputable def main (E : Env) (x0 x1 x2 : PV) (h : PHeap) : Res :=
    (E.C fn_spec_OwnersOk [x0, x1, x2] h).bind fun v1 =>
    (E.p.un .not v1.1).bind fun v2 =>
    condP v2
     (
      (resV (.int .i64 (-1))).bind fun v3 =>
      some (v3, v1.2))
     (
      (E.C fn_spec_l2Set [x2, (.int .i64 1)] v1.2).bind fun v4 =>
      (E.C fn_spec_l2Set [x2, (.int .i64 0)] v4.2).bind fun v5 =>
      (E.C fn_spec_l9Reach [x1, v4.1, (.int .i64 0)] v5.2).bind fun v6 =>
      loopK (ev (E.cx Tryd.prog spec_WireGap.kl) spec_WireGap.lp0) E.lf (spec_WireGap.st0 x0 x1 v4.1 v5.1 v6.1 (.int .i64 0) v6.2) (spec_WireGap.K0 E (kTop Tryd.prog Tryd.f21)))
theorem main_eq (E : Env) (x0 x1 x2 : PV) (h : PHeap) : runBody (E.cx Tryd.prog kl) Tryd.f21 [x0, x1, x2] h = main E x0 x1 x2 h := by kernel_rfl
theorem call_eq (g : Nat → PV) (lf n : Nat) (x0 x1 x2 : PV) (h : PHeap) : CL g lf (n + 1) fn_spec_WireGap [x0, x1, x2] h = main (env g lf n) x0 x1 x2 h := by
  rw [← main_eq]
  show call Tryd.prog g KL lf (n + 1) 21 [x0, x1, x2] h = _
  rw [call_succ, Tryd.func21]
  kernel_rfl
end spec_WireGap
namespace spec_OwnersOk
noncomputable def lp0 : Code := (codeAt (bodyOf Tryd.f22) [1, 0, 1, 0, 0])
def st0 (x0 x1 x2 x7 : PV) (h : PHeap) : St := ⟨[x0, x1, x2, .junk, .junk, .junk, .junk, x7, .junk, .junk, .junk, .junk, .junk, .junk, .junk, .junk, .junk, .junk, .junk, .junk, .junk, .junk, .junk, .junk, .junk, .junk, .junk, .junk, .junk, .junk], h⟩
def sr_6 (x6 : PV) (h : PHeap) : St := ⟨[.junk, .junk, .junk, .junk, .junk, .junk, x6, .junk, .junk, .junk, .junk, .junk, .junk, .junk, .junk, .junk, .junk, .junk, .junk, .junk, .junk, .junk, .junk, .junk, .junk, .junk, .junk, .junk, .junk, .junk], h⟩
def se0_0_1_2_7_11 (x0 x1 x2 x7 x11 : PV) (h : PHeap) : St := ⟨[x0, x1, x2, .junk, .junk, .junk, .junk, x7, .junk, .junk, .junk, x11, .junk, .junk, .junk, .junk, .junk, .junk, .junk, .junk, .junk, .junk, .junk, .junk, .junk, .junk, .junk, .junk, .junk, .junk], h⟩
noncomputable def K0 (E : Env) (K : PX → St → Res) : PX → St → Res := (kBlock 0 (kSeq (ev (E.cx Tryd.prog kl) (codeAt (bodyOf Tryd.f22) [1, 1])) K))
@[simp] theorem K0_ret (E : Env) (K : PX → St → Res) (s : St) : K0 E K .ret s = K .ret s := by kernel_rfl
noncomputable def body0 (E : Env) (K : PX → St → Res) (x0 x1 x2 x7 : PV) (h : PHeap) : Res :=
    (E.p.len 26 x2).bind fun v21 =>
    (E.p.bin .lss 3 x7 v21).bind fun v22 =>
    condP v22
     (
      (E.p.indexAddr 26 x2 x7).bind fun v23 =>
      (E.p.load 3 v23 h).bind fun v24 =>
      (E.C fn_spec_l1In [v24, (.int .i64 0), (.int .i64 2)] h).bind fun v25 =>
      (E.p.un .not v25.1).bind fun v26 =>
      condP v26
       (
        K .ret (sr_6 (.bool false) v25.2))
       (
        (E.p.bin .add 3 x7 (.int .i64 1)).bind fun v27 =>
        K .normal (st0 x0 x1 x2 v27 v25.2)))
     (
      K (.exit 0) (se0_0_1_2_7_11 x0 x1 x2 x7 v22 h))
theorem body0_eq (E : Env) (K : PX → St → Res) (x0 x1 x2 x7 : PV) (h : PHeap) : ev (E.cx Tryd.prog kl) lp0 (st0 x0 x1 x2 x7 h) K = body0 E K x0 x1 x2 x7 h := by kernel_rfl
theorem after0_se0_0_1_2_7_11 (E : Env) (x0 x1 x2 x7 x11 : PV) (h : PHeap) : K0 E (kTop Tryd.prog Tryd.f22) (.exit 0) (se0_0_1_2_7_11 x0 x1 x2 x7 x11 h) =
    (E.C fn_spec_WiresOk [x0, x1] h).bind fun v8 =>
    (wantV v8.1 true).bind fun v9 =>
    (bif v9 then some (x2, v8.2) else some (.tup [], v8.2)).bind fun v10 =>
    (wantV v8.1 true).bind fun v11 =>
    (bif v11 then pv v10.2 (E.p.len 26 v10.1) else some (.tup [], v10.2)).bind fun v12 =>
    (wantV v8.1 true).bind fun v13 =>
    (bif v13 then some (x1, v12.2) else some (.tup [], v12.2)).bind fun v14 =>
    (wantV v8.1 true).bind fun v15 =>
    (bif v15 then pv v14.2 (E.p.len 23 v14.1) else some (.tup [], v14.2)).bind fun v16 =>
    (wantV v8.1 true).bind fun v17 =>
    (bif v17 then pv v16.2 (E.p.bin .eql 3 v12.1 v16.1) else some (.tup [], v16.2)).bind fun v18 =>
    (E.p.pick v8.1 v18.1 (.bool false)).bind fun v19 =>
    (resV v19).bind fun v20 =>
    some (v20, v18.2) := by kernel_rfl
theorem top_sr_6 (x6 : PV) (h : PHeap) : kTop Tryd.prog Tryd.f22 .ret (sr_6 x6 h) =
    (resV x6).bind fun v28 =>
    some (v28, h) := by kernel_rfl
noncomputable def main (E : Env) (x0 x1 x2 : PV) (h : PHeap) : Res :=
    loopK (ev (E.cx Tryd.prog spec_OwnersOk.kl) spec_OwnersOk.lp0) E.lf (spec_OwnersOk.st0 x0 x1 x2 (.int .i64 0) h) (spec_OwnersOk.K0 E (kTop Tryd.prog Tryd.f22))
theorem main_eq (E : Env) (x0 x1 x2 : PV) (h : PHeap) : runBody (E.cx Tryd.prog kl) Tryd.f22 [x0, x1, x2] h = main E x0 x1 x2 h := by kernel_rfl
theorem call_eq (g : Nat → PV) (lf n : Nat) (x0 x1 x2 : PV) (h : PHeap) : CL g lf (n + 1) fn_spec_OwnersOk [x0, x1, x2] h = main (env g lf n) x0 x1 x2 h := by
  rw [← main_eq]
  show call Tryd.prog g KL lf (n + 1) 22 [x0, x1, x2] h = _
  rw [call_succ, Tryd.func22]
  kernel_rfl
end spec_OwnersOk
namespace impl_WiresWon
noncomputable def main (E : Env) (x0 x1 x2 : PV) (h : PHeap) : Res :=
    (E.C fn_impl_OwnersOk [x0, x1, x2] h).bind fun v1 =>
    (E.p.un .not v1.1).bind fun v2 =>
    condP v2
     (
      (resV (.int .i64 0)).bind fun v3 =>
      some (v3, v1.2))
     (
      (E.C fn_impl_setOf [x2, (.int .i64 1)] v1.2).bind fun v4 =>
      (E.C fn_impl_setOf [x2, (.int .i64 0)] v4.2).bind fun v5 =>
      (E.C fn_impl_wonBy [x1, v4.1, v5.1] v5.2).bind fun v6 =>
      (resV v6.1).bind fun v7 =>
      some (v7, v6.2))
theorem main_eq (E : Env) (x0 x1 x2 : PV) (h : PHeap) : runBody (E.cx Tryd.prog kl) Tryd.f23 [x0, x1, x2] h = main E x0 x1 x2 h := by kernel_rfl
theorem call_eq (g : Nat → PV) (lf n : Nat) (x0 x1 x2 : PV) (h : PHeap) : CL g lf (n + 1) fn_impl_WiresWon [x0, x1, x2] h = main (env g lf n) x0 x1 x2 h := by
  rw [← main_eq]
  show call Tryd.prog g KL lf (n + 1) 23 [x0, x1, x2] h = _
  rw [call_succ, Tryd.func23]
  kernel_rfl
end impl_WiresWon
namespace spec_DrawWiresWinner
noncomputable def main (E : Env) (x0 : PV) (h : PHeap) : Res :=
    (E.C fn_spec_l20Open [x0] h).bind fun v1 =>
    (E.C fn_spec_l20Owned [v1.1, (.int .i64 20)] v1.2).bind fun v2 =>
    (E.p.extract v2.1 0).bind fun v3 =>
    (E.p.extract v2.1 1).bind fun v4 =>
    (E.p.extract v2.1 2).bind fun v5 =>
    (E.C fn_spec_l20Rd_pick [v1.1, (.int .i64 2)] v2.2).bind fun v6 =>
    (E.p.bin .add 3 (.int .i64 1) v6.1).bind fun v7 =>
    (E.C fn_spec_l20Rd_pick [v1.1, (.int .i64 40)] v6.2).bind fun v8 =>
    (E.p.bin .quo 3 v8.1 (.int .i64 39)).bind fun v9 =>
    (E.p.bin .mul 3 v9 (.int .i64 2)).bind fun v10 =>
    (E.p.bin .add 3 v7 v10).bind fun v11 =>
    (resV v3).bind fun v12 =>
    (resV v4).bind fun v13 =>
    (resV v5).bind fun v14 =>
    (resV v11).bind fun v15 =>
    some (.tup [v12, v13, v14, v15], v8.2)
theorem main_eq (E : Env) (x0 : PV) (h : PHeap) : runBody (E.cx Tryd.prog kl) Tryd.f24 [x0] h = main E x0 h := by kernel_rfl
theorem call_eq (g : Nat → PV) (lf n : Nat) (x0 : PV) (h : PHeap) : CL g lf (n + 1) fn_spec_DrawWiresWinner [x0] h = main (env g lf n) x0 h := by
  rw [← main_eq]
  show call Tryd.prog g KL lf (n + 1) 24 [x0] h = _
  rw [call_succ, Tryd.func24]
  kernel_rfl
end spec_DrawWiresWinner
namespace impl_WiresWinner
noncomputable def main (E : Env) (x0 x1 x2 x3 : PV) (h : PHeap) : Res :=
    (E.C fn_impl_OwnersOk [x0, x1, x2] h).bind fun v1 =>
    (E.p.un .not v1.1).bind fun v2 =>
    (wantV v2 false).bind fun v3 =>
    (bif v3 then some (x3, v1.2) else some (.tup [], v1.2)).bind fun v4 =>
    (wantV v2 false).bind fun v5 =>
    (bif v5 then E.C fn_impl_playerOk [v4.1] v4.2 else some (.tup [], v4.2)).bind fun v6 =>
    (wantV v2 false).bind fun v7 =>
    (bif v7 then pv v6.2 (E.p.un .not v6.1) else some (.tup [], v6.2)).bind fun v8 =>
    (E.p.pick v2 (.bool true) v8.1).bind fun v9 =>
    condP v9
     (
      (resV (.int .i64 0)).bind fun v10 =>
      some (v10, v8.2))
     (
      (E.C fn_impl_newNetGame [x1] v8.2).bind fun v11 =>
      (E.C fn_impl_standingOf [x2, x3] v11.2).bind fun v12 =>
      (E.C fn_impl_netGame_winner [v11.1, v12.1] v12.2).bind fun v13 =>
      (resV v13.1).bind fun v14 =>
      some (v14, v13.2))
theorem main_eq (E : Env) (x0 x1 x2 x3 : PV) (h : PHeap) : runBody (E.cx Tryd.prog kl) Tryd.f25 [x0, x1, x2, x3] h = main E x0 x1 x2 x3 h := by kernel_rfl
theorem call_eq (g : Nat → PV) (lf n : Nat) (x0 x1 x2 x3 : PV) (h : PHeap) : CL g lf (n + 1) fn_impl_WiresWinner [x0, x1, x2, x3] h = main (env g lf n) x0 x1 x2 x3 h := by
  rw [← main_eq]
  show call Tryd.prog g KL lf (n + 1) 25 [x0, x1, x2, x3] h = _
  rw [call_succ, Tryd.func25]
  kernel_rfl
end impl_WiresWinner
namespace laws_szWireS
noncomputable def main (E : Env) (x0 x1 : PV) (h : PHeap) : Res :=
    (E.p.len 43 x0).bind fun v1 =>
    (E.p.bin .sub 3 x1 v1).bind fun v2 =>
    (E.p.bin .lss 3 v2 (.int .i64 0)).bind fun v3 =>
    condP v3
     (
      (resV (.int .i64 (-1))).bind fun v4 =>
      some (v4, h))
     (
      (resV v2).bind fun v5 =>
      some (v5, h))
theorem main_eq (E : Env) (x0 x1 : PV) (h : PHeap) : runBody (E.cx Tryd.prog kl) Tryd.f26 [x0, x1] h = main E x0 x1 h := by kernel_rfl
theorem call_eq (g : Nat → PV) (lf n : Nat) (x0 x1 : PV) (h : PHeap) : CL g lf (n + 1) fn_laws_szWireS [x0, x1] h = main (env g lf n) x0 x1 h := by
  rw [← main_eq]
  show call Tryd.prog g KL lf (n + 1) 26 [x0, x1] h = _
  rw [call_succ, Tryd.func26]
  kernel_rfl
end laws_szWireS
namespace spec_LinksEnds
noncomputable def main (E : Env) (x0 x1 x2 : PV) (h : PHeap) : Res :=
    (E.C fn_spec_WiresOk [x0, x1] h).bind fun v1 =>
    (wantV v1.1 true).bind fun v2 =>
    (bif v2 then some (x2, v1.2) else some (.tup [], v1.2)).bind fun v3 =>
    (wantV v1.1 true).bind fun v4 =>
    (bif v4 then some (x1, v3.2) else some (.tup [], v3.2)).bind fun v5 =>
    (wantV v1.1 true).bind fun v6 =>
    (bif v6 then pv v5.2 (E.p.len 23 v5.1) else some (.tup [], v5.2)).bind fun v7 =>
    (wantV v1.1 true).bind fun v8 =>
    (bif v8 then pv v7.2 (E.p.bin .shl 3 (.int .i64 1) v7.1) else some (.tup [], v7.2)).bind fun v9 =>
    (wantV v1.1 true).bind fun v10 =>
    (bif v10 then pv v9.2 (E.p.bin .sub 3 v9.1 (.int .i64 1)) else some (.tup [], v9.2)).bind fun v11 =>
    (wantV v1.1 true).bind fun v12 =>
    (bif v12 then E.C fn_spec_l1In [v3.1, (.int .i64 0), v11.1] v11.2 else some (.tup [], v11.2)).bind fun v13 =>
    (E.p.pick v1.1 v13.1 (.bool false)).bind fun v14 =>
    (wantV v14 true).bind fun v15 =>
    (bif v15 then some (x1, v13.2) else some (.tup [], v13.2)).bind fun v16 =>
    (wantV v14 true).bind fun v17 =>
    (bif v17 then some (x2, v16.2) else some (.tup [], v16.2)).bind fun v18 =>
    (wantV v14 true).bind fun v19 =>
    (bif v19 then E.C fn_spec_l9Reach [v16.1, v18.1, (.int .i64 0)] v18.2 else some (.tup [], v18.2)).bind fun v20 =>
    (wantV v14 true).bind fun v21 =>
    (bif v21 then pv v20.2 (E.p.bin .shr 3 v20.1 (.int .u64 1)) else some (.tup [], v20.2)).bind fun v22 =>
    (wantV v14 true).bind fun v23 =>
    (bif v23 then pv v22.2 (E.p.bin .rem 3 v22.1 (.int .i64 2)) else some (.tup [], v22.2)).bind fun v24 =>
    (wantV v14 true).bind fun v25 =>
    (bif v25 then pv v24.2 (E.p.bin .eql 3 v24.1 (.int .i64 1)) else some (.tup [], v24.2)).bind fun v26 =>
    (E.p.pick v14 v26.1 (.bool false)).bind fun v27 =>
    (resV v27).bind fun v28 =>
    some (v28, v26.2)
theorem main_eq (E : Env) (x0 x1 x2 : PV) (h : PHeap) : runBody (E.cx Tryd.prog kl) Tryd.f27 [x0, x1, x2] h = main E x0 x1 x2 h := by kernel_rfl
theorem call_eq (g : Nat → PV) (lf n : Nat) (x0 x1 x2 : PV) (h : PHeap) : CL g lf (n + 1) fn_spec_LinksEnds [x0, x1, x2] h = main (env g lf n) x0 x1 x2 h := by
  rw [← main_eq]
  show call Tryd.prog g KL lf (n + 1) 27 [x0, x1, x2] h = _
  rw [call_succ, Tryd.func27]
  kernel_rfl
end spec_LinksEnds
namespace laws_toWireS
noncomputable def lp0 : Code := (codeAt (bodyOf Tryd.f28) [1, 1, 0, 1, 0, 0])
def st0 (x0 x3 x4 : PV) (h : PHeap) : St := ⟨[x0, .junk, .junk, x3, x4, .junk, .junk, .junk, .junk, .junk, .junk, .junk, .junk, .junk, .junk, .junk, .junk, .junk, .junk, .junk, .junk, .junk, .junk], h⟩
def se0_0_3_4_11 (x0 x3 x4 x11 : PV) (h : PHeap) : St := ⟨[x0, .junk, .junk, x3, x4, .junk, .junk, .junk, .junk, .junk, .junk, x11, .junk, .junk, .junk, .junk, .junk, .junk, .junk, .junk, .junk, .junk, .junk], h⟩
noncomputable def K0 (E : Env) (K : PX → St → Res) : PX → St → Res := (kBlock 0 (kSeq (ev (E.cx Tryd.prog kl) (codeAt (bodyOf Tryd.f28) [1, 1, 1])) K))
@[simp] theorem K0_ret (E : Env) (K : PX → St → Res) (s : St) : K0 E K .ret s = K .ret s := by kernel_rfl
noncomputable def body0 (E : Env) (K : PX → St → Res) (x0 x3 x4 : PV) (h : PHeap) : Res :=
    (E.p.len 43 x0).bind fun v12 =>
    (E.p.bin .lss 3 x4 v12).bind fun v13 =>
    condP v13
     (
      (E.p.indexAddr 43 x0 x4).bind fun v14 =>
      (E.p.load 73 v14 h).bind fun v15 =>
      (E.C fn_laws_toWire [v15] h).bind fun v16 =>
      (E.p.indexAddr 23 x3 x4).bind fun v17 =>
      (E.p.store 41 v17 v16.1 v16.2).bind fun v18 =>
      (E.p.bin .add 3 x4 (.int .i64 1)).bind fun v19 =>
      K .normal (st0 x0 x3 v19 v18))
     (
      K (.exit 0) (se0_0_3_4_11 x0 x3 x4 v13 h))
theorem body0_eq (E : Env) (K : PX → St → Res) (x0 x3 x4 : PV) (h : PHeap) : ev (E.cx Tryd.prog kl) lp0 (st0 x0 x3 x4 h) K = body0 E K x0 x3 x4 h := by kernel_rfl
theorem after0_se0_0_3_4_11 (E : Env) (x0 x3 x4 x11 : PV) (h : PHeap) : K0 E (kTop Tryd.prog Tryd.f28) (.exit 0) (se0_0_3_4_11 x0 x3 x4 x11 h) =
    (resV x3).bind fun v11 =>
    some (v11, h) := by kernel_rfl
noncomputable def main (E : Env) (x0 : PV) (h : PHeap) : Res :=
    (E.p.len 43 x0).bind fun v1 =>
    (E.p.make 23 v1 v1 h).bind fun v2 =>
    loopK (ev (E.cx Tryd.prog laws_toWireS.kl) laws_toWireS.lp0) E.lf (laws_toWireS.st0 x0 v2.1 (.int .i64 0) v2.2) (laws_toWireS.K0 E (kTop Tryd.prog Tryd.f28))
theorem main_eq (E : Env) (x0 : PV) (h : PHeap) : runBody (E.cx Tryd.prog kl) Tryd.f28 [x0] h = main E x0 h := by kernel_rfl
theorem call_eq (g : Nat → PV) (lf n : Nat) (x0 : PV) (h : PHeap) : CL g lf (n + 1) fn_laws_toWireS [x0] h = main (env g lf n) x0 h := by
  rw [← main_eq]
  show call Tryd.prog g KL lf (n + 1) 28 [x0] h = _
  rw [call_succ, Tryd.func28]
  kernel_rfl
end laws_toWireS
namespace laws_eqWireS
noncomputable def lp0 : Code := (codeAt (bodyOf Tryd.f29) [1, 1, 0, 1, 0, 0])
def st0 (x0 x1 x5 : PV) (h : PHeap) : St := ⟨[x0, x1, .junk, .junk, .junk, x5, .junk, .junk, .junk, .junk, .junk, .junk, .junk, .junk, .junk, .junk, .junk, .junk, .junk, .junk, .junk, .junk, .junk, .junk, .junk, .junk, .junk], h⟩
def sr_4 (x4 : PV) (h : PHeap) : St := ⟨[.junk, .junk, .junk, .junk, x4, .junk, .junk, .junk, .junk, .junk, .junk, .junk, .junk, .junk, .junk, .junk, .junk, .junk, .junk, .junk, .junk, .junk, .junk, .junk, .junk, .junk, .junk], h⟩
def se0_0_1_5_14 (x0 x1 x5 x14 : PV) (h : PHeap) : St := ⟨[x0, x1, .junk, .junk, .junk, x5, .junk, .junk, .junk, .junk, .junk, .junk, .junk, .junk, x14, .junk, .junk, .junk, .junk, .junk, .junk, .junk, .junk, .junk, .junk, .junk, .junk], h⟩
noncomputable def K0 (E : Env) (K : PX → St → Res) : PX → St → Res := (kBlock 0 (kSeq (ev (E.cx Tryd.prog kl) (codeAt (bodyOf Tryd.f29) [1, 1, 1])) K))
@[simp] theorem K0_ret (E : Env) (K : PX → St → Res) (s : St) : K0 E K .ret s = K .ret s := by kernel_rfl
noncomputable def body0 (E : Env) (K : PX → St → Res) (x0 x1 x5 : PV) (h : PHeap) : Res :=
    (E.p.len 23 x0).bind fun v17 =>
    (E.p.bin .lss 3 x5 v17).bind fun v18 =>
    condP v18
     (
      (E.p.indexAddr 23 x0 x5).bind fun v19 =>
      (E.p.load 41 v19 h).bind fun v20 =>
      (E.p.indexAddr 23 x1 x5).bind fun v21 =>
      (E.p.load 41 v21 h).bind fun v22 =>
      (E.C fn_laws_eqWire [v20, v22] h).bind fun v23 =>
      (E.p.load 41 v21 v23.2).bind fun v24 =>
      ckP (plainEq v22 v24) (
      (E.p.load 41 v19 v23.2).bind fun v25 =>
      ckP (plainEq v20 v25) (
      (E.p.un .not v23.1).bind fun v26 =>
      condP v26
       (
        K .ret (sr_4 (.bool false) v23.2))
       (
        (E.p.bin .add 3 x5 (.int .i64 1)).bind fun v27 =>
        K .normal (st0 x0 x1 v27 v23.2)))))
     (
      K (.exit 0) (se0_0_1_5_14 x0 x1 x5 v18 h))
theorem body0_eq (E : Env) (K : PX → St → Res) (x0 x1 x5 : PV) (h : PHeap) : ev (E.cx Tryd.prog kl) lp0 (st0 x0 x1 x5 h) K = body0 E K x0 x1 x5 h := by kernel_rfl
theorem after0_se0_0_1_5_14 (E : Env) (x0 x1 x5 x14 : PV) (h : PHeap) : K0 E (kTop Tryd.prog Tryd.f29) (.exit 0) (se0_0_1_5_14 x0 x1 x5 x14 h) =
    (resV (.bool true)).bind fun v16 =>
    some (v16, h) := by kernel_rfl
theorem top_sr_4 (x4 : PV) (h : PHeap) : kTop Tryd.prog Tryd.f29 .ret (sr_4 x4 h) =
    (resV x4).bind fun v28 =>
    some (v28, h) := by kernel_rfl
noncomputable def main (E : Env) (x0 x1 : PV) (h : PHeap) : Res :=
    (E.p.len 23 x0).bind fun v1 =>
    (E.p.len 23 x1).bind fun v2 =>
    (E.p.bin .neq 3 v1 v2).bind fun v3 =>
    condP v3
     (
      (resV (.bool false)).bind fun v4 =>
      some (v4, h))
     (
      loopK (ev (E.cx Tryd.prog laws_eqWireS.kl) laws_eqWireS.lp0) E.lf (laws_eqWireS.st0 x0 x1 (.int .i64 0) h) (laws_eqWireS.K0 E (kTop Tryd.prog Tryd.f29)))
theorem main_eq (E : Env) (x0 x1 : PV) (h : PHeap) : runBody (E.cx Tryd.prog kl) Tryd.f29 [x0, x1] h = main E x0 x1 h := by kernel_rfl
theorem call_eq (g : Nat → PV) (lf n : Nat) (x0 x1 : PV) (h : PHeap) : CL g lf (n + 1) fn_laws_eqWireS [x0, x1] h = main (env g lf n) x0 x1 h := by
  rw [← main_eq]
  show call Tryd.prog g KL lf (n + 1) 29 [x0, x1] h = _
  rw [call_succ, Tryd.func29]
  kernel_rfl
end laws_eqWireS
namespace spec_l20Wires
noncomputable def lp0 : Code := (codeAt (bodyOf Tryd.f30) [1, 1, 1, 0, 1, 0, 0])
def st0 (x0 x1 x6 x7 x8 : PV) (h : PHeap) : St := ⟨[x0, x1, .junk, .junk, .junk, .junk, x6, x7, x8, .junk, .junk, .junk, .junk, .junk, .junk, .junk, .junk, .junk, .junk, .junk, .junk, .junk, .junk, .junk, .junk, .junk, .junk, .junk, .junk, .junk, .junk, .junk, .junk, .junk, .junk, .junk, .junk, .junk, .junk, .junk, .junk, .junk, .junk, .junk, .junk, .junk, .junk, .junk, .junk, .junk, .junk, .junk, .junk, .junk, .junk, .junk, .junk, .junk, .junk, .junk, .junk, .junk, .junk, .junk, .junk, .junk], h⟩
def se0_0_1_6_7_8_19 (x0 x1 x6 x7 x8 x19 : PV) (h : PHeap) : St := ⟨[x0, x1, .junk, .junk, .junk, .junk, x6, x7, x8, .junk, .junk, .junk, .junk, .junk, .junk, .junk, .junk, .junk, .junk, x19, .junk, .junk, .junk, .junk, .junk, .junk, .junk, .junk, .junk, .junk, .junk, .junk, .junk, .junk, .junk, .junk, .junk, .junk, .junk, .junk, .junk, .junk, .junk, .junk, .junk, .junk, .junk, .junk, .junk, .junk, .junk, .junk, .junk, .junk, .junk, .junk, .junk, .junk, .junk, .junk, .junk, .junk, .junk, .junk, .junk, .junk], h⟩
noncomputable def K0 (E : Env) (K : PX → St → Res) : PX → St → Res := (kBlock 0 (kSeq (ev (E.cx Tryd.prog kl) (codeAt (bodyOf Tryd.f30) [1, 1, 1, 1])) K))
@[simp] theorem K0_ret (E : Env) (K : PX → St → Res) (s : St) : K0 E K .ret s = K .ret s := by kernel_rfl
noncomputable def body0 (E : Env) (K : PX → St → Res) (x0 x1 x6 x7 x8 : PV) (h : PHeap) : Res :=
    (E.p.bin .gtr 3 x8 (.int .i64 0)).bind fun v39 =>
    condP v39
     (
      (E.C fn_spec_l20Rd_pick [x0, x6] h).bind fun v40 =>
      (E.p.bin .add 3 v40.1 (.int .i64 1)).bind fun v41 =>
      (E.p.bin .sub 3 x6 (.int .i64 1)).bind fun v42 =>
      (E.C fn_spec_l20Rd_pick [x0, v42] v40.2).bind fun v43 =>
      (E.p.bin .add 3 v41 v43.1).bind fun v44 =>
      (E.p.bin .rem 3 v44 x6).bind fun v45 =>
      (E.p.build 41 [(0, v40.1), (1, v45)]).bind fun v46 =>
      (E.p.buildSlice 23 1 [(0, v46)] v43.2).bind fun v47 =>
      (E.p.append 23 23 x7 v47.1 v47.2).bind fun v48 =>
      (E.p.bin .sub 3 x8 (.int .i64 1)).bind fun v49 =>
      K .normal (st0 x0 x1 x6 v48.1 v49 v48.2))
     (
      K (.exit 0) (se0_0_1_6_7_8_19 x0 x1 x6 x7 x8 v39 h))
theorem body0_eq (E : Env) (K : PX → St → Res) (x0 x1 x6 x7 x8 : PV) (h : PHeap) : ev (E.cx Tryd.prog kl) lp0 (st0 x0 x1 x6 x7 x8 h) K = body0 E K x0 x1 x6 x7 x8 h := by kernel_rfl
theorem after0_se0_0_1_6_7_8_19 (E : Env) (x0 x1 x6 x7 x8 x19 : PV) (h : PHeap) : K0 E (kTop Tryd.prog Tryd.f30) (.exit 0) (se0_0_1_6_7_8_19 x0 x1 x6 x7 x8 x19 h) =
    (E.C fn_spec_l20Rd_odd [x0, x1] h).bind fun v17 =>
    condP v17.1
     (
      (E.C fn_spec_l20Rd_pick [x0, (.int .i64 3)] v17.2).bind fun v18 =>
      (E.p.bin .eql 3 v18.1 (.int .i64 0)).bind fun v19 =>
      condP v19
       (
        (E.p.build 41 [(0, (.int .i64 1)), (1, (.int .i64 1))]).bind fun v20 =>
        (E.p.buildSlice 23 1 [(0, v20)] v18.2).bind fun v21 =>
        (E.p.append 23 23 x7 v21.1 v21.2).bind fun v22 =>
        (resV x6).bind fun v23 =>
        (resV v22.1).bind fun v24 =>
        some (.tup [v23, v24], v22.2))
       (
        (E.p.bin .eql 3 v18.1 (.int .i64 1)).bind fun v25 =>
        condP v25
         (
          (E.p.build 41 [(0, (.int .i64 0)), (1, x6)]).bind fun v26 =>
          (E.p.buildSlice 23 1 [(0, v26)] v18.2).bind fun v27 =>
          (E.p.append 23 23 x7 v27.1 v27.2).bind fun v28 =>
          (resV x6).bind fun v29 =>
          (resV v28.1).bind fun v30 =>
          some (.tup [v29, v30], v28.2))
         (
          (E.p.buildSlice 26 2 [(0, (.int .i64 1)), (1, (.int .i64 6))] v18.2).bind fun v31 =>
          (E.C fn_spec_l20Rd_pick [x0, (.int .i64 2)] v31.2).bind fun v32 =>
          (E.p.indexAddr 26 v31.1 v32.1).bind fun v33 =>
          (E.p.load 3 v33 v32.2).bind fun v34 =>
          (resV v34).bind fun v35 =>
          (resV x7).bind fun v36 =>
          some (.tup [v35, v36], v32.2))))
     (
      (resV x6).bind fun v37 =>
      (resV x7).bind fun v38 =>
      some (.tup [v37, v38], v17.2)) := by kernel_rfl
noncomputable def main (E : Env) (x0 x1 : PV) (h : PHeap) : Res :=
    (E.C fn_spec_l20Rd_pick [x0, (.int .i64 4)] h).bind fun v1 =>
    (E.p.bin .add 3 (.int .i64 2) v1.1).bind fun v2 =>
    (E.p.buildSlice 23 0 [] v1.2).bind fun v3 =>
    (E.C fn_spec_l20Rd_pick [x0, (.int .i64 7)] v3.2).bind fun v4 =>
    (E.p.bin .add 3 (.int .i64 1) v4.1).bind fun v5 =>
    loopK (ev (E.cx Tryd.prog spec_l20Wires.kl) spec_l20Wires.lp0) E.lf (spec_l20Wires.st0 x0 x1 v2 v3.1 v5 v4.2) (spec_l20Wires.K0 E (kTop Tryd.prog Tryd.f30))
theorem main_eq (E : Env) (x0 x1 : PV) (h : PHeap) : runBody (E.cx Tryd.prog kl) Tryd.f30 [x0, x1] h = main E x0 x1 h := by kernel_rfl
theorem call_eq (g : Nat → PV) (lf n : Nat) (x0 x1 : PV) (h : PHeap) : CL g lf (n + 1) fn_spec_l20Wires [x0, x1] h = main (env g lf n) x0 x1 h := by
  rw [← main_eq]
  show call Tryd.prog g KL lf (n + 1) 30 [x0, x1] h = _
  rw [call_succ, Tryd.func30]
  kernel_rfl
end spec_l20Wires
namespace spec_l20Open
noncomputable def main (E : Env) (x0 : PV) (h : PHeap) : Res :=
    (E.p.len 22 x0).bind fun v1 =>
    (E.p.bin .gtr 3 v1 (.int .i64 2000)).bind fun v2 =>
    condP v2
     (
      (E.p.slice 22 x0 none (some (.int .i64 2000)) h).bind fun v3 =>
      (E.p.build 76 [(0, v3)]).bind fun v4 =>
      (E.p.box v4 h).bind fun v5 =>
      (resV v5.1).bind fun v6 =>
      some (v6, v5.2))
     (
      (E.p.build 76 [(0, x0)]).bind fun v7 =>
      (E.p.box v7 h).bind fun v8 =>
      (resV v8.1).bind fun v9 =>
      some (v9, v8.2))
theorem main_eq (E : Env) (x0 : PV) (h : PHeap) : runBody (E.cx Tryd.prog kl) Tryd.f31 [x0] h = main E x0 h := by kernel_rfl
theorem call_eq (g : Nat → PV) (lf n : Nat) (x0 : PV) (h : PHeap) : CL g lf (n + 1) fn_spec_l20Open [x0] h = main (env g lf n) x0 h := by
  rw [← main_eq]
  show call Tryd.prog g KL lf (n + 1) 31 [x0] h = _
  rw [call_succ, Tryd.func31]
  kernel_rfl
end spec_l20Open
namespace impl_WiresOk
noncomputable def lp0 : Code := (codeAt (bodyOf Tryd.f32) [1, 1, 0, 1, 0, 0])
def st0 (x0 x18 x19 x20 : PV) (h : PHeap) : St := ⟨[x0, .junk, .junk, .junk, .junk, .junk, .junk, .junk, .junk, .junk, .junk, .junk, .junk, .junk, .junk, .junk, .junk, .junk, x18, x19, x20, .junk, .junk, .junk, .junk, .junk, .junk, .junk, .junk, .junk, .junk, .junk, .junk, .junk, .junk, .junk, .junk, .junk, .junk, .junk, .junk, .junk, .junk, .junk], h⟩
def sr_4 (x4 : PV) (h : PHeap) : St := ⟨[.junk, .junk, .junk, .junk, x4, .junk, .junk, .junk, .junk, .junk, .junk, .junk, .junk, .junk, .junk, .junk, .junk, .junk, .junk, .junk, .junk, .junk, .junk, .junk, .junk, .junk, .junk, .junk, .junk, .junk, .junk, .junk, .junk, .junk, .junk, .junk, .junk, .junk, .junk, .junk, .junk, .junk, .junk, .junk], h⟩
def se0_0_18_19_20_21 (x0 x18 x19 x20 x21 : PV) (h : PHeap) : St := ⟨[x0, .junk, .junk, .junk, .junk, .junk, .junk, .junk, .junk, .junk, .junk, .junk, .junk, .junk, .junk, .junk, .junk, .junk, x18, x19, x20, x21, .junk, .junk, .junk, .junk, .junk, .junk, .junk, .junk, .junk, .junk, .junk, .junk, .junk, .junk, .junk, .junk, .junk, .junk, .junk, .junk, .junk, .junk], h⟩
noncomputable def K0 (E : Env) (K : PX → St → Res) : PX → St → Res := (kBlock 0 (kSeq (ev (E.cx Tryd.prog kl) (codeAt (bodyOf Tryd.f32) [1, 1, 1])) K))
@[simp] theorem K0_ret (E : Env) (K : PX → St → Res) (s : St) : K0 E K .ret s = K .ret s := by kernel_rfl
noncomputable def body0 (E : Env) (K : PX → St → Res) (x0 x18 x19 x20 : PV) (h : PHeap) : Res :=
    (E.p.bin .lss 3 x20 x19).bind fun v50 =>
    condP v50
     (
      (E.p.indexAddr 23 x18 x20).bind fun v51 =>
      (E.p.load 41 v51 h).bind fun v52 =>
      (E.p.alloc 41 h).bind fun v53 =>
      (E.p.store 41 v53.1 v52 v53.2).bind fun v54 =>
      (E.p.fieldAddr 41 v53.1 0).bind fun v55 =>
      (E.p.load 3 v55 v54).bind fun v56 =>
      (E.p.fieldAddr 41 v53.1 1).bind fun v57 =>
      (E.p.load 3 v57 v54).bind fun v58 =>
      (E.p.bin .eql 3 v56 v58).bind fun v59 =>
      (wantV v59 false).bind fun v60 =>
      (bif v60 then some (x0, v54) else some (.tup [], v54)).bind fun v61 =>
      (wantV v59 false).bind fun v62 =>
      (bif v62 then pv v61.2 (E.p.fieldAddr 41 v53.1 0) else some (.tup [], v61.2)).bind fun v63 =>
      (wantV v59 false).bind fun v64 =>
      (bif v64 then pv v63.2 (E.p.load 3 v63.1 v63.2) else some (.tup [], v63.2)).bind fun v65 =>
      (wantV v59 false).bind fun v66 =>
      (bif v66 then E.C fn_impl_nodeOk [v61.1, v65.1] v65.2 else some (.tup [], v65.2)).bind fun v67 =>
      (wantV v59 false).bind fun v68 =>
      (bif v68 then pv v67.2 (E.p.un .not v67.1) else some (.tup [], v67.2)).bind fun v69 =>
      (E.p.pick v59 (.bool true) v69.1).bind fun v70 =>
      (wantV v70 false).bind fun v71 =>
      (bif v71 then some (x0, v69.2) else some (.tup [], v69.2)).bind fun v72 =>
      (wantV v70 false).bind fun v73 =>
      (bif v73 then pv v72.2 (E.p.fieldAddr 41 v53.1 1) else some (.tup [], v72.2)).bind fun v74 =>
      (wantV v70 false).bind fun v75 =>
      (bif v75 then pv v74.2 (E.p.load 3 v74.1 v74.2) else some (.tup [], v74.2)).bind fun v76 =>
      (wantV v70 false).bind fun v77 =>
      (bif v77 then E.C fn_impl_nodeOk [v72.1, v76.1] v76.2 else some (.tup [], v76.2)).bind fun v78 =>
      (wantV v70 false).bind fun v79 =>
      (bif v79 then pv v78.2 (E.p.un .not v78.1) else some (.tup [], v78.2)).bind fun v80 =>
      (E.p.pick v70 (.bool true) v80.1).bind fun v81 =>
      condP v81
       (
        K .ret (sr_4 (.bool false) v80.2))
       (
        (E.p.bin .add 3 x20 (.int .i64 1)).bind fun v82 =>
        K .normal (st0 x0 x18 x19 v82 v80.2)))
     (
      K (.exit 0) (se0_0_18_19_20_21 x0 x18 x19 x20 v50 h))
theorem body0_eq (E : Env) (K : PX → St → Res) (x0 x18 x19 x20 : PV) (h : PHeap) : ev (E.cx Tryd.prog kl) lp0 (st0 x0 x18 x19 x20 h) K = body0 E K x0 x18 x19 x20 h := by kernel_rfl
theorem after0_se0_0_18_19_20_21 (E : Env) (x0 x18 x19 x20 x21 : PV) (h : PHeap) : K0 E (kTop Tryd.prog Tryd.f32) (.exit 0) (se0_0_18_19_20_21 x0 x18 x19 x20 x21 h) =
    (resV (.bool true)).bind fun v49 =>
    some (v49, h) := by kernel_rfl
theorem top_sr_4 (x4 : PV) (h : PHeap) : kTop Tryd.prog Tryd.f32 .ret (sr_4 x4 h) =
    (resV x4).bind fun v83 =>
    some (v83, h) := by kernel_rfl
noncomputable def main (E : Env) (x0 x1 : PV) (h : PHeap) : Res :=
    (E.p.bin .lss 3 x0 (.int .i64 2)).bind fun v1 =>
    (wantV v1 false).bind fun v2 =>
    (bif v2 then some (x0, h) else some (.tup [], h)).bind fun v3 =>
    (wantV v1 false).bind fun v4 =>
    (bif v4 then pv v3.2 (E.p.bin .gtr 3 v3.1 (.int .i64 5)) else some (.tup [], v3.2)).bind fun v5 =>
    (E.p.pick v1 (.bool true) v5.1).bind fun v6 =>
    (wantV v6 false).bind fun v7 =>
    (bif v7 then some (x1, v5.2) else some (.tup [], v5.2)).bind fun v8 =>
    (wantV v6 false).bind fun v9 =>
    (bif v9 then pv v8.2 (E.p.len 23 v8.1) else some (.tup [], v8.2)).bind fun v10 =>
    (wantV v6 false).bind fun v11 =>
    (bif v11 then pv v10.2 (E.p.bin .gtr 3 v10.1 (.int .i64 8)) else some (.tup [], v10.2)).bind fun v12 =>
    (E.p.pick v6 (.bool true) v12.1).bind fun v13 =>
    condP v13
     (
      (resV (.bool false)).bind fun v14 =>
      some (v14, v12.2))
     (
      (E.p.len 23 x1).bind fun v15 =>
      loopK (ev (E.cx Tryd.prog impl_WiresOk.kl) impl_WiresOk.lp0) E.lf (impl_WiresOk.st0 x0 x1 v15 (.int .i64 0) v12.2) (impl_WiresOk.K0 E (kTop Tryd.prog Tryd.f32)))
theorem main_eq (E : Env) (x0 x1 : PV) (h : PHeap) : runBody (E.cx Tryd.prog kl) Tryd.f32 [x0, x1] h = main E x0 x1 h := by kernel_rfl
theorem call_eq (g : Nat → PV) (lf n : Nat) (x0 x1 : PV) (h : PHeap) : CL g lf (n + 1) fn_impl_WiresOk [x0, x1] h = main (env g lf n) x0 x1 h := by
  rw [← main_eq]
  show call Tryd.prog g KL lf (n + 1) 32 [x0, x1] h = _
  rw [call_succ, Tryd.func32]
  kernel_rfl
end impl_WiresOk
namespace impl_leastSets
noncomputable def lp0 : Code := (codeAt (bodyOf Tryd.f33) [1, 1, 0, 1, 0, 0])
def st0 (x1 x5 x10 x11 x12 : PV) (h : PHeap) : St := ⟨[.junk, x1, .junk, .junk, .junk, x5, .junk, .junk, .junk, .junk, x10, x11, x12, .junk, .junk, .junk, .junk, .junk, .junk, .junk, .junk, .junk, .junk, .junk, .junk, .junk, .junk, .junk, .junk, .junk, .junk], h⟩
def se0_1_5_10_11_12_13 (x1 x5 x10 x11 x12 x13 : PV) (h : PHeap) : St := ⟨[.junk, x1, .junk, .junk, .junk, x5, .junk, .junk, .junk, .junk, x10, x11, x12, x13, .junk, .junk, .junk, .junk, .junk, .junk, .junk, .junk, .junk, .junk, .junk, .junk, .junk, .junk, .junk, .junk, .junk], h⟩
noncomputable def K0 (E : Env) (K : PX → St → Res) : PX → St → Res := (kBlock 0 (kSeq (ev (E.cx Tryd.prog kl) (codeAt (bodyOf Tryd.f33) [1, 1, 1])) K))
@[simp] theorem K0_ret (E : Env) (K : PX → St → Res) (s : St) : K0 E K .ret s = K .ret s := by kernel_rfl
noncomputable def body0 (E : Env) (K : PX → St → Res) (x1 x5 x10 x11 x12 : PV) (h : PHeap) : Res :=
    (E.p.bin .lss 3 x12 x11).bind fun v22 =>
    condP v22
     (
      (E.p.indexAddr 26 x10 x12).bind fun v23 =>
      (E.p.load 3 v23 h).bind fun v24 =>
      (vcall E.C E.Y x1 [v24] h).bind fun v25 =>
      (wantV v25.1 true).bind fun v26 =>
      (bif v26 then some (v24, v25.2) else some (.tup [], v25.2)).bind fun v27 =>
      (wantV v25.1 true).bind fun v28 =>
      (bif v28 then some (x1, v27.2) else some (.tup [], v27.2)).bind fun v29 =>
      (wantV v25.1 true).bind fun v30 =>
      (bif v30 then E.C fn_impl_sparesOne [v27.1, v29.1] v29.2 else some (.tup [], v29.2)).bind fun v31 =>
      (wantV v25.1 true).bind fun v32 =>
      (bif v32 then pv v31.2 (E.p.un .not v31.1) else some (.tup [], v31.2)).bind fun v33 =>
      (E.p.pick v25.1 v33.1 (.bool false)).bind fun v34 =>
      condP v34
       (
        (E.p.buildSlice 26 1 [(0, v24)] v33.2).bind fun v35 =>
        (E.p.append 26 26 x5 v35.1 v35.2).bind fun v36 =>
        (E.p.bin .add 3 x12 (.int .i64 1)).bind fun v37 =>
        K .normal (st0 x1 v36.1 x10 x11 v37 v36.2))
       (
        (E.p.bin .add 3 x12 (.int .i64 1)).bind fun v38 =>
        K .normal (st0 x1 x5 x10 x11 v38 v33.2)))
     (
      K (.exit 0) (se0_1_5_10_11_12_13 x1 x5 x10 x11 x12 v22 h))
theorem body0_eq (E : Env) (K : PX → St → Res) (x1 x5 x10 x11 x12 : PV) (h : PHeap) : ev (E.cx Tryd.prog kl) lp0 (st0 x1 x5 x10 x11 x12 h) K = body0 E K x1 x5 x10 x11 x12 h := by kernel_rfl
theorem after0_se0_1_5_10_11_12_13 (E : Env) (x1 x5 x10 x11 x12 x13 : PV) (h : PHeap) : K0 E (kTop Tryd.prog Tryd.f33) (.exit 0) (se0_1_5_10_11_12_13 x1 x5 x10 x11 x12 x13 h) =
    (resV x5).bind fun v21 =>
    some (v21, h) := by kernel_rfl
noncomputable def main (E : Env) (x0 x1 : PV) (h : PHeap) : Res :=
    (E.C fn_impl_allWires [x0] h).bind fun v1 =>
    (E.C fn_impl_partsOf [v1.1] v1.2).bind fun v2 =>
    (E.p.len 26 v2.1).bind fun v3 =>
    loopK (ev (E.cx Tryd.prog impl_leastSets.kl) impl_leastSets.lp0) E.lf (impl_leastSets.st0 x1 .nilsl v2.1 v3 (.int .i64 0) v2.2) (impl_leastSets.K0 E (kTop Tryd.prog Tryd.f33))
theorem main_eq (E : Env) (x0 x1 : PV) (h : PHeap) : runBody (E.cx Tryd.prog kl) Tryd.f33 [x0, x1] h = main E x0 x1 h := by kernel_rfl
theorem call_eq (g : Nat → PV) (lf n : Nat) (x0 x1 : PV) (h : PHeap) : CL g lf (n + 1) fn_impl_leastSets [x0, x1] h = main (env g lf n) x0 x1 h := by
  rw [← main_eq]
  show call Tryd.prog g KL lf (n + 1) 33 [x0, x1] h = _
  rw [call_succ, Tryd.func33]
  kernel_rfl
end impl_leastSets
namespace impl_LeastLinks_1
noncomputable def main (E : Env) (x0 x1 : PV) (h : PHeap) : Res :=
    (E.p.load 23 x1 h).bind fun v1 =>
    (E.C fn_impl_linked [v1, x0] h).bind fun v2 =>
    (resV v2.1).bind fun v3 =>
    some (v3, v2.2)
theorem main_eq (E : Env) (x0 x1 : PV) (h : PHeap) : runBody (E.cx Tryd.prog kl) Tryd.f34 [x0, x1] h = main E x0 x1 h := by kernel_rfl
theorem call_eq (g : Nat → PV) (lf n : Nat) (x0 x1 : PV) (h : PHeap) : CL g lf (n + 1) fn_impl_LeastLinks_1 [x0, x1] h = main (env g lf n) x0 x1 h := by
  rw [← main_eq]
  show call Tryd.prog g KL lf (n + 1) 34 [x0, x1] h = _
  rw [call_succ, Tryd.func34]
  kernel_rfl
end impl_LeastLinks_1
namespace impl_linked
noncomputable def main (E : Env) (x0 x1 : PV) (h : PHeap) : Res :=
    (E.C fn_impl_nodesReached [x0, x1, (.int .i64 1)] h).bind fun v1 =>
    (E.p.bin .and 3 v1.1 (.int .i64 2)).bind fun v2 =>
    (E.p.bin .neq 3 v2 (.int .i64 0)).bind fun v3 =>
    (resV v3).bind fun v4 =>
    some (v4, v1.2)
theorem main_eq (E : Env) (x0 x1 : PV) (h : PHeap) : runBody (E.cx Tryd.prog kl) Tryd.f35 [x0, x1] h = main E x0 x1 h := by kernel_rfl
theorem call_eq (g : Nat → PV) (lf n : Nat) (x0 x1 : PV) (h : PHeap) : CL g lf (n + 1) fn_impl_linked [x0, x1] h = main (env g lf n) x0 x1 h := by
  rw [← main_eq]
  show call Tryd.prog g KL lf (n + 1) 35 [x0, x1] h = _
  rw [call_succ, Tryd.func35]
  kernel_rfl
end impl_linked
namespace spec_l9Reach
noncomputable def lp0 : Code := (codeAt (bodyOf Tryd.f36) [1, 1, 0, 1, 0, 0])
def st0 (x0 x1 x7 x8 : PV) (h : PHeap) : St := ⟨[x0, x1, .junk, .junk, .junk, .junk, .junk, x7, x8, .junk, .junk, .junk, .junk, .junk, .junk, .junk, .junk, .junk, .junk, .junk, .junk, .junk, .junk, .junk, .junk, .junk, .junk, .junk, .junk, .junk, .junk, .junk, .junk, .junk, .junk, .junk, .junk, .junk, .junk, .junk, .junk, .junk, .junk, .junk, .junk, .junk, .junk, .junk, .junk, .junk, .junk, .junk, .junk, .junk, .junk, .junk, .junk, .junk, .junk], h⟩
noncomputable def lp1 : Code := (codeAt (bodyOf Tryd.f36) [1, 1, 0, 1, 0, 0, 1, 0, 1, 1, 0, 0])
def st1 (x0 x1 x7 x8 x9 : PV) (h : PHeap) : St := ⟨[x0, x1, .junk, .junk, .junk, .junk, .junk, x7, x8, x9, .junk, .junk, .junk, .junk, .junk, .junk, .junk, .junk, .junk, .junk, .junk, .junk, .junk, .junk, .junk, .junk, .junk, .junk, .junk, .junk, .junk, .junk, .junk, .junk, .junk, .junk, .junk, .junk, .junk, .junk, .junk, .junk, .junk, .junk, .junk, .junk, .junk, .junk, .junk, .junk, .junk, .junk, .junk, .junk, .junk, .junk, .junk, .junk, .junk], h⟩
def se0_0_1_7_12 (x0 x1 x7 x12 : PV) (h : PHeap) : St := ⟨[x0, x1, .junk, .junk, .junk, .junk, .junk, x7, .junk, .junk, .junk, .junk, x12, .junk, .junk, .junk, .junk, .junk, .junk, .junk, .junk, .junk, .junk, .junk, .junk, .junk, .junk, .junk, .junk, .junk, .junk, .junk, .junk, .junk, .junk, .junk, .junk, .junk, .junk, .junk, .junk, .junk, .junk, .junk, .junk, .junk, .junk, .junk, .junk, .junk, .junk, .junk, .junk, .junk, .junk, .junk, .junk, .junk, .junk], h⟩
def se2_0_1_7_8_9_16 (x0 x1 x7 x8 x9 x16 : PV) (h : PHeap) : St := ⟨[x0, x1, .junk, .junk, .junk, .junk, .junk, x7, x8, x9, .junk, .junk, .junk, .junk, .junk, .junk, x16, .junk, .junk, .junk, .junk, .junk, .junk, .junk, .junk, .junk, .junk, .junk, .junk, .junk, .junk, .junk, .junk, .junk, .junk, .junk, .junk, .junk, .junk, .junk, .junk, .junk, .junk, .junk, .junk, .junk, .junk, .junk, .junk, .junk, .junk, .junk, .junk, .junk, .junk, .junk, .junk, .junk, .junk], h⟩
def sn_0_1_7_8_9_16 (x0 x1 x7 x8 x9 x16 : PV) (h : PHeap) : St := ⟨[x0, x1, .junk, .junk, .junk, .junk, .junk, x7, x8, x9, .junk, .junk, .junk, .junk, .junk, .junk, x16, .junk, .junk, .junk, .junk, .junk, .junk, .junk, .junk, .junk, .junk, .junk, .junk, .junk, .junk, .junk, .junk, .junk, .junk, .junk, .junk, .junk, .junk, .junk, .junk, .junk, .junk, .junk, .junk, .junk, .junk, .junk, .junk, .junk, .junk, .junk, .junk, .junk, .junk, .junk, .junk, .junk, .junk], h⟩
noncomputable def K0 (E : Env) (K : PX → St → Res) : PX → St → Res := (kBlock 0 (kSeq (ev (E.cx Tryd.prog kl) (codeAt (bodyOf Tryd.f36) [1, 1, 1])) K))
@[simp] theorem K0_ret (E : Env) (K : PX → St → Res) (s : St) : K0 E K .ret s = K .ret s := by kernel_rfl
noncomputable def K1 (E : Env) (K : PX → St → Res) : PX → St → Res := (kBlock 2 (kBlock 1 K))
@[simp] theorem K1_ret (E : Env) (K : PX → St → Res) (s : St) : K1 E K .ret s = K .ret s := by kernel_rfl
noncomputable def body0 (E : Env) (K : PX → St → Res) (x0 x1 x7 x8 : PV) (h : PHeap) : Res :=
    condP x8
     (
      loopK (ev (E.cx Tryd.prog spec_l9Reach.kl) spec_l9Reach.lp1) E.lf (spec_l9Reach.st1 x0 x1 x7 (.bool false) (.int .i64 0) h) (spec_l9Reach.K1 E K))
     (
      K (.exit 0) (se0_0_1_7_12 x0 x1 x7 x8 h))
theorem body0_eq (E : Env) (K : PX → St → Res) (x0 x1 x7 x8 : PV) (h : PHeap) : ev (E.cx Tryd.prog kl) lp0 (st0 x0 x1 x7 x8 h) K = body0 E K x0 x1 x7 x8 h := by kernel_rfl
noncomputable def body1 (E : Env) (K : PX → St → Res) (x0 x1 x7 x8 x9 : PV) (h : PHeap) : Res :=
    (E.p.len 23 x0).bind fun v55 =>
    (E.p.bin .lss 3 x9 v55).bind fun v56 =>
    condP v56
     (
      (E.p.bin .shr 3 x1 x9).bind fun v57 =>
      (E.p.bin .rem 3 v57 (.int .i64 2)).bind fun v58 =>
      (E.p.bin .eql 3 v58 (.int .i64 0)).bind fun v59 =>
      (wantV v59 false).bind fun v60 =>
      (bif v60 then some (x7, h) else some (.tup [], h)).bind fun v61 =>
      (wantV v59 false).bind fun v62 =>
      (bif v62 then some (x0, v61.2) else some (.tup [], v61.2)).bind fun v63 =>
      (wantV v59 false).bind fun v64 =>
      (bif v64 then some (x9, v63.2) else some (.tup [], v63.2)).bind fun v65 =>
      (wantV v59 false).bind fun v66 =>
      (bif v66 then pv v65.2 (E.p.indexAddr 23 v63.1 v65.1) else some (.tup [], v65.2)).bind fun v67 =>
      (wantV v59 false).bind fun v68 =>
      (bif v68 then pv v67.2 (E.p.fieldAddr 41 v67.1 0) else some (.tup [], v67.2)).bind fun v69 =>
      (wantV v59 false).bind fun v70 =>
      (bif v70 then pv v69.2 (E.p.load 3 v69.1 v69.2) else some (.tup [], v69.2)).bind fun v71 =>
      (wantV v59 false).bind fun v72 =>
      (bif v72 then pv v71.2 (E.p.bin .shr 3 v61.1 v71.1) else some (.tup [], v71.2)).bind fun v73 =>
      (wantV v59 false).bind fun v74 =>
      (bif v74 then pv v73.2 (E.p.bin .rem 3 v73.1 (.int .i64 2)) else some (.tup [], v73.2)).bind fun v75 =>
      (wantV v59 false).bind fun v76 =>
      (bif v76 then some (x7, v75.2) else some (.tup [], v75.2)).bind fun v77 =>
      (wantV v59 false).bind fun v78 =>
      (bif v78 then some (x0, v77.2) else some (.tup [], v77.2)).bind fun v79 =>
      (wantV v59 false).bind fun v80 =>
      (bif v80 then some (x9, v79.2) else some (.tup [], v79.2)).bind fun v81 =>
      (wantV v59 false).bind fun v82 =>
      (bif v82 then pv v81.2 (E.p.indexAddr 23 v79.1 v81.1) else some (.tup [], v81.2)).bind fun v83 =>
      (wantV v59 false).bind fun v84 =>
      (bif v84 then pv v83.2 (E.p.fieldAddr 41 v83.1 1) else some (.tup [], v83.2)).bind fun v85 =>
      (wantV v59 false).bind fun v86 =>
      (bif v86 then pv v85.2 (E.p.load 3 v85.1 v85.2) else some (.tup [], v85.2)).bind fun v87 =>
      (wantV v59 false).bind fun v88 =>
      (bif v88 then pv v87.2 (E.p.bin .shr 3 v77.1 v87.1) else some (.tup [], v87.2)).bind fun v89 =>
      (wantV v59 false).bind fun v90 =>
      (bif v90 then pv v89.2 (E.p.bin .rem 3 v89.1 (.int .i64 2)) else some (.tup [], v89.2)).bind fun v91 =>
      (wantV v59 false).bind fun v92 =>
      (bif v92 then pv v91.2 (E.p.bin .eql 3 v75.1 v91.1) else some (.tup [], v91.2)).bind fun v93 =>
      (E.p.pick v59 (.bool true) v93.1).bind fun v94 =>
      condP v94
       (
        (E.p.bin .add 3 x9 (.int .i64 1)).bind fun v95 =>
        K .normal (st1 x0 x1 x7 x8 v95 v93.2))
       (
        (E.p.indexAddr 23 x0 x9).bind fun v96 =>
        (E.p.fieldAddr 41 v96 0).bind fun v97 =>
        (E.p.load 3 v97 v93.2).bind fun v98 =>
        (E.p.bin .shl 3 (.int .i64 1) v98).bind fun v99 =>
        (E.p.bin .or 3 x7 v99).bind fun v100 =>
        (E.p.indexAddr 23 x0 x9).bind fun v101 =>
        (E.p.fieldAddr 41 v101 1).bind fun v102 =>
        (E.p.load 3 v102 v93.2).bind fun v103 =>
        (E.p.bin .shl 3 (.int .i64 1) v103).bind fun v104 =>
        (E.p.bin .or 3 v100 v104).bind fun v105 =>
        (E.p.bin .add 3 x9 (.int .i64 1)).bind fun v106 =>
        K .normal (st1 x0 x1 v105 (.bool true) v106 v93.2)))
     (
      K (.exit 2) (se2_0_1_7_8_9_16 x0 x1 x7 x8 x9 v56 h))
theorem body1_eq (E : Env) (K : PX → St → Res) (x0 x1 x7 x8 x9 : PV) (h : PHeap) : ev (E.cx Tryd.prog kl) lp1 (st1 x0 x1 x7 x8 x9 h) K = body1 E K x0 x1 x7 x8 x9 h := by kernel_rfl
theorem body0_sn_0_1_7_8_9_16 (E : Env) (K : PX → St → Res) (x0 x1 x7 x8 x9 x16 : PV) (h : PHeap) : ev (E.cx Tryd.prog kl) lp0 (sn_0_1_7_8_9_16 x0 x1 x7 x8 x9 x16 h) K = body0 E K x0 x1 x7 x8 h := by kernel_rfl
theorem after0_se0_0_1_7_12 (E : Env) (x0 x1 x7 x12 : PV) (h : PHeap) : K0 E (kTop Tryd.prog Tryd.f36) (.exit 0) (se0_0_1_7_12 x0 x1 x7 x12 h) =
    (resV x7).bind fun v54 =>
    some (v54, h) := by kernel_rfl
theorem after1_se2_0_1_7_8_9_16 (E : Env) (K : PX → St → Res) (x0 x1 x7 x8 x9 x16 : PV) (h : PHeap) : K1 E K (.exit 2) (se2_0_1_7_8_9_16 x0 x1 x7 x8 x9 x16 h) =
    K .normal (sn_0_1_7_8_9_16 x0 x1 x7 x8 x9 x16 h) := by kernel_rfl
noncomputable def main (E : Env) (x0 x1 x2 : PV) (h : PHeap) : Res :=
    (E.p.bin .shl 3 (.int .i64 1) x2).bind fun v1 =>
    loopK (ev (E.cx Tryd.prog spec_l9Reach.kl) spec_l9Reach.lp0) E.lf (spec_l9Reach.st0 x0 x1 v1 (.bool true) h) (spec_l9Reach.K0 E (kTop Tryd.prog Tryd.f36))
theorem main_eq (E : Env) (x0 x1 x2 : PV) (h : PHeap) : runBody (E.cx Tryd.prog kl) Tryd.f36 [x0, x1, x2] h = main E x0 x1 x2 h := by kernel_rfl
theorem call_eq (g : Nat → PV) (lf n : Nat) (x0 x1 x2 : PV) (h : PHeap) : CL g lf (n + 1) fn_spec_l9Reach [x0, x1, x2] h = main (env g lf n) x0 x1 x2 h := by
  rw [← main_eq]
  show call Tryd.prog g KL lf (n + 1) 36 [x0, x1, x2] h = _
  rw [call_succ, Tryd.func36]
  kernel_rfl
end spec_l9Reach
namespace impl_LeastCuts_1
noncomputable def main (E : Env) (x0 x1 : PV) (h : PHeap) : Res :=
    (E.p.load 23 x1 h).bind fun v1 =>
    (E.p.load 23 x1 h).bind fun v2 =>
    (E.C fn_impl_allWires [v2] h).bind fun v3 =>
    (E.p.load 23 x1 v3.2).bind fun v4 =>
    ckP (plainEq v2 v4) (
    (E.p.load 23 x1 v3.2).bind fun v5 =>
    ckP (plainEq v1 v5) (
    (E.p.bin .andNot 3 v3.1 x0).bind fun v6 =>
    (E.C fn_impl_linked [v1, v6] v3.2).bind fun v7 =>
    (E.p.load 23 x1 v7.2).bind fun v8 =>
    ckP (plainEq v2 v8) (
    (E.p.load 23 x1 v7.2).bind fun v9 =>
    ckP (plainEq v1 v9) (
    (E.p.un .not v7.1).bind fun v10 =>
    (resV v10).bind fun v11 =>
    some (v11, v7.2)))))
theorem main_eq (E : Env) (x0 x1 : PV) (h : PHeap) : runBody (E.cx Tryd.prog kl) Tryd.f37 [x0, x1] h = main E x0 x1 h := by kernel_rfl
theorem call_eq (g : Nat → PV) (lf n : Nat) (x0 x1 : PV) (h : PHeap) : CL g lf (n + 1) fn_impl_LeastCuts_1 [x0, x1] h = main (env g lf n) x0 x1 h := by
  rw [← main_eq]
  show call Tryd.prog g KL lf (n + 1) 37 [x0, x1] h = _
  rw [call_succ, Tryd.func37]
  kernel_rfl
end impl_LeastCuts_1
namespace impl_allWires
noncomputable def main (E : Env) (x0 : PV) (h : PHeap) : Res :=
    (E.p.len 23 x0).bind fun v1 =>
    (E.p.bin .shl 3 (.int .i64 1) v1).bind fun v2 =>
    (E.p.bin .sub 3 v2 (.int .i64 1)).bind fun v3 =>
    (resV v3).bind fun v4 =>
    some (v4, h)
theorem main_eq (E : Env) (x0 : PV) (h : PHeap) : runBody (E.cx Tryd.prog kl) Tryd.f38 [x0] h = main E x0 h := by kernel_rfl
theorem call_eq (g : Nat → PV) (lf n : Nat) (x0 : PV) (h : PHeap) : CL g lf (n + 1) fn_impl_allWires [x0] h = main (env g lf n) x0 h := by
  rw [← main_eq]
  show call Tryd.prog g KL lf (n + 1) 38 [x0] h = _
  rw [call_succ, Tryd.func38]
  kernel_rfl
end impl_allWires
namespace impl_wireSetOk
noncomputable def main (E : Env) (x0 x1 : PV) (h : PHeap) : Res :=
    (E.p.bin .geq 3 x1 (.int .i64 0)).bind fun v1 =>
    (wantV v1 true).bind fun v2 =>
    (bif v2 then some (x1, h) else some (.tup [], h)).bind fun v3 =>
    (wantV v1 true).bind fun v4 =>
    (bif v4 then some (x0, v3.2) else some (.tup [], v3.2)).bind fun v5 =>
    (wantV v1 true).bind fun v6 =>
    (bif v6 then E.C fn_impl_allWires [v5.1] v5.2 else some (.tup [], v5.2)).bind fun v7 =>
    (wantV v1 true).bind fun v8 =>
    (bif v8 then pv v7.2 (E.p.bin .leq 3 v3.1 v7.1) else some (.tup [], v7.2)).bind fun v9 =>
    (E.p.pick v1 v9.1 (.bool false)).bind fun v10 =>
    (resV v10).bind fun v11 =>
    some (v11, v9.2)
theorem main_eq (E : Env) (x0 x1 : PV) (h : PHeap) : runBody (E.cx Tryd.prog kl) Tryd.f39 [x0, x1] h = main E x0 x1 h := by kernel_rfl
theorem call_eq (g : Nat → PV) (lf n : Nat) (x0 x1 : PV) (h : PHeap) : CL g lf (n + 1) fn_impl_wireSetOk [x0, x1] h = main (env g lf n) x0 x1 h := by
  rw [← main_eq]
  show call Tryd.prog g KL lf (n + 1) 39 [x0, x1] h = _
  rw [call_succ, Tryd.func39]
  kernel_rfl
end impl_wireSetOk
namespace spec_l1In
noncomputable def main (E : Env) (x0 x1 x2 : PV) (h : PHeap) : Res :=
    (E.p.bin .geq 3 x0 x1).bind fun v1 =>
    (wantV v1 true).bind fun v2 =>
    (bif v2 then some (x0, h) else some (.tup [], h)).bind fun v3 =>
    (wantV v1 true).bind fun v4 =>
    (bif v4 then some (x2, v3.2) else some (.tup [], v3.2)).bind fun v5 =>
    (wantV v1 true).bind fun v6 =>
    (bif v6 then pv v5.2 (E.p.bin .leq 3 v3.1 v5.1) else some (.tup [], v5.2)).bind fun v7 =>
    (E.p.pick v1 v7.1 (.bool false)).bind fun v8 =>
    (resV v8).bind fun v9 =>
    some (v9, v7.2)
theorem main_eq (E : Env) (x0 x1 x2 : PV) (h : PHeap) : runBody (E.cx Tryd.prog kl) Tryd.f40 [x0, x1, x2] h = main E x0 x1 x2 h := by kernel_rfl
theorem call_eq (g : Nat → PV) (lf n : Nat) (x0 x1 x2 : PV) (h : PHeap) : CL g lf (n + 1) fn_spec_l1In [x0, x1, x2] h = main (env g lf n) x0 x1 x2 h := by
  rw [← main_eq]
  show call Tryd.prog g KL lf (n + 1) 40 [x0, x1, x2] h = _
  rw [call_succ, Tryd.func40]
  kernel_rfl
end spec_l1In
namespace impl_BoardOk
noncomputable def main (E : Env) (x0 x1 : PV) (h : PHeap) : Res :=
    (E.C fn_impl_sizeOk [x0] h).bind fun v1 =>
    (wantV v1.1 true).bind fun v2 =>
    (bif v2 then some (x1, v1.2) else some (.tup [], v1.2)).bind fun v3 =>
    (wantV v1.1 true).bind fun v4 =>
    (bif v4 then E.C fn_impl_sizeOk [v3.1] v3.2 else some (.tup [], v3.2)).bind fun v5 =>
    (E.p.pick v1.1 v5.1 (.bool false)).bind fun v6 =>
    (wantV v6 true).bind fun v7 =>
    (bif v7 then some (x0, v5.2) else some (.tup [], v5.2)).bind fun v8 =>
    (wantV v6 true).bind fun v9 =>
    (bif v9 then some (x1, v8.2) else some (.tup [], v8.2)).bind fun v10 =>
    (wantV v6 true).bind fun v11 =>
    (bif v11 then pv v10.2 (E.p.bin .mul 3 v8.1 v10.1) else some (.tup [], v10.2)).bind fun v12 =>
    (wantV v6 true).bind fun v13 =>
    (bif v13 then pv v12.2 (E.p.bin .leq 3 v12.1 (.int .i64 9)) else some (.tup [], v12.2)).bind fun v14 =>
    (E.p.pick v6 v14.1 (.bool false)).bind fun v15 =>
    (resV v15).bind fun v16 =>
    some (v16, v14.2)
theorem main_eq (E : Env) (x0 x1 : PV) (h : PHeap) : runBody (E.cx Tryd.prog kl) Tryd.f41 [x0, x1] h = main E x0 x1 h := by kernel_rfl
theorem call_eq (g : Nat → PV) (lf n : Nat) (x0 x1 : PV) (h : PHeap) : CL g lf (n + 1) fn_impl_BoardOk [x0, x1] h = main (env g lf n) x0 x1 h := by
  rw [← main_eq]
  show call Tryd.prog g KL lf (n + 1) 41 [x0, x1] h = _
  rw [call_succ, Tryd.func41]
  kernel_rfl
end impl_BoardOk
namespace spec_l20Owned
noncomputable def lp0 : Code := (codeAt (bodyOf Tryd.f42) [1, 1, 1, 1, 0, 1, 0, 0])
def st0 (x0 x1 x7 x8 x9 x10 x11 : PV) (h : PHeap) : St := ⟨[x0, x1, .junk, .junk, .junk, .junk, .junk, x7, x8, x9, x10, x11, .junk, .junk, .junk, .junk, .junk, .junk, .junk, .junk, .junk, .junk, .junk, .junk, .junk, .junk, .junk, .junk, .junk, .junk, .junk, .junk, .junk, .junk, .junk, .junk, .junk, .junk, .junk, .junk, .junk, .junk, .junk, .junk, .junk, .junk, .junk, .junk, .junk], h⟩
def se0_0_1_7_8_9_10_11_25 (x0 x1 x7 x8 x9 x10 x11 x25 : PV) (h : PHeap) : St := ⟨[x0, x1, .junk, .junk, .junk, .junk, .junk, x7, x8, x9, x10, x11, .junk, .junk, .junk, .junk, .junk, .junk, .junk, .junk, .junk, .junk, .junk, .junk, .junk, x25, .junk, .junk, .junk, .junk, .junk, .junk, .junk, .junk, .junk, .junk, .junk, .junk, .junk, .junk, .junk, .junk, .junk, .junk, .junk, .junk, .junk, .junk, .junk], h⟩
noncomputable def K0 (E : Env) (K : PX → St → Res) : PX → St → Res := (kBlock 0 (kSeq (ev (E.cx Tryd.prog kl) (codeAt (bodyOf Tryd.f42) [1, 1, 1, 1, 1])) K))
@[simp] theorem K0_ret (E : Env) (K : PX → St → Res) (s : St) : K0 E K .ret s = K .ret s := by kernel_rfl
noncomputable def body0 (E : Env) (K : PX → St → Res) (x0 x1 x7 x8 x9 x10 x11 : PV) (h : PHeap) : Res :=
    (E.p.len 23 x8).bind fun v26 =>
    (E.p.bin .lss 3 x11 v26).bind fun v27 =>
    condP v27
     (
      (E.C fn_spec_l20Rd_pick [x0, (.int .i64 3)] h).bind fun v28 =>
      (E.C fn_spec_l20Rd_pick [x0, (.int .i64 4)] v28.2).bind fun v29 =>
      (E.p.bin .lss 3 v29.1 x10).bind fun v30 =>
      condP v30
       (
        (E.p.buildSlice 26 1 [(0, (.int .i64 0))] v29.2).bind fun v31 =>
        (E.p.append 26 26 x9 v31.1 v31.2).bind fun v32 =>
        (E.p.bin .add 3 x11 (.int .i64 1)).bind fun v33 =>
        K .normal (st0 x0 x1 x7 x8 v32.1 x10 v33 v32.2))
       (
        (E.p.buildSlice 26 1 [(0, v28.1)] v29.2).bind fun v34 =>
        (E.p.append 26 26 x9 v34.1 v34.2).bind fun v35 =>
        (E.p.bin .add 3 x11 (.int .i64 1)).bind fun v36 =>
        K .normal (st0 x0 x1 x7 x8 v35.1 x10 v36 v35.2)))
     (
      K (.exit 0) (se0_0_1_7_8_9_10_11_25 x0 x1 x7 x8 x9 x10 x11 v27 h))
theorem body0_eq (E : Env) (K : PX → St → Res) (x0 x1 x7 x8 x9 x10 x11 : PV) (h : PHeap) : ev (E.cx Tryd.prog kl) lp0 (st0 x0 x1 x7 x8 x9 x10 x11 h) K = body0 E K x0 x1 x7 x8 x9 x10 x11 h := by kernel_rfl
theorem after0_se0_0_1_7_8_9_10_11_25 (E : Env) (x0 x1 x7 x8 x9 x10 x11 x25 : PV) (h : PHeap) : K0 E (kTop Tryd.prog Tryd.f42) (.exit 0) (se0_0_1_7_8_9_10_11_25 x0 x1 x7 x8 x9 x10 x11 x25 h) =
    (E.C fn_spec_l20Rd_odd [x0, x1] h).bind fun v17 =>
    condP v17.1
     (
      (E.p.buildSlice 26 1 [(0, (.int .i64 3))] v17.2).bind fun v18 =>
      (E.p.append 26 26 x9 v18.1 v18.2).bind fun v19 =>
      (resV x7).bind fun v20 =>
      (resV x8).bind fun v21 =>
      (resV v19.1).bind fun v22 =>
      some (.tup [v20, v21, v22], v19.2))
     (
      (resV x7).bind fun v23 =>
      (resV x8).bind fun v24 =>
      (resV x9).bind fun v25 =>
      some (.tup [v23, v24, v25], v17.2)) := by kernel_rfl
noncomputable def main (E : Env) (x0 x1 : PV) (h : PHeap) : Res :=
    (E.C fn_spec_l20Wires [x0, x1] h).bind fun v1 =>
    (E.p.extract v1.1 0).bind fun v2 =>
    (E.p.extract v1.1 1).bind fun v3 =>
    (E.p.buildSlice 26 0 [] v1.2).bind fun v4 =>
    (E.C fn_spec_l20Rd_pick [x0, (.int .i64 4)] v4.2).bind fun v5 =>
    loopK (ev (E.cx Tryd.prog spec_l20Owned.kl) spec_l20Owned.lp0) E.lf (spec_l20Owned.st0 x0 x1 v2 v3 v4.1 v5.1 (.int .i64 0) v5.2) (spec_l20Owned.K0 E (kTop Tryd.prog Tryd.f42))
theorem main_eq (E : Env) (x0 x1 : PV) (h : PHeap) : runBody (E.cx Tryd.prog kl) Tryd.f42 [x0, x1] h = main E x0 x1 h := by kernel_rfl
theorem call_eq (g : Nat → PV) (lf n : Nat) (x0 x1 : PV) (h : PHeap) : CL g lf (n + 1) fn_spec_l20Owned [x0, x1] h = main (env g lf n) x0 x1 h := by
  rw [← main_eq]
  show call Tryd.prog g KL lf (n + 1) 42 [x0, x1] h = _
  rw [call_succ, Tryd.func42]
  kernel_rfl
end spec_l20Owned
namespace impl_OwnersOk
noncomputable def lp0 : Code := (codeAt (bodyOf Tryd.f43) [1, 1, 0, 1, 0, 0])
def st0 (x20 x21 x22 : PV) (h : PHeap) : St := ⟨[.junk, .junk, .junk, .junk, .junk, .junk, .junk, .junk, .junk, .junk, .junk, .junk, .junk, .junk, .junk, .junk, .junk, .junk, .junk, .junk, x20, x21, x22, .junk, .junk, .junk, .junk, .junk, .junk, .junk], h⟩
def sr_6 (x6 : PV) (h : PHeap) : St := ⟨[.junk, .junk, .junk, .junk, .junk, .junk, x6, .junk, .junk, .junk, .junk, .junk, .junk, .junk, .junk, .junk, .junk, .junk, .junk, .junk, .junk, .junk, .junk, .junk, .junk, .junk, .junk, .junk, .junk, .junk], h⟩
def se0_20_21_22_23 (x20 x21 x22 x23 : PV) (h : PHeap) : St := ⟨[.junk, .junk, .junk, .junk, .junk, .junk, .junk, .junk, .junk, .junk, .junk, .junk, .junk, .junk, .junk, .junk, .junk, .junk, .junk, .junk, x20, x21, x22, x23, .junk, .junk, .junk, .junk, .junk, .junk], h⟩
noncomputable def K0 (E : Env) (K : PX → St → Res) : PX → St → Res := (kBlock 0 (kSeq (ev (E.cx Tryd.prog kl) (codeAt (bodyOf Tryd.f43) [1, 1, 1])) K))
@[simp] theorem K0_ret (E : Env) (K : PX → St → Res) (s : St) : K0 E K .ret s = K .ret s := by kernel_rfl
noncomputable def body0 (E : Env) (K : PX → St → Res) (x20 x21 x22 : PV) (h : PHeap) : Res :=
    (E.p.bin .lss 3 x22 x21).bind fun v23 =>
    condP v23
     (
      (E.p.indexAddr 26 x20 x22).bind fun v24 =>
      (E.p.load 3 v24 h).bind fun v25 =>
      (E.C fn_impl_contentOk [v25] h).bind fun v26 =>
      (E.p.un .not v26.1).bind fun v27 =>
      condP v27
       (
        K .ret (sr_6 (.bool false) v26.2))
       (
        (E.p.bin .add 3 x22 (.int .i64 1)).bind fun v28 =>
        K .normal (st0 x20 x21 v28 v26.2)))
     (
      K (.exit 0) (se0_20_21_22_23 x20 x21 x22 v23 h))
theorem body0_eq (E : Env) (K : PX → St → Res) (x20 x21 x22 : PV) (h : PHeap) : ev (E.cx Tryd.prog kl) lp0 (st0 x20 x21 x22 h) K = body0 E K x20 x21 x22 h := by kernel_rfl
theorem after0_se0_20_21_22_23 (E : Env) (x20 x21 x22 x23 : PV) (h : PHeap) : K0 E (kTop Tryd.prog Tryd.f43) (.exit 0) (se0_20_21_22_23 x20 x21 x22 x23 h) =
    (resV (.bool true)).bind fun v22 =>
    some (v22, h) := by kernel_rfl
theorem top_sr_6 (x6 : PV) (h : PHeap) : kTop Tryd.prog Tryd.f43 .ret (sr_6 x6 h) =
    (resV x6).bind fun v29 =>
    some (v29, h) := by kernel_rfl
noncomputable def main (E : Env) (x0 x1 x2 : PV) (h : PHeap) : Res :=
    (E.C fn_impl_WiresOk [x0, x1] h).bind fun v1 =>
    (E.p.un .not v1.1).bind fun v2 =>
    (wantV v2 false).bind fun v3 =>
    (bif v3 then some (x2, v1.2) else some (.tup [], v1.2)).bind fun v4 =>
    (wantV v2 false).bind fun v5 =>
    (bif v5 then pv v4.2 (E.p.len 26 v4.1) else some (.tup [], v4.2)).bind fun v6 =>
    (wantV v2 false).bind fun v7 =>
    (bif v7 then some (x1, v6.2) else some (.tup [], v6.2)).bind fun v8 =>
    (wantV v2 false).bind fun v9 =>
    (bif v9 then pv v8.2 (E.p.len 23 v8.1) else some (.tup [], v8.2)).bind fun v10 =>
    (wantV v2 false).bind fun v11 =>
    (bif v11 then pv v10.2 (E.p.bin .neq 3 v6.1 v10.1) else some (.tup [], v10.2)).bind fun v12 =>
    (E.p.pick v2 (.bool true) v12.1).bind fun v13 =>
    condP v13
     (
      (resV (.bool false)).bind fun v14 =>
      some (v14, v12.2))
     (
      (E.p.len 26 x2).bind fun v15 =>
      loopK (ev (E.cx Tryd.prog impl_OwnersOk.kl) impl_OwnersOk.lp0) E.lf (impl_OwnersOk.st0 x2 v15 (.int .i64 0) v12.2) (impl_OwnersOk.K0 E (kTop Tryd.prog Tryd.f43)))
theorem main_eq (E : Env) (x0 x1 x2 : PV) (h : PHeap) : runBody (E.cx Tryd.prog kl) Tryd.f43 [x0, x1, x2] h = main E x0 x1 x2 h := by kernel_rfl
theorem call_eq (g : Nat → PV) (lf n : Nat) (x0 x1 x2 : PV) (h : PHeap) : CL g lf (n + 1) fn_impl_OwnersOk [x0, x1, x2] h = main (env g lf n) x0 x1 x2 h := by
  rw [← main_eq]
  show call Tryd.prog g KL lf (n + 1) 43 [x0, x1, x2] h = _
  rw [call_succ, Tryd.func43]
  kernel_rfl
end impl_OwnersOk
namespace impl_setOf
noncomputable def lp0 : Code := (codeAt (bodyOf Tryd.f44) [1, 1, 0, 1, 0, 0])
def st0 (x1 x5 x8 x9 x10 : PV) (h : PHeap) : St := ⟨[.junk, x1, .junk, .junk, .junk, x5, .junk, .junk, x8, x9, x10, .junk, .junk, .junk, .junk, .junk, .junk, .junk, .junk, .junk, .junk, .junk, .junk, .junk], h⟩
def se0_1_5_8_9_10_11 (x1 x5 x8 x9 x10 x11 : PV) (h : PHeap) : St := ⟨[.junk, x1, .junk, .junk, .junk, x5, .junk, .junk, x8, x9, x10, x11, .junk, .junk, .junk, .junk, .junk, .junk, .junk, .junk, .junk, .junk, .junk, .junk], h⟩
noncomputable def K0 (E : Env) (K : PX → St → Res) : PX → St → Res := (kBlock 0 (kSeq (ev (E.cx Tryd.prog kl) (codeAt (bodyOf Tryd.f44) [1, 1, 1])) K))
@[simp] theorem K0_ret (E : Env) (K : PX → St → Res) (s : St) : K0 E K .ret s = K .ret s := by kernel_rfl
noncomputable def body0 (E : Env) (K : PX → St → Res) (x1 x5 x8 x9 x10 : PV) (h : PHeap) : Res :=
    (E.p.bin .lss 3 x10 x9).bind fun v11 =>
    condP v11
     (
      (E.p.indexAddr 26 x8 x10).bind fun v12 =>
      (E.p.load 3 v12 h).bind fun v13 =>
      (E.p.bin .eql 3 v13 x1).bind fun v14 =>
      condP v14
       (
        (E.p.bin .shl 3 (.int .i64 1) x10).bind fun v15 =>
        (E.p.bin .or 3 x5 v15).bind fun v16 =>
        (E.p.bin .add 3 x10 (.int .i64 1)).bind fun v17 =>
        K .normal (st0 x1 v16 x8 x9 v17 h))
       (
        (E.p.bin .add 3 x10 (.int .i64 1)).bind fun v18 =>
        K .normal (st0 x1 x5 x8 x9 v18 h)))
     (
      K (.exit 0) (se0_1_5_8_9_10_11 x1 x5 x8 x9 x10 v11 h))
theorem body0_eq (E : Env) (K : PX → St → Res) (x1 x5 x8 x9 x10 : PV) (h : PHeap) : ev (E.cx Tryd.prog kl) lp0 (st0 x1 x5 x8 x9 x10 h) K = body0 E K x1 x5 x8 x9 x10 h := by kernel_rfl
theorem after0_se0_1_5_8_9_10_11 (E : Env) (x1 x5 x8 x9 x10 x11 : PV) (h : PHeap) : K0 E (kTop Tryd.prog Tryd.f44) (.exit 0) (se0_1_5_8_9_10_11 x1 x5 x8 x9 x10 x11 h) =
    (resV x5).bind fun v10 =>
    some (v10, h) := by kernel_rfl
noncomputable def main (E : Env) (x0 x1 : PV) (h : PHeap) : Res :=
    (E.p.len 26 x0).bind fun v1 =>
    loopK (ev (E.cx Tryd.prog impl_setOf.kl) impl_setOf.lp0) E.lf (impl_setOf.st0 x1 (.int .i64 0) x0 v1 (.int .i64 0) h) (impl_setOf.K0 E (kTop Tryd.prog Tryd.f44))
theorem main_eq (E : Env) (x0 x1 : PV) (h : PHeap) : runBody (E.cx Tryd.prog kl) Tryd.f44 [x0, x1] h = main E x0 x1 h := by kernel_rfl
theorem call_eq (g : Nat → PV) (lf n : Nat) (x0 x1 : PV) (h : PHeap) : CL g lf (n + 1) fn_impl_setOf [x0, x1] h = main (env g lf n) x0 x1 h := by
  rw [← main_eq]
  show call Tryd.prog g KL lf (n + 1) 44 [x0, x1] h = _
  rw [call_succ, Tryd.func44]
  kernel_rfl
end impl_setOf
namespace impl_partsBySize
noncomputable def main (E : Env) (x0 : PV) (h : PHeap) : Res :=
    (E.C fn_impl_partsOf [x0] h).bind fun v1 =>
    (E.C fn_slices_SortStableFunc___int_int_ [v1.1, (.fn fn_impl_partsBySize_1)] v1.2).bind fun v2 =>
    (resV v1.1).bind fun v3 =>
    some (v3, v2.2)
theorem main_eq (E : Env) (x0 : PV) (h : PHeap) : runBody (E.cx Tryd.prog kl) Tryd.f45 [x0] h = main E x0 h := by kernel_rfl
theorem call_eq (g : Nat → PV) (lf n : Nat) (x0 : PV) (h : PHeap) : CL g lf (n + 1) fn_impl_partsBySize [x0] h = main (env g lf n) x0 h := by
  rw [← main_eq]
  show call Tryd.prog g KL lf (n + 1) 45 [x0] h = _
  rw [call_succ, Tryd.func45]
  kernel_rfl
end impl_partsBySize
namespace impl_countIn
noncomputable def main (E : Env) (x0 : PV) (h : PHeap) : Res :=
    (E.p.conv 3 55 x0).bind fun v1 =>
    (E.C fn_bits_OnesCount [v1] h).bind fun v2 =>
    (resV v2.1).bind fun v3 =>
    some (v3, v2.2)
theorem main_eq (E : Env) (x0 : PV) (h : PHeap) : runBody (E.cx Tryd.prog kl) Tryd.f46 [x0] h = main E x0 h := by kernel_rfl
theorem call_eq (g : Nat → PV) (lf n : Nat) (x0 : PV) (h : PHeap) : CL g lf (n + 1) fn_impl_countIn [x0] h = main (env g lf n) x0 h := by
  rw [← main_eq]
  show call Tryd.prog g KL lf (n + 1) 46 [x0] h = _
  rw [call_succ, Tryd.func46]
  kernel_rfl
end impl_countIn
namespace spec_l2Set
noncomputable def lp0 : Code := (codeAt (bodyOf Tryd.f47) [1, 1, 0, 1, 0, 0])
def st0 (x0 x1 x5 x6 : PV) (h : PHeap) : St := ⟨[x0, x1, .junk, .junk, .junk, x5, x6, .junk, .junk, .junk, .junk, .junk, .junk, .junk, .junk, .junk, .junk, .junk, .junk, .junk, .junk, .junk, .junk, .junk], h⟩
def se0_0_1_5_6_10 (x0 x1 x5 x6 x10 : PV) (h : PHeap) : St := ⟨[x0, x1, .junk, .junk, .junk, x5, x6, .junk, .junk, .junk, x10, .junk, .junk, .junk, .junk, .junk, .junk, .junk, .junk, .junk, .junk, .junk, .junk, .junk], h⟩
noncomputable def K0 (E : Env) (K : PX → St → Res) : PX → St → Res := (kBlock 0 (kSeq (ev (E.cx Tryd.prog kl) (codeAt (bodyOf Tryd.f47) [1, 1, 1])) K))
@[simp] theorem K0_ret (E : Env) (K : PX → St → Res) (s : St) : K0 E K .ret s = K .ret s := by kernel_rfl
noncomputable def body0 (E : Env) (K : PX → St → Res) (x0 x1 x5 x6 : PV) (h : PHeap) : Res :=
    (E.p.len 26 x0).bind fun v11 =>
    (E.p.bin .lss 3 x6 v11).bind fun v12 =>
    condP v12
     (
      (E.p.indexAddr 26 x0 x6).bind fun v13 =>
      (E.p.load 3 v13 h).bind fun v14 =>
      (E.p.bin .eql 3 v14 x1).bind fun v15 =>
      condP v15
       (
        (E.p.bin .shl 3 (.int .i64 1) x6).bind fun v16 =>
        (E.p.bin .or 3 x5 v16).bind fun v17 =>
        (E.p.bin .add 3 x6 (.int .i64 1)).bind fun v18 =>
        K .normal (st0 x0 x1 v17 v18 h))
       (
        (E.p.bin .add 3 x6 (.int .i64 1)).bind fun v19 =>
        K .normal (st0 x0 x1 x5 v19 h)))
     (
      K (.exit 0) (se0_0_1_5_6_10 x0 x1 x5 x6 v12 h))
theorem body0_eq (E : Env) (K : PX → St → Res) (x0 x1 x5 x6 : PV) (h : PHeap) : ev (E.cx Tryd.prog kl) lp0 (st0 x0 x1 x5 x6 h) K = body0 E K x0 x1 x5 x6 h := by kernel_rfl
theorem after0_se0_0_1_5_6_10 (E : Env) (x0 x1 x5 x6 x10 : PV) (h : PHeap) : K0 E (kTop Tryd.prog Tryd.f47) (.exit 0) (se0_0_1_5_6_10 x0 x1 x5 x6 x10 h) =
    (resV x5).bind fun v10 =>
    some (v10, h) := by kernel_rfl
noncomputable def main (E : Env) (x0 x1 : PV) (h : PHeap) : Res :=
    loopK (ev (E.cx Tryd.prog spec_l2Set.kl) spec_l2Set.lp0) E.lf (spec_l2Set.st0 x0 x1 (.int .i64 0) (.int .i64 0) h) (spec_l2Set.K0 E (kTop Tryd.prog Tryd.f47))
theorem main_eq (E : Env) (x0 x1 : PV) (h : PHeap) : runBody (E.cx Tryd.prog kl) Tryd.f47 [x0, x1] h = main E x0 x1 h := by kernel_rfl
theorem call_eq (g : Nat → PV) (lf n : Nat) (x0 x1 : PV) (h : PHeap) : CL g lf (n + 1) fn_spec_l2Set [x0, x1] h = main (env g lf n) x0 x1 h := by
  rw [← main_eq]
  show call Tryd.prog g KL lf (n + 1) 47 [x0, x1] h = _
  rw [call_succ, Tryd.func47]
  kernel_rfl
end spec_l2Set
namespace impl_wonBy
noncomputable def main (E : Env) (x0 x1 x2 : PV) (h : PHeap) : Res :=
    (E.C fn_impl_linked [x0, x1] h).bind fun v1 =>
    condP v1.1
     (
      (resV (.int .i64 1)).bind fun v2 =>
      some (v2, v1.2))
     (
      (E.p.bin .or 3 x1 x2).bind fun v3 =>
      (E.C fn_impl_linked [x0, v3] v1.2).bind fun v4 =>
      (E.p.un .not v4.1).bind fun v5 =>
      condP v5
       (
        (resV (.int .i64 2)).bind fun v6 =>
        some (v6, v4.2))
       (
        (resV (.int .i64 0)).bind fun v7 =>
        some (v7, v4.2)))
theorem main_eq (E : Env) (x0 x1 x2 : PV) (h : PHeap) : runBody (E.cx Tryd.prog kl) Tryd.f48 [x0, x1, x2] h = main E x0 x1 x2 h := by kernel_rfl
theorem call_eq (g : Nat → PV) (lf n : Nat) (x0 x1 x2 : PV) (h : PHeap) : CL g lf (n + 1) fn_impl_wonBy [x0, x1, x2] h = main (env g lf n) x0 x1 x2 h := by
  rw [← main_eq]
  show call Tryd.prog g KL lf (n + 1) 48 [x0, x1, x2] h = _
  rw [call_succ, Tryd.func48]
  kernel_rfl
end impl_wonBy
namespace spec_l20Rd_pick
noncomputable def main (E : Env) (x0 x1 : PV) (h : PHeap) : Res :=
    (E.p.ptr x0).bind fun v1 =>
    (E.p.fieldAddr 76 v1 1).bind fun v2 =>
    (E.p.load 3 v2 h).bind fun v3 =>
    (E.p.bin .add 3 v3 (.int .i64 1)).bind fun v4 =>
    (E.p.ptr x0).bind fun v5 =>
    (E.p.fieldAddr 76 v5 1).bind fun v6 =>
    (E.p.store 3 v6 v4 h).bind fun v7 =>
    (E.p.bin .lss 3 x1 (.int .i64 1)).bind fun v8 =>
    (wantV v8 false).bind fun v9 =>
    (bif v9 then some (x0, v7) else some (.tup [], v7)).bind fun v10 =>
    (wantV v8 false).bind fun v11 =>
    (bif v11 then pv v10.2 (E.p.ptr v10.1) else some (.tup [], v10.2)).bind fun v12 =>
    (wantV v8 false).bind fun v13 =>
    (bif v13 then pv v12.2 (E.p.fieldAddr 76 v12.1 0) else some (.tup [], v12.2)).bind fun v14 =>
    (wantV v8 false).bind fun v15 =>
    (bif v15 then pv v14.2 (E.p.load 22 v14.1 v14.2) else some (.tup [], v14.2)).bind fun v16 =>
    (wantV v8 false).bind fun v17 =>
    (bif v17 then pv v16.2 (E.p.len 22 v16.1) else some (.tup [], v16.2)).bind fun v18 =>
    (wantV v8 false).bind fun v19 =>
    (bif v19 then pv v18.2 (E.p.bin .eql 3 v18.1 (.int .i64 0)) else some (.tup [], v18.2)).bind fun v20 =>
    (E.p.pick v8 (.bool true) v20.1).bind fun v21 =>
    condP v21
     (
      (resV (.int .i64 0)).bind fun v22 =>
      some (v22, v20.2))
     (
      (E.p.ptr x0).bind fun v23 =>
      (E.p.fieldAddr 76 v23 1).bind fun v24 =>
      (E.p.load 3 v24 v20.2).bind fun v25 =>
      (E.p.bin .sub 3 v25 (.int .i64 1)).bind fun v26 =>
      (E.p.ptr x0).bind fun v27 =>
      (E.p.fieldAddr 76 v27 0).bind fun v28 =>
      (E.p.load 22 v28 v20.2).bind fun v29 =>
      (E.p.len 22 v29).bind fun v30 =>
      (E.p.bin .lss 3 v26 v30).bind fun v31 =>
      condP v31
       (
        (E.p.ptr x0).bind fun v32 =>
        (E.p.fieldAddr 76 v32 0).bind fun v33 =>
        (E.p.load 22 v33 v20.2).bind fun v34 =>
        (E.p.indexAddr 22 v34 v26).bind fun v35 =>
        (E.p.load 5 v35 v20.2).bind fun v36 =>
        (E.p.conv 5 3 v36).bind fun v37 =>
        (E.p.bin .rem 3 v37 x1).bind fun v38 =>
        (resV v38).bind fun v39 =>
        some (v39, v20.2))
       (
        (E.p.ptr x0).bind fun v40 =>
        (E.p.fieldAddr 76 v40 0).bind fun v41 =>
        (E.p.load 22 v41 v20.2).bind fun v42 =>
        (E.p.ptr x0).bind fun v43 =>
        (E.p.fieldAddr 76 v43 0).bind fun v44 =>
        (E.p.load 22 v44 v20.2).bind fun v45 =>
        (E.p.len 22 v45).bind fun v46 =>
        (E.p.bin .rem 3 v26 v46).bind fun v47 =>
        (E.p.indexAddr 22 v42 v47).bind fun v48 =>
        (E.p.load 5 v48 v20.2).bind fun v49 =>
        (E.p.conv 5 3 v49).bind fun v50 =>
        (E.p.bin .mul 3 v50 (.int .i64 131)).bind fun v51 =>
        (E.p.ptr x0).bind fun v52 =>
        (E.p.fieldAddr 76 v52 0).bind fun v53 =>
        (E.p.load 22 v53 v20.2).bind fun v54 =>
        (E.p.bin .mul 3 v26 (.int .i64 7)).bind fun v55 =>
        (E.p.bin .add 3 v55 (.int .i64 3)).bind fun v56 =>
        (E.p.ptr x0).bind fun v57 =>
        (E.p.fieldAddr 76 v57 0).bind fun v58 =>
        (E.p.load 22 v58 v20.2).bind fun v59 =>
        (E.p.len 22 v59).bind fun v60 =>
        (E.p.bin .rem 3 v56 v60).bind fun v61 =>
        (E.p.indexAddr 22 v54 v61).bind fun v62 =>
        (E.p.load 5 v62 v20.2).bind fun v63 =>
        (E.p.conv 5 3 v63).bind fun v64 =>
        (E.p.bin .mul 3 v64 (.int .i64 1117)).bind fun v65 =>
        (E.p.bin .add 3 v51 v65).bind fun v66 =>
        (E.p.bin .mul 3 v26 (.int .i64 29)).bind fun v67 =>
        (E.p.bin .add 3 v66 v67).bind fun v68 =>
        (E.p.ptr x0).bind fun v69 =>
        (E.p.fieldAddr 76 v69 0).bind fun v70 =>
        (E.p.load 22 v70 v20.2).bind fun v71 =>
        (E.p.len 22 v71).bind fun v72 =>
        (E.p.bin .quo 3 v26 v72).bind fun v73 =>
        (E.p.bin .mul 3 v73 (.int .i64 53)).bind fun v74 =>
        (E.p.bin .add 3 v68 v74).bind fun v75 =>
        (E.p.bin .quo 3 v75 (.int .i64 64)).bind fun v76 =>
        (E.p.bin .xor 3 v75 v76).bind fun v77 =>
        (E.p.bin .rem 3 v77 x1).bind fun v78 =>
        (resV v78).bind fun v79 =>
        some (v79, v20.2)))
theorem main_eq (E : Env) (x0 x1 : PV) (h : PHeap) : runBody (E.cx Tryd.prog kl) Tryd.f49 [x0, x1] h = main E x0 x1 h := by kernel_rfl
theorem call_eq (g : Nat → PV) (lf n : Nat) (x0 x1 : PV) (h : PHeap) : CL g lf (n + 1) fn_spec_l20Rd_pick [x0, x1] h = main (env g lf n) x0 x1 h := by
  rw [← main_eq]
  show call Tryd.prog g KL lf (n + 1) 49 [x0, x1] h = _
  rw [call_succ, Tryd.func49]
  kernel_rfl
end spec_l20Rd_pick
namespace impl_playerOk
noncomputable def main (E : Env) (x0 : PV) (h : PHeap) : Res :=
    (E.p.bin .eql 3 x0 (.int .i64 1)).bind fun v1 =>
    (wantV v1 false).bind fun v2 =>
    (bif v2 then some (x0, h) else some (.tup [], h)).bind fun v3 =>
    (wantV v1 false).bind fun v4 =>
    (bif v4 then pv v3.2 (E.p.bin .eql 3 v3.1 (.int .i64 2)) else some (.tup [], v3.2)).bind fun v5 =>
    (E.p.pick v1 (.bool true) v5.1).bind fun v6 =>
    (resV v6).bind fun v7 =>
    some (v7, v5.2)
theorem main_eq (E : Env) (x0 : PV) (h : PHeap) : runBody (E.cx Tryd.prog kl) Tryd.f50 [x0] h = main E x0 h := by kernel_rfl
theorem call_eq (g : Nat → PV) (lf n : Nat) (x0 : PV) (h : PHeap) : CL g lf (n + 1) fn_impl_playerOk [x0] h = main (env g lf n) x0 h := by
  rw [← main_eq]
  show call Tryd.prog g KL lf (n + 1) 50 [x0] h = _
  rw [call_succ, Tryd.func50]
  kernel_rfl
end impl_playerOk
namespace impl_newNetGame
noncomputable def main (E : Env) (x0 : PV) (h : PHeap) : Res :=
    (E.p.alloc 65 h).bind fun v1 =>
    (E.p.makeMap none v1.2).bind fun v2 =>
    (E.p.build 65 [(0, x0), (1, v2.1)]).bind fun v3 =>
    (E.p.store 65 v1.1 v3 v2.2).bind fun v4 =>
    (loadP Tryd.prog 65 v1.1 v4).bind fun v5 =>
    some (v5, v4)
theorem main_eq (E : Env) (x0 : PV) (h : PHeap) : runBody (E.cx Tryd.prog kl) Tryd.f51 [x0] h = main E x0 h := by kernel_rfl
theorem call_eq (g : Nat → PV) (lf n : Nat) (x0 : PV) (h : PHeap) : CL g lf (n + 1) fn_impl_newNetGame [x0] h = main (env g lf n) x0 h := by
  rw [← main_eq]
  show call Tryd.prog g KL lf (n + 1) 51 [x0] h = _
  rw [call_succ, Tryd.func51]
  kernel_rfl
end impl_newNetGame
namespace impl_netGame_winner
noncomputable def main (E : Env) (x0 x1 : PV) (h : PHeap) : Res :=
    (E.p.box x0 h).bind fun v1 =>
    (E.p.box x1 v1.2).bind fun v2 =>
    (E.p.fieldAddr 65 v1.1 1).bind fun v3 =>
    (E.p.load 63 v3 v2.2).bind fun v4 =>
    (E.p.load 70 v2.1 v2.2).bind fun v5 =>
    (E.p.lookup 63 v4 v5 true v2.2).bind fun v6 =>
    (E.p.extract v6 0).bind fun v7 =>
    (E.p.extract v6 1).bind fun v8 =>
    (E.p.un .not v8).bind fun v9 =>
    condP v9
     (
      (E.p.load 65 v1.1 v2.2).bind fun v10 =>
      (E.p.load 70 v2.1 v2.2).bind fun v11 =>
      (E.C fn_impl_netGame_solved [v10, v11] v2.2).bind fun v12 =>
      (E.p.fieldAddr 65 v1.1 1).bind fun v13 =>
      (E.p.load 63 v13 v12.2).bind fun v14 =>
      (E.p.load 70 v2.1 v12.2).bind fun v15 =>
      (E.p.update 63 v14 v15 v12.1 v12.2).bind fun v16 =>
      (resV v12.1).bind fun v17 =>
      some (v17, v16))
     (
      (resV v7).bind fun v18 =>
      some (v18, v2.2))
theorem main_eq (E : Env) (x0 x1 : PV) (h : PHeap) : runBody (E.cx Tryd.prog kl) Tryd.f52 [x0, x1] h = main E x0 x1 h := by kernel_rfl
theorem call_eq (g : Nat → PV) (lf n : Nat) (x0 x1 : PV) (h : PHeap) : CL g lf (n + 1) fn_impl_netGame_winner [x0, x1] h = main (env g lf n) x0 x1 h := by
  rw [← main_eq]
  show call Tryd.prog g KL lf (n + 1) 52 [x0, x1] h = _
  rw [call_succ, Tryd.func52]
  kernel_rfl
end impl_netGame_winner
namespace impl_standingOf
noncomputable def lp0 : Code := (codeAt (bodyOf Tryd.f53) [1, 1, 0, 1, 0, 0])
def st0 (x0 x4 x5 x9 : PV) (h : PHeap) : St := ⟨[x0, .junk, .junk, .junk, x4, x5, .junk, .junk, .junk, x9, .junk, .junk, .junk, .junk, .junk, .junk, .junk, .junk, .junk, .junk], h⟩
def se0_0_4_5_9_10 (x0 x4 x5 x9 x10 : PV) (h : PHeap) : St := ⟨[x0, .junk, .junk, .junk, x4, x5, .junk, .junk, .junk, x9, x10, .junk, .junk, .junk, .junk, .junk, .junk, .junk, .junk, .junk], h⟩
noncomputable def K0 (E : Env) (K : PX → St → Res) : PX → St → Res := (kBlock 0 (kSeq (ev (E.cx Tryd.prog kl) (codeAt (bodyOf Tryd.f53) [1, 1, 1])) K))
@[simp] theorem K0_ret (E : Env) (K : PX → St → Res) (s : St) : K0 E K .ret s = K .ret s := by kernel_rfl
noncomputable def body0 (E : Env) (K : PX → St → Res) (x0 x4 x5 x9 : PV) (h : PHeap) : Res :=
    (E.p.bin .lss 3 x9 (.int .i64 3)).bind fun v14 =>
    condP v14
     (
      (E.C fn_impl_setOf [x0, x9] h).bind fun v15 =>
      (E.p.fieldAddr 70 x5 0).bind fun v16 =>
      (E.p.indexAddr 68 v16 x9).bind fun v17 =>
      (E.p.store 3 v17 v15.1 v15.2).bind fun v18 =>
      (E.p.bin .add 3 x9 (.int .i64 1)).bind fun v19 =>
      K .normal (st0 x0 x4 x5 v19 v18))
     (
      K (.exit 0) (se0_0_4_5_9_10 x0 x4 x5 x9 v14 h))
theorem body0_eq (E : Env) (K : PX → St → Res) (x0 x4 x5 x9 : PV) (h : PHeap) : ev (E.cx Tryd.prog kl) lp0 (st0 x0 x4 x5 x9 h) K = body0 E K x0 x4 x5 x9 h := by kernel_rfl
theorem after0_se0_0_4_5_9_10 (E : Env) (x0 x4 x5 x9 x10 : PV) (h : PHeap) : K0 E (kTop Tryd.prog Tryd.f53) (.exit 0) (se0_0_4_5_9_10 x0 x4 x5 x9 x10 h) =
    (E.p.load 70 x5 h).bind fun v11 =>
    (E.p.store 70 x4 v11 h).bind fun v12 =>
    (loadP Tryd.prog 70 x4 v12).bind fun v13 =>
    some (v13, v12) := by kernel_rfl
noncomputable def main (E : Env) (x0 x1 : PV) (h : PHeap) : Res :=
    (E.p.alloc 70 h).bind fun v1 =>
    (E.p.build 70 [(1, x1)]).bind fun v2 =>
    (E.p.alloc 70 v1.2).bind fun v3 =>
    (E.p.store 70 v3.1 v2 v3.2).bind fun v4 =>
    loopK (ev (E.cx Tryd.prog impl_standingOf.kl) impl_standingOf.lp0) E.lf (impl_standingOf.st0 x0 v1.1 v3.1 (.int .i64 0) v4) (impl_standingOf.K0 E (kTop Tryd.prog Tryd.f53))
theorem main_eq (E : Env) (x0 x1 : PV) (h : PHeap) : runBody (E.cx Tryd.prog kl) Tryd.f53 [x0, x1] h = main E x0 x1 h := by kernel_rfl
theorem call_eq (g : Nat → PV) (lf n : Nat) (x0 x1 : PV) (h : PHeap) : CL g lf (n + 1) fn_impl_standingOf [x0, x1] h = main (env g lf n) x0 x1 h := by
  rw [← main_eq]
  show call Tryd.prog g KL lf (n + 1) 53 [x0, x1] h = _
  rw [call_succ, Tryd.func53]
  kernel_rfl
end impl_standingOf
namespace laws_toWire
noncomputable def main (E : Env) (x0 : PV) (h : PHeap) : Res :=
    (E.p.box x0 h).bind fun v1 =>
    (E.p.alloc 41 v1.2).bind fun v2 =>
    (E.p.alloc 41 v2.2).bind fun v3 =>
    (E.p.fieldAddr 73 v1.1 0).bind fun v4 =>
    (E.p.load 3 v4 v3.2).bind fun v5 =>
    (E.p.fieldAddr 41 v3.1 0).bind fun v6 =>
    (E.p.store 3 v6 v5 v3.2).bind fun v7 =>
    (E.p.fieldAddr 73 v1.1 1).bind fun v8 =>
    (E.p.load 3 v8 v7).bind fun v9 =>
    (E.p.fieldAddr 41 v3.1 1).bind fun v10 =>
    (E.p.store 3 v10 v9 v7).bind fun v11 =>
    (E.p.load 41 v3.1 v11).bind fun v12 =>
    (E.p.store 41 v2.1 v12 v11).bind fun v13 =>
    (loadP Tryd.prog 41 v2.1 v13).bind fun v14 =>
    some (v14, v13)
theorem main_eq (E : Env) (x0 : PV) (h : PHeap) : runBody (E.cx Tryd.prog kl) Tryd.f54 [x0] h = main E x0 h := by kernel_rfl
theorem call_eq (g : Nat → PV) (lf n : Nat) (x0 : PV) (h : PHeap) : CL g lf (n + 1) fn_laws_toWire [x0] h = main (env g lf n) x0 h := by
  rw [← main_eq]
  show call Tryd.prog g KL lf (n + 1) 54 [x0] h = _
  rw [call_succ, Tryd.func54]
  kernel_rfl
end laws_toWire
namespace laws_eqWire
noncomputable def main (E : Env) (x0 x1 : PV) (h : PHeap) : Res :=
    (E.p.box x0 h).bind fun v1 =>
    (E.p.box x1 v1.2).bind fun v2 =>
    (E.p.fieldAddr 41 v1.1 0).bind fun v3 =>
    (E.p.load 3 v3 v2.2).bind fun v4 =>
    (E.p.fieldAddr 41 v2.1 0).bind fun v5 =>
    (E.p.load 3 v5 v2.2).bind fun v6 =>
    (E.p.bin .neq 3 v4 v6).bind fun v7 =>
    condP v7
     (
      (resV (.bool false)).bind fun v8 =>
      some (v8, v2.2))
     (
      (E.p.fieldAddr 41 v1.1 1).bind fun v9 =>
      (E.p.load 3 v9 v2.2).bind fun v10 =>
      (E.p.fieldAddr 41 v2.1 1).bind fun v11 =>
      (E.p.load 3 v11 v2.2).bind fun v12 =>
      (E.p.bin .neq 3 v10 v12).bind fun v13 =>
      condP v13
       (
        (resV (.bool false)).bind fun v14 =>
        some (v14, v2.2))
       (
        (resV (.bool true)).bind fun v15 =>
        some (v15, v2.2)))
theorem main_eq (E : Env) (x0 x1 : PV) (h : PHeap) : runBody (E.cx Tryd.prog kl) Tryd.f55 [x0, x1] h = main E x0 x1 h := by kernel_rfl
theorem call_eq (g : Nat → PV) (lf n : Nat) (x0 x1 : PV) (h : PHeap) : CL g lf (n + 1) fn_laws_eqWire [x0, x1] h = main (env g lf n) x0 x1 h := by
  rw [← main_eq]
  show call Tryd.prog g KL lf (n + 1) 55 [x0, x1] h = _
  rw [call_succ, Tryd.func55]
  kernel_rfl
end laws_eqWire
namespace spec_l20Rd_odd
noncomputable def main (E : Env) (x0 x1 : PV) (h : PHeap) : Res :=
    (E.p.bin .gtr 3 x1 (.int .i64 0)).bind fun v1 =>
    (wantV v1 true).bind fun v2 =>
    (bif v2 then some (x0, h) else some (.tup [], h)).bind fun v3 =>
    (wantV v1 true).bind fun v4 =>
    (bif v4 then some (x1, v3.2) else some (.tup [], v3.2)).bind fun v5 =>
    (wantV v1 true).bind fun v6 =>
    (bif v6 then E.C fn_spec_l20Rd_pick [v3.1, v5.1] v5.2 else some (.tup [], v5.2)).bind fun v7 =>
    (wantV v1 true).bind fun v8 =>
    (bif v8 then some (x1, v7.2) else some (.tup [], v7.2)).bind fun v9 =>
    (wantV v1 true).bind fun v10 =>
    (bif v10 then pv v9.2 (E.p.bin .sub 3 v9.1 (.int .i64 1)) else some (.tup [], v9.2)).bind fun v11 =>
    (wantV v1 true).bind fun v12 =>
    (bif v12 then pv v11.2 (E.p.bin .eql 3 v7.1 v11.1) else some (.tup [], v11.2)).bind fun v13 =>
    (E.p.pick v1 v13.1 (.bool false)).bind fun v14 =>
    (resV v14).bind fun v15 =>
    some (v15, v13.2)
theorem main_eq (E : Env) (x0 x1 : PV) (h : PHeap) : runBody (E.cx Tryd.prog kl) Tryd.f56 [x0, x1] h = main E x0 x1 h := by kernel_rfl
theorem call_eq (g : Nat → PV) (lf n : Nat) (x0 x1 : PV) (h : PHeap) : CL g lf (n + 1) fn_spec_l20Rd_odd [x0, x1] h = main (env g lf n) x0 x1 h := by
  rw [← main_eq]
  show call Tryd.prog g KL lf (n + 1) 56 [x0, x1] h = _
  rw [call_succ, Tryd.func56]
  kernel_rfl
end spec_l20Rd_odd
namespace impl_nodeOk
noncomputable def main (E : Env) (x0 x1 : PV) (h : PHeap) : Res :=
    (E.p.bin .geq 3 x1 (.int .i64 0)).bind fun v1 =>
    (wantV v1 true).bind fun v2 =>
    (bif v2 then some (x1, h) else some (.tup [], h)).bind fun v3 =>
    (wantV v1 true).bind fun v4 =>
    (bif v4 then some (x0, v3.2) else some (.tup [], v3.2)).bind fun v5 =>
    (wantV v1 true).bind fun v6 =>
    (bif v6 then pv v5.2 (E.p.bin .lss 3 v3.1 v5.1) else some (.tup [], v5.2)).bind fun v7 =>
    (E.p.pick v1 v7.1 (.bool false)).bind fun v8 =>
    (resV v8).bind fun v9 =>
    some (v9, v7.2)
theorem main_eq (E : Env) (x0 x1 : PV) (h : PHeap) : runBody (E.cx Tryd.prog kl) Tryd.f57 [x0, x1] h = main E x0 x1 h := by kernel_rfl
theorem call_eq (g : Nat → PV) (lf n : Nat) (x0 x1 : PV) (h : PHeap) : CL g lf (n + 1) fn_impl_nodeOk [x0, x1] h = main (env g lf n) x0 x1 h := by
  rw [← main_eq]
  show call Tryd.prog g KL lf (n + 1) 57 [x0, x1] h = _
  rw [call_succ, Tryd.func57]
  kernel_rfl
end impl_nodeOk
namespace impl_partsOf
noncomputable def lp0 : Code := (codeAt (bodyOf Tryd.f58) [1, 1, 0, 1, 0, 0])
def st0 (x0 x3 x4 : PV) (h : PHeap) : St := ⟨[x0, .junk, .junk, x3, x4, .junk, .junk, .junk, .junk, .junk, .junk, .junk, .junk, .junk, .junk, .junk, .junk, .junk, .junk, .junk, .junk], h⟩
def se0_0_3_4_8 (x0 x3 x4 x8 : PV) (h : PHeap) : St := ⟨[x0, .junk, .junk, x3, x4, .junk, .junk, .junk, x8, .junk, .junk, .junk, .junk, .junk, .junk, .junk, .junk, .junk, .junk, .junk, .junk], h⟩
noncomputable def K0 (E : Env) (K : PX → St → Res) : PX → St → Res := (kBlock 0 (kSeq (ev (E.cx Tryd.prog kl) (codeAt (bodyOf Tryd.f58) [1, 1, 1])) K))
@[simp] theorem K0_ret (E : Env) (K : PX → St → Res) (s : St) : K0 E K .ret s = K .ret s := by kernel_rfl
noncomputable def body0 (E : Env) (K : PX → St → Res) (x0 x3 x4 : PV) (h : PHeap) : Res :=
    (E.p.bin .neq 3 x4 x0).bind fun v10 =>
    condP v10
     (
      (E.p.un .xor x0).bind fun v11 =>
      (E.p.bin .or 3 x4 v11).bind fun v12 =>
      (E.p.bin .add 3 v12 (.int .i64 1)).bind fun v13 =>
      (E.p.bin .and 3 v13 x0).bind fun v14 =>
      (E.p.buildSlice 26 1 [(0, v14)] h).bind fun v15 =>
      (E.p.append 26 26 x3 v15.1 v15.2).bind fun v16 =>
      K .normal (st0 x0 v16.1 v14 v16.2))
     (
      K (.exit 0) (se0_0_3_4_8 x0 x3 x4 v10 h))
theorem body0_eq (E : Env) (K : PX → St → Res) (x0 x3 x4 : PV) (h : PHeap) : ev (E.cx Tryd.prog kl) lp0 (st0 x0 x3 x4 h) K = body0 E K x0 x3 x4 h := by kernel_rfl
theorem after0_se0_0_3_4_8 (E : Env) (x0 x3 x4 x8 : PV) (h : PHeap) : K0 E (kTop Tryd.prog Tryd.f58) (.exit 0) (se0_0_3_4_8 x0 x3 x4 x8 h) =
    (resV x3).bind fun v9 =>
    some (v9, h) := by kernel_rfl
noncomputable def main (E : Env) (x0 : PV) (h : PHeap) : Res :=
    (E.p.buildSlice 26 1 [(0, (.int .i64 0))] h).bind fun v1 =>
    loopK (ev (E.cx Tryd.prog impl_partsOf.kl) impl_partsOf.lp0) E.lf (impl_partsOf.st0 x0 v1.1 (.int .i64 0) v1.2) (impl_partsOf.K0 E (kTop Tryd.prog Tryd.f58))
theorem main_eq (E : Env) (x0 : PV) (h : PHeap) : runBody (E.cx Tryd.prog kl) Tryd.f58 [x0] h = main E x0 h := by kernel_rfl
theorem call_eq (g : Nat → PV) (lf n : Nat) (x0 : PV) (h : PHeap) : CL g lf (n + 1) fn_impl_partsOf [x0] h = main (env g lf n) x0 h := by
  rw [← main_eq]
  show call Tryd.prog g KL lf (n + 1) 58 [x0] h = _
  rw [call_succ, Tryd.func58]
  kernel_rfl
end impl_partsOf
namespace impl_sparesOne
noncomputable def lp0 : Code := (codeAt (bodyOf Tryd.f59) [1, 0, 1, 0, 0])
def st0 (x0 x1 x5 : PV) (h : PHeap) : St := ⟨[x0, x1, .junk, .junk, .junk, x5, .junk, .junk, .junk, .junk, .junk, .junk, .junk, .junk, .junk, .junk, .junk, .junk, .junk, .junk], h⟩
def sr_4 (x4 : PV) (h : PHeap) : St := ⟨[.junk, .junk, .junk, .junk, x4, .junk, .junk, .junk, .junk, .junk, .junk, .junk, .junk, .junk, .junk, .junk, .junk, .junk, .junk, .junk], h⟩
def se0_0_1_5_8 (x0 x1 x5 x8 : PV) (h : PHeap) : St := ⟨[x0, x1, .junk, .junk, .junk, x5, .junk, .junk, x8, .junk, .junk, .junk, .junk, .junk, .junk, .junk, .junk, .junk, .junk, .junk], h⟩
noncomputable def K0 (E : Env) (K : PX → St → Res) : PX → St → Res := (kBlock 0 (kSeq (ev (E.cx Tryd.prog kl) (codeAt (bodyOf Tryd.f59) [1, 1])) K))
@[simp] theorem K0_ret (E : Env) (K : PX → St → Res) (s : St) : K0 E K .ret s = K .ret s := by kernel_rfl
noncomputable def body0 (E : Env) (K : PX → St → Res) (x0 x1 x5 : PV) (h : PHeap) : Res :=
    (E.p.bin .neq 3 x5 (.int .i64 0)).bind fun v9 =>
    condP v9
     (
      (E.C fn_impl_leastIn [x5] h).bind fun v10 =>
      (E.p.bin .shl 3 (.int .i64 1) v10.1).bind fun v11 =>
      (E.p.bin .andNot 3 x0 v11).bind fun v12 =>
      (vcall E.C E.Y x1 [v12] v10.2).bind fun v13 =>
      condP v13.1
       (
        K .ret (sr_4 (.bool true) v13.2))
       (
        (E.p.bin .sub 3 x5 (.int .i64 1)).bind fun v14 =>
        (E.p.bin .and 3 x5 v14).bind fun v15 =>
        K .normal (st0 x0 x1 v15 v13.2)))
     (
      K (.exit 0) (se0_0_1_5_8 x0 x1 x5 v9 h))
theorem body0_eq (E : Env) (K : PX → St → Res) (x0 x1 x5 : PV) (h : PHeap) : ev (E.cx Tryd.prog kl) lp0 (st0 x0 x1 x5 h) K = body0 E K x0 x1 x5 h := by kernel_rfl
theorem after0_se0_0_1_5_8 (E : Env) (x0 x1 x5 x8 : PV) (h : PHeap) : K0 E (kTop Tryd.prog Tryd.f59) (.exit 0) (se0_0_1_5_8 x0 x1 x5 x8 h) =
    (resV (.bool false)).bind fun v8 =>
    some (v8, h) := by kernel_rfl
theorem top_sr_4 (x4 : PV) (h : PHeap) : kTop Tryd.prog Tryd.f59 .ret (sr_4 x4 h) =
    (resV x4).bind fun v16 =>
    some (v16, h) := by kernel_rfl
noncomputable def main (E : Env) (x0 x1 : PV) (h : PHeap) : Res :=
    loopK (ev (E.cx Tryd.prog impl_sparesOne.kl) impl_sparesOne.lp0) E.lf (impl_sparesOne.st0 x0 x1 x0 h) (impl_sparesOne.K0 E (kTop Tryd.prog Tryd.f59))
theorem main_eq (E : Env) (x0 x1 : PV) (h : PHeap) : runBody (E.cx Tryd.prog kl) Tryd.f59 [x0, x1] h = main E x0 x1 h := by kernel_rfl
theorem call_eq (g : Nat → PV) (lf n : Nat) (x0 x1 : PV) (h : PHeap) : CL g lf (n + 1) fn_impl_sparesOne [x0, x1] h = main (env g lf n) x0 x1 h := by
  rw [← main_eq]
  show call Tryd.prog g KL lf (n + 1) 59 [x0, x1] h = _
  rw [call_succ, Tryd.func59]
  kernel_rfl
end impl_sparesOne
namespace impl_nodesReached
noncomputable def lp0 : Code := (codeAt (bodyOf Tryd.f60) [1, 0, 1, 0, 0])
def st0 (x0 x1 x2 x7 : PV) (h : PHeap) : St := ⟨[x0, x1, x2, .junk, .junk, .junk, .junk, x7, .junk, .junk, .junk, .junk, .junk, .junk, .junk, .junk, .junk, .junk, .junk, .junk, .junk], h⟩
def se0_0_1_2_7_10 (x0 x1 x2 x7 x10 : PV) (h : PHeap) : St := ⟨[x0, x1, x2, .junk, .junk, .junk, .junk, x7, .junk, .junk, x10, .junk, .junk, .junk, .junk, .junk, .junk, .junk, .junk, .junk, .junk], h⟩
noncomputable def K0 (E : Env) (K : PX → St → Res) : PX → St → Res := (kBlock 0 (kSeq (ev (E.cx Tryd.prog kl) (codeAt (bodyOf Tryd.f60) [1, 1])) K))
@[simp] theorem K0_ret (E : Env) (K : PX → St → Res) (s : St) : K0 E K .ret s = K .ret s := by kernel_rfl
noncomputable def body0 (E : Env) (K : PX → St → Res) (x0 x1 x2 x7 : PV) (h : PHeap) : Res :=
    (E.p.bin .neq 3 x7 (.int .i64 0)).bind fun v6 =>
    condP v6
     (
      (E.C fn_impl_nodesBeside [x0, x1, x7] h).bind fun v7 =>
      (E.p.bin .andNot 3 v7.1 x2).bind fun v8 =>
      (E.p.bin .or 3 x2 v8).bind fun v9 =>
      K .normal (st0 x0 x1 v9 v8 v7.2))
     (
      K (.exit 0) (se0_0_1_2_7_10 x0 x1 x2 x7 v6 h))
theorem body0_eq (E : Env) (K : PX → St → Res) (x0 x1 x2 x7 : PV) (h : PHeap) : ev (E.cx Tryd.prog kl) lp0 (st0 x0 x1 x2 x7 h) K = body0 E K x0 x1 x2 x7 h := by kernel_rfl
theorem after0_se0_0_1_2_7_10 (E : Env) (x0 x1 x2 x7 x10 : PV) (h : PHeap) : K0 E (kTop Tryd.prog Tryd.f60) (.exit 0) (se0_0_1_2_7_10 x0 x1 x2 x7 x10 h) =
    (resV x2).bind fun v5 =>
    some (v5, h) := by kernel_rfl
noncomputable def main (E : Env) (x0 x1 x2 : PV) (h : PHeap) : Res :=
    loopK (ev (E.cx Tryd.prog impl_nodesReached.kl) impl_nodesReached.lp0) E.lf (impl_nodesReached.st0 x0 x1 x2 x2 h) (impl_nodesReached.K0 E (kTop Tryd.prog Tryd.f60))
theorem main_eq (E : Env) (x0 x1 x2 : PV) (h : PHeap) : runBody (E.cx Tryd.prog kl) Tryd.f60 [x0, x1, x2] h = main E x0 x1 x2 h := by kernel_rfl
theorem call_eq (g : Nat → PV) (lf n : Nat) (x0 x1 x2 : PV) (h : PHeap) : CL g lf (n + 1) fn_impl_nodesReached [x0, x1, x2] h = main (env g lf n) x0 x1 x2 h := by
  rw [← main_eq]
  show call Tryd.prog g KL lf (n + 1) 60 [x0, x1, x2] h = _
  rw [call_succ, Tryd.func60]
  kernel_rfl
end impl_nodesReached
namespace impl_sizeOk
noncomputable def main (E : Env) (x0 : PV) (h : PHeap) : Res :=
    (E.p.bin .geq 3 x0 (.int .i64 1)).bind fun v1 =>
    (wantV v1 true).bind fun v2 =>
    (bif v2 then some (x0, h) else some (.tup [], h)).bind fun v3 =>
    (wantV v1 true).bind fun v4 =>
    (bif v4 then pv v3.2 (E.p.bin .leq 3 v3.1 (.int .i64 4)) else some (.tup [], v3.2)).bind fun v5 =>
    (E.p.pick v1 v5.1 (.bool false)).bind fun v6 =>
    (resV v6).bind fun v7 =>
    some (v7, v5.2)
theorem main_eq (E : Env) (x0 : PV) (h : PHeap) : runBody (E.cx Tryd.prog kl) Tryd.f61 [x0] h = main E x0 h := by kernel_rfl
theorem call_eq (g : Nat → PV) (lf n : Nat) (x0 : PV) (h : PHeap) : CL g lf (n + 1) fn_impl_sizeOk [x0] h = main (env g lf n) x0 h := by
  rw [← main_eq]
  show call Tryd.prog g KL lf (n + 1) 61 [x0] h = _
  rw [call_succ, Tryd.func61]
  kernel_rfl
end impl_sizeOk
namespace impl_contentOk
noncomputable def main (E : Env) (x0 : PV) (h : PHeap) : Res :=
    (E.p.bin .eql 3 x0 (.int .i64 0)).bind fun v1 =>
    (wantV v1 false).bind fun v2 =>
    (bif v2 then some (x0, h) else some (.tup [], h)).bind fun v3 =>
    (wantV v1 false).bind fun v4 =>
    (bif v4 then pv v3.2 (E.p.bin .eql 3 v3.1 (.int .i64 1)) else some (.tup [], v3.2)).bind fun v5 =>
    (E.p.pick v1 (.bool true) v5.1).bind fun v6 =>
    (wantV v6 false).bind fun v7 =>
    (bif v7 then some (x0, v5.2) else some (.tup [], v5.2)).bind fun v8 =>
    (wantV v6 false).bind fun v9 =>
    (bif v9 then pv v8.2 (E.p.bin .eql 3 v8.1 (.int .i64 2)) else some (.tup [], v8.2)).bind fun v10 =>
    (E.p.pick v6 (.bool true) v10.1).bind fun v11 =>
    (resV v11).bind fun v12 =>
    some (v12, v10.2)
theorem main_eq (E : Env) (x0 : PV) (h : PHeap) : runBody (E.cx Tryd.prog kl) Tryd.f62 [x0] h = main E x0 h := by kernel_rfl
theorem call_eq (g : Nat → PV) (lf n : Nat) (x0 : PV) (h : PHeap) : CL g lf (n + 1) fn_impl_contentOk [x0] h = main (env g lf n) x0 h := by
  rw [← main_eq]
  show call Tryd.prog g KL lf (n + 1) 62 [x0] h = _
  rw [call_succ, Tryd.func62]
  kernel_rfl
end impl_contentOk
namespace slices_SortStableFunc___int_int_
noncomputable def main (E : Env) (x0 x1 : PV) (h : PHeap) : Res :=
    (E.p.len 26 x0).bind fun v1 =>
    (E.C fn_slices_stableCmpFunc_int_ [x0, v1, x1] h).bind fun v2 =>
    some (.tup [], v2.2)
theorem main_eq (E : Env) (x0 x1 : PV) (h : PHeap) : runBody (E.cx Tryd.prog kl) Tryd.f63 [x0, x1] h = main E x0 x1 h := by kernel_rfl
theorem call_eq (g : Nat → PV) (lf n : Nat) (x0 x1 : PV) (h : PHeap) : CL g lf (n + 1) fn_slices_SortStableFunc___int_int_ [x0, x1] h = main (env g lf n) x0 x1 h := by
  rw [← main_eq]
  show call Tryd.prog g KL lf (n + 1) 63 [x0, x1] h = _
  rw [call_succ, Tryd.func63]
  kernel_rfl
end slices_SortStableFunc___int_int_
namespace impl_partsBySize_1
noncomputable def main (E : Env) (x0 x1 : PV) (h : PHeap) : Res :=
    (E.C fn_impl_countIn [x0] h).bind fun v1 =>
    (E.C fn_impl_countIn [x1] v1.2).bind fun v2 =>
    (E.C fn_cmp_Compare_int_ [v1.1, v2.1] v2.2).bind fun v3 =>
    (resV v3.1).bind fun v4 =>
    some (v4, v3.2)
theorem main_eq (E : Env) (x0 x1 : PV) (h : PHeap) : runBody (E.cx Tryd.prog kl) Tryd.f64 [x0, x1] h = main E x0 x1 h := by kernel_rfl
theorem call_eq (g : Nat → PV) (lf n : Nat) (x0 x1 : PV) (h : PHeap) : CL g lf (n + 1) fn_impl_partsBySize_1 [x0, x1] h = main (env g lf n) x0 x1 h := by
  rw [← main_eq]
  show call Tryd.prog g KL lf (n + 1) 64 [x0, x1] h = _
  rw [call_succ, Tryd.func64]
  kernel_rfl
end impl_partsBySize_1
namespace cmp_Compare_int_
noncomputable def main (E : Env) (x0 x1 : PV) (h : PHeap) : Res :=
    (E.C fn_cmp_isNaN_int_ [x0] h).bind fun v1 =>
    (E.C fn_cmp_isNaN_int_ [x1] v1.2).bind fun v2 =>
    condP v1.1
     (
      condP v2.1
       (
        (resV (.int .i64 0)).bind fun v3 =>
        some (v3, v2.2))
       (
        (resV (.int .i64 (-1))).bind fun v4 =>
        some (v4, v2.2)))
     (
      condP v2.1
       (
        (resV (.int .i64 1)).bind fun v5 =>
        some (v5, v2.2))
       (
        (E.p.bin .lss 3 x0 x1).bind fun v6 =>
        condP v6
         (
          (resV (.int .i64 (-1))).bind fun v7 =>
          some (v7, v2.2))
         (
          (E.p.bin .gtr 3 x0 x1).bind fun v8 =>
          condP v8
           (
            (resV (.int .i64 1)).bind fun v9 =>
            some (v9, v2.2))
           (
            (resV (.int .i64 0)).bind fun v10 =>
            some (v10, v2.2)))))
theorem main_eq (E : Env) (x0 x1 : PV) (h : PHeap) : runBody (E.cx Tryd.prog kl) Tryd.f65 [x0, x1] h = main E x0 x1 h := by kernel_rfl
theorem call_eq (g : Nat → PV) (lf n : Nat) (x0 x1 : PV) (h : PHeap) : CL g lf (n + 1) fn_cmp_Compare_int_ [x0, x1] h = main (env g lf n) x0 x1 h := by
  rw [← main_eq]
  show call Tryd.prog g KL lf (n + 1) 65 [x0, x1] h = _
  rw [call_succ, Tryd.func65]
  kernel_rfl
end cmp_Compare_int_
namespace bits_OnesCount
noncomputable def main (E : Env) (x0 : PV) (h : PHeap) : Res :=
    condP (.bool false)
     (
      (E.p.conv 55 84 x0).bind fun v1 =>
      (E.C 72 [v1] h).bind fun v2 =>
      (resV v2.1).bind fun v3 =>
      some (v3, v2.2))
     (
      (E.C fn_bits_OnesCount64 [x0] h).bind fun v4 =>
      (resV v4.1).bind fun v5 =>
      some (v5, v4.2))
theorem main_eq (E : Env) (x0 : PV) (h : PHeap) : runBody (E.cx Tryd.prog kl) Tryd.f66 [x0] h = main E x0 h := by kernel_rfl
theorem call_eq (g : Nat → PV) (lf n : Nat) (x0 : PV) (h : PHeap) : CL g lf (n + 1) fn_bits_OnesCount [x0] h = main (env g lf n) x0 h := by
  rw [← main_eq]
  show call Tryd.prog g KL lf (n + 1) 66 [x0] h = _
  rw [call_succ, Tryd.func66]
  kernel_rfl
end bits_OnesCount
namespace impl_netGame_solved
noncomputable def lp0 : Code := (codeAt (bodyOf Tryd.f67) [1, 1, 0, 1, 0, 0])
def st0 (x2 x3 x6 : PV) (h : PHeap) : St := ⟨[.junk, .junk, x2, x3, .junk, .junk, x6, .junk, .junk, .junk, .junk, .junk, .junk, .junk, .junk, .junk, .junk, .junk, .junk, .junk, .junk, .junk, .junk, .junk, .junk, .junk, .junk, .junk, .junk, .junk, .junk, .junk], h⟩
def sr_4 (x4 : PV) (h : PHeap) : St := ⟨[.junk, .junk, .junk, .junk, x4, .junk, .junk, .junk, .junk, .junk, .junk, .junk, .junk, .junk, .junk, .junk, .junk, .junk, .junk, .junk, .junk, .junk, .junk, .junk, .junk, .junk, .junk, .junk, .junk, .junk, .junk, .junk], h⟩
def se0_2_3_6_17 (x2 x3 x6 x17 : PV) (h : PHeap) : St := ⟨[.junk, .junk, x2, x3, .junk, .junk, x6, .junk, .junk, .junk, .junk, .junk, .junk, .junk, .junk, .junk, .junk, x17, .junk, .junk, .junk, .junk, .junk, .junk, .junk, .junk, .junk, .junk, .junk, .junk, .junk, .junk], h⟩
noncomputable def K0 (E : Env) (K : PX → St → Res) : PX → St → Res := (kBlock 0 (kSeq (ev (E.cx Tryd.prog kl) (codeAt (bodyOf Tryd.f67) [1, 1, 1])) K))
@[simp] theorem K0_ret (E : Env) (K : PX → St → Res) (s : St) : K0 E K .ret s = K .ret s := by kernel_rfl
noncomputable def body0 (E : Env) (K : PX → St → Res) (x2 x3 x6 : PV) (h : PHeap) : Res :=
    (E.p.bin .neq 3 x6 (.int .i64 0)).bind fun v28 =>
    condP v28
     (
      (E.p.load 65 x2 h).bind fun v29 =>
      (E.p.load 70 x3 h).bind fun v30 =>
      (E.C fn_impl_leastIn [x6] h).bind fun v31 =>
      (E.p.load 70 x3 v31.2).bind fun v32 =>
      ckP (plainEq v30 v32) (
      (E.p.load 65 x2 v31.2).bind fun v33 =>
      ckP (plainEq v29 v33) (
      (E.C fn_impl_netGame_wins [v29, v30, v31.1] v31.2).bind fun v34 =>
      (E.p.load 70 x3 v34.2).bind fun v35 =>
      ckP (plainEq v30 v35) (
      (E.p.load 65 x2 v34.2).bind fun v36 =>
      ckP (plainEq v29 v36) (
      condP v34.1
       (
        (E.p.fieldAddr 70 x3 1).bind fun v37 =>
        (E.p.load 3 v37 v34.2).bind fun v38 =>
        K .ret (sr_4 v38 v34.2))
       (
        (E.p.bin .sub 3 x6 (.int .i64 1)).bind fun v39 =>
        (E.p.bin .and 3 x6 v39).bind fun v40 =>
        K .normal (st0 x2 x3 v40 v34.2)))))))
     (
      K (.exit 0) (se0_2_3_6_17 x2 x3 x6 v28 h))
theorem body0_eq (E : Env) (K : PX → St → Res) (x2 x3 x6 : PV) (h : PHeap) : ev (E.cx Tryd.prog kl) lp0 (st0 x2 x3 x6 h) K = body0 E K x2 x3 x6 h := by kernel_rfl
theorem after0_se0_2_3_6_17 (E : Env) (x2 x3 x6 x17 : PV) (h : PHeap) : K0 E (kTop Tryd.prog Tryd.f67) (.exit 0) (se0_2_3_6_17 x2 x3 x6 x17 h) =
    (E.p.fieldAddr 70 x3 1).bind fun v24 =>
    (E.p.load 3 v24 h).bind fun v25 =>
    (E.C fn_impl_exchanged [v25] h).bind fun v26 =>
    (resV v26.1).bind fun v27 =>
    some (v27, v26.2) := by kernel_rfl
theorem top_sr_4 (x4 : PV) (h : PHeap) : kTop Tryd.prog Tryd.f67 .ret (sr_4 x4 h) =
    (resV x4).bind fun v41 =>
    some (v41, h) := by kernel_rfl
noncomputable def main (E : Env) (x0 x1 : PV) (h : PHeap) : Res :=
    (E.p.box x0 h).bind fun v1 =>
    (E.p.box x1 v1.2).bind fun v2 =>
    (E.p.load 65 v1.1 v2.2).bind fun v3 =>
    (E.p.load 70 v2.1 v2.2).bind fun v4 =>
    (E.C fn_impl_netGame_won [v3, v4] v2.2).bind fun v5 =>
    (E.p.bin .neq 3 v5.1 (.int .i64 0)).bind fun v6 =>
    condP v6
     (
      (resV v5.1).bind fun v7 =>
      some (v7, v5.2))
     (
      (E.p.fieldAddr 70 v2.1 0).bind fun v8 =>
      (E.p.indexAddr 68 v8 (.int .i64 0)).bind fun v9 =>
      (E.p.load 3 v9 v5.2).bind fun v10 =>
      loopK (ev (E.cx Tryd.prog impl_netGame_solved.kl) impl_netGame_solved.lp0) E.lf (impl_netGame_solved.st0 v1.1 v2.1 v10 v5.2) (impl_netGame_solved.K0 E (kTop Tryd.prog Tryd.f67)))
theorem main_eq (E : Env) (x0 x1 : PV) (h : PHeap) : runBody (E.cx Tryd.prog kl) Tryd.f67 [x0, x1] h = main E x0 x1 h := by kernel_rfl
theorem call_eq (g : Nat → PV) (lf n : Nat) (x0 x1 : PV) (h : PHeap) : CL g lf (n + 1) fn_impl_netGame_solved [x0, x1] h = main (env g lf n) x0 x1 h := by
  rw [← main_eq]
  show call Tryd.prog g KL lf (n + 1) 67 [x0, x1] h = _
  rw [call_succ, Tryd.func67]
  kernel_rfl
end impl_netGame_solved
namespace impl_leastIn
noncomputable def main (E : Env) (x0 : PV) (h : PHeap) : Res :=
    (E.p.conv 3 55 x0).bind fun v1 =>
    (E.C fn_bits_TrailingZeros [v1] h).bind fun v2 =>
    (resV v2.1).bind fun v3 =>
    some (v3, v2.2)
theorem main_eq (E : Env) (x0 : PV) (h : PHeap) : runBody (E.cx Tryd.prog kl) Tryd.f68 [x0] h = main E x0 h := by kernel_rfl
theorem call_eq (g : Nat → PV) (lf n : Nat) (x0 : PV) (h : PHeap) : CL g lf (n + 1) fn_impl_leastIn [x0] h = main (env g lf n) x0 h := by
  rw [← main_eq]
  show call Tryd.prog g KL lf (n + 1) 68 [x0] h = _
  rw [call_succ, Tryd.func68]
  kernel_rfl
end impl_leastIn
namespace impl_nodesBeside
noncomputable def lp0 : Code := (codeAt (bodyOf Tryd.f69) [1, 1, 0, 1, 0, 0])
def st0 (x0 x2 x7 x8 : PV) (h : PHeap) : St := ⟨[x0, .junk, x2, .junk, .junk, .junk, .junk, x7, x8, .junk, .junk, .junk, .junk, .junk, .junk, .junk, .junk, .junk, .junk, .junk, .junk, .junk, .junk, .junk, .junk, .junk, .junk, .junk, .junk, .junk, .junk, .junk, .junk, .junk, .junk, .junk, .junk, .junk], h⟩
def se0_0_2_7_8_13 (x0 x2 x7 x8 x13 : PV) (h : PHeap) : St := ⟨[x0, .junk, x2, .junk, .junk, .junk, .junk, x7, x8, .junk, .junk, .junk, .junk, x13, .junk, .junk, .junk, .junk, .junk, .junk, .junk, .junk, .junk, .junk, .junk, .junk, .junk, .junk, .junk, .junk, .junk, .junk, .junk, .junk, .junk, .junk, .junk, .junk], h⟩
noncomputable def K0 (E : Env) (K : PX → St → Res) : PX → St → Res := (kBlock 0 (kSeq (ev (E.cx Tryd.prog kl) (codeAt (bodyOf Tryd.f69) [1, 1, 1])) K))
@[simp] theorem K0_ret (E : Env) (K : PX → St → Res) (s : St) : K0 E K .ret s = K .ret s := by kernel_rfl
noncomputable def body0 (E : Env) (K : PX → St → Res) (x0 x2 x7 x8 : PV) (h : PHeap) : Res :=
    (E.p.bin .neq 3 x8 (.int .i64 0)).bind fun v22 =>
    condP v22
     (
      (E.C fn_impl_leastIn [x8] h).bind fun v23 =>
      (E.p.indexAddr 23 x0 v23.1).bind fun v24 =>
      (E.p.load 41 v24 v23.2).bind fun v25 =>
      (E.p.alloc 41 v23.2).bind fun v26 =>
      (E.p.store 41 v26.1 v25 v26.2).bind fun v27 =>
      (E.p.fieldAddr 41 v26.1 0).bind fun v28 =>
      (E.p.load 3 v28 v27).bind fun v29 =>
      (E.p.bin .shl 3 (.int .i64 1) v29).bind fun v30 =>
      (E.p.fieldAddr 41 v26.1 1).bind fun v31 =>
      (E.p.load 3 v31 v27).bind fun v32 =>
      (E.p.bin .shl 3 (.int .i64 1) v32).bind fun v33 =>
      (E.p.bin .or 3 v30 v33).bind fun v34 =>
      (E.p.bin .and 3 v34 x2).bind fun v35 =>
      (E.p.bin .neq 3 v35 (.int .i64 0)).bind fun v36 =>
      condP v36
       (
        (E.p.bin .or 3 x7 v34).bind fun v37 =>
        (E.p.bin .sub 3 x8 (.int .i64 1)).bind fun v38 =>
        (E.p.bin .and 3 x8 v38).bind fun v39 =>
        K .normal (st0 x0 x2 v37 v39 v27))
       (
        (E.p.bin .sub 3 x8 (.int .i64 1)).bind fun v40 =>
        (E.p.bin .and 3 x8 v40).bind fun v41 =>
        K .normal (st0 x0 x2 x7 v41 v27)))
     (
      K (.exit 0) (se0_0_2_7_8_13 x0 x2 x7 x8 v22 h))
theorem body0_eq (E : Env) (K : PX → St → Res) (x0 x2 x7 x8 : PV) (h : PHeap) : ev (E.cx Tryd.prog kl) lp0 (st0 x0 x2 x7 x8 h) K = body0 E K x0 x2 x7 x8 h := by kernel_rfl
theorem after0_se0_0_2_7_8_13 (E : Env) (x0 x2 x7 x8 x13 : PV) (h : PHeap) : K0 E (kTop Tryd.prog Tryd.f69) (.exit 0) (se0_0_2_7_8_13 x0 x2 x7 x8 x13 h) =
    (resV x7).bind fun v21 =>
    some (v21, h) := by kernel_rfl
noncomputable def main (E : Env) (x0 x1 x2 : PV) (h : PHeap) : Res :=
    loopK (ev (E.cx Tryd.prog impl_nodesBeside.kl) impl_nodesBeside.lp0) E.lf (impl_nodesBeside.st0 x0 x2 (.int .i64 0) x1 h) (impl_nodesBeside.K0 E (kTop Tryd.prog Tryd.f69))
theorem main_eq (E : Env) (x0 x1 x2 : PV) (h : PHeap) : runBody (E.cx Tryd.prog kl) Tryd.f69 [x0, x1, x2] h = main E x0 x1 x2 h := by kernel_rfl
theorem call_eq (g : Nat → PV) (lf n : Nat) (x0 x1 x2 : PV) (h : PHeap) : CL g lf (n + 1) fn_impl_nodesBeside [x0, x1, x2] h = main (env g lf n) x0 x1 x2 h := by
  rw [← main_eq]
  show call Tryd.prog g KL lf (n + 1) 69 [x0, x1, x2] h = _
  rw [call_succ, Tryd.func69]
  kernel_rfl
end impl_nodesBeside
namespace slices_stableCmpFunc_int_
noncomputable def lp0 : Code := (codeAt (bodyOf Tryd.f70) [1, 1, 0, 0, 0])
def st0 (x0 x1 x2 x6 x7 x8 : PV) (h : PHeap) : St := ⟨[x0, x1, x2, .junk, .junk, .junk, x6, x7, x8, .junk, .junk, .junk, .junk, .junk, .junk, .junk, .junk, .junk, .junk, .junk, .junk, .junk, .junk, .junk, .junk, .junk, .junk, .junk, .junk, .junk, .junk, .junk, .junk, .junk, .junk, .junk, .junk, .junk, .junk, .junk, .junk, .junk, .junk, .junk, .junk, .junk, .junk, .junk, .junk, .junk, .junk, .junk, .junk, .junk, .junk, .junk, .junk, .junk, .junk, .junk, .junk, .junk, .junk], h⟩
noncomputable def lp1 : Code := (codeAt (bodyOf Tryd.f70) [1, 1, 1, 1, 0, 0])
def st1 (x0 x1 x2 x6 : PV) (h : PHeap) : St := ⟨[x0, x1, x2, .junk, .junk, .junk, x6, .junk, .junk, .junk, .junk, .junk, .junk, .junk, .junk, .junk, .junk, .junk, .junk, .junk, .junk, .junk, .junk, .junk, .junk, .junk, .junk, .junk, .junk, .junk, .junk, .junk, .junk, .junk, .junk, .junk, .junk, .junk, .junk, .junk, .junk, .junk, .junk, .junk, .junk, .junk, .junk, .junk, .junk, .junk, .junk, .junk, .junk, .junk, .junk, .junk, .junk, .junk, .junk, .junk, .junk, .junk, .junk], h⟩
noncomputable def lp2 : Code := (codeAt (bodyOf Tryd.f70) [1, 1, 1, 1, 0, 0, 1, 0, 1, 0, 0, 0])
def st2 (x0 x1 x2 x6 x7 x8 : PV) (h : PHeap) : St := ⟨[x0, x1, x2, .junk, .junk, .junk, x6, x7, x8, .junk, .junk, .junk, .junk, .junk, .junk, .junk, .junk, .junk, .junk, .junk, .junk, .junk, .junk, .junk, .junk, .junk, .junk, .junk, .junk, .junk, .junk, .junk, .junk, .junk, .junk, .junk, .junk, .junk, .junk, .junk, .junk, .junk, .junk, .junk, .junk, .junk, .junk, .junk, .junk, .junk, .junk, .junk, .junk, .junk, .junk, .junk, .junk, .junk, .junk, .junk, .junk, .junk, .junk], h⟩
def se0_0_1_2_6_7_8_13 (x0 x1 x2 x6 x7 x8 x13 : PV) (h : PHeap) : St := ⟨[x0, x1, x2, .junk, .junk, .junk, x6, x7, x8, .junk, .junk, .junk, .junk, x13, .junk, .junk, .junk, .junk, .junk, .junk, .junk, .junk, .junk, .junk, .junk, .junk, .junk, .junk, .junk, .junk, .junk, .junk, .junk, .junk, .junk, .junk, .junk, .junk, .junk, .junk, .junk, .junk, .junk, .junk, .junk, .junk, .junk, .junk, .junk, .junk, .junk, .junk, .junk, .junk, .junk, .junk, .junk, .junk, .junk, .junk, .junk, .junk, .junk], h⟩
def se2_0_1_2_6_30 (x0 x1 x2 x6 x30 : PV) (h : PHeap) : St := ⟨[x0, x1, x2, .junk, .junk, .junk, x6, .junk, .junk, .junk, .junk, .junk, .junk, .junk, .junk, .junk, .junk, .junk, .junk, .junk, .junk, .junk, .junk, .junk, .junk, .junk, .junk, .junk, .junk, .junk, x30, .junk, .junk, .junk, .junk, .junk, .junk, .junk, .junk, .junk, .junk, .junk, .junk, .junk, .junk, .junk, .junk, .junk, .junk, .junk, .junk, .junk, .junk, .junk, .junk, .junk, .junk, .junk, .junk, .junk, .junk, .junk, .junk], h⟩
def se4_0_1_2_6_7_8_35 (x0 x1 x2 x6 x7 x8 x35 : PV) (h : PHeap) : St := ⟨[x0, x1, x2, .junk, .junk, .junk, x6, x7, x8, .junk, .junk, .junk, .junk, .junk, .junk, .junk, .junk, .junk, .junk, .junk, .junk, .junk, .junk, .junk, .junk, .junk, .junk, .junk, .junk, .junk, .junk, .junk, .junk, .junk, .junk, x35, .junk, .junk, .junk, .junk, .junk, .junk, .junk, .junk, .junk, .junk, .junk, .junk, .junk, .junk, .junk, .junk, .junk, .junk, .junk, .junk, .junk, .junk, .junk, .junk, .junk, .junk, .junk], h⟩
noncomputable def K0 (E : Env) (K : PX → St → Res) : PX → St → Res := (kBlock 0 (kSeq (ev (E.cx Tryd.prog kl) (codeAt (bodyOf Tryd.f70) [1, 1, 1])) K))
@[simp] theorem K0_ret (E : Env) (K : PX → St → Res) (s : St) : K0 E K .ret s = K .ret s := by kernel_rfl
noncomputable def K1 (E : Env) (K : PX → St → Res) : PX → St → Res := (kBlock 2 K)
@[simp] theorem K1_ret (E : Env) (K : PX → St → Res) (s : St) : K1 E K .ret s = K .ret s := by kernel_rfl
noncomputable def K2 (E : Env) (K : PX → St → Res) : PX → St → Res := (kBlock 4 (kSeq (ev (E.cx Tryd.prog kl) (codeAt (bodyOf Tryd.f70) [1, 1, 1, 1, 0, 0, 1, 0, 1, 1])) (kBlock 3 K)))
@[simp] theorem K2_ret (E : Env) (K : PX → St → Res) (s : St) : K2 E K .ret s = K .ret s := by kernel_rfl
noncomputable def body0 (E : Env) (K : PX → St → Res) (x0 x1 x2 x6 x7 x8 : PV) (h : PHeap) : Res :=
    (E.p.bin .leq 3 x8 x1).bind fun v17 =>
    condP v17
     (
      (E.C fn_slices_insertionSortCmpFunc_int_ [x0, x7, x8, x2] h).bind fun v18 =>
      (E.p.bin .add 3 x8 x6).bind fun v19 =>
      K .normal (st0 x0 x1 x2 x6 x8 v19 v18.2))
     (
      K (.exit 0) (se0_0_1_2_6_7_8_13 x0 x1 x2 x6 x7 x8 v17 h))
theorem body0_eq (E : Env) (K : PX → St → Res) (x0 x1 x2 x6 x7 x8 : PV) (h : PHeap) : ev (E.cx Tryd.prog kl) lp0 (st0 x0 x1 x2 x6 x7 x8 h) K = body0 E K x0 x1 x2 x6 x7 x8 h := by kernel_rfl
noncomputable def body1 (E : Env) (K : PX → St → Res) (x0 x1 x2 x6 : PV) (h : PHeap) : Res :=
    (E.p.bin .lss 3 x6 x1).bind fun v20 =>
    condP v20
     (
      (E.p.bin .mul 3 (.int .i64 2) x6).bind fun v21 =>
      loopK (ev (E.cx Tryd.prog slices_stableCmpFunc_int_.kl) slices_stableCmpFunc_int_.lp2) E.lf (slices_stableCmpFunc_int_.st2 x0 x1 x2 x6 (.int .i64 0) v21 h) (slices_stableCmpFunc_int_.K2 E K))
     (
      K (.exit 2) (se2_0_1_2_6_30 x0 x1 x2 x6 v20 h))
theorem body1_eq (E : Env) (K : PX → St → Res) (x0 x1 x2 x6 : PV) (h : PHeap) : ev (E.cx Tryd.prog kl) lp1 (st1 x0 x1 x2 x6 h) K = body1 E K x0 x1 x2 x6 h := by kernel_rfl
noncomputable def body2 (E : Env) (K : PX → St → Res) (x0 x1 x2 x6 x7 x8 : PV) (h : PHeap) : Res :=
    (E.p.bin .leq 3 x8 x1).bind fun v22 =>
    condP v22
     (
      (E.p.bin .add 3 x7 x6).bind fun v23 =>
      (E.C fn_slices_symMergeCmpFunc_int_ [x0, x7, v23, x8, x2] h).bind fun v24 =>
      (E.p.bin .mul 3 (.int .i64 2) x6).bind fun v25 =>
      (E.p.bin .add 3 x8 v25).bind fun v26 =>
      K .normal (st2 x0 x1 x2 x6 x8 v26 v24.2))
     (
      K (.exit 4) (se4_0_1_2_6_7_8_35 x0 x1 x2 x6 x7 x8 v22 h))
theorem body2_eq (E : Env) (K : PX → St → Res) (x0 x1 x2 x6 x7 x8 : PV) (h : PHeap) : ev (E.cx Tryd.prog kl) lp2 (st2 x0 x1 x2 x6 x7 x8 h) K = body2 E K x0 x1 x2 x6 x7 x8 h := by kernel_rfl
theorem after0_se0_0_1_2_6_7_8_13 (E : Env) (x0 x1 x2 x6 x7 x8 x13 : PV) (h : PHeap) : K0 E (kTop Tryd.prog Tryd.f70) (.exit 0) (se0_0_1_2_6_7_8_13 x0 x1 x2 x6 x7 x8 x13 h) =
    (E.C fn_slices_insertionSortCmpFunc_int_ [x0, x7, x1, x2] h).bind fun v4 =>
    loopK (ev (E.cx Tryd.prog slices_stableCmpFunc_int_.kl) slices_stableCmpFunc_int_.lp1) E.lf (slices_stableCmpFunc_int_.st1 x0 x1 x2 x6 v4.2) (slices_stableCmpFunc_int_.K1 E (kTop Tryd.prog Tryd.f70)) := by kernel_rfl
theorem after1_se2_0_1_2_6_30 (E : Env) (x0 x1 x2 x6 x30 : PV) (h : PHeap) : K1 E (kTop Tryd.prog Tryd.f70) (.exit 2) (se2_0_1_2_6_30 x0 x1 x2 x6 x30 h) =
    some (.tup [], h) := by kernel_rfl
theorem after2_se4_0_1_2_6_7_8_35 (E : Env) (K : PX → St → Res) (x0 x1 x2 x6 x7 x8 x35 : PV) (h : PHeap) : K2 E K (.exit 4) (se4_0_1_2_6_7_8_35 x0 x1 x2 x6 x7 x8 x35 h) =
    (E.p.bin .add 3 x7 x6).bind fun v12 =>
    (E.p.bin .lss 3 v12 x1).bind fun v13 =>
    condP v13
     (
      (E.C fn_slices_symMergeCmpFunc_int_ [x0, x7, v12, x1, x2] h).bind fun v14 =>
      (E.p.bin .mul 3 x6 (.int .i64 2)).bind fun v15 =>
      K .normal (st1 x0 x1 x2 v15 v14.2))
     (
      (E.p.bin .mul 3 x6 (.int .i64 2)).bind fun v16 =>
      K .normal (st1 x0 x1 x2 v16 h)) := by kernel_rfl
noncomputable def main (E : Env) (x0 x1 x2 : PV) (h : PHeap) : Res :=
    loopK (ev (E.cx Tryd.prog slices_stableCmpFunc_int_.kl) slices_stableCmpFunc_int_.lp0) E.lf (slices_stableCmpFunc_int_.st0 x0 x1 x2 (.int .i64 20) (.int .i64 0) (.int .i64 20) h) (slices_stableCmpFunc_int_.K0 E (kTop Tryd.prog Tryd.f70))
theorem main_eq (E : Env) (x0 x1 x2 : PV) (h : PHeap) : runBody (E.cx Tryd.prog kl) Tryd.f70 [x0, x1, x2] h = main E x0 x1 x2 h := by kernel_rfl
theorem call_eq (g : Nat → PV) (lf n : Nat) (x0 x1 x2 : PV) (h : PHeap) : CL g lf (n + 1) fn_slices_stableCmpFunc_int_ [x0, x1, x2] h = main (env g lf n) x0 x1 x2 h := by
  rw [← main_eq]
  show call Tryd.prog g KL lf (n + 1) 70 [x0, x1, x2] h = _
  rw [call_succ, Tryd.func70]
  kernel_rfl
end slices_stableCmpFunc_int_
namespace cmp_isNaN_int_
noncomputable def main (E : Env) (x0 : PV) (h : PHeap) : Res :=
    (E.p.bin .neq 3 x0 x0).bind fun v1 =>
    (resV v1).bind fun v2 =>
    some (v2, h)
theorem main_eq (E : Env) (x0 : PV) (h : PHeap) : runBody (E.cx Tryd.prog kl) Tryd.f71 [x0] h = main E x0 h := by kernel_rfl
theorem call_eq (g : Nat → PV) (lf n : Nat) (x0 : PV) (h : PHeap) : CL g lf (n + 1) fn_cmp_isNaN_int_ [x0] h = main (env g lf n) x0 h := by
  rw [← main_eq]
  show call Tryd.prog g KL lf (n + 1) 71 [x0] h = _
  rw [call_succ, Tryd.func71]
  kernel_rfl
end cmp_isNaN_int_
namespace bits_OnesCount64
noncomputable def main (E : Env) (x0 : PV) (h : PHeap) : Res :=
    (E.p.bin .shr 86 x0 (.int .u64 1)).bind fun v1 =>
    (E.p.bin .and 86 v1 (.int .u64 6148914691236517205)).bind fun v2 =>
    (E.p.bin .and 86 x0 (.int .u64 6148914691236517205)).bind fun v3 =>
    (E.p.bin .add 86 v2 v3).bind fun v4 =>
    (E.p.bin .shr 86 v4 (.int .u64 2)).bind fun v5 =>
    (E.p.bin .and 86 v5 (.int .u64 3689348814741910323)).bind fun v6 =>
    (E.p.bin .and 86 v4 (.int .u64 3689348814741910323)).bind fun v7 =>
    (E.p.bin .add 86 v6 v7).bind fun v8 =>
    (E.p.bin .shr 86 v8 (.int .u64 4)).bind fun v9 =>
    (E.p.bin .add 86 v9 v8).bind fun v10 =>
    (E.p.bin .and 86 v10 (.int .u64 1085102592571150095)).bind fun v11 =>
    (E.p.bin .shr 86 v11 (.int .u64 8)).bind fun v12 =>
    (E.p.bin .add 86 v11 v12).bind fun v13 =>
    (E.p.bin .shr 86 v13 (.int .u64 16)).bind fun v14 =>
    (E.p.bin .add 86 v13 v14).bind fun v15 =>
    (E.p.bin .shr 86 v15 (.int .u64 32)).bind fun v16 =>
    (E.p.bin .add 86 v15 v16).bind fun v17 =>
    (E.p.conv 86 3 v17).bind fun v18 =>
    (E.p.bin .and 3 v18 (.int .i64 127)).bind fun v19 =>
    (resV v19).bind fun v20 =>
    some (v20, h)
theorem main_eq (E : Env) (x0 : PV) (h : PHeap) : runBody (E.cx Tryd.prog kl) Tryd.f73 [x0] h = main E x0 h := by kernel_rfl
theorem call_eq (g : Nat → PV) (lf n : Nat) (x0 : PV) (h : PHeap) : CL g lf (n + 1) fn_bits_OnesCount64 [x0] h = main (env g lf n) x0 h := by
  rw [← main_eq]
  show call Tryd.prog g KL lf (n + 1) 73 [x0] h = _
  rw [call_succ, Tryd.func73]
  kernel_rfl
end bits_OnesCount64
namespace impl_netGame_won
noncomputable def main (E : Env) (x0 x1 : PV) (h : PHeap) : Res :=
    (E.p.box x0 h).bind fun v1 =>
    (E.p.box x1 v1.2).bind fun v2 =>
    (E.p.fieldAddr 65 v1.1 0).bind fun v3 =>
    (E.p.load 23 v3 v2.2).bind fun v4 =>
    (E.p.fieldAddr 70 v2.1 0).bind fun v5 =>
    (E.p.indexAddr 68 v5 (.int .i64 1)).bind fun v6 =>
    (E.p.load 3 v6 v2.2).bind fun v7 =>
    (E.p.fieldAddr 70 v2.1 0).bind fun v8 =>
    (E.p.indexAddr 68 v8 (.int .i64 0)).bind fun v9 =>
    (E.p.load 3 v9 v2.2).bind fun v10 =>
    (E.C fn_impl_wonBy [v4, v7, v10] v2.2).bind fun v11 =>
    (resV v11.1).bind fun v12 =>
    some (v12, v11.2)
theorem main_eq (E : Env) (x0 x1 : PV) (h : PHeap) : runBody (E.cx Tryd.prog kl) Tryd.f74 [x0, x1] h = main E x0 x1 h := by kernel_rfl
theorem call_eq (g : Nat → PV) (lf n : Nat) (x0 x1 : PV) (h : PHeap) : CL g lf (n + 1) fn_impl_netGame_won [x0, x1] h = main (env g lf n) x0 x1 h := by
  rw [← main_eq]
  show call Tryd.prog g KL lf (n + 1) 74 [x0, x1] h = _
  rw [call_succ, Tryd.func74]
  kernel_rfl
end impl_netGame_won
namespace impl_netGame_wins
noncomputable def main (E : Env) (x0 x1 x2 : PV) (h : PHeap) : Res :=
    (E.p.box x0 h).bind fun v1 =>
    (E.p.box x1 v1.2).bind fun v2 =>
    (E.p.load 65 v1.1 v2.2).bind fun v3 =>
    (E.p.load 70 v2.1 v2.2).bind fun v4 =>
    (E.p.fieldAddr 70 v2.1 1).bind fun v5 =>
    (E.p.load 3 v5 v2.2).bind fun v6 =>
    (E.C fn_impl_standing_after [v4, x2] v2.2).bind fun v7 =>
    (E.p.load 3 v5 v7.2).bind fun v8 =>
    ckP (plainEq v6 v8) (
    (E.p.load 70 v2.1 v7.2).bind fun v9 =>
    ckP (plainEq v4 v9) (
    (E.p.load 65 v1.1 v7.2).bind fun v10 =>
    ckP (plainEq v3 v10) (
    (E.C fn_impl_netGame_winner [v3, v7.1] v7.2).bind fun v11 =>
    (E.p.load 3 v5 v11.2).bind fun v12 =>
    ckP (plainEq v6 v12) (
    (E.p.load 70 v2.1 v11.2).bind fun v13 =>
    ckP (plainEq v4 v13) (
    (E.p.load 65 v1.1 v11.2).bind fun v14 =>
    ckP (plainEq v3 v14) (
    (E.p.bin .eql 3 v11.1 v6).bind fun v15 =>
    (resV v15).bind fun v16 =>
    some (v16, v11.2)))))))
theorem main_eq (E : Env) (x0 x1 x2 : PV) (h : PHeap) : runBody (E.cx Tryd.prog kl) Tryd.f75 [x0, x1, x2] h = main E x0 x1 x2 h := by kernel_rfl
theorem call_eq (g : Nat → PV) (lf n : Nat) (x0 x1 x2 : PV) (h : PHeap) : CL g lf (n + 1) fn_impl_netGame_wins [x0, x1, x2] h = main (env g lf n) x0 x1 x2 h := by
  rw [← main_eq]
  show call Tryd.prog g KL lf (n + 1) 75 [x0, x1, x2] h = _
  rw [call_succ, Tryd.func75]
  kernel_rfl
end impl_netGame_wins
namespace impl_exchanged
noncomputable def main (E : Env) (x0 : PV) (h : PHeap) : Res :=
    (E.p.bin .eql 3 x0 (.int .i64 1)).bind fun v1 =>
    condP v1
     (
      (resV (.int .i64 2)).bind fun v2 =>
      some (v2, h))
     (
      (E.p.bin .eql 3 x0 (.int .i64 2)).bind fun v3 =>
      condP v3
       (
        (resV (.int .i64 1)).bind fun v4 =>
        some (v4, h))
       (
        (resV x0).bind fun v5 =>
        some (v5, h)))
theorem main_eq (E : Env) (x0 : PV) (h : PHeap) : runBody (E.cx Tryd.prog kl) Tryd.f76 [x0] h = main E x0 h := by kernel_rfl
theorem call_eq (g : Nat → PV) (lf n : Nat) (x0 : PV) (h : PHeap) : CL g lf (n + 1) fn_impl_exchanged [x0] h = main (env g lf n) x0 h := by
  rw [← main_eq]
  show call Tryd.prog g KL lf (n + 1) 76 [x0] h = _
  rw [call_succ, Tryd.func76]
  kernel_rfl
end impl_exchanged
namespace bits_TrailingZeros
noncomputable def main (E : Env) (x0 : PV) (h : PHeap) : Res :=
    condP (.bool false)
     (
      (E.p.conv 55 84 x0).bind fun v1 =>
      (E.C fn_bits_TrailingZeros32 [v1] h).bind fun v2 =>
      (resV v2.1).bind fun v3 =>
      some (v3, v2.2))
     (
      (E.C fn_bits_TrailingZeros64 [x0] h).bind fun v4 =>
      (resV v4.1).bind fun v5 =>
      some (v5, v4.2))
theorem main_eq (E : Env) (x0 : PV) (h : PHeap) : runBody (E.cx Tryd.prog kl) Tryd.f77 [x0] h = main E x0 h := by kernel_rfl
theorem call_eq (g : Nat → PV) (lf n : Nat) (x0 : PV) (h : PHeap) : CL g lf (n + 1) fn_bits_TrailingZeros [x0] h = main (env g lf n) x0 h := by
  rw [← main_eq]
  show call Tryd.prog g KL lf (n + 1) 77 [x0] h = _
  rw [call_succ, Tryd.func77]
  kernel_rfl
end bits_TrailingZeros
namespace slices_insertionSortCmpFunc_int_
noncomputable def lp0 : Code := (codeAt (bodyOf Tryd.f78) [1, 0, 0])
def st0 (x0 x1 x2 x3 x8 : PV) (h : PHeap) : St := ⟨[x0, x1, x2, x3, .junk, .junk, .junk, .junk, x8, .junk, .junk, .junk, .junk, .junk, .junk, .junk, .junk, .junk, .junk, .junk, .junk, .junk, .junk, .junk, .junk, .junk, .junk, .junk, .junk, .junk, .junk, .junk, .junk, .junk, .junk, .junk, .junk, .junk, .junk, .junk, .junk, .junk, .junk, .junk, .junk, .junk, .junk, .junk, .junk, .junk, .junk, .junk, .junk], h⟩
noncomputable def lp1 : Code := (codeAt (bodyOf Tryd.f78) [1, 0, 0, 1, 0, 0, 1, 0, 0])
def st1 (x0 x1 x2 x3 x8 x9 : PV) (h : PHeap) : St := ⟨[x0, x1, x2, x3, .junk, .junk, .junk, .junk, x8, x9, .junk, .junk, .junk, .junk, .junk, .junk, .junk, .junk, .junk, .junk, .junk, .junk, .junk, .junk, .junk, .junk, .junk, .junk, .junk, .junk, .junk, .junk, .junk, .junk, .junk, .junk, .junk, .junk, .junk, .junk, .junk, .junk, .junk, .junk, .junk, .junk, .junk, .junk, .junk, .junk, .junk, .junk, .junk], h⟩
def se0_0_1_2_3_8_14 (x0 x1 x2 x3 x8 x14 : PV) (h : PHeap) : St := ⟨[x0, x1, x2, x3, .junk, .junk, .junk, .junk, x8, .junk, .junk, .junk, .junk, .junk, x14, .junk, .junk, .junk, .junk, .junk, .junk, .junk, .junk, .junk, .junk, .junk, .junk, .junk, .junk, .junk, .junk, .junk, .junk, .junk, .junk, .junk, .junk, .junk, .junk, .junk, .junk, .junk, .junk, .junk, .junk, .junk, .junk, .junk, .junk, .junk, .junk, .junk, .junk], h⟩
def se2_0_1_2_3_8_9_34 (x0 x1 x2 x3 x8 x9 x34 : PV) (h : PHeap) : St := ⟨[x0, x1, x2, x3, .junk, .junk, .junk, .junk, x8, x9, .junk, .junk, .junk, .junk, .junk, .junk, .junk, .junk, .junk, .junk, .junk, .junk, .junk, .junk, .junk, .junk, .junk, .junk, .junk, .junk, .junk, .junk, .junk, .junk, x34, .junk, .junk, .junk, .junk, .junk, .junk, .junk, .junk, .junk, .junk, .junk, .junk, .junk, .junk, .junk, .junk, .junk, .junk], h⟩
noncomputable def K0 (E : Env) (K : PX → St → Res) : PX → St → Res := (kBlock 0 K)
@[simp] theorem K0_ret (E : Env) (K : PX → St → Res) (s : St) : K0 E K .ret s = K .ret s := by kernel_rfl
noncomputable def K1 (E : Env) (K : PX → St → Res) : PX → St → Res := (kBlock 2 (kBlock 1 (kSeq (ev (E.cx Tryd.prog kl) (codeAt (bodyOf Tryd.f78) [1, 0, 0, 1, 1])) K)))
@[simp] theorem K1_ret (E : Env) (K : PX → St → Res) (s : St) : K1 E K .ret s = K .ret s := by kernel_rfl
noncomputable def body0 (E : Env) (K : PX → St → Res) (x0 x1 x2 x3 x8 : PV) (h : PHeap) : Res :=
    (E.p.bin .lss 3 x8 x2).bind fun v60 =>
    condP v60
     (
      loopK (ev (E.cx Tryd.prog slices_insertionSortCmpFunc_int_.kl) slices_insertionSortCmpFunc_int_.lp1) E.lf (slices_insertionSortCmpFunc_int_.st1 x0 x1 x2 x3 x8 x8 h) (slices_insertionSortCmpFunc_int_.K1 E K))
     (
      K (.exit 0) (se0_0_1_2_3_8_14 x0 x1 x2 x3 x8 v60 h))
theorem body0_eq (E : Env) (K : PX → St → Res) (x0 x1 x2 x3 x8 : PV) (h : PHeap) : ev (E.cx Tryd.prog kl) lp0 (st0 x0 x1 x2 x3 x8 h) K = body0 E K x0 x1 x2 x3 x8 h := by kernel_rfl
noncomputable def body1 (E : Env) (K : PX → St → Res) (x0 x1 x2 x3 x8 x9 : PV) (h : PHeap) : Res :=
    (E.p.bin .gtr 3 x9 x1).bind fun v61 =>
    (wantV v61 true).bind fun v62 =>
    (bif v62 then some (x3, h) else some (.tup [], h)).bind fun v63 =>
    (wantV v61 true).bind fun v64 =>
    (bif v64 then some (x0, v63.2) else some (.tup [], v63.2)).bind fun v65 =>
    (wantV v61 true).bind fun v66 =>
    (bif v66 then some (x9, v65.2) else some (.tup [], v65.2)).bind fun v67 =>
    (wantV v61 true).bind fun v68 =>
    (bif v68 then pv v67.2 (E.p.indexAddr 26 v65.1 v67.1) else some (.tup [], v67.2)).bind fun v69 =>
    (wantV v61 true).bind fun v70 =>
    (bif v70 then some (x0, v69.2) else some (.tup [], v69.2)).bind fun v71 =>
    (wantV v61 true).bind fun v72 =>
    (bif v72 then some (x9, v71.2) else some (.tup [], v71.2)).bind fun v73 =>
    (wantV v61 true).bind fun v74 =>
    (bif v74 then pv v73.2 (E.p.bin .sub 3 v73.1 (.int .i64 1)) else some (.tup [], v73.2)).bind fun v75 =>
    (wantV v61 true).bind fun v76 =>
    (bif v76 then pv v75.2 (E.p.indexAddr 26 v71.1 v75.1) else some (.tup [], v75.2)).bind fun v77 =>
    (wantV v61 true).bind fun v78 =>
    bif v78 then (
      (E.p.load 3 v69.1 v77.2).bind fun v79 =>
      (wantV v61 true).bind fun v80 =>
      (bif v80 then pv v77.2 (E.p.load 3 v77.1 v77.2) else some (.tup [], v77.2)).bind fun v81 =>
      (wantV v61 true).bind fun v82 =>
      (bif v82 then vcall E.C E.Y v63.1 [v79, v81.1] v81.2 else some (.tup [], v81.2)).bind fun v83 =>
      (E.p.load 3 v69.1 v83.2).bind fun v84 =>
      ckP (plainEq v79 v84) (
      (wantV v61 true).bind fun v85 =>
      (bif v85 then pv v83.2 (E.p.bin .lss 3 v83.1 (.int .i64 0)) else some (.tup [], v83.2)).bind fun v86 =>
      (E.p.pick v61 v86.1 (.bool false)).bind fun v87 =>
      condP v87
       (
        (E.p.bin .sub 3 x9 (.int .i64 1)).bind fun v88 =>
        (E.p.bin .sub 3 x9 (.int .i64 1)).bind fun v89 =>
        (E.p.indexAddr 26 x0 v89).bind fun v90 =>
        (E.p.indexAddr 26 x0 x9).bind fun v91 =>
        (E.p.load 3 v90 v86.2).bind fun v92 =>
        (E.p.load 3 v91 v86.2).bind fun v93 =>
        (E.p.indexAddr 26 x0 x9).bind fun v94 =>
        (E.p.store 3 v94 v92 v86.2).bind fun v95 =>
        (E.p.indexAddr 26 x0 v88).bind fun v96 =>
        (E.p.store 3 v96 v93 v95).bind fun v97 =>
        (E.p.bin .sub 3 x9 (.int .i64 1)).bind fun v98 =>
        K .normal (st1 x0 x1 x2 x3 x8 v98 v97))
       (
        K (.exit 2) (se2_0_1_2_3_8_9_34 x0 x1 x2 x3 x8 x9 v87 v86.2))))
    else (
      (wantV v61 true).bind fun v99 =>
      (bif v99 then pv v77.2 (E.p.load 3 v77.1 v77.2) else some (.tup [], v77.2)).bind fun v100 =>
      (wantV v61 true).bind fun v101 =>
      (bif v101 then vcall E.C E.Y v63.1 [(.tup []), v100.1] v100.2 else some (.tup [], v100.2)).bind fun v102 =>
      (wantV v61 true).bind fun v103 =>
      (bif v103 then pv v102.2 (E.p.bin .lss 3 v102.1 (.int .i64 0)) else some (.tup [], v102.2)).bind fun v104 =>
      (E.p.pick v61 v104.1 (.bool false)).bind fun v105 =>
      condP v105
       (
        (E.p.bin .sub 3 x9 (.int .i64 1)).bind fun v106 =>
        (E.p.bin .sub 3 x9 (.int .i64 1)).bind fun v107 =>
        (E.p.indexAddr 26 x0 v107).bind fun v108 =>
        (E.p.indexAddr 26 x0 x9).bind fun v109 =>
        (E.p.load 3 v108 v104.2).bind fun v110 =>
        (E.p.load 3 v109 v104.2).bind fun v111 =>
        (E.p.indexAddr 26 x0 x9).bind fun v112 =>
        (E.p.store 3 v112 v110 v104.2).bind fun v113 =>
        (E.p.indexAddr 26 x0 v106).bind fun v114 =>
        (E.p.store 3 v114 v111 v113).bind fun v115 =>
        (E.p.bin .sub 3 x9 (.int .i64 1)).bind fun v116 =>
        K .normal (st1 x0 x1 x2 x3 x8 v116 v115))
       (
        K (.exit 2) (se2_0_1_2_3_8_9_34 x0 x1 x2 x3 x8 x9 v105 v104.2)))
theorem body1_eq (E : Env) (K : PX → St → Res) (x0 x1 x2 x3 x8 x9 : PV) (h : PHeap) : ev (E.cx Tryd.prog kl) lp1 (st1 x0 x1 x2 x3 x8 x9 h) K = body1 E K x0 x1 x2 x3 x8 x9 h := by kernel_rfl
theorem after0_se0_0_1_2_3_8_14 (E : Env) (x0 x1 x2 x3 x8 x14 : PV) (h : PHeap) : K0 E (kTop Tryd.prog Tryd.f78) (.exit 0) (se0_0_1_2_3_8_14 x0 x1 x2 x3 x8 x14 h) =
    some (.tup [], h) := by kernel_rfl
theorem after1_se2_0_1_2_3_8_9_34 (E : Env) (K : PX → St → Res) (x0 x1 x2 x3 x8 x9 x34 : PV) (h : PHeap) : K1 E K (.exit 2) (se2_0_1_2_3_8_9_34 x0 x1 x2 x3 x8 x9 x34 h) =
    (E.p.bin .add 3 x8 (.int .i64 1)).bind fun v59 =>
    K .normal (st0 x0 x1 x2 x3 v59 h) := by kernel_rfl
noncomputable def main (E : Env) (x0 x1 x2 x3 : PV) (h : PHeap) : Res :=
    (E.p.bin .add 3 x1 (.int .i64 1)).bind fun v1 =>
    loopK (ev (E.cx Tryd.prog slices_insertionSortCmpFunc_int_.kl) slices_insertionSortCmpFunc_int_.lp0) E.lf (slices_insertionSortCmpFunc_int_.st0 x0 x1 x2 x3 v1 h) (slices_insertionSortCmpFunc_int_.K0 E (kTop Tryd.prog Tryd.f78))
theorem main_eq (E : Env) (x0 x1 x2 x3 : PV) (h : PHeap) : runBody (E.cx Tryd.prog kl) Tryd.f78 [x0, x1, x2, x3] h = main E x0 x1 x2 x3 h := by kernel_rfl
theorem call_eq (g : Nat → PV) (lf n : Nat) (x0 x1 x2 x3 : PV) (h : PHeap) : CL g lf (n + 1) fn_slices_insertionSortCmpFunc_int_ [x0, x1, x2, x3] h = main (env g lf n) x0 x1 x2 x3 h := by
  rw [← main_eq]
  show call Tryd.prog g KL lf (n + 1) 78 [x0, x1, x2, x3] h = _
  rw [call_succ, Tryd.func78]
  kernel_rfl
end slices_insertionSortCmpFunc_int_
namespace slices_symMergeCmpFunc_int_
noncomputable def lp0 : Code := (codeAt (bodyOf Tryd.f79) [0, 1, 0, 1, 1, 0, 0, 0])
def st0 (x0 x1 x4 x10 x11 : PV) (h : PHeap) : St := ⟨[x0, x1, .junk, .junk, x4, .junk, .junk, .junk, .junk, .junk, x10, x11, .junk, .junk, .junk, .junk, .junk, .junk, .junk, .junk, .junk, .junk, .junk, .junk, .junk, .junk, .junk, .junk, .junk, .junk, .junk, .junk, .junk, .junk, .junk, .junk, .junk, .junk, .junk, .junk, .junk, .junk, .junk, .junk, .junk, .junk, .junk, .junk, .junk, .junk, .junk, .junk, .junk, .junk, .junk, .junk, .junk, .junk, .junk, .junk, .junk, .junk, .junk, .junk, .junk, .junk, .junk, .junk, .junk, .junk, .junk, .junk, .junk, .junk, .junk, .junk, .junk, .junk, .junk, .junk, .junk, .junk, .junk, .junk, .junk, .junk, .junk, .junk, .junk, .junk, .junk, .junk, .junk, .junk, .junk, .junk, .junk, .junk, .junk, .junk, .junk, .junk, .junk, .junk, .junk, .junk, .junk, .junk, .junk, .junk, .junk, .junk, .junk, .junk, .junk, .junk, .junk, .junk, .junk, .junk, .junk, .junk, .junk, .junk, .junk, .junk, .junk, .junk, .junk, .junk, .junk, .junk, .junk, .junk, .junk, .junk, .junk, .junk, .junk, .junk, .junk, .junk, .junk, .junk, .junk, .junk, .junk, .junk, .junk, .junk, .junk, .junk, .junk, .junk, .junk, .junk, .junk, .junk, .junk, .junk, .junk, .junk, .junk, .junk, .junk, .junk, .junk, .junk, .junk, .junk, .junk, .junk, .junk, .junk, .junk, .junk, .junk, .junk, .junk, .junk, .junk, .junk, .junk, .junk, .junk, .junk, .junk, .junk, .junk, .junk, .junk, .junk, .junk, .junk, .junk, .junk, .junk, .junk, .junk, .junk, .junk, .junk, .junk, .junk, .junk, .junk, .junk, .junk, .junk, .junk, .junk, .junk, .junk, .junk, .junk, .junk, .junk, .junk, .junk, .junk], h⟩
noncomputable def lp1 : Code := (codeAt (bodyOf Tryd.f79) [1, 0, 1, 0, 1, 1, 0, 0, 0])
def st1 (x0 x2 x4 x14 x15 : PV) (h : PHeap) : St := ⟨[x0, .junk, x2, .junk, x4, .junk, .junk, .junk, .junk, .junk, .junk, .junk, .junk, .junk, x14, x15, .junk, .junk, .junk, .junk, .junk, .junk, .junk, .junk, .junk, .junk, .junk, .junk, .junk, .junk, .junk, .junk, .junk, .junk, .junk, .junk, .junk, .junk, .junk, .junk, .junk, .junk, .junk, .junk, .junk, .junk, .junk, .junk, .junk, .junk, .junk, .junk, .junk, .junk, .junk, .junk, .junk, .junk, .junk, .junk, .junk, .junk, .junk, .junk, .junk, .junk, .junk, .junk, .junk, .junk, .junk, .junk, .junk, .junk, .junk, .junk, .junk, .junk, .junk, .junk, .junk, .junk, .junk, .junk, .junk, .junk, .junk, .junk, .junk, .junk, .junk, .junk, .junk, .junk, .junk, .junk, .junk, .junk, .junk, .junk, .junk, .junk, .junk, .junk, .junk, .junk, .junk, .junk, .junk, .junk, .junk, .junk, .junk, .junk, .junk, .junk, .junk, .junk, .junk, .junk, .junk, .junk, .junk, .junk, .junk, .junk, .junk, .junk, .junk, .junk, .junk, .junk, .junk, .junk, .junk, .junk, .junk, .junk, .junk, .junk, .junk, .junk, .junk, .junk, .junk, .junk, .junk, .junk, .junk, .junk, .junk, .junk, .junk, .junk, .junk, .junk, .junk, .junk, .junk, .junk, .junk, .junk, .junk, .junk, .junk, .junk, .junk, .junk, .junk, .junk, .junk, .junk, .junk, .junk, .junk, .junk, .junk, .junk, .junk, .junk, .junk, .junk, .junk, .junk, .junk, .junk, .junk, .junk, .junk, .junk, .junk, .junk, .junk, .junk, .junk, .junk, .junk, .junk, .junk, .junk, .junk, .junk, .junk, .junk, .junk, .junk, .junk, .junk, .junk, .junk, .junk, .junk, .junk, .junk, .junk, .junk, .junk, .junk, .junk, .junk], h⟩
noncomputable def lp2 : Code := (codeAt (bodyOf Tryd.f79) [1, 1, 1, 1, 1, 1, 1, 0, 0, 0])
def st2 (x0 x1 x2 x3 x4 x18 x19 x20 x21 x22 : PV) (h : PHeap) : St := ⟨[x0, x1, x2, x3, x4, .junk, .junk, .junk, .junk, .junk, .junk, .junk, .junk, .junk, .junk, .junk, .junk, .junk, x18, x19, x20, x21, x22, .junk, .junk, .junk, .junk, .junk, .junk, .junk, .junk, .junk, .junk, .junk, .junk, .junk, .junk, .junk, .junk, .junk, .junk, .junk, .junk, .junk, .junk, .junk, .junk, .junk, .junk, .junk, .junk, .junk, .junk, .junk, .junk, .junk, .junk, .junk, .junk, .junk, .junk, .junk, .junk, .junk, .junk, .junk, .junk, .junk, .junk, .junk, .junk, .junk, .junk, .junk, .junk, .junk, .junk, .junk, .junk, .junk, .junk, .junk, .junk, .junk, .junk, .junk, .junk, .junk, .junk, .junk, .junk, .junk, .junk, .junk, .junk, .junk, .junk, .junk, .junk, .junk, .junk, .junk, .junk, .junk, .junk, .junk, .junk, .junk, .junk, .junk, .junk, .junk, .junk, .junk, .junk, .junk, .junk, .junk, .junk, .junk, .junk, .junk, .junk, .junk, .junk, .junk, .junk, .junk, .junk, .junk, .junk, .junk, .junk, .junk, .junk, .junk, .junk, .junk, .junk, .junk, .junk, .junk, .junk, .junk, .junk, .junk, .junk, .junk, .junk, .junk, .junk, .junk, .junk, .junk, .junk, .junk, .junk, .junk, .junk, .junk, .junk, .junk, .junk, .junk, .junk, .junk, .junk, .junk, .junk, .junk, .junk, .junk, .junk, .junk, .junk, .junk, .junk, .junk, .junk, .junk, .junk, .junk, .junk, .junk, .junk, .junk, .junk, .junk, .junk, .junk, .junk, .junk, .junk, .junk, .junk, .junk, .junk, .junk, .junk, .junk, .junk, .junk, .junk, .junk, .junk, .junk, .junk, .junk, .junk, .junk, .junk, .junk, .junk, .junk, .junk, .junk, .junk, .junk, .junk, .junk], h⟩
noncomputable def lp3 : Code := (codeAt (bodyOf Tryd.f79) [0, 1, 0, 1, 1, 1, 0, 1, 0, 0])
def st3 (x0 x10 x13 : PV) (h : PHeap) : St := ⟨[x0, .junk, .junk, .junk, .junk, .junk, .junk, .junk, .junk, .junk, x10, .junk, .junk, x13, .junk, .junk, .junk, .junk, .junk, .junk, .junk, .junk, .junk, .junk, .junk, .junk, .junk, .junk, .junk, .junk, .junk, .junk, .junk, .junk, .junk, .junk, .junk, .junk, .junk, .junk, .junk, .junk, .junk, .junk, .junk, .junk, .junk, .junk, .junk, .junk, .junk, .junk, .junk, .junk, .junk, .junk, .junk, .junk, .junk, .junk, .junk, .junk, .junk, .junk, .junk, .junk, .junk, .junk, .junk, .junk, .junk, .junk, .junk, .junk, .junk, .junk, .junk, .junk, .junk, .junk, .junk, .junk, .junk, .junk, .junk, .junk, .junk, .junk, .junk, .junk, .junk, .junk, .junk, .junk, .junk, .junk, .junk, .junk, .junk, .junk, .junk, .junk, .junk, .junk, .junk, .junk, .junk, .junk, .junk, .junk, .junk, .junk, .junk, .junk, .junk, .junk, .junk, .junk, .junk, .junk, .junk, .junk, .junk, .junk, .junk, .junk, .junk, .junk, .junk, .junk, .junk, .junk, .junk, .junk, .junk, .junk, .junk, .junk, .junk, .junk, .junk, .junk, .junk, .junk, .junk, .junk, .junk, .junk, .junk, .junk, .junk, .junk, .junk, .junk, .junk, .junk, .junk, .junk, .junk, .junk, .junk, .junk, .junk, .junk, .junk, .junk, .junk, .junk, .junk, .junk, .junk, .junk, .junk, .junk, .junk, .junk, .junk, .junk, .junk, .junk, .junk, .junk, .junk, .junk, .junk, .junk, .junk, .junk, .junk, .junk, .junk, .junk, .junk, .junk, .junk, .junk, .junk, .junk, .junk, .junk, .junk, .junk, .junk, .junk, .junk, .junk, .junk, .junk, .junk, .junk, .junk, .junk, .junk, .junk, .junk, .junk, .junk, .junk, .junk, .junk], h⟩
noncomputable def lp4 : Code := (codeAt (bodyOf Tryd.f79) [1, 0, 1, 0, 1, 1, 1, 0, 1, 0, 0])
def st4 (x0 x14 x17 : PV) (h : PHeap) : St := ⟨[x0, .junk, .junk, .junk, .junk, .junk, .junk, .junk, .junk, .junk, .junk, .junk, .junk, .junk, x14, .junk, .junk, x17, .junk, .junk, .junk, .junk, .junk, .junk, .junk, .junk, .junk, .junk, .junk, .junk, .junk, .junk, .junk, .junk, .junk, .junk, .junk, .junk, .junk, .junk, .junk, .junk, .junk, .junk, .junk, .junk, .junk, .junk, .junk, .junk, .junk, .junk, .junk, .junk, .junk, .junk, .junk, .junk, .junk, .junk, .junk, .junk, .junk, .junk, .junk, .junk, .junk, .junk, .junk, .junk, .junk, .junk, .junk, .junk, .junk, .junk, .junk, .junk, .junk, .junk, .junk, .junk, .junk, .junk, .junk, .junk, .junk, .junk, .junk, .junk, .junk, .junk, .junk, .junk, .junk, .junk, .junk, .junk, .junk, .junk, .junk, .junk, .junk, .junk, .junk, .junk, .junk, .junk, .junk, .junk, .junk, .junk, .junk, .junk, .junk, .junk, .junk, .junk, .junk, .junk, .junk, .junk, .junk, .junk, .junk, .junk, .junk, .junk, .junk, .junk, .junk, .junk, .junk, .junk, .junk, .junk, .junk, .junk, .junk, .junk, .junk, .junk, .junk, .junk, .junk, .junk, .junk, .junk, .junk, .junk, .junk, .junk, .junk, .junk, .junk, .junk, .junk, .junk, .junk, .junk, .junk, .junk, .junk, .junk, .junk, .junk, .junk, .junk, .junk, .junk, .junk, .junk, .junk, .junk, .junk, .junk, .junk, .junk, .junk, .junk, .junk, .junk, .junk, .junk, .junk, .junk, .junk, .junk, .junk, .junk, .junk, .junk, .junk, .junk, .junk, .junk, .junk, .junk, .junk, .junk, .junk, .junk, .junk, .junk, .junk, .junk, .junk, .junk, .junk, .junk, .junk, .junk, .junk, .junk, .junk, .junk, .junk, .junk, .junk, .junk], h⟩
def se0_0_1_4_10_11_33 (x0 x1 x4 x10 x11 x33 : PV) (h : PHeap) : St := ⟨[x0, x1, .junk, .junk, x4, .junk, .junk, .junk, .junk, .junk, x10, x11, .junk, .junk, .junk, .junk, .junk, .junk, .junk, .junk, .junk, .junk, .junk, .junk, .junk, .junk, .junk, .junk, .junk, .junk, .junk, .junk, .junk, x33, .junk, .junk, .junk, .junk, .junk, .junk, .junk, .junk, .junk, .junk, .junk, .junk, .junk, .junk, .junk, .junk, .junk, .junk, .junk, .junk, .junk, .junk, .junk, .junk, .junk, .junk, .junk, .junk, .junk, .junk, .junk, .junk, .junk, .junk, .junk, .junk, .junk, .junk, .junk, .junk, .junk, .junk, .junk, .junk, .junk, .junk, .junk, .junk, .junk, .junk, .junk, .junk, .junk, .junk, .junk, .junk, .junk, .junk, .junk, .junk, .junk, .junk, .junk, .junk, .junk, .junk, .junk, .junk, .junk, .junk, .junk, .junk, .junk, .junk, .junk, .junk, .junk, .junk, .junk, .junk, .junk, .junk, .junk, .junk, .junk, .junk, .junk, .junk, .junk, .junk, .junk, .junk, .junk, .junk, .junk, .junk, .junk, .junk, .junk, .junk, .junk, .junk, .junk, .junk, .junk, .junk, .junk, .junk, .junk, .junk, .junk, .junk, .junk, .junk, .junk, .junk, .junk, .junk, .junk, .junk, .junk, .junk, .junk, .junk, .junk, .junk, .junk, .junk, .junk, .junk, .junk, .junk, .junk, .junk, .junk, .junk, .junk, .junk, .junk, .junk, .junk, .junk, .junk, .junk, .junk, .junk, .junk, .junk, .junk, .junk, .junk, .junk, .junk, .junk, .junk, .junk, .junk, .junk, .junk, .junk, .junk, .junk, .junk, .junk, .junk, .junk, .junk, .junk, .junk, .junk, .junk, .junk, .junk, .junk, .junk, .junk, .junk, .junk, .junk, .junk, .junk, .junk, .junk, .junk, .junk, .junk], h⟩
def se4_0_2_4_14_15_85 (x0 x2 x4 x14 x15 x85 : PV) (h : PHeap) : St := ⟨[x0, .junk, x2, .junk, x4, .junk, .junk, .junk, .junk, .junk, .junk, .junk, .junk, .junk, x14, x15, .junk, .junk, .junk, .junk, .junk, .junk, .junk, .junk, .junk, .junk, .junk, .junk, .junk, .junk, .junk, .junk, .junk, .junk, .junk, .junk, .junk, .junk, .junk, .junk, .junk, .junk, .junk, .junk, .junk, .junk, .junk, .junk, .junk, .junk, .junk, .junk, .junk, .junk, .junk, .junk, .junk, .junk, .junk, .junk, .junk, .junk, .junk, .junk, .junk, .junk, .junk, .junk, .junk, .junk, .junk, .junk, .junk, .junk, .junk, .junk, .junk, .junk, .junk, .junk, .junk, .junk, .junk, .junk, .junk, x85, .junk, .junk, .junk, .junk, .junk, .junk, .junk, .junk, .junk, .junk, .junk, .junk, .junk, .junk, .junk, .junk, .junk, .junk, .junk, .junk, .junk, .junk, .junk, .junk, .junk, .junk, .junk, .junk, .junk, .junk, .junk, .junk, .junk, .junk, .junk, .junk, .junk, .junk, .junk, .junk, .junk, .junk, .junk, .junk, .junk, .junk, .junk, .junk, .junk, .junk, .junk, .junk, .junk, .junk, .junk, .junk, .junk, .junk, .junk, .junk, .junk, .junk, .junk, .junk, .junk, .junk, .junk, .junk, .junk, .junk, .junk, .junk, .junk, .junk, .junk, .junk, .junk, .junk, .junk, .junk, .junk, .junk, .junk, .junk, .junk, .junk, .junk, .junk, .junk, .junk, .junk, .junk, .junk, .junk, .junk, .junk, .junk, .junk, .junk, .junk, .junk, .junk, .junk, .junk, .junk, .junk, .junk, .junk, .junk, .junk, .junk, .junk, .junk, .junk, .junk, .junk, .junk, .junk, .junk, .junk, .junk, .junk, .junk, .junk, .junk, .junk, .junk, .junk, .junk, .junk, .junk, .junk, .junk, .junk], h⟩
def se8_0_1_2_3_4_18_19_20_21_22_151 (x0 x1 x2 x3 x4 x18 x19 x20 x21 x22 x151 : PV) (h : PHeap) : St := ⟨[x0, x1, x2, x3, x4, .junk, .junk, .junk, .junk, .junk, .junk, .junk, .junk, .junk, .junk, .junk, .junk, .junk, x18, x19, x20, x21, x22, .junk, .junk, .junk, .junk, .junk, .junk, .junk, .junk, .junk, .junk, .junk, .junk, .junk, .junk, .junk, .junk, .junk, .junk, .junk, .junk, .junk, .junk, .junk, .junk, .junk, .junk, .junk, .junk, .junk, .junk, .junk, .junk, .junk, .junk, .junk, .junk, .junk, .junk, .junk, .junk, .junk, .junk, .junk, .junk, .junk, .junk, .junk, .junk, .junk, .junk, .junk, .junk, .junk, .junk, .junk, .junk, .junk, .junk, .junk, .junk, .junk, .junk, .junk, .junk, .junk, .junk, .junk, .junk, .junk, .junk, .junk, .junk, .junk, .junk, .junk, .junk, .junk, .junk, .junk, .junk, .junk, .junk, .junk, .junk, .junk, .junk, .junk, .junk, .junk, .junk, .junk, .junk, .junk, .junk, .junk, .junk, .junk, .junk, .junk, .junk, .junk, .junk, .junk, .junk, .junk, .junk, .junk, .junk, .junk, .junk, .junk, .junk, .junk, .junk, .junk, .junk, .junk, .junk, .junk, .junk, .junk, .junk, .junk, .junk, .junk, .junk, .junk, .junk, x151, .junk, .junk, .junk, .junk, .junk, .junk, .junk, .junk, .junk, .junk, .junk, .junk, .junk, .junk, .junk, .junk, .junk, .junk, .junk, .junk, .junk, .junk, .junk, .junk, .junk, .junk, .junk, .junk, .junk, .junk, .junk, .junk, .junk, .junk, .junk, .junk, .junk, .junk, .junk, .junk, .junk, .junk, .junk, .junk, .junk, .junk, .junk, .junk, .junk, .junk, .junk, .junk, .junk, .junk, .junk, .junk, .junk, .junk, .junk, .junk, .junk, .junk, .junk, .junk, .junk, .junk, .junk, .junk], h⟩
def se2_0_10_13_58 (x0 x10 x13 x58 : PV) (h : PHeap) : St := ⟨[x0, .junk, .junk, .junk, .junk, .junk, .junk, .junk, .junk, .junk, x10, .junk, .junk, x13, .junk, .junk, .junk, .junk, .junk, .junk, .junk, .junk, .junk, .junk, .junk, .junk, .junk, .junk, .junk, .junk, .junk, .junk, .junk, .junk, .junk, .junk, .junk, .junk, .junk, .junk, .junk, .junk, .junk, .junk, .junk, .junk, .junk, .junk, .junk, .junk, .junk, .junk, .junk, .junk, .junk, .junk, .junk, .junk, x58, .junk, .junk, .junk, .junk, .junk, .junk, .junk, .junk, .junk, .junk, .junk, .junk, .junk, .junk, .junk, .junk, .junk, .junk, .junk, .junk, .junk, .junk, .junk, .junk, .junk, .junk, .junk, .junk, .junk, .junk, .junk, .junk, .junk, .junk, .junk, .junk, .junk, .junk, .junk, .junk, .junk, .junk, .junk, .junk, .junk, .junk, .junk, .junk, .junk, .junk, .junk, .junk, .junk, .junk, .junk, .junk, .junk, .junk, .junk, .junk, .junk, .junk, .junk, .junk, .junk, .junk, .junk, .junk, .junk, .junk, .junk, .junk, .junk, .junk, .junk, .junk, .junk, .junk, .junk, .junk, .junk, .junk, .junk, .junk, .junk, .junk, .junk, .junk, .junk, .junk, .junk, .junk, .junk, .junk, .junk, .junk, .junk, .junk, .junk, .junk, .junk, .junk, .junk, .junk, .junk, .junk, .junk, .junk, .junk, .junk, .junk, .junk, .junk, .junk, .junk, .junk, .junk, .junk, .junk, .junk, .junk, .junk, .junk, .junk, .junk, .junk, .junk, .junk, .junk, .junk, .junk, .junk, .junk, .junk, .junk, .junk, .junk, .junk, .junk, .junk, .junk, .junk, .junk, .junk, .junk, .junk, .junk, .junk, .junk, .junk, .junk, .junk, .junk, .junk, .junk, .junk, .junk, .junk, .junk, .junk, .junk], h⟩
def se6_0_14_17_110 (x0 x14 x17 x110 : PV) (h : PHeap) : St := ⟨[x0, .junk, .junk, .junk, .junk, .junk, .junk, .junk, .junk, .junk, .junk, .junk, .junk, .junk, x14, .junk, .junk, x17, .junk, .junk, .junk, .junk, .junk, .junk, .junk, .junk, .junk, .junk, .junk, .junk, .junk, .junk, .junk, .junk, .junk, .junk, .junk, .junk, .junk, .junk, .junk, .junk, .junk, .junk, .junk, .junk, .junk, .junk, .junk, .junk, .junk, .junk, .junk, .junk, .junk, .junk, .junk, .junk, .junk, .junk, .junk, .junk, .junk, .junk, .junk, .junk, .junk, .junk, .junk, .junk, .junk, .junk, .junk, .junk, .junk, .junk, .junk, .junk, .junk, .junk, .junk, .junk, .junk, .junk, .junk, .junk, .junk, .junk, .junk, .junk, .junk, .junk, .junk, .junk, .junk, .junk, .junk, .junk, .junk, .junk, .junk, .junk, .junk, .junk, .junk, .junk, .junk, .junk, .junk, .junk, x110, .junk, .junk, .junk, .junk, .junk, .junk, .junk, .junk, .junk, .junk, .junk, .junk, .junk, .junk, .junk, .junk, .junk, .junk, .junk, .junk, .junk, .junk, .junk, .junk, .junk, .junk, .junk, .junk, .junk, .junk, .junk, .junk, .junk, .junk, .junk, .junk, .junk, .junk, .junk, .junk, .junk, .junk, .junk, .junk, .junk, .junk, .junk, .junk, .junk, .junk, .junk, .junk, .junk, .junk, .junk, .junk, .junk, .junk, .junk, .junk, .junk, .junk, .junk, .junk, .junk, .junk, .junk, .junk, .junk, .junk, .junk, .junk, .junk, .junk, .junk, .junk, .junk, .junk, .junk, .junk, .junk, .junk, .junk, .junk, .junk, .junk, .junk, .junk, .junk, .junk, .junk, .junk, .junk, .junk, .junk, .junk, .junk, .junk, .junk, .junk, .junk, .junk, .junk, .junk, .junk, .junk, .junk, .junk, .junk], h⟩
noncomputable def K0 (E : Env) (K : PX → St → Res) : PX → St → Res := (kBlock 0 (kSeq (ev (E.cx Tryd.prog kl) (codeAt (bodyOf Tryd.f79) [0, 1, 0, 1, 1, 1])) (kSeq (ev (E.cx Tryd.prog kl) (codeAt (bodyOf Tryd.f79) [1])) K)))
@[simp] theorem K0_ret (E : Env) (K : PX → St → Res) (s : St) : K0 E K .ret s = K .ret s := by kernel_rfl
noncomputable def K1 (E : Env) (K : PX → St → Res) : PX → St → Res := (kBlock 4 (kSeq (ev (E.cx Tryd.prog kl) (codeAt (bodyOf Tryd.f79) [1, 0, 1, 0, 1, 1, 1])) (kSeq (ev (E.cx Tryd.prog kl) (codeAt (bodyOf Tryd.f79) [1, 1])) K)))
@[simp] theorem K1_ret (E : Env) (K : PX → St → Res) (s : St) : K1 E K .ret s = K .ret s := by kernel_rfl
noncomputable def K2 (E : Env) (K : PX → St → Res) : PX → St → Res := (kBlock 8 (kSeq (ev (E.cx Tryd.prog kl) (codeAt (bodyOf Tryd.f79) [1, 1, 1, 1, 1, 1, 1, 1])) K))
@[simp] theorem K2_ret (E : Env) (K : PX → St → Res) (s : St) : K2 E K .ret s = K .ret s := by kernel_rfl
noncomputable def K3 (E : Env) (K : PX → St → Res) : PX → St → Res := (kBlock 2 (kSeq (ev (E.cx Tryd.prog kl) (codeAt (bodyOf Tryd.f79) [0, 1, 0, 1, 1, 1, 1])) (kSeq (ev (E.cx Tryd.prog kl) (codeAt (bodyOf Tryd.f79) [1])) K)))
@[simp] theorem K3_ret (E : Env) (K : PX → St → Res) (s : St) : K3 E K .ret s = K .ret s := by kernel_rfl
noncomputable def K4 (E : Env) (K : PX → St → Res) : PX → St → Res := (kBlock 6 (kSeq (ev (E.cx Tryd.prog kl) (codeAt (bodyOf Tryd.f79) [1, 0, 1, 0, 1, 1, 1, 1])) (kSeq (ev (E.cx Tryd.prog kl) (codeAt (bodyOf Tryd.f79) [1, 1])) K)))
@[simp] theorem K4_ret (E : Env) (K : PX → St → Res) (s : St) : K4 E K .ret s = K .ret s := by kernel_rfl
noncomputable def body0 (E : Env) (K : PX → St → Res) (x0 x1 x4 x10 x11 : PV) (h : PHeap) : Res :=
    (E.p.bin .lss 3 x10 x11).bind fun v148 =>
    condP v148
     (
      (E.p.bin .add 3 x10 x11).bind fun v149 =>
      (E.p.conv 3 55 v149).bind fun v150 =>
      (E.p.bin .shr 55 v150 (.int .u64 1)).bind fun v151 =>
      (E.p.conv 55 3 v151).bind fun v152 =>
      (E.p.indexAddr 26 x0 v152).bind fun v153 =>
      (E.p.load 3 v153 h).bind fun v154 =>
      (E.p.indexAddr 26 x0 x1).bind fun v155 =>
      (E.p.load 3 v155 h).bind fun v156 =>
      (vcall E.C E.Y x4 [v154, v156] h).bind fun v157 =>
      (E.p.load 3 v155 v157.2).bind fun v158 =>
      ckP (plainEq v156 v158) (
      (E.p.load 3 v153 v157.2).bind fun v159 =>
      ckP (plainEq v154 v159) (
      (E.p.bin .lss 3 v157.1 (.int .i64 0)).bind fun v160 =>
      condP v160
       (
        (E.p.bin .add 3 v152 (.int .i64 1)).bind fun v161 =>
        K .normal (st0 x0 x1 x4 v161 x11 v157.2))
       (
        K .normal (st0 x0 x1 x4 x10 v152 v157.2)))))
     (
      K (.exit 0) (se0_0_1_4_10_11_33 x0 x1 x4 x10 x11 v148 h))
theorem body0_eq (E : Env) (K : PX → St → Res) (x0 x1 x4 x10 x11 : PV) (h : PHeap) : ev (E.cx Tryd.prog kl) lp0 (st0 x0 x1 x4 x10 x11 h) K = body0 E K x0 x1 x4 x10 x11 h := by kernel_rfl
noncomputable def body1 (E : Env) (K : PX → St → Res) (x0 x2 x4 x14 x15 : PV) (h : PHeap) : Res :=
    (E.p.bin .lss 3 x14 x15).bind fun v162 =>
    condP v162
     (
      (E.p.bin .add 3 x14 x15).bind fun v163 =>
      (E.p.conv 3 55 v163).bind fun v164 =>
      (E.p.bin .shr 55 v164 (.int .u64 1)).bind fun v165 =>
      (E.p.conv 55 3 v165).bind fun v166 =>
      (E.p.indexAddr 26 x0 x2).bind fun v167 =>
      (E.p.load 3 v167 h).bind fun v168 =>
      (E.p.indexAddr 26 x0 v166).bind fun v169 =>
      (E.p.load 3 v169 h).bind fun v170 =>
      (vcall E.C E.Y x4 [v168, v170] h).bind fun v171 =>
      (E.p.load 3 v169 v171.2).bind fun v172 =>
      ckP (plainEq v170 v172) (
      (E.p.load 3 v167 v171.2).bind fun v173 =>
      ckP (plainEq v168 v173) (
      (E.p.bin .lss 3 v171.1 (.int .i64 0)).bind fun v174 =>
      (E.p.un .not v174).bind fun v175 =>
      condP v175
       (
        (E.p.bin .add 3 v166 (.int .i64 1)).bind fun v176 =>
        K .normal (st1 x0 x2 x4 v176 x15 v171.2))
       (
        K .normal (st1 x0 x2 x4 x14 v166 v171.2)))))
     (
      K (.exit 4) (se4_0_2_4_14_15_85 x0 x2 x4 x14 x15 v162 h))
theorem body1_eq (E : Env) (K : PX → St → Res) (x0 x2 x4 x14 x15 : PV) (h : PHeap) : ev (E.cx Tryd.prog kl) lp1 (st1 x0 x2 x4 x14 x15 h) K = body1 E K x0 x2 x4 x14 x15 h := by kernel_rfl
noncomputable def body2 (E : Env) (K : PX → St → Res) (x0 x1 x2 x3 x4 x18 x19 x20 x21 x22 : PV) (h : PHeap) : Res :=
    (E.p.bin .lss 3 x20 x21).bind fun v177 =>
    condP v177
     (
      (E.p.bin .add 3 x20 x21).bind fun v178 =>
      (E.p.conv 3 55 v178).bind fun v179 =>
      (E.p.bin .shr 55 v179 (.int .u64 1)).bind fun v180 =>
      (E.p.conv 55 3 v180).bind fun v181 =>
      (E.p.bin .sub 3 x22 v181).bind fun v182 =>
      (E.p.indexAddr 26 x0 v182).bind fun v183 =>
      (E.p.load 3 v183 h).bind fun v184 =>
      (E.p.indexAddr 26 x0 v181).bind fun v185 =>
      (E.p.load 3 v185 h).bind fun v186 =>
      (vcall E.C E.Y x4 [v184, v186] h).bind fun v187 =>
      (E.p.load 3 v185 v187.2).bind fun v188 =>
      ckP (plainEq v186 v188) (
      (E.p.load 3 v183 v187.2).bind fun v189 =>
      ckP (plainEq v184 v189) (
      (E.p.bin .lss 3 v187.1 (.int .i64 0)).bind fun v190 =>
      (E.p.un .not v190).bind fun v191 =>
      condP v191
       (
        (E.p.bin .add 3 v181 (.int .i64 1)).bind fun v192 =>
        K .normal (st2 x0 x1 x2 x3 x4 x18 x19 v192 x21 x22 v187.2))
       (
        K .normal (st2 x0 x1 x2 x3 x4 x18 x19 x20 v181 x22 v187.2)))))
     (
      K (.exit 8) (se8_0_1_2_3_4_18_19_20_21_22_151 x0 x1 x2 x3 x4 x18 x19 x20 x21 x22 v177 h))
theorem body2_eq (E : Env) (K : PX → St → Res) (x0 x1 x2 x3 x4 x18 x19 x20 x21 x22 : PV) (h : PHeap) : ev (E.cx Tryd.prog kl) lp2 (st2 x0 x1 x2 x3 x4 x18 x19 x20 x21 x22 h) K = body2 E K x0 x1 x2 x3 x4 x18 x19 x20 x21 x22 h := by kernel_rfl
noncomputable def body3 (E : Env) (K : PX → St → Res) (x0 x10 x13 : PV) (h : PHeap) : Res :=
    (E.p.bin .sub 3 x10 (.int .i64 1)).bind fun v193 =>
    (E.p.bin .lss 3 x13 v193).bind fun v194 =>
    condP v194
     (
      (E.p.bin .add 3 x13 (.int .i64 1)).bind fun v195 =>
      (E.p.bin .add 3 x13 (.int .i64 1)).bind fun v196 =>
      (E.p.indexAddr 26 x0 v196).bind fun v197 =>
      (E.p.indexAddr 26 x0 x13).bind fun v198 =>
      (E.p.load 3 v197 h).bind fun v199 =>
      (E.p.load 3 v198 h).bind fun v200 =>
      (E.p.indexAddr 26 x0 x13).bind fun v201 =>
      (E.p.store 3 v201 v199 h).bind fun v202 =>
      (E.p.indexAddr 26 x0 v195).bind fun v203 =>
      (E.p.store 3 v203 v200 v202).bind fun v204 =>
      (E.p.bin .add 3 x13 (.int .i64 1)).bind fun v205 =>
      K .normal (st3 x0 x10 v205 v204))
     (
      K (.exit 2) (se2_0_10_13_58 x0 x10 x13 v194 h))
theorem body3_eq (E : Env) (K : PX → St → Res) (x0 x10 x13 : PV) (h : PHeap) : ev (E.cx Tryd.prog kl) lp3 (st3 x0 x10 x13 h) K = body3 E K x0 x10 x13 h := by kernel_rfl
noncomputable def body4 (E : Env) (K : PX → St → Res) (x0 x14 x17 : PV) (h : PHeap) : Res :=
    (E.p.bin .gtr 3 x17 x14).bind fun v206 =>
    condP v206
     (
      (E.p.bin .sub 3 x17 (.int .i64 1)).bind fun v207 =>
      (E.p.bin .sub 3 x17 (.int .i64 1)).bind fun v208 =>
      (E.p.indexAddr 26 x0 v208).bind fun v209 =>
      (E.p.indexAddr 26 x0 x17).bind fun v210 =>
      (E.p.load 3 v209 h).bind fun v211 =>
      (E.p.load 3 v210 h).bind fun v212 =>
      (E.p.indexAddr 26 x0 x17).bind fun v213 =>
      (E.p.store 3 v213 v211 h).bind fun v214 =>
      (E.p.indexAddr 26 x0 v207).bind fun v215 =>
      (E.p.store 3 v215 v212 v214).bind fun v216 =>
      (E.p.bin .sub 3 x17 (.int .i64 1)).bind fun v217 =>
      K .normal (st4 x0 x14 v217 v216))
     (
      K (.exit 6) (se6_0_14_17_110 x0 x14 x17 v206 h))
theorem body4_eq (E : Env) (K : PX → St → Res) (x0 x14 x17 : PV) (h : PHeap) : ev (E.cx Tryd.prog kl) lp4 (st4 x0 x14 x17 h) K = body4 E K x0 x14 x17 h := by kernel_rfl
theorem after0_se0_0_1_4_10_11_33 (E : Env) (x0 x1 x4 x10 x11 x33 : PV) (h : PHeap) : K0 E (kTop Tryd.prog Tryd.f79) (.exit 0) (se0_0_1_4_10_11_33 x0 x1 x4 x10 x11 x33 h) =
    loopK (ev (E.cx Tryd.prog slices_symMergeCmpFunc_int_.kl) slices_symMergeCmpFunc_int_.lp3) E.lf (slices_symMergeCmpFunc_int_.st3 x0 x10 x1 h) (slices_symMergeCmpFunc_int_.K3 E (kTop Tryd.prog Tryd.f79)) := by kernel_rfl
theorem after1_se4_0_2_4_14_15_85 (E : Env) (x0 x2 x4 x14 x15 x85 : PV) (h : PHeap) : K1 E (kTop Tryd.prog Tryd.f79) (.exit 4) (se4_0_2_4_14_15_85 x0 x2 x4 x14 x15 x85 h) =
    loopK (ev (E.cx Tryd.prog slices_symMergeCmpFunc_int_.kl) slices_symMergeCmpFunc_int_.lp4) E.lf (slices_symMergeCmpFunc_int_.st4 x0 x14 x2 h) (slices_symMergeCmpFunc_int_.K4 E (kTop Tryd.prog Tryd.f79)) := by kernel_rfl
theorem after2_se8_0_1_2_3_4_18_19_20_21_22_151 (E : Env) (x0 x1 x2 x3 x4 x18 x19 x20 x21 x22 x151 : PV) (h : PHeap) : K2 E (kTop Tryd.prog Tryd.f79) (.exit 8) (se8_0_1_2_3_4_18_19_20_21_22_151 x0 x1 x2 x3 x4 x18 x19 x20 x21 x22 x151 h) =
    (E.p.bin .sub 3 x19 x20).bind fun v59 =>
    (E.p.bin .lss 3 x20 x2).bind fun v60 =>
    (wantV v60 true).bind fun v61 =>
    (bif v61 then some (x2, h) else some (.tup [], h)).bind fun v62 =>
    (wantV v60 true).bind fun v63 =>
    (bif v63 then some (v59, v62.2) else some (.tup [], v62.2)).bind fun v64 =>
    (wantV v60 true).bind fun v65 =>
    (bif v65 then pv v64.2 (E.p.bin .lss 3 v62.1 v64.1) else some (.tup [], v64.2)).bind fun v66 =>
    (E.p.pick v60 v66.1 (.bool false)).bind fun v67 =>
    condP v67
     (
      (E.C fn_slices_rotateCmpFunc_int_ [x0, x20, x2, v59, x4] v66.2).bind fun v68 =>
      (E.p.bin .lss 3 x1 x20).bind fun v69 =>
      (wantV v69 true).bind fun v70 =>
      (bif v70 then some (x20, v68.2) else some (.tup [], v68.2)).bind fun v71 =>
      (wantV v69 true).bind fun v72 =>
      (bif v72 then some (x18, v71.2) else some (.tup [], v71.2)).bind fun v73 =>
      (wantV v69 true).bind fun v74 =>
      (bif v74 then pv v73.2 (E.p.bin .lss 3 v71.1 v73.1) else some (.tup [], v73.2)).bind fun v75 =>
      (E.p.pick v69 v75.1 (.bool false)).bind fun v76 =>
      condP v76
       (
        (E.C fn_slices_symMergeCmpFunc_int_ [x0, x1, x20, x18, x4] v75.2).bind fun v77 =>
        (E.p.bin .lss 3 x18 v59).bind fun v78 =>
        (wantV v78 true).bind fun v79 =>
        (bif v79 then some (v59, v77.2) else some (.tup [], v77.2)).bind fun v80 =>
        (wantV v78 true).bind fun v81 =>
        (bif v81 then some (x3, v80.2) else some (.tup [], v80.2)).bind fun v82 =>
        (wantV v78 true).bind fun v83 =>
        (bif v83 then pv v82.2 (E.p.bin .lss 3 v80.1 v82.1) else some (.tup [], v82.2)).bind fun v84 =>
        (E.p.pick v78 v84.1 (.bool false)).bind fun v85 =>
        condP v85
         (
          (E.C fn_slices_symMergeCmpFunc_int_ [x0, x18, v59, x3, x4] v84.2).bind fun v86 =>
          some (.tup [], v86.2))
         (
          some (.tup [], v84.2)))
       (
        (E.p.bin .lss 3 x18 v59).bind fun v87 =>
        (wantV v87 true).bind fun v88 =>
        (bif v88 then some (v59, v75.2) else some (.tup [], v75.2)).bind fun v89 =>
        (wantV v87 true).bind fun v90 =>
        (bif v90 then some (x3, v89.2) else some (.tup [], v89.2)).bind fun v91 =>
        (wantV v87 true).bind fun v92 =>
        (bif v92 then pv v91.2 (E.p.bin .lss 3 v89.1 v91.1) else some (.tup [], v91.2)).bind fun v93 =>
        (E.p.pick v87 v93.1 (.bool false)).bind fun v94 =>
        condP v94
         (
          (E.C fn_slices_symMergeCmpFunc_int_ [x0, x18, v59, x3, x4] v93.2).bind fun v95 =>
          some (.tup [], v95.2))
         (
          some (.tup [], v93.2))))
     (
      (E.p.bin .lss 3 x1 x20).bind fun v96 =>
      (wantV v96 true).bind fun v97 =>
      (bif v97 then some (x20, v66.2) else some (.tup [], v66.2)).bind fun v98 =>
      (wantV v96 true).bind fun v99 =>
      (bif v99 then some (x18, v98.2) else some (.tup [], v98.2)).bind fun v100 =>
      (wantV v96 true).bind fun v101 =>
      (bif v101 then pv v100.2 (E.p.bin .lss 3 v98.1 v100.1) else some (.tup [], v100.2)).bind fun v102 =>
      (E.p.pick v96 v102.1 (.bool false)).bind fun v103 =>
      condP v103
       (
        (E.C fn_slices_symMergeCmpFunc_int_ [x0, x1, x20, x18, x4] v102.2).bind fun v104 =>
        (E.p.bin .lss 3 x18 v59).bind fun v105 =>
        (wantV v105 true).bind fun v106 =>
        (bif v106 then some (v59, v104.2) else some (.tup [], v104.2)).bind fun v107 =>
        (wantV v105 true).bind fun v108 =>
        (bif v108 then some (x3, v107.2) else some (.tup [], v107.2)).bind fun v109 =>
        (wantV v105 true).bind fun v110 =>
        (bif v110 then pv v109.2 (E.p.bin .lss 3 v107.1 v109.1) else some (.tup [], v109.2)).bind fun v111 =>
        (E.p.pick v105 v111.1 (.bool false)).bind fun v112 =>
        condP v112
         (
          (E.C fn_slices_symMergeCmpFunc_int_ [x0, x18, v59, x3, x4] v111.2).bind fun v113 =>
          some (.tup [], v113.2))
         (
          some (.tup [], v111.2)))
       (
        (E.p.bin .lss 3 x18 v59).bind fun v114 =>
        (wantV v114 true).bind fun v115 =>
        (bif v115 then some (v59, v102.2) else some (.tup [], v102.2)).bind fun v116 =>
        (wantV v114 true).bind fun v117 =>
        (bif v117 then some (x3, v116.2) else some (.tup [], v116.2)).bind fun v118 =>
        (wantV v114 true).bind fun v119 =>
        (bif v119 then pv v118.2 (E.p.bin .lss 3 v116.1 v118.1) else some (.tup [], v118.2)).bind fun v120 =>
        (E.p.pick v114 v120.1 (.bool false)).bind fun v121 =>
        condP v121
         (
          (E.C fn_slices_symMergeCmpFunc_int_ [x0, x18, v59, x3, x4] v120.2).bind fun v122 =>
          some (.tup [], v122.2))
         (
          some (.tup [], v120.2)))) := by kernel_rfl
theorem after3_se2_0_10_13_58 (E : Env) (x0 x10 x13 x58 : PV) (h : PHeap) : K3 E (kTop Tryd.prog Tryd.f79) (.exit 2) (se2_0_10_13_58 x0 x10 x13 x58 h) =
    some (.tup [], h) := by kernel_rfl
theorem after4_se6_0_14_17_110 (E : Env) (x0 x14 x17 x110 : PV) (h : PHeap) : K4 E (kTop Tryd.prog Tryd.f79) (.exit 6) (se6_0_14_17_110 x0 x14 x17 x110 h) =
    some (.tup [], h) := by kernel_rfl
noncomputable def main (E : Env) (x0 x1 x2 x3 x4 : PV) (h : PHeap) : Res :=
    (E.p.bin .sub 3 x2 x1).bind fun v1 =>
    (E.p.bin .eql 3 v1 (.int .i64 1)).bind fun v2 =>
    condP v2
     (
      loopK (ev (E.cx Tryd.prog slices_symMergeCmpFunc_int_.kl) slices_symMergeCmpFunc_int_.lp0) E.lf (slices_symMergeCmpFunc_int_.st0 x0 x1 x4 x2 x3 h) (slices_symMergeCmpFunc_int_.K0 E (kTop Tryd.prog Tryd.f79)))
     (
      (E.p.bin .sub 3 x3 x2).bind fun v3 =>
      (E.p.bin .eql 3 v3 (.int .i64 1)).bind fun v4 =>
      condP v4
       (
        loopK (ev (E.cx Tryd.prog slices_symMergeCmpFunc_int_.kl) slices_symMergeCmpFunc_int_.lp1) E.lf (slices_symMergeCmpFunc_int_.st1 x0 x2 x4 x1 x2 h) (slices_symMergeCmpFunc_int_.K1 E (kTop Tryd.prog Tryd.f79)))
       (
        (E.p.bin .add 3 x1 x3).bind fun v5 =>
        (E.p.conv 3 55 v5).bind fun v6 =>
        (E.p.bin .shr 55 v6 (.int .u64 1)).bind fun v7 =>
        (E.p.conv 55 3 v7).bind fun v8 =>
        (E.p.bin .add 3 v8 x2).bind fun v9 =>
        (E.p.bin .gtr 3 x2 v8).bind fun v10 =>
        condP v10
         (
          (E.p.bin .sub 3 v9 x3).bind fun v11 =>
          (E.p.bin .sub 3 v9 (.int .i64 1)).bind fun v12 =>
          loopK (ev (E.cx Tryd.prog slices_symMergeCmpFunc_int_.kl) slices_symMergeCmpFunc_int_.lp2) E.lf (slices_symMergeCmpFunc_int_.st2 x0 x1 x2 x3 x4 v8 v9 v11 v8 v12 h) (slices_symMergeCmpFunc_int_.K2 E (kTop Tryd.prog Tryd.f79)))
         (
          (E.p.bin .sub 3 v9 (.int .i64 1)).bind fun v13 =>
          loopK (ev (E.cx Tryd.prog slices_symMergeCmpFunc_int_.kl) slices_symMergeCmpFunc_int_.lp2) E.lf (slices_symMergeCmpFunc_int_.st2 x0 x1 x2 x3 x4 v8 v9 x1 x2 v13 h) (slices_symMergeCmpFunc_int_.K2 E (kTop Tryd.prog Tryd.f79)))))
theorem main_eq (E : Env) (x0 x1 x2 x3 x4 : PV) (h : PHeap) : runBody (E.cx Tryd.prog kl) Tryd.f79 [x0, x1, x2, x3, x4] h = main E x0 x1 x2 x3 x4 h := by kernel_rfl
theorem call_eq (g : Nat → PV) (lf n : Nat) (x0 x1 x2 x3 x4 : PV) (h : PHeap) : CL g lf (n + 1) fn_slices_symMergeCmpFunc_int_ [x0, x1, x2, x3, x4] h = main (env g lf n) x0 x1 x2 x3 x4 h := by
  rw [← main_eq]
  show call Tryd.prog g KL lf (n + 1) 79 [x0, x1, x2, x3, x4] h = _
  rw [call_succ, Tryd.func79]
  kernel_rfl
end slices_symMergeCmpFunc_int_
namespace impl_standing_after
noncomputable def main (E : Env) (x0 x1 : PV) (h : PHeap) : Res :=
    (E.p.box x0 h).bind fun v1 =>
    (E.p.alloc 70 v1.2).bind fun v2 =>
    (E.p.fieldAddr 70 v1.1 0).bind fun v3 =>
    (E.p.indexAddr 68 v3 (.int .i64 0)).bind fun v4 =>
    (E.p.bin .shl 3 (.int .i64 1) x1).bind fun v5 =>
    (E.p.fieldAddr 70 v1.1 0).bind fun v6 =>
    (E.p.load 3 v4 v2.2).bind fun v7 =>
    (E.p.bin .andNot 3 v7 v5).bind fun v8 =>
    (E.p.indexAddr 68 v6 (.int .i64 0)).bind fun v9 =>
    (E.p.store 3 v9 v8 v2.2).bind fun v10 =>
    (E.p.fieldAddr 70 v1.1 1).bind fun v11 =>
    (E.p.fieldAddr 70 v1.1 0).bind fun v12 =>
    (E.p.bin .shl 3 (.int .i64 1) x1).bind fun v13 =>
    (E.p.fieldAddr 70 v1.1 0).bind fun v14 =>
    (E.p.load 3 v11 v10).bind fun v15 =>
    (E.p.indexAddr 68 v12 v15).bind fun v16 =>
    (E.p.load 3 v16 v10).bind fun v17 =>
    (E.p.bin .or 3 v17 v13).bind fun v18 =>
    (E.p.indexAddr 68 v14 v15).bind fun v19 =>
    (E.p.store 3 v19 v18 v10).bind fun v20 =>
    (E.p.fieldAddr 70 v1.1 1).bind fun v21 =>
    (E.p.load 3 v21 v20).bind fun v22 =>
    (E.C fn_impl_exchanged [v22] v20).bind fun v23 =>
    (E.p.fieldAddr 70 v1.1 1).bind fun v24 =>
    (E.p.store 3 v24 v23.1 v23.2).bind fun v25 =>
    (E.p.load 70 v1.1 v25).bind fun v26 =>
    (E.p.store 70 v2.1 v26 v25).bind fun v27 =>
    (loadP Tryd.prog 70 v2.1 v27).bind fun v28 =>
    some (v28, v27)
theorem main_eq (E : Env) (x0 x1 : PV) (h : PHeap) : runBody (E.cx Tryd.prog kl) Tryd.f80 [x0, x1] h = main E x0 x1 h := by kernel_rfl
theorem call_eq (g : Nat → PV) (lf n : Nat) (x0 x1 : PV) (h : PHeap) : CL g lf (n + 1) fn_impl_standing_after [x0, x1] h = main (env g lf n) x0 x1 h := by
  rw [← main_eq]
  show call Tryd.prog g KL lf (n + 1) 80 [x0, x1] h = _
  rw [call_succ, Tryd.func80]
  kernel_rfl
end impl_standing_after
namespace bits_TrailingZeros32
noncomputable def main (E : Env) (x0 : PV) (h : PHeap) : Res :=
    (E.p.bin .eql 84 x0 (.int .u32 0)).bind fun v1 =>
    condP v1
     (
      (resV (.int .i64 32)).bind fun v2 =>
      some (v2, h))
     (
      (E.p.un .neg x0).bind fun v3 =>
      (E.p.bin .and 84 x0 v3).bind fun v4 =>
      (E.p.bin .mul 84 v4 (.int .u32 125613361)).bind fun v5 =>
      (E.p.bin .shr 84 v5 (.int .u64 27)).bind fun v6 =>
      (E.p.indexAddr 91 (E.g 0) v6).bind fun v7 =>
      (E.p.load 5 v7 h).bind fun v8 =>
      (E.p.conv 5 3 v8).bind fun v9 =>
      (resV v9).bind fun v10 =>
      some (v10, h))
theorem main_eq (E : Env) (x0 : PV) (h : PHeap) : runBody (E.cx Tryd.prog kl) Tryd.f81 [x0] h = main E x0 h := by kernel_rfl
theorem call_eq (g : Nat → PV) (lf n : Nat) (x0 : PV) (h : PHeap) : CL g lf (n + 1) fn_bits_TrailingZeros32 [x0] h = main (env g lf n) x0 h := by
  rw [← main_eq]
  show call Tryd.prog g KL lf (n + 1) 81 [x0] h = _
  rw [call_succ, Tryd.func81]
  kernel_rfl
end bits_TrailingZeros32
namespace bits_TrailingZeros64
noncomputable def main (E : Env) (x0 : PV) (h : PHeap) : Res :=
    (E.p.bin .eql 86 x0 (.int .u64 0)).bind fun v1 =>
    condP v1
     (
      (resV (.int .i64 64)).bind fun v2 =>
      some (v2, h))
     (
      (E.p.un .neg x0).bind fun v3 =>
      (E.p.bin .and 86 x0 v3).bind fun v4 =>
      (E.p.bin .mul 86 v4 (.int .u64 285870213051353865)).bind fun v5 =>
      (E.p.bin .shr 86 v5 (.int .u64 58)).bind fun v6 =>
      (E.p.indexAddr 92 (E.g 1) v6).bind fun v7 =>
      (E.p.load 5 v7 h).bind fun v8 =>
      (E.p.conv 5 3 v8).bind fun v9 =>
      (resV v9).bind fun v10 =>
      some (v10, h))
theorem main_eq (E : Env) (x0 : PV) (h : PHeap) : runBody (E.cx Tryd.prog kl) Tryd.f82 [x0] h = main E x0 h := by kernel_rfl
theorem call_eq (g : Nat → PV) (lf n : Nat) (x0 : PV) (h : PHeap) : CL g lf (n + 1) fn_bits_TrailingZeros64 [x0] h = main (env g lf n) x0 h := by
  rw [← main_eq]
  show call Tryd.prog g KL lf (n + 1) 82 [x0] h = _
  rw [call_succ, Tryd.func82]
  kernel_rfl
end bits_TrailingZeros64
namespace slices_rotateCmpFunc_int_
noncomputable def lp0 : Code := (codeAt (bodyOf Tryd.f83) [1, 1, 0, 0, 0])
def st0 (x0 x2 x4 x10 x11 : PV) (h : PHeap) : St := ⟨[x0, .junk, x2, .junk, x4, .junk, .junk, .junk, .junk, .junk, x10, x11, .junk, .junk, .junk, .junk, .junk, .junk, .junk, .junk, .junk, .junk, .junk, .junk, .junk, .junk, .junk, .junk, .junk, .junk, .junk, .junk, .junk, .junk, .junk, .junk, .junk, .junk, .junk, .junk, .junk, .junk, .junk, .junk, .junk, .junk, .junk, .junk, .junk, .junk, .junk, .junk, .junk, .junk, .junk, .junk, .junk, .junk], h⟩
def se0_0_2_4_10_11_20 (x0 x2 x4 x10 x11 x20 : PV) (h : PHeap) : St := ⟨[x0, .junk, x2, .junk, x4, .junk, .junk, .junk, .junk, .junk, x10, x11, .junk, .junk, .junk, .junk, .junk, .junk, .junk, .junk, x20, .junk, .junk, .junk, .junk, .junk, .junk, .junk, .junk, .junk, .junk, .junk, .junk, .junk, .junk, .junk, .junk, .junk, .junk, .junk, .junk, .junk, .junk, .junk, .junk, .junk, .junk, .junk, .junk, .junk, .junk, .junk, .junk, .junk, .junk, .junk, .junk, .junk], h⟩
noncomputable def K0 (E : Env) (K : PX → St → Res) : PX → St → Res := (kBlock 0 (kSeq (ev (E.cx Tryd.prog kl) (codeAt (bodyOf Tryd.f83) [1, 1, 1])) K))
@[simp] theorem K0_ret (E : Env) (K : PX → St → Res) (s : St) : K0 E K .ret s = K .ret s := by kernel_rfl
noncomputable def body0 (E : Env) (K : PX → St → Res) (x0 x2 x4 x10 x11 : PV) (h : PHeap) : Res :=
    (E.p.bin .neq 3 x10 x11).bind fun v15 =>
    condP v15
     (
      (E.p.bin .gtr 3 x10 x11).bind fun v16 =>
      condP v16
       (
        (E.p.bin .sub 3 x2 x10).bind fun v17 =>
        (E.C fn_slices_swapRangeCmpFunc_int_ [x0, v17, x2, x11, x4] h).bind fun v18 =>
        (E.p.bin .sub 3 x10 x11).bind fun v19 =>
        K .normal (st0 x0 x2 x4 v19 x11 v18.2))
       (
        (E.p.bin .sub 3 x2 x10).bind fun v20 =>
        (E.p.bin .add 3 x2 x11).bind fun v21 =>
        (E.p.bin .sub 3 v21 x10).bind fun v22 =>
        (E.C fn_slices_swapRangeCmpFunc_int_ [x0, v20, v22, x10, x4] h).bind fun v23 =>
        (E.p.bin .sub 3 x11 x10).bind fun v24 =>
        K .normal (st0 x0 x2 x4 x10 v24 v23.2)))
     (
      K (.exit 0) (se0_0_2_4_10_11_20 x0 x2 x4 x10 x11 v15 h))
theorem body0_eq (E : Env) (K : PX → St → Res) (x0 x2 x4 x10 x11 : PV) (h : PHeap) : ev (E.cx Tryd.prog kl) lp0 (st0 x0 x2 x4 x10 x11 h) K = body0 E K x0 x2 x4 x10 x11 h := by kernel_rfl
theorem after0_se0_0_2_4_10_11_20 (E : Env) (x0 x2 x4 x10 x11 x20 : PV) (h : PHeap) : K0 E (kTop Tryd.prog Tryd.f83) (.exit 0) (se0_0_2_4_10_11_20 x0 x2 x4 x10 x11 x20 h) =
    (E.p.bin .sub 3 x2 x10).bind fun v13 =>
    (E.C fn_slices_swapRangeCmpFunc_int_ [x0, v13, x2, x10, x4] h).bind fun v14 =>
    some (.tup [], v14.2) := by kernel_rfl
noncomputable def main (E : Env) (x0 x1 x2 x3 x4 : PV) (h : PHeap) : Res :=
    (E.p.bin .sub 3 x2 x1).bind fun v1 =>
    (E.p.bin .sub 3 x3 x2).bind fun v2 =>
    loopK (ev (E.cx Tryd.prog slices_rotateCmpFunc_int_.kl) slices_rotateCmpFunc_int_.lp0) E.lf (slices_rotateCmpFunc_int_.st0 x0 x2 x4 v1 v2 h) (slices_rotateCmpFunc_int_.K0 E (kTop Tryd.prog Tryd.f83))
theorem main_eq (E : Env) (x0 x1 x2 x3 x4 : PV) (h : PHeap) : runBody (E.cx Tryd.prog kl) Tryd.f83 [x0, x1, x2, x3, x4] h = main E x0 x1 x2 x3 x4 h := by kernel_rfl
theorem call_eq (g : Nat → PV) (lf n : Nat) (x0 x1 x2 x3 x4 : PV) (h : PHeap) : CL g lf (n + 1) fn_slices_rotateCmpFunc_int_ [x0, x1, x2, x3, x4] h = main (env g lf n) x0 x1 x2 x3 x4 h := by
  rw [← main_eq]
  show call Tryd.prog g KL lf (n + 1) 83 [x0, x1, x2, x3, x4] h = _
  rw [call_succ, Tryd.func83]
  kernel_rfl
end slices_rotateCmpFunc_int_
namespace slices_swapRangeCmpFunc_int_
noncomputable def lp0 : Code := (codeAt (bodyOf Tryd.f84) [1, 0, 0])
def st0 (x0 x1 x2 x3 x10 : PV) (h : PHeap) : St := ⟨[x0, x1, x2, x3, .junk, .junk, .junk, .junk, .junk, .junk, x10, .junk, .junk, .junk, .junk, .junk, .junk, .junk, .junk, .junk, .junk, .junk, .junk, .junk, .junk, .junk, .junk, .junk, .junk, .junk, .junk, .junk, .junk, .junk, .junk, .junk, .junk, .junk], h⟩
def se0_0_1_2_3_10_13 (x0 x1 x2 x3 x10 x13 : PV) (h : PHeap) : St := ⟨[x0, x1, x2, x3, .junk, .junk, .junk, .junk, .junk, .junk, x10, .junk, .junk, x13, .junk, .junk, .junk, .junk, .junk, .junk, .junk, .junk, .junk, .junk, .junk, .junk, .junk, .junk, .junk, .junk, .junk, .junk, .junk, .junk, .junk, .junk, .junk, .junk], h⟩
noncomputable def K0 (E : Env) (K : PX → St → Res) : PX → St → Res := (kBlock 0 K)
@[simp] theorem K0_ret (E : Env) (K : PX → St → Res) (s : St) : K0 E K .ret s = K .ret s := by kernel_rfl
noncomputable def body0 (E : Env) (K : PX → St → Res) (x0 x1 x2 x3 x10 : PV) (h : PHeap) : Res :=
    (E.p.bin .lss 3 x10 x3).bind fun v15 =>
    condP v15
     (
      (E.p.bin .add 3 x1 x10).bind fun v16 =>
      (E.p.bin .add 3 x2 x10).bind fun v17 =>
      (E.p.bin .add 3 x2 x10).bind fun v18 =>
      (E.p.indexAddr 26 x0 v18).bind fun v19 =>
      (E.p.bin .add 3 x1 x10).bind fun v20 =>
      (E.p.indexAddr 26 x0 v20).bind fun v21 =>
      (E.p.load 3 v19 h).bind fun v22 =>
      (E.p.load 3 v21 h).bind fun v23 =>
      (E.p.indexAddr 26 x0 v16).bind fun v24 =>
      (E.p.store 3 v24 v22 h).bind fun v25 =>
      (E.p.indexAddr 26 x0 v17).bind fun v26 =>
      (E.p.store 3 v26 v23 v25).bind fun v27 =>
      (E.p.bin .add 3 x10 (.int .i64 1)).bind fun v28 =>
      K .normal (st0 x0 x1 x2 x3 v28 v27))
     (
      K (.exit 0) (se0_0_1_2_3_10_13 x0 x1 x2 x3 x10 v15 h))
theorem body0_eq (E : Env) (K : PX → St → Res) (x0 x1 x2 x3 x10 : PV) (h : PHeap) : ev (E.cx Tryd.prog kl) lp0 (st0 x0 x1 x2 x3 x10 h) K = body0 E K x0 x1 x2 x3 x10 h := by kernel_rfl
theorem after0_se0_0_1_2_3_10_13 (E : Env) (x0 x1 x2 x3 x10 x13 : PV) (h : PHeap) : K0 E (kTop Tryd.prog Tryd.f84) (.exit 0) (se0_0_1_2_3_10_13 x0 x1 x2 x3 x10 x13 h) =
    some (.tup [], h) := by kernel_rfl
noncomputable def main (E : Env) (x0 x1 x2 x3 x4 : PV) (h : PHeap) : Res :=
    loopK (ev (E.cx Tryd.prog slices_swapRangeCmpFunc_int_.kl) slices_swapRangeCmpFunc_int_.lp0) E.lf (slices_swapRangeCmpFunc_int_.st0 x0 x1 x2 x3 (.int .i64 0) h) (slices_swapRangeCmpFunc_int_.K0 E (kTop Tryd.prog Tryd.f84))
theorem main_eq (E : Env) (x0 x1 x2 x3 x4 : PV) (h : PHeap) : runBody (E.cx Tryd.prog kl) Tryd.f84 [x0, x1, x2, x3, x4] h = main E x0 x1 x2 x3 x4 h := by kernel_rfl
theorem call_eq (g : Nat → PV) (lf n : Nat) (x0 x1 x2 x3 x4 : PV) (h : PHeap) : CL g lf (n + 1) fn_slices_swapRangeCmpFunc_int_ [x0, x1, x2, x3, x4] h = main (env g lf n) x0 x1 x2 x3 x4 h := by
  rw [← main_eq]
  show call Tryd.prog g KL lf (n + 1) 84 [x0, x1, x2, x3, x4] h = _
  rw [call_succ, Tryd.func84]
  kernel_rfl
end slices_swapRangeCmpFunc_int_
end Go.Proofs.YtihlmjapddjjjabDoor.G

/- Which boards there are: what the program's and the model's functions on a board's sides compute. -/
set_option maxRecDepth 20000
namespace Go.Proofs.YtihlmjapddjjjabDoor
open Go Go.Ip G

def boardB (r c : Int) : Bool := decide (1 ≤ r ∧ r ≤ 4 ∧ 1 ≤ c ∧ c ≤ 4 ∧ r * c ≤ 9)

theorem mul_small {r c : Int} (h1 : 1 ≤ r) (h2 : r ≤ 4) (h3 : 1 ≤ c) (h4 : c ≤ 4) : IntKind.i64.wrap (r * c) = r * c := by
  have : r = 1 ∨ r = 2 ∨ r = 3 ∨ r = 4 := by omega
  rcases this with rfl | rfl | rfl | rfl <;> exact wr (by omega)

variable (g : Nat → PV) (lf n : Nat) (h : PHeap)

theorem sizeOk_calls (a : Int) : CL g lf (n + 1) fn_impl_sizeOk [.int .i64 a] h = some (.bool (decide (1 ≤ a ∧ a ≤ 4)), h) := by
  rw [impl_sizeOk.call_eq]
  by_cases h1 : 1 ≤ a <;> simp [impl_sizeOk.main, h1]

theorem boardOk_calls (r c : Int) : CL g lf (n + 2) fn_impl_BoardOk [.int .i64 r, .int .i64 c] h = some (.bool (boardB r c), h) := by
  rw [impl_BoardOk.call_eq]
  by_cases h1 : 1 ≤ r ∧ r ≤ 4
  · by_cases h2 : 1 ≤ c ∧ c ≤ 4
    · simp [impl_BoardOk.main, sizeOk_calls, h1, h2, boardB, mul_small h1.1 h1.2 h2.1 h2.2]
    · have hb : boardB r c = false := by unfold boardB; simp; omega
      simp [impl_BoardOk.main, sizeOk_calls, h1, h2, hb]
  · have hb : boardB r c = false := by unfold boardB; simp; omega
    simp [impl_BoardOk.main, sizeOk_calls, h1, hb]

theorem l1In_calls (a lo hi : Int) : CL g lf (n + 1) fn_spec_l1In [.int .i64 a, .int .i64 lo, .int .i64 hi] h = some (.bool (decide (lo ≤ a ∧ a ≤ hi)), h) := by
  rw [spec_l1In.call_eq]
  by_cases h1 : lo ≤ a <;> simp [spec_l1In.main, h1]

end Go.Proofs.YtihlmjapddjjjabDoor

/- What the laws' helpers on slices of integers, and both functions that check a position, compute. -/
set_option maxRecDepth 20000
namespace Go.Proofs.YtihlmjapddjjjabDoor
open Go Go.Ip G

variable (g : Nat → PV) (lf n : Nat)

/-! ### toIntS: a copy -/
/-! ### eqIntS: are two lists equal? -/
/-! ### positions -/
def contentB (x : Int) : Bool := decide (0 ≤ x ∧ x ≤ 2)
def posB (r c : Int) (xs : List Int) : Bool := boardB r c && decide ((xs.length : Int) = r * c) && xs.all contentB

theorem contentOk_calls (a : Int) (h : PHeap) : CL g lf (n + 1) fn_impl_contentOk [.int .i64 a] h = some (.bool (contentB a), h) := by
  rw [impl_contentOk.call_eq]
  by_cases h0 : a = 0
  · subst h0; simp [impl_contentOk.main, contentB]
  · by_cases h1 : a = 1
    · subst h1; simp [impl_contentOk.main, contentB]
    · by_cases h2 : a = 2
      · subst h2; simp [impl_contentOk.main, contentB]
      · have : contentB a = false := by unfold contentB; simp; omega
        have b0 : (a == 0) = false := by simp [h0]
        have b1 : (a == 1) = false := by simp [h1]
        have b2 : (a == 2) = false := by simp [h2]
        simp [impl_contentOk.main, b0, b1, b2, this]

end Go.Proofs.YtihlmjapddjjjabDoor

/- The exact law on positions. -/
set_option maxRecDepth 20000
namespace Go.Proofs.YtihlmjapddjjjabDoor
open Go Go.Ip G

variable (g : Nat → PV) (lf n : Nat)

end Go.Proofs.YtihlmjapddjjjabDoor

