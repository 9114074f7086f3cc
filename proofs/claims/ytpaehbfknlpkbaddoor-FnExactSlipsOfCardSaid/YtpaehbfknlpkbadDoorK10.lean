/- Texts of this seat, in their order, put together by program. -/
import Derived.Test.YtpaehbfknlpkbadDoorK9
import Derived.Test.YtpaehbfknlpkbadDoorProg
import Derived.KernelRfl
set_option linter.unusedSimpArgs false
set_option linter.unusedVariables false
set_option linter.unusedSectionVars false
/- Of each function of this seat's program its plain form over the interpreter, written by program; each equation is the kernel's. -/
set_option linter.unusedVariables false
set_option maxRecDepth 100000
namespace Go.Proofs.YtpaehbfknlpkbadDoor.G
open Go Go.Ip Go.Proofs

namespace laws_FnExactEndOf
noncomputable def main (E : Env) (x0 x1 x2 : PV) (h : PHeap) : Res :=
    (E.p.len 22 x2).bind fun v1 =>
    (E.p.bin .gtr 3 v1 (.int .i64 1048576)).bind fun v2 =>
    condP v2
     (
      (resV (.bool true)).bind fun v3 =>
      some (v3, h))
     (
      (E.C fn_laws_toIntS [x2] h).bind fun v4 =>
      (E.C fn_spec_EndOf [x0, x1, v4.1] v4.2).bind fun v5 =>
      (E.p.extract v5.1 0).bind fun v6 =>
      (E.p.extract v5.1 1).bind fun v7 =>
      (E.C fn_laws_toIntS [x2] v5.2).bind fun v8 =>
      (E.C fn_impl_EndOf [x0, x1, v8.1] v8.2).bind fun v9 =>
      (E.p.extract v9.1 0).bind fun v10 =>
      (E.p.extract v9.1 1).bind fun v11 =>
      (E.C fn_laws_eqIntS [v10, v6] v9.2).bind fun v12 =>
      (E.p.un .not v12.1).bind fun v13 =>
      (wantV v13 false).bind fun v14 =>
      (bif v14 then some (v11, v12.2) else some (.tup [], v12.2)).bind fun v15 =>
      (wantV v13 false).bind fun v16 =>
      (bif v16 then some (v7, v15.2) else some (.tup [], v15.2)).bind fun v17 =>
      (wantV v13 false).bind fun v18 =>
      (bif v18 then pv v17.2 (E.p.bin .neq 3 v15.1 v17.1) else some (.tup [], v17.2)).bind fun v19 =>
      (E.p.pick v13 (.bool true) v19.1).bind fun v20 =>
      condP v20
       (
        (resV (.bool false)).bind fun v21 =>
        some (v21, v19.2))
       (
        (E.C fn_laws_toIntS [x2] v19.2).bind fun v22 =>
        (E.C fn_laws_eqIntS [v8.1, v22.1] v22.2).bind fun v23 =>
        (E.p.un .not v23.1).bind fun v24 =>
        condP v24
         (
          (resV (.bool false)).bind fun v25 =>
          some (v25, v23.2))
         (
          (E.C fn_laws_markIntS [v8.1, (.int .i64 1)] v23.2).bind fun v26 =>
          (E.p.bin .lss 3 v26.1 (.int .i64 0)).bind fun v27 =>
          (wantV v27 false).bind fun v28 =>
          (bif v28 then some (v10, v26.2) else some (.tup [], v26.2)).bind fun v29 =>
          (wantV v27 false).bind fun v30 =>
          (bif v30 then some (v6, v29.2) else some (.tup [], v29.2)).bind fun v31 =>
          (wantV v27 false).bind fun v32 =>
          (bif v32 then E.C fn_laws_eqIntS [v29.1, v31.1] v31.2 else some (.tup [], v31.2)).bind fun v33 =>
          (wantV v27 false).bind fun v34 =>
          (bif v34 then pv v33.2 (E.p.un .not v33.1) else some (.tup [], v33.2)).bind fun v35 =>
          (E.p.pick v27 (.bool true) v35.1).bind fun v36 =>
          (wantV v36 false).bind fun v37 =>
          (bif v37 then some (v11, v35.2) else some (.tup [], v35.2)).bind fun v38 =>
          (wantV v36 false).bind fun v39 =>
          (bif v39 then some (v7, v38.2) else some (.tup [], v38.2)).bind fun v40 =>
          (wantV v36 false).bind fun v41 =>
          (bif v41 then pv v40.2 (E.p.bin .neq 3 v38.1 v40.1) else some (.tup [], v40.2)).bind fun v42 =>
          (E.p.pick v36 (.bool true) v42.1).bind fun v43 =>
          condP v43
           (
            (resV (.bool false)).bind fun v44 =>
            some (v44, v42.2))
           (
            (E.C fn_laws_markIntS [v10, (.int .i64 1)] v42.2).bind fun v45 =>
            (E.C fn_laws_heldIntS [v10, (.int .i64 1)] v45.2).bind fun v46 =>
            (E.p.bin .lss 3 v46.1 (.int .i64 0)).bind fun v47 =>
            condP v47
             (
              (resV (.bool false)).bind fun v48 =>
              some (v48, v46.2))
             (
              (E.p.bin .neq 3 v46.1 v45.1).bind fun v49 =>
              condP v49
               (
                (resV (.bool false)).bind fun v50 =>
                some (v50, v46.2))
               (
                (E.C fn_laws_toIntS [x2] v46.2).bind fun v51 =>
                (E.C fn_impl_EndOf [x0, x1, v51.1] v51.2).bind fun v52 =>
                (E.p.extract v52.1 0).bind fun v53 =>
                (E.p.extract v52.1 1).bind fun v54 =>
                (E.C fn_laws_eqIntS [v53, v6] v52.2).bind fun v55 =>
                (E.p.un .not v55.1).bind fun v56 =>
                (wantV v56 false).bind fun v57 =>
                (bif v57 then some (v54, v55.2) else some (.tup [], v55.2)).bind fun v58 =>
                (wantV v56 false).bind fun v59 =>
                (bif v59 then some (v7, v58.2) else some (.tup [], v58.2)).bind fun v60 =>
                (wantV v56 false).bind fun v61 =>
                (bif v61 then pv v60.2 (E.p.bin .neq 3 v58.1 v60.1) else some (.tup [], v60.2)).bind fun v62 =>
                (E.p.pick v56 (.bool true) v62.1).bind fun v63 =>
                condP v63
                 (
                  (resV (.bool false)).bind fun v64 =>
                  some (v64, v62.2))
                 (
                  (E.C fn_laws_heldIntS [v10, (.int .i64 1)] v62.2).bind fun v65 =>
                  (E.p.bin .lss 3 v65.1 (.int .i64 0)).bind fun v66 =>
                  condP v66
                   (
                    (resV (.bool false)).bind fun v67 =>
                    some (v67, v65.2))
                   (
                    (E.p.bin .neq 3 v65.1 v45.1).bind fun v68 =>
                    condP v68
                     (
                      (resV (.bool false)).bind fun v69 =>
                      some (v69, v65.2))
                     (
                      (resV (.bool true)).bind fun v70 =>
                      some (v70, v65.2))))))))))
theorem main_eq (E : Env) (x0 x1 x2 : PV) (h : PHeap) : runBody (E.cx Tryd.prog kl) Tryd.f3 [x0, x1, x2] h = main E x0 x1 x2 h := by kernel_rfl
theorem call_eq (g : Nat → PV) (lf n : Nat) (x0 x1 x2 : PV) (h : PHeap) : CL g lf (n + 1) fn_laws_FnExactEndOf [x0, x1, x2] h = main (env g lf n) x0 x1 x2 h := by
  rw [← main_eq]
  show call Tryd.prog g KL lf (n + 1) 3 [x0, x1, x2] h = _
  rw [call_succ, Tryd.func3]
  kernel_rfl
end laws_FnExactEndOf
namespace laws_FnExactRecordText
noncomputable def main (E : Env) (x0 x1 x2 : PV) (h : PHeap) : Res :=
    (E.p.len 22 x2).bind fun v1 =>
    (E.p.bin .gtr 3 v1 (.int .i64 1048576)).bind fun v2 =>
    condP v2
     (
      (resV (.bool true)).bind fun v3 =>
      some (v3, h))
     (
      (E.C fn_laws_toIntS [x2] h).bind fun v4 =>
      (E.C fn_spec_RecordText [x0, x1, v4.1] v4.2).bind fun v5 =>
      (E.C fn_laws_toIntS [x2] v5.2).bind fun v6 =>
      (E.C fn_impl_RecordText [x0, x1, v6.1] v6.2).bind fun v7 =>
      (E.p.bin .neq 9 v7.1 v5.1).bind fun v8 =>
      condP v8
       (
        (resV (.bool false)).bind fun v9 =>
        some (v9, v7.2))
       (
        (E.C fn_laws_toIntS [x2] v7.2).bind fun v10 =>
        (E.C fn_laws_eqIntS [v6.1, v10.1] v10.2).bind fun v11 =>
        (E.p.un .not v11.1).bind fun v12 =>
        condP v12
         (
          (resV (.bool false)).bind fun v13 =>
          some (v13, v11.2))
         (
          (resV (.bool true)).bind fun v14 =>
          some (v14, v11.2))))
theorem main_eq (E : Env) (x0 x1 x2 : PV) (h : PHeap) : runBody (E.cx Tryd.prog kl) Tryd.f4 [x0, x1, x2] h = main E x0 x1 x2 h := by kernel_rfl
theorem call_eq (g : Nat → PV) (lf n : Nat) (x0 x1 x2 : PV) (h : PHeap) : CL g lf (n + 1) fn_laws_FnExactRecordText [x0, x1, x2] h = main (env g lf n) x0 x1 x2 h := by
  rw [← main_eq]
  show call Tryd.prog g KL lf (n + 1) 4 [x0, x1, x2] h = _
  rw [call_succ, Tryd.func4]
  kernel_rfl
end laws_FnExactRecordText
namespace laws_FnExactReadRecord
noncomputable def main (E : Env) (x0 : PV) (h : PHeap) : Res :=
    (E.p.len 9 x0).bind fun v1 =>
    (E.p.bin .gtr 3 v1 (.int .i64 1048576)).bind fun v2 =>
    condP v2
     (
      (resV (.bool true)).bind fun v3 =>
      some (v3, h))
     (
      (E.C fn_spec_ReadRecord [x0] h).bind fun v4 =>
      (E.p.extract v4.1 0).bind fun v5 =>
      (E.p.extract v4.1 1).bind fun v6 =>
      (E.p.extract v4.1 2).bind fun v7 =>
      (E.p.extract v4.1 3).bind fun v8 =>
      (E.C fn_impl_ReadRecord [x0] v4.2).bind fun v9 =>
      (E.p.extract v9.1 0).bind fun v10 =>
      (E.p.extract v9.1 1).bind fun v11 =>
      (E.p.extract v9.1 2).bind fun v12 =>
      (E.p.extract v9.1 3).bind fun v13 =>
      (E.p.bin .neq 3 v10 v5).bind fun v14 =>
      (wantV v14 false).bind fun v15 =>
      (bif v15 then some (v11, v9.2) else some (.tup [], v9.2)).bind fun v16 =>
      (wantV v14 false).bind fun v17 =>
      (bif v17 then some (v6, v16.2) else some (.tup [], v16.2)).bind fun v18 =>
      (wantV v14 false).bind fun v19 =>
      (bif v19 then pv v18.2 (E.p.bin .neq 3 v16.1 v18.1) else some (.tup [], v18.2)).bind fun v20 =>
      (E.p.pick v14 (.bool true) v20.1).bind fun v21 =>
      (wantV v21 false).bind fun v22 =>
      (bif v22 then some (v12, v20.2) else some (.tup [], v20.2)).bind fun v23 =>
      (wantV v21 false).bind fun v24 =>
      (bif v24 then some (v7, v23.2) else some (.tup [], v23.2)).bind fun v25 =>
      (wantV v21 false).bind fun v26 =>
      (bif v26 then E.C fn_laws_eqIntS [v23.1, v25.1] v25.2 else some (.tup [], v25.2)).bind fun v27 =>
      (wantV v21 false).bind fun v28 =>
      (bif v28 then pv v27.2 (E.p.un .not v27.1) else some (.tup [], v27.2)).bind fun v29 =>
      (E.p.pick v21 (.bool true) v29.1).bind fun v30 =>
      (wantV v30 false).bind fun v31 =>
      (bif v31 then some (v13, v29.2) else some (.tup [], v29.2)).bind fun v32 =>
      (wantV v30 false).bind fun v33 =>
      (bif v33 then some (v8, v32.2) else some (.tup [], v32.2)).bind fun v34 =>
      (wantV v30 false).bind fun v35 =>
      (bif v35 then pv v34.2 (E.p.bin .neq 4 v32.1 v34.1) else some (.tup [], v34.2)).bind fun v36 =>
      (E.p.pick v30 (.bool true) v36.1).bind fun v37 =>
      condP v37
       (
        (resV (.bool false)).bind fun v38 =>
        some (v38, v36.2))
       (
        (E.C fn_laws_markIntS [v12, (.int .i64 1)] v36.2).bind fun v39 =>
        (E.C fn_laws_heldIntS [v12, (.int .i64 1)] v39.2).bind fun v40 =>
        (E.p.bin .lss 3 v40.1 (.int .i64 0)).bind fun v41 =>
        condP v41
         (
          (resV (.bool false)).bind fun v42 =>
          some (v42, v40.2))
         (
          (E.p.bin .neq 3 v40.1 v39.1).bind fun v43 =>
          condP v43
           (
            (resV (.bool false)).bind fun v44 =>
            some (v44, v40.2))
           (
            (E.C fn_impl_ReadRecord [x0] v40.2).bind fun v45 =>
            (E.p.extract v45.1 0).bind fun v46 =>
            (E.p.extract v45.1 1).bind fun v47 =>
            (E.p.extract v45.1 2).bind fun v48 =>
            (E.p.extract v45.1 3).bind fun v49 =>
            (E.p.bin .neq 3 v46 v5).bind fun v50 =>
            (wantV v50 false).bind fun v51 =>
            (bif v51 then some (v47, v45.2) else some (.tup [], v45.2)).bind fun v52 =>
            (wantV v50 false).bind fun v53 =>
            (bif v53 then some (v6, v52.2) else some (.tup [], v52.2)).bind fun v54 =>
            (wantV v50 false).bind fun v55 =>
            (bif v55 then pv v54.2 (E.p.bin .neq 3 v52.1 v54.1) else some (.tup [], v54.2)).bind fun v56 =>
            (E.p.pick v50 (.bool true) v56.1).bind fun v57 =>
            (wantV v57 false).bind fun v58 =>
            (bif v58 then some (v48, v56.2) else some (.tup [], v56.2)).bind fun v59 =>
            (wantV v57 false).bind fun v60 =>
            (bif v60 then some (v7, v59.2) else some (.tup [], v59.2)).bind fun v61 =>
            (wantV v57 false).bind fun v62 =>
            (bif v62 then E.C fn_laws_eqIntS [v59.1, v61.1] v61.2 else some (.tup [], v61.2)).bind fun v63 =>
            (wantV v57 false).bind fun v64 =>
            (bif v64 then pv v63.2 (E.p.un .not v63.1) else some (.tup [], v63.2)).bind fun v65 =>
            (E.p.pick v57 (.bool true) v65.1).bind fun v66 =>
            (wantV v66 false).bind fun v67 =>
            (bif v67 then some (v49, v65.2) else some (.tup [], v65.2)).bind fun v68 =>
            (wantV v66 false).bind fun v69 =>
            (bif v69 then some (v8, v68.2) else some (.tup [], v68.2)).bind fun v70 =>
            (wantV v66 false).bind fun v71 =>
            (bif v71 then pv v70.2 (E.p.bin .neq 4 v68.1 v70.1) else some (.tup [], v70.2)).bind fun v72 =>
            (E.p.pick v66 (.bool true) v72.1).bind fun v73 =>
            condP v73
             (
              (resV (.bool false)).bind fun v74 =>
              some (v74, v72.2))
             (
              (E.C fn_laws_heldIntS [v12, (.int .i64 1)] v72.2).bind fun v75 =>
              (E.p.bin .lss 3 v75.1 (.int .i64 0)).bind fun v76 =>
              condP v76
               (
                (resV (.bool false)).bind fun v77 =>
                some (v77, v75.2))
               (
                (E.p.bin .neq 3 v75.1 v39.1).bind fun v78 =>
                condP v78
                 (
                  (resV (.bool false)).bind fun v79 =>
                  some (v79, v75.2))
                 (
                  (resV (.bool true)).bind fun v80 =>
                  some (v80, v75.2))))))))
theorem main_eq (E : Env) (x0 : PV) (h : PHeap) : runBody (E.cx Tryd.prog kl) Tryd.f5 [x0] h = main E x0 h := by kernel_rfl
theorem call_eq (g : Nat → PV) (lf n : Nat) (x0 : PV) (h : PHeap) : CL g lf (n + 1) fn_laws_FnExactReadRecord [x0] h = main (env g lf n) x0 h := by
  rw [← main_eq]
  show call Tryd.prog g KL lf (n + 1) 5 [x0] h = _
  rw [call_succ, Tryd.func5]
  kernel_rfl
end laws_FnExactReadRecord
namespace laws_FnExactSlipsOf
noncomputable def main (E : Env) (x0 x1 x2 : PV) (h : PHeap) : Res :=
    (E.p.len 22 x2).bind fun v1 =>
    (E.p.bin .gtr 3 v1 (.int .i64 1048576)).bind fun v2 =>
    condP v2
     (
      (resV (.bool true)).bind fun v3 =>
      some (v3, h))
     (
      (E.C fn_laws_toIntS [x2] h).bind fun v4 =>
      (E.C fn_spec_SlipsOf [x0, x1, v4.1] v4.2).bind fun v5 =>
      (E.C fn_laws_toIntS [x2] v5.2).bind fun v6 =>
      (E.C fn_impl_SlipsOf [x0, x1, v6.1] v6.2).bind fun v7 =>
      (E.C fn_laws_eqIntS [v7.1, v5.1] v7.2).bind fun v8 =>
      (E.p.un .not v8.1).bind fun v9 =>
      condP v9
       (
        (resV (.bool false)).bind fun v10 =>
        some (v10, v8.2))
       (
        (E.C fn_laws_toIntS [x2] v8.2).bind fun v11 =>
        (E.C fn_laws_eqIntS [v6.1, v11.1] v11.2).bind fun v12 =>
        (E.p.un .not v12.1).bind fun v13 =>
        condP v13
         (
          (resV (.bool false)).bind fun v14 =>
          some (v14, v12.2))
         (
          (E.C fn_laws_markIntS [v6.1, (.int .i64 1)] v12.2).bind fun v15 =>
          (E.p.bin .lss 3 v15.1 (.int .i64 0)).bind fun v16 =>
          (wantV v16 false).bind fun v17 =>
          (bif v17 then some (v7.1, v15.2) else some (.tup [], v15.2)).bind fun v18 =>
          (wantV v16 false).bind fun v19 =>
          (bif v19 then some (v5.1, v18.2) else some (.tup [], v18.2)).bind fun v20 =>
          (wantV v16 false).bind fun v21 =>
          (bif v21 then E.C fn_laws_eqIntS [v18.1, v20.1] v20.2 else some (.tup [], v20.2)).bind fun v22 =>
          (wantV v16 false).bind fun v23 =>
          (bif v23 then pv v22.2 (E.p.un .not v22.1) else some (.tup [], v22.2)).bind fun v24 =>
          (E.p.pick v16 (.bool true) v24.1).bind fun v25 =>
          condP v25
           (
            (resV (.bool false)).bind fun v26 =>
            some (v26, v24.2))
           (
            (E.C fn_laws_markIntS [v7.1, (.int .i64 1)] v24.2).bind fun v27 =>
            (E.C fn_laws_heldIntS [v7.1, (.int .i64 1)] v27.2).bind fun v28 =>
            (E.p.bin .lss 3 v28.1 (.int .i64 0)).bind fun v29 =>
            condP v29
             (
              (resV (.bool false)).bind fun v30 =>
              some (v30, v28.2))
             (
              (E.p.bin .neq 3 v28.1 v27.1).bind fun v31 =>
              condP v31
               (
                (resV (.bool false)).bind fun v32 =>
                some (v32, v28.2))
               (
                (E.C fn_laws_toIntS [x2] v28.2).bind fun v33 =>
                (E.C fn_impl_SlipsOf [x0, x1, v33.1] v33.2).bind fun v34 =>
                (E.C fn_laws_eqIntS [v34.1, v5.1] v34.2).bind fun v35 =>
                (E.p.un .not v35.1).bind fun v36 =>
                condP v36
                 (
                  (resV (.bool false)).bind fun v37 =>
                  some (v37, v35.2))
                 (
                  (E.C fn_laws_heldIntS [v7.1, (.int .i64 1)] v35.2).bind fun v38 =>
                  (E.p.bin .lss 3 v38.1 (.int .i64 0)).bind fun v39 =>
                  condP v39
                   (
                    (resV (.bool false)).bind fun v40 =>
                    some (v40, v38.2))
                   (
                    (E.p.bin .neq 3 v38.1 v27.1).bind fun v41 =>
                    condP v41
                     (
                      (resV (.bool false)).bind fun v42 =>
                      some (v42, v38.2))
                     (
                      (resV (.bool true)).bind fun v43 =>
                      some (v43, v38.2))))))))))
theorem main_eq (E : Env) (x0 x1 x2 : PV) (h : PHeap) : runBody (E.cx Tryd.prog kl) Tryd.f6 [x0, x1, x2] h = main E x0 x1 x2 h := by kernel_rfl
theorem call_eq (g : Nat → PV) (lf n : Nat) (x0 x1 x2 : PV) (h : PHeap) : CL g lf (n + 1) fn_laws_FnExactSlipsOf [x0, x1, x2] h = main (env g lf n) x0 x1 x2 h := by
  rw [← main_eq]
  show call Tryd.prog g KL lf (n + 1) 6 [x0, x1, x2] h = _
  rw [call_succ, Tryd.func6]
  kernel_rfl
end laws_FnExactSlipsOf
namespace spec_EndOf
noncomputable def main (E : Env) (x0 x1 x2 : PV) (h : PHeap) : Res :=
    (E.C fn_spec_RecordOk [x0, x1, x2] h).bind fun v1 =>
    (E.p.un .not v1.1).bind fun v2 =>
    condP v2
     (
      (E.p.buildSlice 22 0 [] v1.2).bind fun v3 =>
      (resV v3.1).bind fun v4 =>
      (resV (.int .i64 0)).bind fun v5 =>
      some (.tup [v4, v5], v3.2))
     (
      (E.C fn_spec_l11Play [x0, x1, x2] v1.2).bind fun v6 =>
      (E.p.extract v6.1 0).bind fun v7 =>
      (E.p.extract v6.1 1).bind fun v8 =>
      (E.p.len 22 x2).bind fun v9 =>
      (E.p.bin .rem 3 v9 (.int .i64 2)).bind fun v10 =>
      (E.p.bin .eql 3 v10 (.int .i64 0)).bind fun v11 =>
      condP v11
       (
        (resV v7).bind fun v12 =>
        (resV (.int .i64 1)).bind fun v13 =>
        some (.tup [v12, v13], v6.2))
       (
        (resV v7).bind fun v14 =>
        (resV (.int .i64 2)).bind fun v15 =>
        some (.tup [v14, v15], v6.2)))
theorem main_eq (E : Env) (x0 x1 x2 : PV) (h : PHeap) : runBody (E.cx Tryd.prog kl) Tryd.f7 [x0, x1, x2] h = main E x0 x1 x2 h := by kernel_rfl
theorem call_eq (g : Nat → PV) (lf n : Nat) (x0 x1 x2 : PV) (h : PHeap) : CL g lf (n + 1) fn_spec_EndOf [x0, x1, x2] h = main (env g lf n) x0 x1 x2 h := by
  rw [← main_eq]
  show call Tryd.prog g KL lf (n + 1) 7 [x0, x1, x2] h = _
  rw [call_succ, Tryd.func7]
  kernel_rfl
end spec_EndOf
namespace laws_toIntS
noncomputable def lp0 : Code := (codeAt (bodyOf Tryd.f8) [1, 1, 0, 1, 0, 0])
def st0 (x0 x3 x4 : PV) (h : PHeap) : St := ⟨[x0, .junk, .junk, x3, x4, .junk, .junk, .junk, .junk, .junk, .junk, .junk, .junk, .junk, .junk, .junk, .junk, .junk, .junk, .junk, .junk, .junk], h⟩
def se0_0_3_4_11 (x0 x3 x4 x11 : PV) (h : PHeap) : St := ⟨[x0, .junk, .junk, x3, x4, .junk, .junk, .junk, .junk, .junk, .junk, x11, .junk, .junk, .junk, .junk, .junk, .junk, .junk, .junk, .junk, .junk], h⟩
noncomputable def K0 (E : Env) (K : PX → St → Res) : PX → St → Res := (kBlock 0 (kSeq (ev (E.cx Tryd.prog kl) (codeAt (bodyOf Tryd.f8) [1, 1, 1])) K))
@[simp] theorem K0_ret (E : Env) (K : PX → St → Res) (s : St) : K0 E K .ret s = K .ret s := by kernel_rfl
noncomputable def body0 (E : Env) (K : PX → St → Res) (x0 x3 x4 : PV) (h : PHeap) : Res :=
    (E.p.len 22 x0).bind fun v11 =>
    (E.p.bin .lss 3 x4 v11).bind fun v12 =>
    condP v12
     (
      (E.p.indexAddr 22 x0 x4).bind fun v13 =>
      (E.p.load 3 v13 h).bind fun v14 =>
      (E.p.indexAddr 22 x3 x4).bind fun v15 =>
      (E.p.store 3 v15 v14 h).bind fun v16 =>
      (E.p.bin .add 3 x4 (.int .i64 1)).bind fun v17 =>
      K .normal (st0 x0 x3 v17 v16))
     (
      K (.exit 0) (se0_0_3_4_11 x0 x3 x4 v12 h))
theorem body0_eq (E : Env) (K : PX → St → Res) (x0 x3 x4 : PV) (h : PHeap) : ev (E.cx Tryd.prog kl) lp0 (st0 x0 x3 x4 h) K = body0 E K x0 x3 x4 h := by kernel_rfl
theorem after0_se0_0_3_4_11 (E : Env) (x0 x3 x4 x11 : PV) (h : PHeap) : K0 E (kTop Tryd.prog Tryd.f8) (.exit 0) (se0_0_3_4_11 x0 x3 x4 x11 h) =
    (resV x3).bind fun v10 =>
    some (v10, h) := by kernel_rfl
noncomputable def main (E : Env) (x0 : PV) (h : PHeap) : Res :=
    (E.p.len 22 x0).bind fun v1 =>
    (E.p.make 22 v1 v1 h).bind fun v2 =>
    loopK (ev (E.cx Tryd.prog laws_toIntS.kl) laws_toIntS.lp0) E.lf (laws_toIntS.st0 x0 v2.1 (.int .i64 0) v2.2) (laws_toIntS.K0 E (kTop Tryd.prog Tryd.f8))
theorem main_eq (E : Env) (x0 : PV) (h : PHeap) : runBody (E.cx Tryd.prog kl) Tryd.f8 [x0] h = main E x0 h := by kernel_rfl
theorem call_eq (g : Nat → PV) (lf n : Nat) (x0 : PV) (h : PHeap) : CL g lf (n + 1) fn_laws_toIntS [x0] h = main (env g lf n) x0 h := by
  rw [← main_eq]
  show call Tryd.prog g KL lf (n + 1) 8 [x0] h = _
  rw [call_succ, Tryd.func8]
  kernel_rfl
end laws_toIntS
namespace impl_EndOf
noncomputable def lp0 : Code := (codeAt (bodyOf Tryd.f9) [1, 1, 1, 0, 1, 0, 0])
def st0 (x0 x1 x8 x9 x21 x22 x23 : PV) (h : PHeap) : St := ⟨[x0, x1, .junk, .junk, .junk, .junk, .junk, .junk, x8, x9, .junk, .junk, .junk, .junk, .junk, .junk, .junk, .junk, .junk, .junk, .junk, x21, x22, x23, .junk, .junk, .junk, .junk, .junk, .junk, .junk, .junk, .junk, .junk, .junk, .junk, .junk, .junk, .junk, .junk, .junk, .junk, .junk, .junk], h⟩
def sr_6_7 (x6 x7 : PV) (h : PHeap) : St := ⟨[.junk, .junk, .junk, .junk, .junk, .junk, x6, x7, .junk, .junk, .junk, .junk, .junk, .junk, .junk, .junk, .junk, .junk, .junk, .junk, .junk, .junk, .junk, .junk, .junk, .junk, .junk, .junk, .junk, .junk, .junk, .junk, .junk, .junk, .junk, .junk, .junk, .junk, .junk, .junk, .junk, .junk, .junk, .junk], h⟩
def se0_0_1_8_9_21_22_23_24 (x0 x1 x8 x9 x21 x22 x23 x24 : PV) (h : PHeap) : St := ⟨[x0, x1, .junk, .junk, .junk, .junk, .junk, .junk, x8, x9, .junk, .junk, .junk, .junk, .junk, .junk, .junk, .junk, .junk, .junk, .junk, x21, x22, x23, x24, .junk, .junk, .junk, .junk, .junk, .junk, .junk, .junk, .junk, .junk, .junk, .junk, .junk, .junk, .junk, .junk, .junk, .junk, .junk], h⟩
noncomputable def K0 (E : Env) (K : PX → St → Res) : PX → St → Res := (kBlock 0 (kSeq (ev (E.cx Tryd.prog kl) (codeAt (bodyOf Tryd.f9) [1, 1, 1, 1])) K))
@[simp] theorem K0_ret (E : Env) (K : PX → St → Res) (s : St) : K0 E K .ret s = K .ret s := by kernel_rfl
noncomputable def body0 (E : Env) (K : PX → St → Res) (x0 x1 x8 x9 x21 x22 x23 : PV) (h : PHeap) : Res :=
    (E.p.bin .lss 3 x23 x22).bind fun v18 =>
    condP v18
     (
      (E.p.indexAddr 22 x21 x23).bind fun v19 =>
      (E.p.load 3 v19 h).bind fun v20 =>
      (E.C fn_impl_Played [x0, x1, x8, v20, x9] h).bind fun v21 =>
      (E.p.extract v21.1 0).bind fun v22 =>
      (E.p.extract v21.1 1).bind fun v23 =>
      (E.p.un .not v23).bind fun v24 =>
      condP v24
       (
        K .ret (sr_6_7 .nilsl (.int .i64 0) v21.2))
       (
        (E.C fn_impl_exchanged [x9] v21.2).bind fun v25 =>
        (E.p.bin .add 3 x23 (.int .i64 1)).bind fun v26 =>
        K .normal (st0 x0 x1 v22 v25.1 x21 x22 v26 v25.2)))
     (
      K (.exit 0) (se0_0_1_8_9_21_22_23_24 x0 x1 x8 x9 x21 x22 x23 v18 h))
theorem body0_eq (E : Env) (K : PX → St → Res) (x0 x1 x8 x9 x21 x22 x23 : PV) (h : PHeap) : ev (E.cx Tryd.prog kl) lp0 (st0 x0 x1 x8 x9 x21 x22 x23 h) K = body0 E K x0 x1 x8 x9 x21 x22 x23 h := by kernel_rfl
theorem after0_se0_0_1_8_9_21_22_23_24 (E : Env) (x0 x1 x8 x9 x21 x22 x23 x24 : PV) (h : PHeap) : K0 E (kTop Tryd.prog Tryd.f9) (.exit 0) (se0_0_1_8_9_21_22_23_24 x0 x1 x8 x9 x21 x22 x23 x24 h) =
    (resV x8).bind fun v16 =>
    (resV x9).bind fun v17 =>
    some (.tup [v16, v17], h) := by kernel_rfl
theorem top_sr_6_7 (x6 x7 : PV) (h : PHeap) : kTop Tryd.prog Tryd.f9 .ret (sr_6_7 x6 x7 h) =
    (resV x6).bind fun v27 =>
    (resV x7).bind fun v28 =>
    some (.tup [v27, v28], h) := by kernel_rfl
noncomputable def main (E : Env) (x0 x1 x2 : PV) (h : PHeap) : Res :=
    (E.C fn_impl_BoardOk [x0, x1] h).bind fun v1 =>
    (E.p.un .not v1.1).bind fun v2 =>
    condP v2
     (
      (resV .nilsl).bind fun v3 =>
      (resV (.int .i64 0)).bind fun v4 =>
      some (.tup [v3, v4], v1.2))
     (
      (E.C fn_impl_freeBoard [x0, x1] v1.2).bind fun v5 =>
      (E.p.len 22 x2).bind fun v6 =>
      loopK (ev (E.cx Tryd.prog impl_EndOf.kl) impl_EndOf.lp0) E.lf (impl_EndOf.st0 x0 x1 v5.1 (.int .i64 1) x2 v6 (.int .i64 0) v5.2) (impl_EndOf.K0 E (kTop Tryd.prog Tryd.f9)))
theorem main_eq (E : Env) (x0 x1 x2 : PV) (h : PHeap) : runBody (E.cx Tryd.prog kl) Tryd.f9 [x0, x1, x2] h = main E x0 x1 x2 h := by kernel_rfl
theorem call_eq (g : Nat → PV) (lf n : Nat) (x0 x1 x2 : PV) (h : PHeap) : CL g lf (n + 1) fn_impl_EndOf [x0, x1, x2] h = main (env g lf n) x0 x1 x2 h := by
  rw [← main_eq]
  show call Tryd.prog g KL lf (n + 1) 9 [x0, x1, x2] h = _
  rw [call_succ, Tryd.func9]
  kernel_rfl
end impl_EndOf
namespace laws_eqIntS
noncomputable def lp0 : Code := (codeAt (bodyOf Tryd.f10) [1, 1, 0, 1, 0, 0])
def st0 (x0 x1 x5 : PV) (h : PHeap) : St := ⟨[x0, x1, .junk, .junk, .junk, x5, .junk, .junk, .junk, .junk, .junk, .junk, .junk, .junk, .junk, .junk, .junk, .junk, .junk, .junk, .junk, .junk, .junk, .junk, .junk, .junk], h⟩
def sr_4 (x4 : PV) (h : PHeap) : St := ⟨[.junk, .junk, .junk, .junk, x4, .junk, .junk, .junk, .junk, .junk, .junk, .junk, .junk, .junk, .junk, .junk, .junk, .junk, .junk, .junk, .junk, .junk, .junk, .junk, .junk, .junk], h⟩
def se0_0_1_5_14 (x0 x1 x5 x14 : PV) (h : PHeap) : St := ⟨[x0, x1, .junk, .junk, .junk, x5, .junk, .junk, .junk, .junk, .junk, .junk, .junk, .junk, x14, .junk, .junk, .junk, .junk, .junk, .junk, .junk, .junk, .junk, .junk, .junk], h⟩
noncomputable def K0 (E : Env) (K : PX → St → Res) : PX → St → Res := (kBlock 0 (kSeq (ev (E.cx Tryd.prog kl) (codeAt (bodyOf Tryd.f10) [1, 1, 1])) K))
@[simp] theorem K0_ret (E : Env) (K : PX → St → Res) (s : St) : K0 E K .ret s = K .ret s := by kernel_rfl
noncomputable def body0 (E : Env) (K : PX → St → Res) (x0 x1 x5 : PV) (h : PHeap) : Res :=
    (E.p.len 22 x0).bind fun v14 =>
    (E.p.bin .lss 3 x5 v14).bind fun v15 =>
    condP v15
     (
      (E.p.indexAddr 22 x0 x5).bind fun v16 =>
      (E.p.load 3 v16 h).bind fun v17 =>
      (E.p.indexAddr 22 x1 x5).bind fun v18 =>
      (E.p.load 3 v18 h).bind fun v19 =>
      (E.p.bin .neq 3 v17 v19).bind fun v20 =>
      condP v20
       (
        K .ret (sr_4 (.bool false) h))
       (
        (E.p.bin .add 3 x5 (.int .i64 1)).bind fun v21 =>
        K .normal (st0 x0 x1 v21 h)))
     (
      K (.exit 0) (se0_0_1_5_14 x0 x1 x5 v15 h))
theorem body0_eq (E : Env) (K : PX → St → Res) (x0 x1 x5 : PV) (h : PHeap) : ev (E.cx Tryd.prog kl) lp0 (st0 x0 x1 x5 h) K = body0 E K x0 x1 x5 h := by kernel_rfl
theorem after0_se0_0_1_5_14 (E : Env) (x0 x1 x5 x14 : PV) (h : PHeap) : K0 E (kTop Tryd.prog Tryd.f10) (.exit 0) (se0_0_1_5_14 x0 x1 x5 x14 h) =
    (resV (.bool true)).bind fun v13 =>
    some (v13, h) := by kernel_rfl
theorem top_sr_4 (x4 : PV) (h : PHeap) : kTop Tryd.prog Tryd.f10 .ret (sr_4 x4 h) =
    (resV x4).bind fun v22 =>
    some (v22, h) := by kernel_rfl
noncomputable def main (E : Env) (x0 x1 : PV) (h : PHeap) : Res :=
    (E.p.len 22 x0).bind fun v1 =>
    (E.p.len 22 x1).bind fun v2 =>
    (E.p.bin .neq 3 v1 v2).bind fun v3 =>
    condP v3
     (
      (resV (.bool false)).bind fun v4 =>
      some (v4, h))
     (
      loopK (ev (E.cx Tryd.prog laws_eqIntS.kl) laws_eqIntS.lp0) E.lf (laws_eqIntS.st0 x0 x1 (.int .i64 0) h) (laws_eqIntS.K0 E (kTop Tryd.prog Tryd.f10)))
theorem main_eq (E : Env) (x0 x1 : PV) (h : PHeap) : runBody (E.cx Tryd.prog kl) Tryd.f10 [x0, x1] h = main E x0 x1 h := by kernel_rfl
theorem call_eq (g : Nat → PV) (lf n : Nat) (x0 x1 : PV) (h : PHeap) : CL g lf (n + 1) fn_laws_eqIntS [x0, x1] h = main (env g lf n) x0 x1 h := by
  rw [← main_eq]
  show call Tryd.prog g KL lf (n + 1) 10 [x0, x1] h = _
  rw [call_succ, Tryd.func10]
  kernel_rfl
end laws_eqIntS
namespace laws_markIntS
noncomputable def lp0 : Code := (codeAt (bodyOf Tryd.f11) [1, 0, 1, 0, 0])
def st0 (x0 x1 x5 : PV) (h : PHeap) : St := ⟨[x0, x1, .junk, .junk, .junk, x5, .junk, .junk, .junk, .junk, .junk, .junk, .junk, .junk, .junk, .junk, .junk, .junk, .junk], h⟩
def se0_0_1_5_9 (x0 x1 x5 x9 : PV) (h : PHeap) : St := ⟨[x0, x1, .junk, .junk, .junk, x5, .junk, .junk, .junk, x9, .junk, .junk, .junk, .junk, .junk, .junk, .junk, .junk, .junk], h⟩
noncomputable def K0 (E : Env) (K : PX → St → Res) : PX → St → Res := (kBlock 0 (kSeq (ev (E.cx Tryd.prog kl) (codeAt (bodyOf Tryd.f11) [1, 1])) K))
@[simp] theorem K0_ret (E : Env) (K : PX → St → Res) (s : St) : K0 E K .ret s = K .ret s := by kernel_rfl
noncomputable def body0 (E : Env) (K : PX → St → Res) (x0 x1 x5 : PV) (h : PHeap) : Res :=
    (E.p.len 22 x0).bind fun v8 =>
    (E.p.bin .lss 3 x5 v8).bind fun v9 =>
    condP v9
     (
      (E.p.indexAddr 22 x0 x5).bind fun v10 =>
      (E.p.store 3 v10 x1 h).bind fun v11 =>
      (E.p.bin .add 3 x1 (.int .i64 1)).bind fun v12 =>
      (E.p.bin .add 3 x5 (.int .i64 1)).bind fun v13 =>
      K .normal (st0 x0 v12 v13 v11))
     (
      K (.exit 0) (se0_0_1_5_9 x0 x1 x5 v9 h))
theorem body0_eq (E : Env) (K : PX → St → Res) (x0 x1 x5 : PV) (h : PHeap) : ev (E.cx Tryd.prog kl) lp0 (st0 x0 x1 x5 h) K = body0 E K x0 x1 x5 h := by kernel_rfl
theorem after0_se0_0_1_5_9 (E : Env) (x0 x1 x5 x9 : PV) (h : PHeap) : K0 E (kTop Tryd.prog Tryd.f11) (.exit 0) (se0_0_1_5_9 x0 x1 x5 x9 h) =
    (resV x1).bind fun v7 =>
    some (v7, h) := by kernel_rfl
noncomputable def main (E : Env) (x0 x1 : PV) (h : PHeap) : Res :=
    loopK (ev (E.cx Tryd.prog laws_markIntS.kl) laws_markIntS.lp0) E.lf (laws_markIntS.st0 x0 x1 (.int .i64 0) h) (laws_markIntS.K0 E (kTop Tryd.prog Tryd.f11))
theorem main_eq (E : Env) (x0 x1 : PV) (h : PHeap) : runBody (E.cx Tryd.prog kl) Tryd.f11 [x0, x1] h = main E x0 x1 h := by kernel_rfl
theorem call_eq (g : Nat → PV) (lf n : Nat) (x0 x1 : PV) (h : PHeap) : CL g lf (n + 1) fn_laws_markIntS [x0, x1] h = main (env g lf n) x0 x1 h := by
  rw [← main_eq]
  show call Tryd.prog g KL lf (n + 1) 11 [x0, x1] h = _
  rw [call_succ, Tryd.func11]
  kernel_rfl
end laws_markIntS
namespace laws_heldIntS
noncomputable def lp0 : Code := (codeAt (bodyOf Tryd.f12) [1, 0, 1, 0, 0])
def st0 (x0 x1 x5 : PV) (h : PHeap) : St := ⟨[x0, x1, .junk, .junk, .junk, x5, .junk, .junk, .junk, .junk, .junk, .junk, .junk, .junk, .junk, .junk, .junk, .junk, .junk, .junk, .junk], h⟩
def sr_4 (x4 : PV) (h : PHeap) : St := ⟨[.junk, .junk, .junk, .junk, x4, .junk, .junk, .junk, .junk, .junk, .junk, .junk, .junk, .junk, .junk, .junk, .junk, .junk, .junk, .junk, .junk], h⟩
def se0_0_1_5_9 (x0 x1 x5 x9 : PV) (h : PHeap) : St := ⟨[x0, x1, .junk, .junk, .junk, x5, .junk, .junk, .junk, x9, .junk, .junk, .junk, .junk, .junk, .junk, .junk, .junk, .junk, .junk, .junk], h⟩
noncomputable def K0 (E : Env) (K : PX → St → Res) : PX → St → Res := (kBlock 0 (kSeq (ev (E.cx Tryd.prog kl) (codeAt (bodyOf Tryd.f12) [1, 1])) K))
@[simp] theorem K0_ret (E : Env) (K : PX → St → Res) (s : St) : K0 E K .ret s = K .ret s := by kernel_rfl
noncomputable def body0 (E : Env) (K : PX → St → Res) (x0 x1 x5 : PV) (h : PHeap) : Res :=
    (E.p.len 22 x0).bind fun v9 =>
    (E.p.bin .lss 3 x5 v9).bind fun v10 =>
    condP v10
     (
      (E.p.indexAddr 22 x0 x5).bind fun v11 =>
      (E.p.load 3 v11 h).bind fun v12 =>
      (E.p.bin .neq 3 v12 x1).bind fun v13 =>
      condP v13
       (
        K .ret (sr_4 (.int .i64 (-1)) h))
       (
        (E.p.bin .add 3 x1 (.int .i64 1)).bind fun v14 =>
        (E.p.bin .add 3 x5 (.int .i64 1)).bind fun v15 =>
        K .normal (st0 x0 v14 v15 h)))
     (
      K (.exit 0) (se0_0_1_5_9 x0 x1 x5 v10 h))
theorem body0_eq (E : Env) (K : PX → St → Res) (x0 x1 x5 : PV) (h : PHeap) : ev (E.cx Tryd.prog kl) lp0 (st0 x0 x1 x5 h) K = body0 E K x0 x1 x5 h := by kernel_rfl
theorem after0_se0_0_1_5_9 (E : Env) (x0 x1 x5 x9 : PV) (h : PHeap) : K0 E (kTop Tryd.prog Tryd.f12) (.exit 0) (se0_0_1_5_9 x0 x1 x5 x9 h) =
    (resV x1).bind fun v8 =>
    some (v8, h) := by kernel_rfl
theorem top_sr_4 (x4 : PV) (h : PHeap) : kTop Tryd.prog Tryd.f12 .ret (sr_4 x4 h) =
    (resV x4).bind fun v16 =>
    some (v16, h) := by kernel_rfl
noncomputable def main (E : Env) (x0 x1 : PV) (h : PHeap) : Res :=
    loopK (ev (E.cx Tryd.prog laws_heldIntS.kl) laws_heldIntS.lp0) E.lf (laws_heldIntS.st0 x0 x1 (.int .i64 0) h) (laws_heldIntS.K0 E (kTop Tryd.prog Tryd.f12))
theorem main_eq (E : Env) (x0 x1 : PV) (h : PHeap) : runBody (E.cx Tryd.prog kl) Tryd.f12 [x0, x1] h = main E x0 x1 h := by kernel_rfl
theorem call_eq (g : Nat → PV) (lf n : Nat) (x0 x1 : PV) (h : PHeap) : CL g lf (n + 1) fn_laws_heldIntS [x0, x1] h = main (env g lf n) x0 x1 h := by
  rw [← main_eq]
  show call Tryd.prog g KL lf (n + 1) 12 [x0, x1] h = _
  rw [call_succ, Tryd.func12]
  kernel_rfl
end laws_heldIntS
namespace spec_RecordText
noncomputable def lp0 : Code := (codeAt (bodyOf Tryd.f13) [1, 1, 1, 0, 1, 0, 0])
def st0 (x0 x1 x2 x7 x8 : PV) (h : PHeap) : St := ⟨[x0, x1, x2, .junk, .junk, .junk, .junk, x7, x8, .junk, .junk, .junk, .junk, .junk, .junk, .junk, .junk, .junk, .junk, .junk, .junk, .junk, .junk, .junk, .junk, .junk, .junk, .junk, .junk, .junk, .junk, .junk, .junk, .junk, .junk, .junk, .junk, .junk], h⟩
def se0_0_1_2_7_8_24 (x0 x1 x2 x7 x8 x24 : PV) (h : PHeap) : St := ⟨[x0, x1, x2, .junk, .junk, .junk, .junk, x7, x8, .junk, .junk, .junk, .junk, .junk, .junk, .junk, .junk, .junk, .junk, .junk, .junk, .junk, .junk, .junk, x24, .junk, .junk, .junk, .junk, .junk, .junk, .junk, .junk, .junk, .junk, .junk, .junk, .junk], h⟩
noncomputable def K0 (E : Env) (K : PX → St → Res) : PX → St → Res := (kBlock 0 (kSeq (ev (E.cx Tryd.prog kl) (codeAt (bodyOf Tryd.f13) [1, 1, 1, 1])) K))
@[simp] theorem K0_ret (E : Env) (K : PX → St → Res) (s : St) : K0 E K .ret s = K .ret s := by kernel_rfl
noncomputable def body0 (E : Env) (K : PX → St → Res) (x0 x1 x2 x7 x8 : PV) (h : PHeap) : Res :=
    (E.p.len 22 x2).bind fun v18 =>
    (E.p.bin .lss 3 x8 v18).bind fun v19 =>
    condP v19
     (
      (E.p.bin .add 9 x7 (.str (sB [32]))).bind fun v20 =>
      (E.p.indexAddr 22 x2 x8).bind fun v21 =>
      (E.p.load 3 v21 h).bind fun v22 =>
      (E.C fn_spec_CellText [x0, x1, v22] h).bind fun v23 =>
      (E.p.bin .add 9 v20 v23.1).bind fun v24 =>
      (E.p.bin .add 3 x8 (.int .i64 1)).bind fun v25 =>
      K .normal (st0 x0 x1 x2 v24 v25 v23.2))
     (
      K (.exit 0) (se0_0_1_2_7_8_24 x0 x1 x2 x7 x8 v19 h))
theorem body0_eq (E : Env) (K : PX → St → Res) (x0 x1 x2 x7 x8 : PV) (h : PHeap) : ev (E.cx Tryd.prog kl) lp0 (st0 x0 x1 x2 x7 x8 h) K = body0 E K x0 x1 x2 x7 x8 h := by kernel_rfl
theorem after0_se0_0_1_2_7_8_24 (E : Env) (x0 x1 x2 x7 x8 x24 : PV) (h : PHeap) : K0 E (kTop Tryd.prog Tryd.f13) (.exit 0) (se0_0_1_2_7_8_24 x0 x1 x2 x7 x8 x24 h) =
    (resV x7).bind fun v17 =>
    some (v17, h) := by kernel_rfl
noncomputable def main (E : Env) (x0 x1 x2 : PV) (h : PHeap) : Res :=
    (E.C fn_spec_RecordOk [x0, x1, x2] h).bind fun v1 =>
    (E.p.un .not v1.1).bind fun v2 =>
    condP v2
     (
      (resV (.str (sB []))).bind fun v3 =>
      some (v3, v1.2))
     (
      (E.C fn_spec_l1Number [x0] v1.2).bind fun v4 =>
      (E.p.bin .add 9 v4.1 (.str (sB [120]))).bind fun v5 =>
      (E.C fn_spec_l1Number [x1] v4.2).bind fun v6 =>
      (E.p.bin .add 9 v5 v6.1).bind fun v7 =>
      (E.p.bin .add 9 v7 (.str (sB [58]))).bind fun v8 =>
      loopK (ev (E.cx Tryd.prog spec_RecordText.kl) spec_RecordText.lp0) E.lf (spec_RecordText.st0 x0 x1 x2 v8 (.int .i64 0) v6.2) (spec_RecordText.K0 E (kTop Tryd.prog Tryd.f13)))
theorem main_eq (E : Env) (x0 x1 x2 : PV) (h : PHeap) : runBody (E.cx Tryd.prog kl) Tryd.f13 [x0, x1, x2] h = main E x0 x1 x2 h := by kernel_rfl
theorem call_eq (g : Nat → PV) (lf n : Nat) (x0 x1 x2 : PV) (h : PHeap) : CL g lf (n + 1) fn_spec_RecordText [x0, x1, x2] h = main (env g lf n) x0 x1 x2 h := by
  rw [← main_eq]
  show call Tryd.prog g KL lf (n + 1) 13 [x0, x1, x2] h = _
  rw [call_succ, Tryd.func13]
  kernel_rfl
end spec_RecordText
namespace impl_RecordText
noncomputable def lp0 : Code := (codeAt (bodyOf Tryd.f14) [1, 1, 1, 0, 1, 0, 0])
def st0 (x0 x1 x7 x19 x20 x21 : PV) (h : PHeap) : St := ⟨[x0, x1, .junk, .junk, .junk, .junk, .junk, x7, .junk, .junk, .junk, .junk, .junk, .junk, .junk, .junk, .junk, .junk, .junk, x19, x20, x21, .junk, .junk, .junk, .junk, .junk, .junk, .junk, .junk, .junk, .junk, .junk, .junk], h⟩
def se0_0_1_7_19_20_21_22 (x0 x1 x7 x19 x20 x21 x22 : PV) (h : PHeap) : St := ⟨[x0, x1, .junk, .junk, .junk, .junk, .junk, x7, .junk, .junk, .junk, .junk, .junk, .junk, .junk, .junk, .junk, .junk, .junk, x19, x20, x21, x22, .junk, .junk, .junk, .junk, .junk, .junk, .junk, .junk, .junk, .junk, .junk], h⟩
noncomputable def K0 (E : Env) (K : PX → St → Res) : PX → St → Res := (kBlock 0 (kSeq (ev (E.cx Tryd.prog kl) (codeAt (bodyOf Tryd.f14) [1, 1, 1, 1])) K))
@[simp] theorem K0_ret (E : Env) (K : PX → St → Res) (s : St) : K0 E K .ret s = K .ret s := by kernel_rfl
noncomputable def body0 (E : Env) (K : PX → St → Res) (x0 x1 x7 x19 x20 x21 : PV) (h : PHeap) : Res :=
    (E.p.bin .lss 3 x21 x20).bind fun v15 =>
    condP v15
     (
      (E.p.indexAddr 22 x19 x21).bind fun v16 =>
      (E.p.load 3 v16 h).bind fun v17 =>
      (E.C fn_impl_CellText [x0, x1, v17] h).bind fun v18 =>
      (E.p.bin .add 9 (.str (sB [32])) v18.1).bind fun v19 =>
      (E.p.bin .add 9 x7 v19).bind fun v20 =>
      (E.p.bin .add 3 x21 (.int .i64 1)).bind fun v21 =>
      K .normal (st0 x0 x1 v20 x19 x20 v21 v18.2))
     (
      K (.exit 0) (se0_0_1_7_19_20_21_22 x0 x1 x7 x19 x20 x21 v15 h))
theorem body0_eq (E : Env) (K : PX → St → Res) (x0 x1 x7 x19 x20 x21 : PV) (h : PHeap) : ev (E.cx Tryd.prog kl) lp0 (st0 x0 x1 x7 x19 x20 x21 h) K = body0 E K x0 x1 x7 x19 x20 x21 h := by kernel_rfl
theorem after0_se0_0_1_7_19_20_21_22 (E : Env) (x0 x1 x7 x19 x20 x21 x22 : PV) (h : PHeap) : K0 E (kTop Tryd.prog Tryd.f14) (.exit 0) (se0_0_1_7_19_20_21_22 x0 x1 x7 x19 x20 x21 x22 h) =
    (resV x7).bind fun v14 =>
    some (v14, h) := by kernel_rfl
noncomputable def main (E : Env) (x0 x1 x2 : PV) (h : PHeap) : Res :=
    (E.C fn_impl_RecordOk [x0, x1, x2] h).bind fun v1 =>
    (E.p.un .not v1.1).bind fun v2 =>
    condP v2
     (
      (resV (.str (sB []))).bind fun v3 =>
      some (v3, v1.2))
     (
      (E.C fn_impl_boardText [x0, x1] v1.2).bind fun v4 =>
      (E.p.bin .add 9 v4.1 (.str (sB [58]))).bind fun v5 =>
      (E.p.len 22 x2).bind fun v6 =>
      loopK (ev (E.cx Tryd.prog impl_RecordText.kl) impl_RecordText.lp0) E.lf (impl_RecordText.st0 x0 x1 v5 x2 v6 (.int .i64 0) v4.2) (impl_RecordText.K0 E (kTop Tryd.prog Tryd.f14)))
theorem main_eq (E : Env) (x0 x1 x2 : PV) (h : PHeap) : runBody (E.cx Tryd.prog kl) Tryd.f14 [x0, x1, x2] h = main E x0 x1 x2 h := by kernel_rfl
theorem call_eq (g : Nat → PV) (lf n : Nat) (x0 x1 x2 : PV) (h : PHeap) : CL g lf (n + 1) fn_impl_RecordText [x0, x1, x2] h = main (env g lf n) x0 x1 x2 h := by
  rw [← main_eq]
  show call Tryd.prog g KL lf (n + 1) 14 [x0, x1, x2] h = _
  rw [call_succ, Tryd.func14]
  kernel_rfl
end impl_RecordText
namespace spec_ReadRecord
noncomputable def lp0 : Code := (codeAt (bodyOf Tryd.f15) [1, 1, 1, 1, 1, 1, 1, 0, 1, 0, 0])
def st0 (x0 x6 x8 x9 x10 x11 : PV) (h : PHeap) : St := ⟨[x0, .junk, .junk, .junk, .junk, .junk, x6, .junk, x8, x9, x10, x11, .junk, .junk, .junk, .junk, .junk, .junk, .junk, .junk, .junk, .junk, .junk, .junk, .junk, .junk, .junk, .junk, .junk, .junk, .junk, .junk, .junk, .junk, .junk, .junk, .junk, .junk, .junk, .junk, .junk, .junk, .junk, .junk, .junk, .junk, .junk, .junk, .junk, .junk, .junk, .junk, .junk, .junk, .junk, .junk, .junk, .junk, .junk, .junk, .junk, .junk, .junk, .junk, .junk, .junk, .junk, .junk, .junk, .junk, .junk, .junk, .junk, .junk, .junk, .junk, .junk, .junk], h⟩
def sr_2_3_4_5 (x2 x3 x4 x5 : PV) (h : PHeap) : St := ⟨[.junk, .junk, x2, x3, x4, x5, .junk, .junk, .junk, .junk, .junk, .junk, .junk, .junk, .junk, .junk, .junk, .junk, .junk, .junk, .junk, .junk, .junk, .junk, .junk, .junk, .junk, .junk, .junk, .junk, .junk, .junk, .junk, .junk, .junk, .junk, .junk, .junk, .junk, .junk, .junk, .junk, .junk, .junk, .junk, .junk, .junk, .junk, .junk, .junk, .junk, .junk, .junk, .junk, .junk, .junk, .junk, .junk, .junk, .junk, .junk, .junk, .junk, .junk, .junk, .junk, .junk, .junk, .junk, .junk, .junk, .junk, .junk, .junk, .junk, .junk, .junk, .junk], h⟩
def se0_0_6_8_9_10_11_44 (x0 x6 x8 x9 x10 x11 x44 : PV) (h : PHeap) : St := ⟨[x0, .junk, .junk, .junk, .junk, .junk, x6, .junk, x8, x9, x10, x11, .junk, .junk, .junk, .junk, .junk, .junk, .junk, .junk, .junk, .junk, .junk, .junk, .junk, .junk, .junk, .junk, .junk, .junk, .junk, .junk, .junk, .junk, .junk, .junk, .junk, .junk, .junk, .junk, .junk, .junk, .junk, .junk, x44, .junk, .junk, .junk, .junk, .junk, .junk, .junk, .junk, .junk, .junk, .junk, .junk, .junk, .junk, .junk, .junk, .junk, .junk, .junk, .junk, .junk, .junk, .junk, .junk, .junk, .junk, .junk, .junk, .junk, .junk, .junk, .junk, .junk], h⟩
noncomputable def K0 (E : Env) (K : PX → St → Res) : PX → St → Res := (kBlock 0 (kSeq (ev (E.cx Tryd.prog kl) (codeAt (bodyOf Tryd.f15) [1, 1, 1, 1, 1, 1, 1, 1])) K))
@[simp] theorem K0_ret (E : Env) (K : PX → St → Res) (s : St) : K0 E K .ret s = K .ret s := by kernel_rfl
noncomputable def body0 (E : Env) (K : PX → St → Res) (x0 x6 x8 x9 x10 x11 : PV) (h : PHeap) : Res :=
    (E.p.len 43 x6).bind fun v59 =>
    (E.p.bin .lss 3 x11 v59).bind fun v60 =>
    condP v60
     (
      (E.p.indexAddr 43 x6 x11).bind fun v61 =>
      (E.p.load 9 v61 h).bind fun v62 =>
      (E.C fn_spec_ReadCell [x8, x9, v62] h).bind fun v63 =>
      (E.p.extract v63.1 0).bind fun v64 =>
      (E.p.extract v63.1 1).bind fun v65 =>
      (E.p.un .not v65).bind fun v66 =>
      condP v66
       (
        (E.p.buildSlice 22 0 [] v63.2).bind fun v67 =>
        K .ret (sr_2_3_4_5 (.int .i64 0) (.int .i64 0) v67.1 (.bool false) v67.2))
       (
        (E.p.buildSlice 22 1 [(0, v64)] v63.2).bind fun v68 =>
        (E.p.append 22 22 x10 v68.1 v68.2).bind fun v69 =>
        (E.p.bin .add 3 x11 (.int .i64 1)).bind fun v70 =>
        K .normal (st0 x0 x6 x8 x9 v69.1 v70 v69.2)))
     (
      K (.exit 0) (se0_0_6_8_9_10_11_44 x0 x6 x8 x9 x10 x11 v60 h))
theorem body0_eq (E : Env) (K : PX → St → Res) (x0 x6 x8 x9 x10 x11 : PV) (h : PHeap) : ev (E.cx Tryd.prog kl) lp0 (st0 x0 x6 x8 x9 x10 x11 h) K = body0 E K x0 x6 x8 x9 x10 x11 h := by kernel_rfl
theorem after0_se0_0_6_8_9_10_11_44 (E : Env) (x0 x6 x8 x9 x10 x11 x44 : PV) (h : PHeap) : K0 E (kTop Tryd.prog Tryd.f15) (.exit 0) (se0_0_6_8_9_10_11_44 x0 x6 x8 x9 x10 x11 x44 h) =
    (E.C fn_spec_RecordText [x8, x9, x10] h).bind fun v43 =>
    (E.p.bin .neq 9 v43.1 x0).bind fun v44 =>
    (wantV v44 false).bind fun v45 =>
    (bif v45 then some (x0, v43.2) else some (.tup [], v43.2)).bind fun v46 =>
    (wantV v44 false).bind fun v47 =>
    (bif v47 then pv v46.2 (E.p.bin .eql 9 v46.1 (.str (sB []))) else some (.tup [], v46.2)).bind fun v48 =>
    (E.p.pick v44 (.bool true) v48.1).bind fun v49 =>
    condP v49
     (
      (E.p.buildSlice 22 0 [] v48.2).bind fun v50 =>
      (resV (.int .i64 0)).bind fun v51 =>
      (resV (.int .i64 0)).bind fun v52 =>
      (resV v50.1).bind fun v53 =>
      (resV (.bool false)).bind fun v54 =>
      some (.tup [v51, v52, v53, v54], v50.2))
     (
      (resV x8).bind fun v55 =>
      (resV x9).bind fun v56 =>
      (resV x10).bind fun v57 =>
      (resV (.bool true)).bind fun v58 =>
      some (.tup [v55, v56, v57, v58], v48.2)) := by kernel_rfl
theorem top_sr_2_3_4_5 (x2 x3 x4 x5 : PV) (h : PHeap) : kTop Tryd.prog Tryd.f15 .ret (sr_2_3_4_5 x2 x3 x4 x5 h) =
    (resV x2).bind fun v71 =>
    (resV x3).bind fun v72 =>
    (resV x4).bind fun v73 =>
    (resV x5).bind fun v74 =>
    some (.tup [v71, v72, v73, v74], h) := by kernel_rfl
noncomputable def main (E : Env) (x0 : PV) (h : PHeap) : Res :=
    (E.C fn_spec_l1Cut [x0, (.int .u8 32)] h).bind fun v1 =>
    (E.p.indexAddr 43 v1.1 (.int .i64 0)).bind fun v2 =>
    (E.p.load 9 v2 v1.2).bind fun v3 =>
    (E.C fn_spec_l1Cut [v3, (.int .u8 120)] v1.2).bind fun v4 =>
    (E.p.len 43 v4.1).bind fun v5 =>
    (E.p.bin .neq 3 v5 (.int .i64 2)).bind fun v6 =>
    (wantV v6 false).bind fun v7 =>
    (bif v7 then some (v4.1, v4.2) else some (.tup [], v4.2)).bind fun v8 =>
    (wantV v6 false).bind fun v9 =>
    (bif v9 then pv v8.2 (E.p.indexAddr 43 v8.1 (.int .i64 1)) else some (.tup [], v8.2)).bind fun v10 =>
    (wantV v6 false).bind fun v11 =>
    (bif v11 then pv v10.2 (E.p.load 9 v10.1 v10.2) else some (.tup [], v10.2)).bind fun v12 =>
    (wantV v6 false).bind fun v13 =>
    (bif v13 then pv v12.2 (E.p.len 9 v12.1) else some (.tup [], v12.2)).bind fun v14 =>
    (wantV v6 false).bind fun v15 =>
    (bif v15 then pv v14.2 (E.p.bin .neq 3 v14.1 (.int .i64 2)) else some (.tup [], v14.2)).bind fun v16 =>
    (E.p.pick v6 (.bool true) v16.1).bind fun v17 =>
    condP v17
     (
      (E.p.buildSlice 22 0 [] v16.2).bind fun v18 =>
      (resV (.int .i64 0)).bind fun v19 =>
      (resV (.int .i64 0)).bind fun v20 =>
      (resV v18.1).bind fun v21 =>
      (resV (.bool false)).bind fun v22 =>
      some (.tup [v19, v20, v21, v22], v18.2))
     (
      (E.p.indexAddr 43 v4.1 (.int .i64 0)).bind fun v23 =>
      (E.p.load 9 v23 v16.2).bind fun v24 =>
      (E.C fn_spec_l1Digits [v24] v16.2).bind fun v25 =>
      (E.p.indexAddr 43 v4.1 (.int .i64 1)).bind fun v26 =>
      (E.p.load 9 v26 v25.2).bind fun v27 =>
      (E.p.slice 9 v27 none (some (.int .i64 1)) v25.2).bind fun v28 =>
      (E.C fn_spec_l1Digits [v28] v25.2).bind fun v29 =>
      (E.p.buildSlice 22 0 [] v29.2).bind fun v30 =>
      loopK (ev (E.cx Tryd.prog spec_ReadRecord.kl) spec_ReadRecord.lp0) E.lf (spec_ReadRecord.st0 x0 v1.1 v25.1 v29.1 v30.1 (.int .i64 1) v30.2) (spec_ReadRecord.K0 E (kTop Tryd.prog Tryd.f15)))
theorem main_eq (E : Env) (x0 : PV) (h : PHeap) : runBody (E.cx Tryd.prog kl) Tryd.f15 [x0] h = main E x0 h := by kernel_rfl
theorem call_eq (g : Nat → PV) (lf n : Nat) (x0 : PV) (h : PHeap) : CL g lf (n + 1) fn_spec_ReadRecord [x0] h = main (env g lf n) x0 h := by
  rw [← main_eq]
  show call Tryd.prog g KL lf (n + 1) 15 [x0] h = _
  rw [call_succ, Tryd.func15]
  kernel_rfl
end spec_ReadRecord
namespace impl_ReadRecord
noncomputable def main (E : Env) (x0 : PV) (h : PHeap) : Res :=
    (E.C fn_strings_Cut [x0, (.str (sB [58]))] h).bind fun v1 =>
    (E.p.extract v1.1 0).bind fun v2 =>
    (E.p.extract v1.1 1).bind fun v3 =>
    (E.p.extract v1.1 2).bind fun v4 =>
    (E.C fn_impl_readBoard [v2] v1.2).bind fun v5 =>
    (E.p.extract v5.1 0).bind fun v6 =>
    (E.p.extract v5.1 1).bind fun v7 =>
    (E.p.extract v5.1 2).bind fun v8 =>
    (E.p.un .not v4).bind fun v9 =>
    (wantV v9 false).bind fun v10 =>
    (bif v10 then some (v8, v5.2) else some (.tup [], v5.2)).bind fun v11 =>
    (wantV v9 false).bind fun v12 =>
    (bif v12 then pv v11.2 (E.p.un .not v11.1) else some (.tup [], v11.2)).bind fun v13 =>
    (E.p.pick v9 (.bool true) v13.1).bind fun v14 =>
    condP v14
     (
      (resV (.int .i64 0)).bind fun v15 =>
      (resV (.int .i64 0)).bind fun v16 =>
      (resV .nilsl).bind fun v17 =>
      (resV (.bool false)).bind fun v18 =>
      some (.tup [v15, v16, v17, v18], v13.2))
     (
      (E.C fn_impl_readMoves [v6, v7, v3] v13.2).bind fun v19 =>
      (E.p.extract v19.1 0).bind fun v20 =>
      (E.p.extract v19.1 1).bind fun v21 =>
      (E.p.un .not v21).bind fun v22 =>
      (wantV v22 false).bind fun v23 =>
      (bif v23 then some (v6, v19.2) else some (.tup [], v19.2)).bind fun v24 =>
      (wantV v22 false).bind fun v25 =>
      (bif v25 then some (v7, v24.2) else some (.tup [], v24.2)).bind fun v26 =>
      (wantV v22 false).bind fun v27 =>
      (bif v27 then some (v20, v26.2) else some (.tup [], v26.2)).bind fun v28 =>
      (wantV v22 false).bind fun v29 =>
      (bif v29 then E.C fn_impl_RecordOk [v24.1, v26.1, v28.1] v28.2 else some (.tup [], v28.2)).bind fun v30 =>
      (wantV v22 false).bind fun v31 =>
      (bif v31 then pv v30.2 (E.p.un .not v30.1) else some (.tup [], v30.2)).bind fun v32 =>
      (E.p.pick v22 (.bool true) v32.1).bind fun v33 =>
      condP v33
       (
        (resV (.int .i64 0)).bind fun v34 =>
        (resV (.int .i64 0)).bind fun v35 =>
        (resV .nilsl).bind fun v36 =>
        (resV (.bool false)).bind fun v37 =>
        some (.tup [v34, v35, v36, v37], v32.2))
       (
        (resV v6).bind fun v38 =>
        (resV v7).bind fun v39 =>
        (resV v20).bind fun v40 =>
        (resV (.bool true)).bind fun v41 =>
        some (.tup [v38, v39, v40, v41], v32.2)))
theorem main_eq (E : Env) (x0 : PV) (h : PHeap) : runBody (E.cx Tryd.prog kl) Tryd.f16 [x0] h = main E x0 h := by kernel_rfl
theorem call_eq (g : Nat → PV) (lf n : Nat) (x0 : PV) (h : PHeap) : CL g lf (n + 1) fn_impl_ReadRecord [x0] h = main (env g lf n) x0 h := by
  rw [← main_eq]
  show call Tryd.prog g KL lf (n + 1) 16 [x0] h = _
  rw [call_succ, Tryd.func16]
  kernel_rfl
end impl_ReadRecord
namespace spec_SlipsOf
noncomputable def lp0 : Code := (codeAt (bodyOf Tryd.f17) [1, 1, 1, 1, 1, 0, 1, 0, 0])
def st0 (x0 x1 x2 x7 x8 x9 x10 : PV) (h : PHeap) : St := ⟨[x0, x1, x2, .junk, .junk, .junk, .junk, x7, x8, x9, x10, .junk, .junk, .junk, .junk, .junk, .junk, .junk, .junk, .junk, .junk, .junk, .junk, .junk, .junk, .junk, .junk, .junk, .junk, .junk, .junk, .junk, .junk, .junk, .junk, .junk, .junk, .junk, .junk, .junk, .junk, .junk, .junk, .junk, .junk, .junk, .junk, .junk, .junk, .junk, .junk, .junk, .junk, .junk, .junk, .junk, .junk, .junk, .junk, .junk, .junk, .junk, .junk, .junk, .junk, .junk, .junk, .junk, .junk, .junk, .junk, .junk, .junk, .junk], h⟩
def se0_0_1_2_7_8_9_10_33 (x0 x1 x2 x7 x8 x9 x10 x33 : PV) (h : PHeap) : St := ⟨[x0, x1, x2, .junk, .junk, .junk, .junk, x7, x8, x9, x10, .junk, .junk, .junk, .junk, .junk, .junk, .junk, .junk, .junk, .junk, .junk, .junk, .junk, .junk, .junk, .junk, .junk, .junk, .junk, .junk, .junk, .junk, x33, .junk, .junk, .junk, .junk, .junk, .junk, .junk, .junk, .junk, .junk, .junk, .junk, .junk, .junk, .junk, .junk, .junk, .junk, .junk, .junk, .junk, .junk, .junk, .junk, .junk, .junk, .junk, .junk, .junk, .junk, .junk, .junk, .junk, .junk, .junk, .junk, .junk, .junk, .junk, .junk], h⟩
noncomputable def K0 (E : Env) (K : PX → St → Res) : PX → St → Res := (kBlock 0 (kSeq (ev (E.cx Tryd.prog kl) (codeAt (bodyOf Tryd.f17) [1, 1, 1, 1, 1, 1])) K))
@[simp] theorem K0_ret (E : Env) (K : PX → St → Res) (s : St) : K0 E K .ret s = K .ret s := by kernel_rfl
noncomputable def body0 (E : Env) (K : PX → St → Res) (x0 x1 x2 x7 x8 x9 x10 : PV) (h : PHeap) : Res :=
    (E.p.len 22 x2).bind fun v41 =>
    (E.p.bin .lss 3 x10 v41).bind fun v42 =>
    condP v42
     (
      (E.C fn_spec_l3Winner [x0, x1, x8, x9] h).bind fun v43 =>
      (E.p.indexAddr 22 x2 x10).bind fun v44 =>
      (E.p.load 3 v44 v43.2).bind fun v45 =>
      (E.C fn_spec_Played [x0, x1, x8, v45, x9] v43.2).bind fun v46 =>
      (E.p.extract v46.1 0).bind fun v47 =>
      (E.p.extract v46.1 1).bind fun v48 =>
      (E.C fn_spec_l1Other [x9] v46.2).bind fun v49 =>
      (E.C fn_spec_l3Winner [x0, x1, v47, v49.1] v49.2).bind fun v50 =>
      (E.p.bin .eql 3 v43.1 x9).bind fun v51 =>
      (wantV v51 true).bind fun v52 =>
      (bif v52 then some (v50.1, v50.2) else some (.tup [], v50.2)).bind fun v53 =>
      (wantV v51 true).bind fun v54 =>
      (bif v54 then some (x9, v53.2) else some (.tup [], v53.2)).bind fun v55 =>
      (wantV v51 true).bind fun v56 =>
      (bif v56 then pv v55.2 (E.p.bin .neq 3 v53.1 v55.1) else some (.tup [], v55.2)).bind fun v57 =>
      (E.p.pick v51 v57.1 (.bool false)).bind fun v58 =>
      condP v58
       (
        (E.p.buildSlice 22 1 [(0, x10)] v57.2).bind fun v59 =>
        (E.p.append 22 22 x7 v59.1 v59.2).bind fun v60 =>
        (E.C fn_spec_l1Other [x9] v60.2).bind fun v61 =>
        (E.p.bin .add 3 x10 (.int .i64 1)).bind fun v62 =>
        K .normal (st0 x0 x1 x2 v60.1 v47 v61.1 v62 v61.2))
       (
        (E.C fn_spec_l1Other [x9] v57.2).bind fun v63 =>
        (E.p.bin .add 3 x10 (.int .i64 1)).bind fun v64 =>
        K .normal (st0 x0 x1 x2 x7 v47 v63.1 v64 v63.2)))
     (
      K (.exit 0) (se0_0_1_2_7_8_9_10_33 x0 x1 x2 x7 x8 x9 x10 v42 h))
theorem body0_eq (E : Env) (K : PX → St → Res) (x0 x1 x2 x7 x8 x9 x10 : PV) (h : PHeap) : ev (E.cx Tryd.prog kl) lp0 (st0 x0 x1 x2 x7 x8 x9 x10 h) K = body0 E K x0 x1 x2 x7 x8 x9 x10 h := by kernel_rfl
theorem after0_se0_0_1_2_7_8_9_10_33 (E : Env) (x0 x1 x2 x7 x8 x9 x10 x33 : PV) (h : PHeap) : K0 E (kTop Tryd.prog Tryd.f17) (.exit 0) (se0_0_1_2_7_8_9_10_33 x0 x1 x2 x7 x8 x9 x10 x33 h) =
    (resV x7).bind fun v40 =>
    some (v40, h) := by kernel_rfl
noncomputable def main (E : Env) (x0 x1 x2 : PV) (h : PHeap) : Res :=
    (E.p.buildSlice 22 0 [] h).bind fun v1 =>
    (E.C fn_spec_RecordOk [x0, x1, x2] v1.2).bind fun v2 =>
    (E.p.un .not v2.1).bind fun v3 =>
    (wantV v3 false).bind fun v4 =>
    (bif v4 then some (x0, v2.2) else some (.tup [], v2.2)).bind fun v5 =>
    (wantV v3 false).bind fun v6 =>
    (bif v6 then some (x1, v5.2) else some (.tup [], v5.2)).bind fun v7 =>
    (wantV v3 false).bind fun v8 =>
    (bif v8 then pv v7.2 (E.p.bin .mul 3 v5.1 v7.1) else some (.tup [], v7.2)).bind fun v9 =>
    (wantV v3 false).bind fun v10 =>
    (bif v10 then pv v9.2 (E.p.bin .gtr 3 v9.1 (.int .i64 6)) else some (.tup [], v9.2)).bind fun v11 =>
    (E.p.pick v3 (.bool true) v11.1).bind fun v12 =>
    condP v12
     (
      (resV v1.1).bind fun v13 =>
      some (v13, v11.2))
     (
      (E.p.bin .mul 3 x0 x1).bind fun v14 =>
      (E.p.make 22 v14 v14 v11.2).bind fun v15 =>
      loopK (ev (E.cx Tryd.prog spec_SlipsOf.kl) spec_SlipsOf.lp0) E.lf (spec_SlipsOf.st0 x0 x1 x2 v1.1 v15.1 (.int .i64 1) (.int .i64 0) v15.2) (spec_SlipsOf.K0 E (kTop Tryd.prog Tryd.f17)))
theorem main_eq (E : Env) (x0 x1 x2 : PV) (h : PHeap) : runBody (E.cx Tryd.prog kl) Tryd.f17 [x0, x1, x2] h = main E x0 x1 x2 h := by kernel_rfl
theorem call_eq (g : Nat → PV) (lf n : Nat) (x0 x1 x2 : PV) (h : PHeap) : CL g lf (n + 1) fn_spec_SlipsOf [x0, x1, x2] h = main (env g lf n) x0 x1 x2 h := by
  rw [← main_eq]
  show call Tryd.prog g KL lf (n + 1) 17 [x0, x1, x2] h = _
  rw [call_succ, Tryd.func17]
  kernel_rfl
end spec_SlipsOf
namespace impl_SlipsOf
noncomputable def lp0 : Code := (codeAt (bodyOf Tryd.f18) [1, 1, 1, 1, 1, 0, 1, 0, 0])
def st0 (x7 x8 x9 x31 x32 x33 : PV) (h : PHeap) : St := ⟨[.junk, .junk, .junk, .junk, .junk, .junk, .junk, x7, x8, x9, .junk, .junk, .junk, .junk, .junk, .junk, .junk, .junk, .junk, .junk, .junk, .junk, .junk, .junk, .junk, .junk, .junk, .junk, .junk, .junk, .junk, x31, x32, x33, .junk, .junk, .junk, .junk, .junk, .junk, .junk, .junk, .junk, .junk, .junk, .junk, .junk, .junk, .junk, .junk, .junk, .junk, .junk, .junk, .junk, .junk, .junk, .junk, .junk, .junk, .junk, .junk], h⟩
def se0_7_8_9_31_32_33_34 (x7 x8 x9 x31 x32 x33 x34 : PV) (h : PHeap) : St := ⟨[.junk, .junk, .junk, .junk, .junk, .junk, .junk, x7, x8, x9, .junk, .junk, .junk, .junk, .junk, .junk, .junk, .junk, .junk, .junk, .junk, .junk, .junk, .junk, .junk, .junk, .junk, .junk, .junk, .junk, .junk, x31, x32, x33, x34, .junk, .junk, .junk, .junk, .junk, .junk, .junk, .junk, .junk, .junk, .junk, .junk, .junk, .junk, .junk, .junk, .junk, .junk, .junk, .junk, .junk, .junk, .junk, .junk, .junk, .junk, .junk], h⟩
noncomputable def K0 (E : Env) (K : PX → St → Res) : PX → St → Res := (kBlock 0 (kSeq (ev (E.cx Tryd.prog kl) (codeAt (bodyOf Tryd.f18) [1, 1, 1, 1, 1, 1])) K))
@[simp] theorem K0_ret (E : Env) (K : PX → St → Res) (s : St) : K0 E K .ret s = K .ret s := by kernel_rfl
noncomputable def body0 (E : Env) (K : PX → St → Res) (x7 x8 x9 x31 x32 x33 : PV) (h : PHeap) : Res :=
    (E.p.bin .lss 3 x33 x32).bind fun v110 =>
    condP v110
     (
      (E.p.indexAddr 22 x31 x33).bind fun v111 =>
      (E.p.load 3 v111 h).bind fun v112 =>
      (E.p.load 58 x8 h).bind fun v113 =>
      (E.C fn_impl_standing_after [v113, v112] h).bind fun v114 =>
      (E.p.alloc 58 v114.2).bind fun v115 =>
      (E.p.store 58 v115.1 v114.1 v115.2).bind fun v116 =>
      (E.p.load 58 x8 v116).bind fun v117 =>
      (E.p.fieldAddr 58 x8 1).bind fun v118 =>
      (E.p.load 3 v118 v116).bind fun v119 =>
      (E.C fn_impl_search_winner [x7, v117] v116).bind fun v120 =>
      (E.p.load 3 v118 v120.2).bind fun v121 =>
      ckP (plainEq v119 v121) (
      (E.p.load 58 x8 v120.2).bind fun v122 =>
      ckP (plainEq v117 v122) (
      (E.p.bin .eql 3 v120.1 v119).bind fun v123 =>
      (wantV v123 true).bind fun v124 =>
      (bif v124 then some (x7, v120.2) else some (.tup [], v120.2)).bind fun v125 =>
      (wantV v123 true).bind fun v126 =>
      (bif v126 then pv v125.2 (E.p.fieldAddr 58 x8 1) else some (.tup [], v125.2)).bind fun v127 =>
      (wantV v123 true).bind fun v128 =>
      bif v128 then (
        (E.p.load 58 v115.1 v127.2).bind fun v129 =>
        (wantV v123 true).bind fun v130 =>
        bif v130 then (
          (E.p.load 3 v127.1 v127.2).bind fun v131 =>
          (wantV v123 true).bind fun v132 =>
          (bif v132 then E.C fn_impl_search_winner [v125.1, v129] v127.2 else some (.tup [], v127.2)).bind fun v133 =>
          (E.p.load 3 v127.1 v133.2).bind fun v134 =>
          ckP (plainEq v131 v134) (
          (E.p.load 58 v115.1 v133.2).bind fun v135 =>
          ckP (plainEq v129 v135) (
          (E.p.load 3 v118 v133.2).bind fun v136 =>
          ckP (plainEq v119 v136) (
          (E.p.load 58 x8 v133.2).bind fun v137 =>
          ckP (plainEq v117 v137) (
          (wantV v123 true).bind fun v138 =>
          (bif v138 then pv v133.2 (E.p.bin .neq 3 v133.1 v131) else some (.tup [], v133.2)).bind fun v139 =>
          (E.p.pick v123 v139.1 (.bool false)).bind fun v140 =>
          condP v140
           (
            (E.p.buildSlice 22 1 [(0, x33)] v139.2).bind fun v141 =>
            (E.p.append 22 22 x9 v141.1 v141.2).bind fun v142 =>
            (E.p.load 58 v115.1 v142.2).bind fun v143 =>
            (E.p.store 58 x8 v143 v142.2).bind fun v144 =>
            (E.p.bin .add 3 x33 (.int .i64 1)).bind fun v145 =>
            K .normal (st0 x7 x8 v142.1 x31 x32 v145 v144))
           (
            (E.p.load 58 v115.1 v139.2).bind fun v146 =>
            (E.p.store 58 x8 v146 v139.2).bind fun v147 =>
            (E.p.bin .add 3 x33 (.int .i64 1)).bind fun v148 =>
            K .normal (st0 x7 x8 x9 x31 x32 v148 v147)))))))
        else (
          (wantV v123 true).bind fun v149 =>
          (bif v149 then E.C fn_impl_search_winner [v125.1, v129] v127.2 else some (.tup [], v127.2)).bind fun v150 =>
          (E.p.load 58 v115.1 v150.2).bind fun v151 =>
          ckP (plainEq v129 v151) (
          (E.p.load 3 v118 v150.2).bind fun v152 =>
          ckP (plainEq v119 v152) (
          (E.p.load 58 x8 v150.2).bind fun v153 =>
          ckP (plainEq v117 v153) (
          (wantV v123 true).bind fun v154 =>
          (bif v154 then pv v150.2 (E.p.bin .neq 3 v150.1 (.tup [])) else some (.tup [], v150.2)).bind fun v155 =>
          (E.p.pick v123 v155.1 (.bool false)).bind fun v156 =>
          condP v156
           (
            (E.p.buildSlice 22 1 [(0, x33)] v155.2).bind fun v157 =>
            (E.p.append 22 22 x9 v157.1 v157.2).bind fun v158 =>
            (E.p.load 58 v115.1 v158.2).bind fun v159 =>
            (E.p.store 58 x8 v159 v158.2).bind fun v160 =>
            (E.p.bin .add 3 x33 (.int .i64 1)).bind fun v161 =>
            K .normal (st0 x7 x8 v158.1 x31 x32 v161 v160))
           (
            (E.p.load 58 v115.1 v155.2).bind fun v162 =>
            (E.p.store 58 x8 v162 v155.2).bind fun v163 =>
            (E.p.bin .add 3 x33 (.int .i64 1)).bind fun v164 =>
            K .normal (st0 x7 x8 x9 x31 x32 v164 v163)))))))
      else (
        (wantV v123 true).bind fun v165 =>
        bif v165 then (
          (E.p.load 3 v127.1 v127.2).bind fun v166 =>
          (wantV v123 true).bind fun v167 =>
          (bif v167 then E.C fn_impl_search_winner [v125.1, (.tup [])] v127.2 else some (.tup [], v127.2)).bind fun v168 =>
          (E.p.load 3 v127.1 v168.2).bind fun v169 =>
          ckP (plainEq v166 v169) (
          (E.p.load 3 v118 v168.2).bind fun v170 =>
          ckP (plainEq v119 v170) (
          (E.p.load 58 x8 v168.2).bind fun v171 =>
          ckP (plainEq v117 v171) (
          (wantV v123 true).bind fun v172 =>
          (bif v172 then pv v168.2 (E.p.bin .neq 3 v168.1 v166) else some (.tup [], v168.2)).bind fun v173 =>
          (E.p.pick v123 v173.1 (.bool false)).bind fun v174 =>
          condP v174
           (
            (E.p.buildSlice 22 1 [(0, x33)] v173.2).bind fun v175 =>
            (E.p.append 22 22 x9 v175.1 v175.2).bind fun v176 =>
            (E.p.load 58 v115.1 v176.2).bind fun v177 =>
            (E.p.store 58 x8 v177 v176.2).bind fun v178 =>
            (E.p.bin .add 3 x33 (.int .i64 1)).bind fun v179 =>
            K .normal (st0 x7 x8 v176.1 x31 x32 v179 v178))
           (
            (E.p.load 58 v115.1 v173.2).bind fun v180 =>
            (E.p.store 58 x8 v180 v173.2).bind fun v181 =>
            (E.p.bin .add 3 x33 (.int .i64 1)).bind fun v182 =>
            K .normal (st0 x7 x8 x9 x31 x32 v182 v181))))))
        else (
          (wantV v123 true).bind fun v183 =>
          (bif v183 then E.C fn_impl_search_winner [v125.1, (.tup [])] v127.2 else some (.tup [], v127.2)).bind fun v184 =>
          (E.p.load 3 v118 v184.2).bind fun v185 =>
          ckP (plainEq v119 v185) (
          (E.p.load 58 x8 v184.2).bind fun v186 =>
          ckP (plainEq v117 v186) (
          (wantV v123 true).bind fun v187 =>
          (bif v187 then pv v184.2 (E.p.bin .neq 3 v184.1 (.tup [])) else some (.tup [], v184.2)).bind fun v188 =>
          (E.p.pick v123 v188.1 (.bool false)).bind fun v189 =>
          condP v189
           (
            (E.p.buildSlice 22 1 [(0, x33)] v188.2).bind fun v190 =>
            (E.p.append 22 22 x9 v190.1 v190.2).bind fun v191 =>
            (E.p.load 58 v115.1 v191.2).bind fun v192 =>
            (E.p.store 58 x8 v192 v191.2).bind fun v193 =>
            (E.p.bin .add 3 x33 (.int .i64 1)).bind fun v194 =>
            K .normal (st0 x7 x8 v191.1 x31 x32 v194 v193))
           (
            (E.p.load 58 v115.1 v188.2).bind fun v195 =>
            (E.p.store 58 x8 v195 v188.2).bind fun v196 =>
            (E.p.bin .add 3 x33 (.int .i64 1)).bind fun v197 =>
            K .normal (st0 x7 x8 x9 x31 x32 v197 v196)))))))))
     (
      K (.exit 0) (se0_7_8_9_31_32_33_34 x7 x8 x9 x31 x32 x33 v110 h))
theorem body0_eq (E : Env) (K : PX → St → Res) (x7 x8 x9 x31 x32 x33 : PV) (h : PHeap) : ev (E.cx Tryd.prog kl) lp0 (st0 x7 x8 x9 x31 x32 x33 h) K = body0 E K x7 x8 x9 x31 x32 x33 h := by kernel_rfl
theorem after0_se0_7_8_9_31_32_33_34 (E : Env) (x7 x8 x9 x31 x32 x33 x34 : PV) (h : PHeap) : K0 E (kTop Tryd.prog Tryd.f18) (.exit 0) (se0_7_8_9_31_32_33_34 x7 x8 x9 x31 x32 x33 x34 h) =
    (resV x9).bind fun v109 =>
    some (v109, h) := by kernel_rfl
noncomputable def main (E : Env) (x0 x1 x2 : PV) (h : PHeap) : Res :=
    (E.C fn_impl_smallOk [x0, x1] h).bind fun v1 =>
    (E.p.un .not v1.1).bind fun v2 =>
    (wantV v2 false).bind fun v3 =>
    (bif v3 then some (x0, v1.2) else some (.tup [], v1.2)).bind fun v4 =>
    (wantV v2 false).bind fun v5 =>
    (bif v5 then some (x1, v4.2) else some (.tup [], v4.2)).bind fun v6 =>
    (wantV v2 false).bind fun v7 =>
    (bif v7 then some (x2, v6.2) else some (.tup [], v6.2)).bind fun v8 =>
    (wantV v2 false).bind fun v9 =>
    (bif v9 then E.C fn_impl_RecordOk [v4.1, v6.1, v8.1] v8.2 else some (.tup [], v8.2)).bind fun v10 =>
    (wantV v2 false).bind fun v11 =>
    (bif v11 then pv v10.2 (E.p.un .not v10.1) else some (.tup [], v10.2)).bind fun v12 =>
    (E.p.pick v2 (.bool true) v12.1).bind fun v13 =>
    condP v13
     (
      (resV .nilsl).bind fun v14 =>
      some (v14, v12.2))
     (
      (E.C fn_impl_newSearch [x0, x1] v12.2).bind fun v15 =>
      (E.C fn_impl_freeBoard [x0, x1] v15.2).bind fun v16 =>
      (E.C fn_impl_standingOf [v16.1, (.int .i64 1)] v16.2).bind fun v17 =>
      (E.p.alloc 58 v17.2).bind fun v18 =>
      (E.p.store 58 v18.1 v17.1 v18.2).bind fun v19 =>
      (E.p.len 22 x2).bind fun v20 =>
      loopK (ev (E.cx Tryd.prog impl_SlipsOf.kl) impl_SlipsOf.lp0) E.lf (impl_SlipsOf.st0 v15.1 v18.1 .nilsl x2 v20 (.int .i64 0) v19) (impl_SlipsOf.K0 E (kTop Tryd.prog Tryd.f18)))
theorem main_eq (E : Env) (x0 x1 x2 : PV) (h : PHeap) : runBody (E.cx Tryd.prog kl) Tryd.f18 [x0, x1, x2] h = main E x0 x1 x2 h := by kernel_rfl
theorem call_eq (g : Nat → PV) (lf n : Nat) (x0 x1 x2 : PV) (h : PHeap) : CL g lf (n + 1) fn_impl_SlipsOf [x0, x1, x2] h = main (env g lf n) x0 x1 x2 h := by
  rw [← main_eq]
  show call Tryd.prog g KL lf (n + 1) 18 [x0, x1, x2] h = _
  rw [call_succ, Tryd.func18]
  kernel_rfl
end impl_SlipsOf
namespace spec_RecordOk
noncomputable def main (E : Env) (x0 x1 x2 : PV) (h : PHeap) : Res :=
    (E.C fn_spec_BoardOk [x0, x1] h).bind fun v1 =>
    (E.p.un .not v1.1).bind fun v2 =>
    condP v2
     (
      (resV (.bool false)).bind fun v3 =>
      some (v3, v1.2))
     (
      (E.C fn_spec_l11Play [x0, x1, x2] v1.2).bind fun v4 =>
      (E.p.extract v4.1 0).bind fun v5 =>
      (E.p.extract v4.1 1).bind fun v6 =>
      (resV v6).bind fun v7 =>
      some (v7, v4.2))
theorem main_eq (E : Env) (x0 x1 x2 : PV) (h : PHeap) : runBody (E.cx Tryd.prog kl) Tryd.f19 [x0, x1, x2] h = main E x0 x1 x2 h := by kernel_rfl
theorem call_eq (g : Nat → PV) (lf n : Nat) (x0 x1 x2 : PV) (h : PHeap) : CL g lf (n + 1) fn_spec_RecordOk [x0, x1, x2] h = main (env g lf n) x0 x1 x2 h := by
  rw [← main_eq]
  show call Tryd.prog g KL lf (n + 1) 19 [x0, x1, x2] h = _
  rw [call_succ, Tryd.func19]
  kernel_rfl
end spec_RecordOk
namespace spec_l11Play
noncomputable def lp0 : Code := (codeAt (bodyOf Tryd.f20) [1, 1, 1, 0, 1, 0, 0])
def st0 (x0 x1 x2 x8 x9 x10 : PV) (h : PHeap) : St := ⟨[x0, x1, x2, .junk, .junk, .junk, .junk, .junk, x8, x9, x10, .junk, .junk, .junk, .junk, .junk, .junk, .junk, .junk, .junk, .junk, .junk, .junk, .junk, .junk, .junk, .junk, .junk, .junk, .junk, .junk, .junk, .junk, .junk, .junk, .junk, .junk, .junk, .junk, .junk, .junk, .junk], h⟩
def sr_6_7 (x6 x7 : PV) (h : PHeap) : St := ⟨[.junk, .junk, .junk, .junk, .junk, .junk, x6, x7, .junk, .junk, .junk, .junk, .junk, .junk, .junk, .junk, .junk, .junk, .junk, .junk, .junk, .junk, .junk, .junk, .junk, .junk, .junk, .junk, .junk, .junk, .junk, .junk, .junk, .junk, .junk, .junk, .junk, .junk, .junk, .junk, .junk, .junk], h⟩
def se0_0_1_2_8_9_10_20 (x0 x1 x2 x8 x9 x10 x20 : PV) (h : PHeap) : St := ⟨[x0, x1, x2, .junk, .junk, .junk, .junk, .junk, x8, x9, x10, .junk, .junk, .junk, .junk, .junk, .junk, .junk, .junk, .junk, x20, .junk, .junk, .junk, .junk, .junk, .junk, .junk, .junk, .junk, .junk, .junk, .junk, .junk, .junk, .junk, .junk, .junk, .junk, .junk, .junk, .junk], h⟩
noncomputable def K0 (E : Env) (K : PX → St → Res) : PX → St → Res := (kBlock 0 (kSeq (ev (E.cx Tryd.prog kl) (codeAt (bodyOf Tryd.f20) [1, 1, 1, 1])) K))
@[simp] theorem K0_ret (E : Env) (K : PX → St → Res) (s : St) : K0 E K .ret s = K .ret s := by kernel_rfl
noncomputable def body0 (E : Env) (K : PX → St → Res) (x0 x1 x2 x8 x9 x10 : PV) (h : PHeap) : Res :=
    (E.p.len 22 x2).bind fun v16 =>
    (E.p.bin .lss 3 x10 v16).bind fun v17 =>
    condP v17
     (
      (E.p.indexAddr 22 x2 x10).bind fun v18 =>
      (E.p.load 3 v18 h).bind fun v19 =>
      (E.C fn_spec_Played [x0, x1, x8, v19, x9] h).bind fun v20 =>
      (E.p.extract v20.1 0).bind fun v21 =>
      (E.p.extract v20.1 1).bind fun v22 =>
      (E.p.un .not v22).bind fun v23 =>
      condP v23
       (
        (E.p.buildSlice 22 0 [] v20.2).bind fun v24 =>
        K .ret (sr_6_7 v24.1 (.bool false) v24.2))
       (
        (E.C fn_spec_l1Other [x9] v20.2).bind fun v25 =>
        (E.p.bin .add 3 x10 (.int .i64 1)).bind fun v26 =>
        K .normal (st0 x0 x1 x2 v21 v25.1 v26 v25.2)))
     (
      K (.exit 0) (se0_0_1_2_8_9_10_20 x0 x1 x2 x8 x9 x10 v17 h))
theorem body0_eq (E : Env) (K : PX → St → Res) (x0 x1 x2 x8 x9 x10 : PV) (h : PHeap) : ev (E.cx Tryd.prog kl) lp0 (st0 x0 x1 x2 x8 x9 x10 h) K = body0 E K x0 x1 x2 x8 x9 x10 h := by kernel_rfl
theorem after0_se0_0_1_2_8_9_10_20 (E : Env) (x0 x1 x2 x8 x9 x10 x20 : PV) (h : PHeap) : K0 E (kTop Tryd.prog Tryd.f20) (.exit 0) (se0_0_1_2_8_9_10_20 x0 x1 x2 x8 x9 x10 x20 h) =
    (resV x8).bind fun v14 =>
    (resV (.bool true)).bind fun v15 =>
    some (.tup [v14, v15], h) := by kernel_rfl
theorem top_sr_6_7 (x6 x7 : PV) (h : PHeap) : kTop Tryd.prog Tryd.f20 .ret (sr_6_7 x6 x7 h) =
    (resV x6).bind fun v27 =>
    (resV x7).bind fun v28 =>
    some (.tup [v27, v28], h) := by kernel_rfl
noncomputable def main (E : Env) (x0 x1 x2 : PV) (h : PHeap) : Res :=
    (E.p.bin .mul 3 x0 x1).bind fun v1 =>
    (E.p.make 22 v1 v1 h).bind fun v2 =>
    loopK (ev (E.cx Tryd.prog spec_l11Play.kl) spec_l11Play.lp0) E.lf (spec_l11Play.st0 x0 x1 x2 v2.1 (.int .i64 1) (.int .i64 0) v2.2) (spec_l11Play.K0 E (kTop Tryd.prog Tryd.f20))
theorem main_eq (E : Env) (x0 x1 x2 : PV) (h : PHeap) : runBody (E.cx Tryd.prog kl) Tryd.f20 [x0, x1, x2] h = main E x0 x1 x2 h := by kernel_rfl
theorem call_eq (g : Nat → PV) (lf n : Nat) (x0 x1 x2 : PV) (h : PHeap) : CL g lf (n + 1) fn_spec_l11Play [x0, x1, x2] h = main (env g lf n) x0 x1 x2 h := by
  rw [← main_eq]
  show call Tryd.prog g KL lf (n + 1) 20 [x0, x1, x2] h = _
  rw [call_succ, Tryd.func20]
  kernel_rfl
end spec_l11Play
namespace impl_BoardOk
noncomputable def main (E : Env) (x0 x1 : PV) (h : PHeap) : Res :=
    (E.C fn_impl_sizeOk [x0] h).bind fun v1 =>
    (wantV v1.1 true).bind fun v2 =>
    (bif v2 then some (x1, v1.2) else some (.tup [], v1.2)).bind fun v3 =>
    (wantV v1.1 true).bind fun v4 =>
    (bif v4 then E.C fn_impl_sizeOk [v3.1] v3.2 else some (.tup [], v3.2)).bind fun v5 =>
    (E.p.pick v1.1 v5.1 (.bool false)).bind fun v6 =>
    (wantV v6 true).bind fun v7 =>
    (bif v7 then some (x0, v5.2) else some (.tup [], v5.2)).bind fun v8 =>
    (wantV v6 true).bind fun v9 =>
    (bif v9 then some (x1, v8.2) else some (.tup [], v8.2)).bind fun v10 =>
    (wantV v6 true).bind fun v11 =>
    (bif v11 then pv v10.2 (E.p.bin .mul 3 v8.1 v10.1) else some (.tup [], v10.2)).bind fun v12 =>
    (wantV v6 true).bind fun v13 =>
    (bif v13 then pv v12.2 (E.p.bin .leq 3 v12.1 (.int .i64 9)) else some (.tup [], v12.2)).bind fun v14 =>
    (E.p.pick v6 v14.1 (.bool false)).bind fun v15 =>
    (resV v15).bind fun v16 =>
    some (v16, v14.2)
theorem main_eq (E : Env) (x0 x1 : PV) (h : PHeap) : runBody (E.cx Tryd.prog kl) Tryd.f21 [x0, x1] h = main E x0 x1 h := by kernel_rfl
theorem call_eq (g : Nat → PV) (lf n : Nat) (x0 x1 : PV) (h : PHeap) : CL g lf (n + 1) fn_impl_BoardOk [x0, x1] h = main (env g lf n) x0 x1 h := by
  rw [← main_eq]
  show call Tryd.prog g KL lf (n + 1) 21 [x0, x1] h = _
  rw [call_succ, Tryd.func21]
  kernel_rfl
end impl_BoardOk
namespace impl_freeBoard
noncomputable def main (E : Env) (x0 x1 : PV) (h : PHeap) : Res :=
    (E.C fn_impl_BoardOk [x0, x1] h).bind fun v1 =>
    (E.p.un .not v1.1).bind fun v2 =>
    condP v2
     (
      (resV .nilsl).bind fun v3 =>
      some (v3, v1.2))
     (
      (E.p.bin .mul 3 x0 x1).bind fun v4 =>
      (E.p.make 22 v4 v4 v1.2).bind fun v5 =>
      (resV v5.1).bind fun v6 =>
      some (v6, v5.2))
theorem main_eq (E : Env) (x0 x1 : PV) (h : PHeap) : runBody (E.cx Tryd.prog kl) Tryd.f22 [x0, x1] h = main E x0 x1 h := by kernel_rfl
theorem call_eq (g : Nat → PV) (lf n : Nat) (x0 x1 : PV) (h : PHeap) : CL g lf (n + 1) fn_impl_freeBoard [x0, x1] h = main (env g lf n) x0 x1 h := by
  rw [← main_eq]
  show call Tryd.prog g KL lf (n + 1) 22 [x0, x1] h = _
  rw [call_succ, Tryd.func22]
  kernel_rfl
end impl_freeBoard
namespace impl_Played
noncomputable def main (E : Env) (x0 x1 x2 x3 x4 : PV) (h : PHeap) : Res :=
    (E.C fn_impl_MoveOk [x0, x1, x2, x3, x4] h).bind fun v1 =>
    (E.p.un .not v1.1).bind fun v2 =>
    condP v2
     (
      (resV .nilsl).bind fun v3 =>
      (resV (.bool false)).bind fun v4 =>
      some (.tup [v3, v4], v1.2))
     (
      (E.C fn_slices_Clone___int_int_ [x2] v1.2).bind fun v5 =>
      (E.p.indexAddr 22 v5.1 x3).bind fun v6 =>
      (E.p.store 3 v6 x4 v5.2).bind fun v7 =>
      (resV v5.1).bind fun v8 =>
      (resV (.bool true)).bind fun v9 =>
      some (.tup [v8, v9], v7))
theorem main_eq (E : Env) (x0 x1 x2 x3 x4 : PV) (h : PHeap) : runBody (E.cx Tryd.prog kl) Tryd.f23 [x0, x1, x2, x3, x4] h = main E x0 x1 x2 x3 x4 h := by kernel_rfl
theorem call_eq (g : Nat → PV) (lf n : Nat) (x0 x1 x2 x3 x4 : PV) (h : PHeap) : CL g lf (n + 1) fn_impl_Played [x0, x1, x2, x3, x4] h = main (env g lf n) x0 x1 x2 x3 x4 h := by
  rw [← main_eq]
  show call Tryd.prog g KL lf (n + 1) 23 [x0, x1, x2, x3, x4] h = _
  rw [call_succ, Tryd.func23]
  kernel_rfl
end impl_Played
namespace impl_exchanged
noncomputable def main (E : Env) (x0 : PV) (h : PHeap) : Res :=
    (E.p.bin .eql 3 x0 (.int .i64 1)).bind fun v1 =>
    condP v1
     (
      (resV (.int .i64 2)).bind fun v2 =>
      some (v2, h))
     (
      (E.p.bin .eql 3 x0 (.int .i64 2)).bind fun v3 =>
      condP v3
       (
        (resV (.int .i64 1)).bind fun v4 =>
        some (v4, h))
       (
        (resV x0).bind fun v5 =>
        some (v5, h)))
theorem main_eq (E : Env) (x0 : PV) (h : PHeap) : runBody (E.cx Tryd.prog kl) Tryd.f24 [x0] h = main E x0 h := by kernel_rfl
theorem call_eq (g : Nat → PV) (lf n : Nat) (x0 : PV) (h : PHeap) : CL g lf (n + 1) fn_impl_exchanged [x0] h = main (env g lf n) x0 h := by
  rw [← main_eq]
  show call Tryd.prog g KL lf (n + 1) 24 [x0] h = _
  rw [call_succ, Tryd.func24]
  kernel_rfl
end impl_exchanged
namespace spec_l1Number
noncomputable def main (E : Env) (x0 : PV) (h : PHeap) : Res :=
    (E.p.bin .lss 3 x0 (.int .i64 10)).bind fun v1 =>
    condP v1
     (
      (E.p.max x0 [(.int .i64 0)]).bind fun v2 =>
      (E.p.bin .add 3 (.int .i64 48) v2).bind fun v3 =>
      (E.p.conv 3 5 v3).bind fun v4 =>
      (E.p.buildSlice 64 1 [(0, v4)] h).bind fun v5 =>
      (E.p.bstr 64 9 v5.1 v5.2).bind fun v6 =>
      (resV v6).bind fun v7 =>
      some (v7, v5.2))
     (
      (E.p.bin .quo 3 x0 (.int .i64 10)).bind fun v8 =>
      (E.p.bin .rem 3 x0 (.int .i64 10)).bind fun v9 =>
      (E.p.bin .add 3 (.int .i64 48) v9).bind fun v10 =>
      (E.p.conv 3 5 v10).bind fun v11 =>
      (E.C fn_spec_l1Number [v8] h).bind fun v12 =>
      (E.p.buildSlice 64 1 [(0, (scalP v11))] []).bind fun v13 =>
      (E.p.bstr 64 9 v13.1 v13.2).bind fun v14 =>
      ckP (sc1 v14) (
      (E.p.bin .add 9 v12.1 v14).bind fun v15 =>
      (resV v15).bind fun v16 =>
      some (v16, v12.2)))
theorem main_eq (E : Env) (x0 : PV) (h : PHeap) : runBody (E.cx Tryd.prog kl) Tryd.f25 [x0] h = main E x0 h := by kernel_rfl
theorem call_eq (g : Nat → PV) (lf n : Nat) (x0 : PV) (h : PHeap) : CL g lf (n + 1) fn_spec_l1Number [x0] h = main (env g lf n) x0 h := by
  rw [← main_eq]
  show call Tryd.prog g KL lf (n + 1) 25 [x0] h = _
  rw [call_succ, Tryd.func25]
  kernel_rfl
end spec_l1Number
namespace spec_CellText
noncomputable def main (E : Env) (x0 x1 x2 : PV) (h : PHeap) : Res :=
    (E.C fn_spec_BoardOk [x0, x1] h).bind fun v1 =>
    (E.p.un .not v1.1).bind fun v2 =>
    (wantV v2 false).bind fun v3 =>
    (bif v3 then some (x2, v1.2) else some (.tup [], v1.2)).bind fun v4 =>
    (wantV v2 false).bind fun v5 =>
    (bif v5 then some (x0, v4.2) else some (.tup [], v4.2)).bind fun v6 =>
    (wantV v2 false).bind fun v7 =>
    (bif v7 then some (x1, v6.2) else some (.tup [], v6.2)).bind fun v8 =>
    (wantV v2 false).bind fun v9 =>
    (bif v9 then pv v8.2 (E.p.bin .mul 3 v6.1 v8.1) else some (.tup [], v8.2)).bind fun v10 =>
    (wantV v2 false).bind fun v11 =>
    (bif v11 then pv v10.2 (E.p.bin .sub 3 v10.1 (.int .i64 1)) else some (.tup [], v10.2)).bind fun v12 =>
    (wantV v2 false).bind fun v13 =>
    (bif v13 then E.C fn_spec_l1In [v4.1, (.int .i64 0), v12.1] v12.2 else some (.tup [], v12.2)).bind fun v14 =>
    (wantV v2 false).bind fun v15 =>
    (bif v15 then pv v14.2 (E.p.un .not v14.1) else some (.tup [], v14.2)).bind fun v16 =>
    (E.p.pick v2 (.bool true) v16.1).bind fun v17 =>
    condP v17
     (
      (resV (.str (sB []))).bind fun v18 =>
      some (v18, v16.2))
     (
      (E.p.bin .rem 3 x2 x1).bind fun v19 =>
      (E.p.bin .rem 3 x2 x1).bind fun v20 =>
      (E.p.bin .add 3 v20 (.int .i64 1)).bind fun v21 =>
      (E.p.slice 9 (.str (sB [97, 98, 99, 100])) (some v19) (some v21) v16.2).bind fun v22 =>
      (E.p.bin .quo 3 x2 x1).bind fun v23 =>
      (E.p.bin .add 3 v23 (.int .i64 1)).bind fun v24 =>
      (E.C fn_spec_l1Number [v24] v16.2).bind fun v25 =>
      (E.p.bin .add 9 v22 v25.1).bind fun v26 =>
      (resV v26).bind fun v27 =>
      some (v27, v25.2))
theorem main_eq (E : Env) (x0 x1 x2 : PV) (h : PHeap) : runBody (E.cx Tryd.prog kl) Tryd.f26 [x0, x1, x2] h = main E x0 x1 x2 h := by kernel_rfl
theorem call_eq (g : Nat → PV) (lf n : Nat) (x0 x1 x2 : PV) (h : PHeap) : CL g lf (n + 1) fn_spec_CellText [x0, x1, x2] h = main (env g lf n) x0 x1 x2 h := by
  rw [← main_eq]
  show call Tryd.prog g KL lf (n + 1) 26 [x0, x1, x2] h = _
  rw [call_succ, Tryd.func26]
  kernel_rfl
end spec_CellText
namespace impl_RecordOk
noncomputable def main (E : Env) (x0 x1 x2 : PV) (h : PHeap) : Res :=
    (E.C fn_impl_EndOf [x0, x1, x2] h).bind fun v1 =>
    (E.p.extract v1.1 0).bind fun v2 =>
    (E.p.extract v1.1 1).bind fun v3 =>
    (E.p.bin .neq 3 v3 (.int .i64 0)).bind fun v4 =>
    (resV v4).bind fun v5 =>
    some (v5, v1.2)
theorem main_eq (E : Env) (x0 x1 x2 : PV) (h : PHeap) : runBody (E.cx Tryd.prog kl) Tryd.f27 [x0, x1, x2] h = main E x0 x1 x2 h := by kernel_rfl
theorem call_eq (g : Nat → PV) (lf n : Nat) (x0 x1 x2 : PV) (h : PHeap) : CL g lf (n + 1) fn_impl_RecordOk [x0, x1, x2] h = main (env g lf n) x0 x1 x2 h := by
  rw [← main_eq]
  show call Tryd.prog g KL lf (n + 1) 27 [x0, x1, x2] h = _
  rw [call_succ, Tryd.func27]
  kernel_rfl
end impl_RecordOk
namespace impl_boardText
noncomputable def main (E : Env) (x0 x1 : PV) (h : PHeap) : Res :=
    (E.C fn_strconv_Itoa [x0] h).bind fun v1 =>
    (E.p.bin .add 9 v1.1 (.str (sB [120]))).bind fun v2 =>
    (E.C fn_strconv_Itoa [x1] v1.2).bind fun v3 =>
    (E.p.bin .add 9 v2 v3.1).bind fun v4 =>
    (resV v4).bind fun v5 =>
    some (v5, v3.2)
theorem main_eq (E : Env) (x0 x1 : PV) (h : PHeap) : runBody (E.cx Tryd.prog kl) Tryd.f28 [x0, x1] h = main E x0 x1 h := by kernel_rfl
theorem call_eq (g : Nat → PV) (lf n : Nat) (x0 x1 : PV) (h : PHeap) : CL g lf (n + 1) fn_impl_boardText [x0, x1] h = main (env g lf n) x0 x1 h := by
  rw [← main_eq]
  show call Tryd.prog g KL lf (n + 1) 28 [x0, x1] h = _
  rw [call_succ, Tryd.func28]
  kernel_rfl
end impl_boardText
namespace impl_CellText
noncomputable def main (E : Env) (x0 x1 x2 : PV) (h : PHeap) : Res :=
    (E.C fn_impl_cellOk [x0, x1, x2] h).bind fun v1 =>
    (E.p.un .not v1.1).bind fun v2 =>
    condP v2
     (
      (resV (.str (sB []))).bind fun v3 =>
      some (v3, v1.2))
     (
      (E.p.bin .rem 3 x2 x1).bind fun v4 =>
      (E.p.bin .add 3 (.int .i64 97) v4).bind fun v5 =>
      (E.p.conv 3 21 v5).bind fun v6 =>
      (E.p.conv 21 9 v6).bind fun v7 =>
      (E.p.bin .quo 3 x2 x1).bind fun v8 =>
      (E.p.bin .add 3 v8 (.int .i64 1)).bind fun v9 =>
      (E.C fn_strconv_Itoa [v9] v1.2).bind fun v10 =>
      (E.p.bin .add 9 v7 v10.1).bind fun v11 =>
      (resV v11).bind fun v12 =>
      some (v12, v10.2))
theorem main_eq (E : Env) (x0 x1 x2 : PV) (h : PHeap) : runBody (E.cx Tryd.prog kl) Tryd.f29 [x0, x1, x2] h = main E x0 x1 x2 h := by kernel_rfl
theorem call_eq (g : Nat → PV) (lf n : Nat) (x0 x1 x2 : PV) (h : PHeap) : CL g lf (n + 1) fn_impl_CellText [x0, x1, x2] h = main (env g lf n) x0 x1 x2 h := by
  rw [← main_eq]
  show call Tryd.prog g KL lf (n + 1) 29 [x0, x1, x2] h = _
  rw [call_succ, Tryd.func29]
  kernel_rfl
end impl_CellText
namespace spec_l1Cut
noncomputable def lp0 : Code := (codeAt (bodyOf Tryd.f30) [1, 1, 1, 0, 1, 0, 0])
def st0 (x0 x1 x5 x6 x7 : PV) (h : PHeap) : St := ⟨[x0, x1, .junk, .junk, .junk, x5, x6, x7, .junk, .junk, .junk, .junk, .junk, .junk, .junk, .junk, .junk, .junk, .junk, .junk, .junk, .junk, .junk, .junk, .junk, .junk, .junk, .junk, .junk, .junk, .junk, .junk, .junk, .junk, .junk], h⟩
def se0_0_1_5_6_7_12 (x0 x1 x5 x6 x7 x12 : PV) (h : PHeap) : St := ⟨[x0, x1, .junk, .junk, .junk, x5, x6, x7, .junk, .junk, .junk, .junk, x12, .junk, .junk, .junk, .junk, .junk, .junk, .junk, .junk, .junk, .junk, .junk, .junk, .junk, .junk, .junk, .junk, .junk, .junk, .junk, .junk, .junk, .junk], h⟩
noncomputable def K0 (E : Env) (K : PX → St → Res) : PX → St → Res := (kBlock 0 (kSeq (ev (E.cx Tryd.prog kl) (codeAt (bodyOf Tryd.f30) [1, 1, 1, 1])) K))
@[simp] theorem K0_ret (E : Env) (K : PX → St → Res) (s : St) : K0 E K .ret s = K .ret s := by kernel_rfl
noncomputable def body0 (E : Env) (K : PX → St → Res) (x0 x1 x5 x6 x7 : PV) (h : PHeap) : Res :=
    (E.p.len 9 x0).bind fun v16 =>
    (E.p.bin .lss 3 x7 v16).bind fun v17 =>
    condP v17
     (
      (E.p.index 9 x0 x7).bind fun v18 =>
      (E.p.bin .eql 5 v18 x1).bind fun v19 =>
      condP v19
       (
        (E.p.slice 9 x0 (some x6) (some x7) h).bind fun v20 =>
        (E.p.buildSlice 43 1 [(0, v20)] h).bind fun v21 =>
        (E.p.append 43 43 x5 v21.1 v21.2).bind fun v22 =>
        (E.p.bin .add 3 x7 (.int .i64 1)).bind fun v23 =>
        (E.p.bin .add 3 x7 (.int .i64 1)).bind fun v24 =>
        K .normal (st0 x0 x1 v22.1 v23 v24 v22.2))
       (
        (E.p.bin .add 3 x7 (.int .i64 1)).bind fun v25 =>
        K .normal (st0 x0 x1 x5 x6 v25 h)))
     (
      K (.exit 0) (se0_0_1_5_6_7_12 x0 x1 x5 x6 x7 v17 h))
theorem body0_eq (E : Env) (K : PX → St → Res) (x0 x1 x5 x6 x7 : PV) (h : PHeap) : ev (E.cx Tryd.prog kl) lp0 (st0 x0 x1 x5 x6 x7 h) K = body0 E K x0 x1 x5 x6 x7 h := by kernel_rfl
theorem after0_se0_0_1_5_6_7_12 (E : Env) (x0 x1 x5 x6 x7 x12 : PV) (h : PHeap) : K0 E (kTop Tryd.prog Tryd.f30) (.exit 0) (se0_0_1_5_6_7_12 x0 x1 x5 x6 x7 x12 h) =
    (E.p.slice 9 x0 (some x6) none h).bind fun v12 =>
    (E.p.buildSlice 43 1 [(0, v12)] h).bind fun v13 =>
    (E.p.append 43 43 x5 v13.1 v13.2).bind fun v14 =>
    (resV v14.1).bind fun v15 =>
    some (v15, v14.2) := by kernel_rfl
noncomputable def main (E : Env) (x0 x1 : PV) (h : PHeap) : Res :=
    (E.p.buildSlice 43 0 [] h).bind fun v1 =>
    loopK (ev (E.cx Tryd.prog spec_l1Cut.kl) spec_l1Cut.lp0) E.lf (spec_l1Cut.st0 x0 x1 v1.1 (.int .i64 0) (.int .i64 0) v1.2) (spec_l1Cut.K0 E (kTop Tryd.prog Tryd.f30))
theorem main_eq (E : Env) (x0 x1 : PV) (h : PHeap) : runBody (E.cx Tryd.prog kl) Tryd.f30 [x0, x1] h = main E x0 x1 h := by kernel_rfl
theorem call_eq (g : Nat → PV) (lf n : Nat) (x0 x1 : PV) (h : PHeap) : CL g lf (n + 1) fn_spec_l1Cut [x0, x1] h = main (env g lf n) x0 x1 h := by
  rw [← main_eq]
  show call Tryd.prog g KL lf (n + 1) 30 [x0, x1] h = _
  rw [call_succ, Tryd.func30]
  kernel_rfl
end spec_l1Cut
namespace spec_l1Digits
noncomputable def lp0 : Code := (codeAt (bodyOf Tryd.f31) [1, 1, 1, 0, 1, 0, 0])
def st0 (x0 x3 x4 : PV) (h : PHeap) : St := ⟨[x0, .junk, .junk, x3, x4, .junk, .junk, .junk, .junk, .junk, .junk, .junk, .junk, .junk, .junk, .junk, .junk, .junk, .junk, .junk, .junk, .junk, .junk, .junk, .junk, .junk, .junk, .junk, .junk, .junk, .junk, .junk, .junk, .junk, .junk, .junk, .junk, .junk, .junk, .junk, .junk, .junk, .junk, .junk], h⟩
def sr_2 (x2 : PV) (h : PHeap) : St := ⟨[.junk, .junk, x2, .junk, .junk, .junk, .junk, .junk, .junk, .junk, .junk, .junk, .junk, .junk, .junk, .junk, .junk, .junk, .junk, .junk, .junk, .junk, .junk, .junk, .junk, .junk, .junk, .junk, .junk, .junk, .junk, .junk, .junk, .junk, .junk, .junk, .junk, .junk, .junk, .junk, .junk, .junk, .junk, .junk], h⟩
def se0_0_3_4_22 (x0 x3 x4 x22 : PV) (h : PHeap) : St := ⟨[x0, .junk, .junk, x3, x4, .junk, .junk, .junk, .junk, .junk, .junk, .junk, .junk, .junk, .junk, .junk, .junk, .junk, .junk, .junk, .junk, .junk, x22, .junk, .junk, .junk, .junk, .junk, .junk, .junk, .junk, .junk, .junk, .junk, .junk, .junk, .junk, .junk, .junk, .junk, .junk, .junk, .junk, .junk], h⟩
noncomputable def K0 (E : Env) (K : PX → St → Res) : PX → St → Res := (kBlock 0 (kSeq (ev (E.cx Tryd.prog kl) (codeAt (bodyOf Tryd.f31) [1, 1, 1, 1])) K))
@[simp] theorem K0_ret (E : Env) (K : PX → St → Res) (s : St) : K0 E K .ret s = K .ret s := by kernel_rfl
noncomputable def body0 (E : Env) (K : PX → St → Res) (x0 x3 x4 : PV) (h : PHeap) : Res :=
    (E.p.len 9 x0).bind fun v42 =>
    (E.p.bin .lss 3 x4 v42).bind fun v43 =>
    condP v43
     (
      (E.p.index 9 x0 x4).bind fun v44 =>
      (E.p.bin .lss 5 v44 (.int .u8 48)).bind fun v45 =>
      (wantV v45 false).bind fun v46 =>
      (bif v46 then some (x0, h) else some (.tup [], h)).bind fun v47 =>
      (wantV v45 false).bind fun v48 =>
      (bif v48 then some (x4, v47.2) else some (.tup [], v47.2)).bind fun v49 =>
      (wantV v45 false).bind fun v50 =>
      (bif v50 then pv v49.2 (E.p.index 9 v47.1 v49.1) else some (.tup [], v49.2)).bind fun v51 =>
      (wantV v45 false).bind fun v52 =>
      (bif v52 then pv v51.2 (E.p.bin .gtr 5 v51.1 (.int .u8 57)) else some (.tup [], v51.2)).bind fun v53 =>
      (E.p.pick v45 (.bool true) v53.1).bind fun v54 =>
      condP v54
       (
        K .ret (sr_2 (.int .i64 (-1)) v53.2))
       (
        (E.p.bin .mul 3 (.int .i64 10) x3).bind fun v55 =>
        (E.p.index 9 x0 x4).bind fun v56 =>
        (E.p.bin .sub 5 v56 (.int .u8 48)).bind fun v57 =>
        (E.p.conv 5 3 v57).bind fun v58 =>
        (E.p.bin .add 3 v55 v58).bind fun v59 =>
        (E.p.bin .add 3 x4 (.int .i64 1)).bind fun v60 =>
        K .normal (st0 x0 v59 v60 v53.2)))
     (
      K (.exit 0) (se0_0_3_4_22 x0 x3 x4 v43 h))
theorem body0_eq (E : Env) (K : PX → St → Res) (x0 x3 x4 : PV) (h : PHeap) : ev (E.cx Tryd.prog kl) lp0 (st0 x0 x3 x4 h) K = body0 E K x0 x3 x4 h := by kernel_rfl
theorem after0_se0_0_3_4_22 (E : Env) (x0 x3 x4 x22 : PV) (h : PHeap) : K0 E (kTop Tryd.prog Tryd.f31) (.exit 0) (se0_0_3_4_22 x0 x3 x4 x22 h) =
    (resV x3).bind fun v41 =>
    some (v41, h) := by kernel_rfl
theorem top_sr_2 (x2 : PV) (h : PHeap) : kTop Tryd.prog Tryd.f31 .ret (sr_2 x2 h) =
    (resV x2).bind fun v61 =>
    some (v61, h) := by kernel_rfl
noncomputable def main (E : Env) (x0 : PV) (h : PHeap) : Res :=
    (E.p.len 9 x0).bind fun v1 =>
    (E.C fn_spec_l1In [v1, (.int .i64 1), (.int .i64 6)] h).bind fun v2 =>
    (E.p.un .not v2.1).bind fun v3 =>
    (wantV v3 false).bind fun v4 =>
    (bif v4 then some (x0, v2.2) else some (.tup [], v2.2)).bind fun v5 =>
    (wantV v3 false).bind fun v6 =>
    (bif v6 then pv v5.2 (E.p.len 9 v5.1) else some (.tup [], v5.2)).bind fun v7 =>
    (wantV v3 false).bind fun v8 =>
    (bif v8 then pv v7.2 (E.p.bin .gtr 3 v7.1 (.int .i64 1)) else some (.tup [], v7.2)).bind fun v9 =>
    (wantV v3 false).bind fun v10 =>
    (bif v10 then some (v9.1, v9.2) else some (.tup [], v9.2)).bind fun v11 =>
    (wantV v11.1 true).bind fun v12 =>
    (bif v12 then some (x0, v11.2) else some (.tup [], v11.2)).bind fun v13 =>
    (wantV v11.1 true).bind fun v14 =>
    (bif v14 then pv v13.2 (E.p.index 9 v13.1 (.int .i64 0)) else some (.tup [], v13.2)).bind fun v15 =>
    (wantV v11.1 true).bind fun v16 =>
    (bif v16 then pv v15.2 (E.p.bin .eql 5 v15.1 (.int .u8 48)) else some (.tup [], v15.2)).bind fun v17 =>
    (wantV v3 false).bind fun v18 =>
    (bif v18 then pv v17.2 (E.p.pick v11.1 v17.1 (.bool false)) else some (.tup [], v17.2)).bind fun v19 =>
    (E.p.pick v3 (.bool true) v19.1).bind fun v20 =>
    condP v20
     (
      (resV (.int .i64 (-1))).bind fun v21 =>
      some (v21, v19.2))
     (
      loopK (ev (E.cx Tryd.prog spec_l1Digits.kl) spec_l1Digits.lp0) E.lf (spec_l1Digits.st0 x0 (.int .i64 0) (.int .i64 0) v19.2) (spec_l1Digits.K0 E (kTop Tryd.prog Tryd.f31)))
theorem main_eq (E : Env) (x0 : PV) (h : PHeap) : runBody (E.cx Tryd.prog kl) Tryd.f31 [x0] h = main E x0 h := by kernel_rfl
theorem call_eq (g : Nat → PV) (lf n : Nat) (x0 : PV) (h : PHeap) : CL g lf (n + 1) fn_spec_l1Digits [x0] h = main (env g lf n) x0 h := by
  rw [← main_eq]
  show call Tryd.prog g KL lf (n + 1) 31 [x0] h = _
  rw [call_succ, Tryd.func31]
  kernel_rfl
end spec_l1Digits
namespace spec_ReadCell
noncomputable def lp0 : Code := (codeAt (bodyOf Tryd.f32) [1, 0, 1, 0, 0])
def st0 (x0 x1 x2 x8 : PV) (h : PHeap) : St := ⟨[x0, x1, x2, .junk, .junk, .junk, .junk, .junk, x8, .junk, .junk, .junk, .junk, .junk, .junk, .junk, .junk, .junk, .junk, .junk, .junk, .junk, .junk, .junk, .junk, .junk, .junk, .junk], h⟩
def sr_6_7 (x6 x7 : PV) (h : PHeap) : St := ⟨[.junk, .junk, .junk, .junk, .junk, .junk, x6, x7, .junk, .junk, .junk, .junk, .junk, .junk, .junk, .junk, .junk, .junk, .junk, .junk, .junk, .junk, .junk, .junk, .junk, .junk, .junk, .junk], h⟩
def se0_0_1_2_8_18 (x0 x1 x2 x8 x18 : PV) (h : PHeap) : St := ⟨[x0, x1, x2, .junk, .junk, .junk, .junk, .junk, x8, .junk, .junk, .junk, .junk, .junk, .junk, .junk, .junk, .junk, x18, .junk, .junk, .junk, .junk, .junk, .junk, .junk, .junk, .junk], h⟩
noncomputable def K0 (E : Env) (K : PX → St → Res) : PX → St → Res := (kBlock 0 (kSeq (ev (E.cx Tryd.prog kl) (codeAt (bodyOf Tryd.f32) [1, 1])) K))
@[simp] theorem K0_ret (E : Env) (K : PX → St → Res) (s : St) : K0 E K .ret s = K .ret s := by kernel_rfl
noncomputable def body0 (E : Env) (K : PX → St → Res) (x0 x1 x2 x8 : PV) (h : PHeap) : Res :=
    (E.p.bin .mul 3 x0 x1).bind fun v15 =>
    (E.p.bin .lss 3 x8 v15).bind fun v16 =>
    (wantV v16 true).bind fun v17 =>
    (bif v17 then some (x0, h) else some (.tup [], h)).bind fun v18 =>
    (wantV v16 true).bind fun v19 =>
    (bif v19 then some (x1, v18.2) else some (.tup [], v18.2)).bind fun v20 =>
    (wantV v16 true).bind fun v21 =>
    (bif v21 then E.C fn_spec_BoardOk [v18.1, v20.1] v20.2 else some (.tup [], v20.2)).bind fun v22 =>
    (E.p.pick v16 v22.1 (.bool false)).bind fun v23 =>
    condP v23
     (
      (E.C fn_spec_CellText [x0, x1, x8] v22.2).bind fun v24 =>
      (E.p.bin .eql 9 v24.1 x2).bind fun v25 =>
      condP v25
       (
        K .ret (sr_6_7 x8 (.bool true) v24.2))
       (
        (E.p.bin .add 3 x8 (.int .i64 1)).bind fun v26 =>
        K .normal (st0 x0 x1 x2 v26 v24.2)))
     (
      K (.exit 0) (se0_0_1_2_8_18 x0 x1 x2 x8 v23 v22.2))
theorem body0_eq (E : Env) (K : PX → St → Res) (x0 x1 x2 x8 : PV) (h : PHeap) : ev (E.cx Tryd.prog kl) lp0 (st0 x0 x1 x2 x8 h) K = body0 E K x0 x1 x2 x8 h := by kernel_rfl
theorem after0_se0_0_1_2_8_18 (E : Env) (x0 x1 x2 x8 x18 : PV) (h : PHeap) : K0 E (kTop Tryd.prog Tryd.f32) (.exit 0) (se0_0_1_2_8_18 x0 x1 x2 x8 x18 h) =
    (resV (.int .i64 (-1))).bind fun v13 =>
    (resV (.bool false)).bind fun v14 =>
    some (.tup [v13, v14], h) := by kernel_rfl
theorem top_sr_6_7 (x6 x7 : PV) (h : PHeap) : kTop Tryd.prog Tryd.f32 .ret (sr_6_7 x6 x7 h) =
    (resV x6).bind fun v27 =>
    (resV x7).bind fun v28 =>
    some (.tup [v27, v28], h) := by kernel_rfl
noncomputable def main (E : Env) (x0 x1 x2 : PV) (h : PHeap) : Res :=
    loopK (ev (E.cx Tryd.prog spec_ReadCell.kl) spec_ReadCell.lp0) E.lf (spec_ReadCell.st0 x0 x1 x2 (.int .i64 0) h) (spec_ReadCell.K0 E (kTop Tryd.prog Tryd.f32))
theorem main_eq (E : Env) (x0 x1 x2 : PV) (h : PHeap) : runBody (E.cx Tryd.prog kl) Tryd.f32 [x0, x1, x2] h = main E x0 x1 x2 h := by kernel_rfl
theorem call_eq (g : Nat → PV) (lf n : Nat) (x0 x1 x2 : PV) (h : PHeap) : CL g lf (n + 1) fn_spec_ReadCell [x0, x1, x2] h = main (env g lf n) x0 x1 x2 h := by
  rw [← main_eq]
  show call Tryd.prog g KL lf (n + 1) 32 [x0, x1, x2] h = _
  rw [call_succ, Tryd.func32]
  kernel_rfl
end spec_ReadCell
namespace strings_Cut
noncomputable def main (E : Env) (x0 x1 : PV) (h : PHeap) : Res :=
    (E.C fn_internal_stringslite_Cut [x0, x1] h).bind fun v1 =>
    (E.p.extract v1.1 0).bind fun v2 =>
    (E.p.extract v1.1 1).bind fun v3 =>
    (E.p.extract v1.1 2).bind fun v4 =>
    (resV v2).bind fun v5 =>
    (resV v3).bind fun v6 =>
    (resV v4).bind fun v7 =>
    some (.tup [v5, v6, v7], v1.2)
theorem main_eq (E : Env) (x0 x1 : PV) (h : PHeap) : runBody (E.cx Tryd.prog kl) Tryd.f33 [x0, x1] h = main E x0 x1 h := by kernel_rfl
theorem call_eq (g : Nat → PV) (lf n : Nat) (x0 x1 : PV) (h : PHeap) : CL g lf (n + 1) fn_strings_Cut [x0, x1] h = main (env g lf n) x0 x1 h := by
  rw [← main_eq]
  show call Tryd.prog g KL lf (n + 1) 33 [x0, x1] h = _
  rw [call_succ, Tryd.func33]
  kernel_rfl
end strings_Cut
namespace impl_readBoard
noncomputable def lp0 : Code := (codeAt (bodyOf Tryd.f34) [1, 0, 1, 0, 0])
def st0 (x0 x5 : PV) (h : PHeap) : St := ⟨[x0, .junk, .junk, .junk, .junk, x5, .junk, .junk, .junk, .junk, .junk, .junk, .junk, .junk, .junk, .junk, .junk, .junk, .junk, .junk, .junk, .junk, .junk, .junk, .junk, .junk, .junk], h⟩
noncomputable def lp1 : Code := (codeAt (bodyOf Tryd.f34) [1, 0, 1, 0, 0, 1, 0, 0, 1, 0, 0])
def st1 (x0 x5 x6 : PV) (h : PHeap) : St := ⟨[x0, .junk, .junk, .junk, .junk, x5, x6, .junk, .junk, .junk, .junk, .junk, .junk, .junk, .junk, .junk, .junk, .junk, .junk, .junk, .junk, .junk, .junk, .junk, .junk, .junk, .junk], h⟩
def se0_0_5_8 (x0 x5 x8 : PV) (h : PHeap) : St := ⟨[x0, .junk, .junk, .junk, .junk, x5, .junk, .junk, x8, .junk, .junk, .junk, .junk, .junk, .junk, .junk, .junk, .junk, .junk, .junk, .junk, .junk, .junk, .junk, .junk, .junk, .junk], h⟩
def sr_2_3_4 (x2 x3 x4 : PV) (h : PHeap) : St := ⟨[.junk, .junk, x2, x3, x4, .junk, .junk, .junk, .junk, .junk, .junk, .junk, .junk, .junk, .junk, .junk, .junk, .junk, .junk, .junk, .junk, .junk, .junk, .junk, .junk, .junk, .junk], h⟩
def se2_0_5_6_12 (x0 x5 x6 x12 : PV) (h : PHeap) : St := ⟨[x0, .junk, .junk, .junk, .junk, x5, x6, .junk, .junk, .junk, .junk, .junk, x12, .junk, .junk, .junk, .junk, .junk, .junk, .junk, .junk, .junk, .junk, .junk, .junk, .junk, .junk], h⟩
noncomputable def K0 (E : Env) (K : PX → St → Res) : PX → St → Res := (kBlock 0 (kSeq (ev (E.cx Tryd.prog kl) (codeAt (bodyOf Tryd.f34) [1, 1])) K))
@[simp] theorem K0_ret (E : Env) (K : PX → St → Res) (s : St) : K0 E K .ret s = K .ret s := by kernel_rfl
noncomputable def K1 (E : Env) (K : PX → St → Res) : PX → St → Res := (kBlock 2 (kBlock 1 (kSeq (ev (E.cx Tryd.prog kl) (codeAt (bodyOf Tryd.f34) [1, 0, 1, 0, 0, 1, 1])) K)))
@[simp] theorem K1_ret (E : Env) (K : PX → St → Res) (s : St) : K1 E K .ret s = K .ret s := by kernel_rfl
noncomputable def body0 (E : Env) (K : PX → St → Res) (x0 x5 : PV) (h : PHeap) : Res :=
    (E.p.bin .leq 3 x5 (.int .i64 4)).bind fun v20 =>
    condP v20
     (
      loopK (ev (E.cx Tryd.prog impl_readBoard.kl) impl_readBoard.lp1) E.lf (impl_readBoard.st1 x0 x5 (.int .i64 1) h) (impl_readBoard.K1 E K))
     (
      K (.exit 0) (se0_0_5_8 x0 x5 v20 h))
theorem body0_eq (E : Env) (K : PX → St → Res) (x0 x5 : PV) (h : PHeap) : ev (E.cx Tryd.prog kl) lp0 (st0 x0 x5 h) K = body0 E K x0 x5 h := by kernel_rfl
noncomputable def body1 (E : Env) (K : PX → St → Res) (x0 x5 x6 : PV) (h : PHeap) : Res :=
    (E.p.bin .leq 3 x6 (.int .i64 4)).bind fun v21 =>
    condP v21
     (
      (E.C fn_impl_BoardOk [x5, x6] h).bind fun v22 =>
      (wantV v22.1 true).bind fun v23 =>
      (bif v23 then some (x5, v22.2) else some (.tup [], v22.2)).bind fun v24 =>
      (wantV v22.1 true).bind fun v25 =>
      (bif v25 then some (x6, v24.2) else some (.tup [], v24.2)).bind fun v26 =>
      (wantV v22.1 true).bind fun v27 =>
      (bif v27 then E.C fn_impl_boardText [v24.1, v26.1] v26.2 else some (.tup [], v26.2)).bind fun v28 =>
      (wantV v22.1 true).bind fun v29 =>
      (bif v29 then some (x0, v28.2) else some (.tup [], v28.2)).bind fun v30 =>
      (wantV v22.1 true).bind fun v31 =>
      (bif v31 then pv v30.2 (E.p.bin .eql 9 v28.1 v30.1) else some (.tup [], v30.2)).bind fun v32 =>
      (E.p.pick v22.1 v32.1 (.bool false)).bind fun v33 =>
      condP v33
       (
        K .ret (sr_2_3_4 x5 x6 (.bool true) v32.2))
       (
        (E.p.bin .add 3 x6 (.int .i64 1)).bind fun v34 =>
        K .normal (st1 x0 x5 v34 v32.2)))
     (
      K (.exit 2) (se2_0_5_6_12 x0 x5 x6 v21 h))
theorem body1_eq (E : Env) (K : PX → St → Res) (x0 x5 x6 : PV) (h : PHeap) : ev (E.cx Tryd.prog kl) lp1 (st1 x0 x5 x6 h) K = body1 E K x0 x5 x6 h := by kernel_rfl
theorem after0_se0_0_5_8 (E : Env) (x0 x5 x8 : PV) (h : PHeap) : K0 E (kTop Tryd.prog Tryd.f34) (.exit 0) (se0_0_5_8 x0 x5 x8 h) =
    (resV (.int .i64 0)).bind fun v16 =>
    (resV (.int .i64 0)).bind fun v17 =>
    (resV (.bool false)).bind fun v18 =>
    some (.tup [v16, v17, v18], h) := by kernel_rfl
theorem after1_se2_0_5_6_12 (E : Env) (K : PX → St → Res) (x0 x5 x6 x12 : PV) (h : PHeap) : K1 E K (.exit 2) (se2_0_5_6_12 x0 x5 x6 x12 h) =
    (E.p.bin .add 3 x5 (.int .i64 1)).bind fun v19 =>
    K .normal (st0 x0 v19 h) := by kernel_rfl
theorem top_sr_2_3_4 (x2 x3 x4 : PV) (h : PHeap) : kTop Tryd.prog Tryd.f34 .ret (sr_2_3_4 x2 x3 x4 h) =
    (resV x2).bind fun v35 =>
    (resV x3).bind fun v36 =>
    (resV x4).bind fun v37 =>
    some (.tup [v35, v36, v37], h) := by kernel_rfl
noncomputable def main (E : Env) (x0 : PV) (h : PHeap) : Res :=
    loopK (ev (E.cx Tryd.prog impl_readBoard.kl) impl_readBoard.lp0) E.lf (impl_readBoard.st0 x0 (.int .i64 1) h) (impl_readBoard.K0 E (kTop Tryd.prog Tryd.f34))
theorem main_eq (E : Env) (x0 : PV) (h : PHeap) : runBody (E.cx Tryd.prog kl) Tryd.f34 [x0] h = main E x0 h := by kernel_rfl
theorem call_eq (g : Nat → PV) (lf n : Nat) (x0 : PV) (h : PHeap) : CL g lf (n + 1) fn_impl_readBoard [x0] h = main (env g lf n) x0 h := by
  rw [← main_eq]
  show call Tryd.prog g KL lf (n + 1) 34 [x0] h = _
  rw [call_succ, Tryd.func34]
  kernel_rfl
end impl_readBoard
namespace impl_readMoves
noncomputable def lp0 : Code := (codeAt (bodyOf Tryd.f35) [1, 1, 1, 1, 0, 1, 0, 0])
def st0 (x0 x1 x9 x21 x22 x23 : PV) (h : PHeap) : St := ⟨[x0, x1, .junk, .junk, .junk, .junk, .junk, .junk, .junk, x9, .junk, .junk, .junk, .junk, .junk, .junk, .junk, .junk, .junk, .junk, .junk, x21, x22, x23, .junk, .junk, .junk, .junk, .junk, .junk, .junk, .junk, .junk, .junk, .junk, .junk, .junk, .junk, .junk, .junk, .junk, .junk], h⟩
def sr_6_7 (x6 x7 : PV) (h : PHeap) : St := ⟨[.junk, .junk, .junk, .junk, .junk, .junk, x6, x7, .junk, .junk, .junk, .junk, .junk, .junk, .junk, .junk, .junk, .junk, .junk, .junk, .junk, .junk, .junk, .junk, .junk, .junk, .junk, .junk, .junk, .junk, .junk, .junk, .junk, .junk, .junk, .junk, .junk, .junk, .junk, .junk, .junk, .junk], h⟩
def se0_0_1_9_21_22_23_24 (x0 x1 x9 x21 x22 x23 x24 : PV) (h : PHeap) : St := ⟨[x0, x1, .junk, .junk, .junk, .junk, .junk, .junk, .junk, x9, .junk, .junk, .junk, .junk, .junk, .junk, .junk, .junk, .junk, .junk, .junk, x21, x22, x23, x24, .junk, .junk, .junk, .junk, .junk, .junk, .junk, .junk, .junk, .junk, .junk, .junk, .junk, .junk, .junk, .junk, .junk], h⟩
noncomputable def K0 (E : Env) (K : PX → St → Res) : PX → St → Res := (kBlock 0 (kSeq (ev (E.cx Tryd.prog kl) (codeAt (bodyOf Tryd.f35) [1, 1, 1, 1, 1])) K))
@[simp] theorem K0_ret (E : Env) (K : PX → St → Res) (s : St) : K0 E K .ret s = K .ret s := by kernel_rfl
noncomputable def body0 (E : Env) (K : PX → St → Res) (x0 x1 x9 x21 x22 x23 : PV) (h : PHeap) : Res :=
    (E.p.bin .lss 3 x23 x22).bind fun v21 =>
    condP v21
     (
      (E.p.indexAddr 43 x21 x23).bind fun v22 =>
      (E.p.load 9 v22 h).bind fun v23 =>
      (E.C fn_impl_ReadCell [x0, x1, v23] h).bind fun v24 =>
      (E.p.extract v24.1 0).bind fun v25 =>
      (E.p.extract v24.1 1).bind fun v26 =>
      (E.p.un .not v26).bind fun v27 =>
      condP v27
       (
        K .ret (sr_6_7 .nilsl (.bool false) v24.2))
       (
        (E.p.buildSlice 22 1 [(0, v25)] v24.2).bind fun v28 =>
        (E.p.append 22 22 x9 v28.1 v28.2).bind fun v29 =>
        (E.p.bin .add 3 x23 (.int .i64 1)).bind fun v30 =>
        K .normal (st0 x0 x1 v29.1 x21 x22 v30 v29.2)))
     (
      K (.exit 0) (se0_0_1_9_21_22_23_24 x0 x1 x9 x21 x22 x23 v21 h))
theorem body0_eq (E : Env) (K : PX → St → Res) (x0 x1 x9 x21 x22 x23 : PV) (h : PHeap) : ev (E.cx Tryd.prog kl) lp0 (st0 x0 x1 x9 x21 x22 x23 h) K = body0 E K x0 x1 x9 x21 x22 x23 h := by kernel_rfl
theorem after0_se0_0_1_9_21_22_23_24 (E : Env) (x0 x1 x9 x21 x22 x23 x24 : PV) (h : PHeap) : K0 E (kTop Tryd.prog Tryd.f35) (.exit 0) (se0_0_1_9_21_22_23_24 x0 x1 x9 x21 x22 x23 x24 h) =
    (resV x9).bind fun v19 =>
    (resV (.bool true)).bind fun v20 =>
    some (.tup [v19, v20], h) := by kernel_rfl
theorem top_sr_6_7 (x6 x7 : PV) (h : PHeap) : kTop Tryd.prog Tryd.f35 .ret (sr_6_7 x6 x7 h) =
    (resV x6).bind fun v31 =>
    (resV x7).bind fun v32 =>
    some (.tup [v31, v32], h) := by kernel_rfl
noncomputable def main (E : Env) (x0 x1 x2 : PV) (h : PHeap) : Res :=
    (E.C fn_strings_Split [x2, (.str (sB [32]))] h).bind fun v1 =>
    (E.p.indexAddr 43 v1.1 (.int .i64 0)).bind fun v2 =>
    (E.p.load 9 v2 v1.2).bind fun v3 =>
    (E.p.bin .neq 9 v3 (.str (sB []))).bind fun v4 =>
    condP v4
     (
      (resV .nilsl).bind fun v5 =>
      (resV (.bool false)).bind fun v6 =>
      some (.tup [v5, v6], v1.2))
     (
      (E.p.slice 43 v1.1 (some (.int .i64 1)) none v1.2).bind fun v7 =>
      (E.p.len 43 v7).bind fun v8 =>
      loopK (ev (E.cx Tryd.prog impl_readMoves.kl) impl_readMoves.lp0) E.lf (impl_readMoves.st0 x0 x1 .nilsl v7 v8 (.int .i64 0) v1.2) (impl_readMoves.K0 E (kTop Tryd.prog Tryd.f35)))
theorem main_eq (E : Env) (x0 x1 x2 : PV) (h : PHeap) : runBody (E.cx Tryd.prog kl) Tryd.f35 [x0, x1, x2] h = main E x0 x1 x2 h := by kernel_rfl
theorem call_eq (g : Nat → PV) (lf n : Nat) (x0 x1 x2 : PV) (h : PHeap) : CL g lf (n + 1) fn_impl_readMoves [x0, x1, x2] h = main (env g lf n) x0 x1 x2 h := by
  rw [← main_eq]
  show call Tryd.prog g KL lf (n + 1) 35 [x0, x1, x2] h = _
  rw [call_succ, Tryd.func35]
  kernel_rfl
end impl_readMoves
namespace spec_l3Winner
noncomputable def main (E : Env) (x0 x1 x2 x3 : PV) (h : PHeap) : Res :=
    (E.C fn_spec_l2Masks [x0, x1] h).bind fun v1 =>
    (E.C fn_spec_l2Set [x2, (.int .i64 1)] v1.2).bind fun v2 =>
    (E.C fn_spec_l2Set [x2, (.int .i64 2)] v2.2).bind fun v3 =>
    (E.p.len 22 v1.1).bind fun v4 =>
    (E.C fn_spec_l3Table [v4] v3.2).bind fun v5 =>
    (E.C fn_spec_l3Solve [x0, x1, v1.1, v2.1, v3.1, x3, v5.1] v5.2).bind fun v6 =>
    (resV v6.1).bind fun v7 =>
    some (v7, v6.2)
theorem main_eq (E : Env) (x0 x1 x2 x3 : PV) (h : PHeap) : runBody (E.cx Tryd.prog kl) Tryd.f36 [x0, x1, x2, x3] h = main E x0 x1 x2 x3 h := by kernel_rfl
theorem call_eq (g : Nat → PV) (lf n : Nat) (x0 x1 x2 x3 : PV) (h : PHeap) : CL g lf (n + 1) fn_spec_l3Winner [x0, x1, x2, x3] h = main (env g lf n) x0 x1 x2 x3 h := by
  rw [← main_eq]
  show call Tryd.prog g KL lf (n + 1) 36 [x0, x1, x2, x3] h = _
  rw [call_succ, Tryd.func36]
  kernel_rfl
end spec_l3Winner
namespace spec_Played
noncomputable def main (E : Env) (x0 x1 x2 x3 x4 : PV) (h : PHeap) : Res :=
    (E.C fn_spec_MoveOk [x0, x1, x2, x3, x4] h).bind fun v1 =>
    (E.p.un .not v1.1).bind fun v2 =>
    condP v2
     (
      (E.p.buildSlice 22 0 [] v1.2).bind fun v3 =>
      (resV v3.1).bind fun v4 =>
      (resV (.bool false)).bind fun v5 =>
      some (.tup [v4, v5], v3.2))
     (
      (E.p.buildSlice 22 0 [] v1.2).bind fun v6 =>
      (E.p.append 22 22 v6.1 x2 v6.2).bind fun v7 =>
      (E.p.indexAddr 22 v7.1 x3).bind fun v8 =>
      (E.p.store 3 v8 x4 v7.2).bind fun v9 =>
      (resV v7.1).bind fun v10 =>
      (resV (.bool true)).bind fun v11 =>
      some (.tup [v10, v11], v9))
theorem main_eq (E : Env) (x0 x1 x2 x3 x4 : PV) (h : PHeap) : runBody (E.cx Tryd.prog kl) Tryd.f37 [x0, x1, x2, x3, x4] h = main E x0 x1 x2 x3 x4 h := by kernel_rfl
theorem call_eq (g : Nat → PV) (lf n : Nat) (x0 x1 x2 x3 x4 : PV) (h : PHeap) : CL g lf (n + 1) fn_spec_Played [x0, x1, x2, x3, x4] h = main (env g lf n) x0 x1 x2 x3 x4 h := by
  rw [← main_eq]
  show call Tryd.prog g KL lf (n + 1) 37 [x0, x1, x2, x3, x4] h = _
  rw [call_succ, Tryd.func37]
  kernel_rfl
end spec_Played
namespace spec_l1Other
noncomputable def main (E : Env) (x0 : PV) (h : PHeap) : Res :=
    (E.p.bin .eql 3 x0 (.int .i64 0)).bind fun v1 =>
    condP v1
     (
      (resV (.int .i64 0)).bind fun v2 =>
      some (v2, h))
     (
      (E.p.bin .sub 3 (.int .i64 3) x0).bind fun v3 =>
      (resV v3).bind fun v4 =>
      some (v4, h))
theorem main_eq (E : Env) (x0 : PV) (h : PHeap) : runBody (E.cx Tryd.prog kl) Tryd.f38 [x0] h = main E x0 h := by kernel_rfl
theorem call_eq (g : Nat → PV) (lf n : Nat) (x0 : PV) (h : PHeap) : CL g lf (n + 1) fn_spec_l1Other [x0] h = main (env g lf n) x0 h := by
  rw [← main_eq]
  show call Tryd.prog g KL lf (n + 1) 38 [x0] h = _
  rw [call_succ, Tryd.func38]
  kernel_rfl
end spec_l1Other
namespace impl_smallOk
noncomputable def main (E : Env) (x0 x1 : PV) (h : PHeap) : Res :=
    (E.C fn_impl_BoardOk [x0, x1] h).bind fun v1 =>
    (wantV v1.1 true).bind fun v2 =>
    (bif v2 then some (x0, v1.2) else some (.tup [], v1.2)).bind fun v3 =>
    (wantV v1.1 true).bind fun v4 =>
    (bif v4 then some (x1, v3.2) else some (.tup [], v3.2)).bind fun v5 =>
    (wantV v1.1 true).bind fun v6 =>
    (bif v6 then pv v5.2 (E.p.bin .mul 3 v3.1 v5.1) else some (.tup [], v5.2)).bind fun v7 =>
    (wantV v1.1 true).bind fun v8 =>
    (bif v8 then pv v7.2 (E.p.bin .leq 3 v7.1 (.int .i64 6)) else some (.tup [], v7.2)).bind fun v9 =>
    (E.p.pick v1.1 v9.1 (.bool false)).bind fun v10 =>
    (resV v10).bind fun v11 =>
    some (v11, v9.2)
theorem main_eq (E : Env) (x0 x1 : PV) (h : PHeap) : runBody (E.cx Tryd.prog kl) Tryd.f39 [x0, x1] h = main E x0 x1 h := by kernel_rfl
theorem call_eq (g : Nat → PV) (lf n : Nat) (x0 x1 : PV) (h : PHeap) : CL g lf (n + 1) fn_impl_smallOk [x0, x1] h = main (env g lf n) x0 x1 h := by
  rw [← main_eq]
  show call Tryd.prog g KL lf (n + 1) 39 [x0, x1] h = _
  rw [call_succ, Tryd.func39]
  kernel_rfl
end impl_smallOk
namespace impl_newSearch
noncomputable def lp0 : Code := (codeAt (bodyOf Tryd.f40) [1, 1, 0, 1, 0, 0])
def st0 (x0 x1 x5 x13 x14 : PV) (h : PHeap) : St := ⟨[x0, x1, .junk, .junk, .junk, x5, .junk, .junk, .junk, .junk, .junk, .junk, .junk, x13, x14, .junk, .junk, .junk, .junk, .junk, .junk, .junk, .junk, .junk, .junk, .junk, .junk, .junk, .junk, .junk, .junk, .junk, .junk, .junk, .junk, .junk, .junk, .junk, .junk, .junk, .junk, .junk, .junk, .junk, .junk, .junk, .junk, .junk, .junk, .junk], h⟩
noncomputable def lp1 : Code := (codeAt (bodyOf Tryd.f40) [1, 1, 1, 0, 1, 0, 0])
def st1 (x0 x1 x5 x7 : PV) (h : PHeap) : St := ⟨[x0, x1, .junk, .junk, .junk, x5, .junk, x7, .junk, .junk, .junk, .junk, .junk, .junk, .junk, .junk, .junk, .junk, .junk, .junk, .junk, .junk, .junk, .junk, .junk, .junk, .junk, .junk, .junk, .junk, .junk, .junk, .junk, .junk, .junk, .junk, .junk, .junk, .junk, .junk, .junk, .junk, .junk, .junk, .junk, .junk, .junk, .junk, .junk, .junk], h⟩
def se0_0_1_5_13_14_15 (x0 x1 x5 x13 x14 x15 : PV) (h : PHeap) : St := ⟨[x0, x1, .junk, .junk, .junk, x5, .junk, .junk, .junk, .junk, .junk, .junk, .junk, x13, x14, x15, .junk, .junk, .junk, .junk, .junk, .junk, .junk, .junk, .junk, .junk, .junk, .junk, .junk, .junk, .junk, .junk, .junk, .junk, .junk, .junk, .junk, .junk, .junk, .junk, .junk, .junk, .junk, .junk, .junk, .junk, .junk, .junk, .junk, .junk], h⟩
def se2_0_1_5_7_29 (x0 x1 x5 x7 x29 : PV) (h : PHeap) : St := ⟨[x0, x1, .junk, .junk, .junk, x5, .junk, x7, .junk, .junk, .junk, .junk, .junk, .junk, .junk, .junk, .junk, .junk, .junk, .junk, .junk, .junk, .junk, .junk, .junk, .junk, .junk, .junk, .junk, x29, .junk, .junk, .junk, .junk, .junk, .junk, .junk, .junk, .junk, .junk, .junk, .junk, .junk, .junk, .junk, .junk, .junk, .junk, .junk, .junk], h⟩
noncomputable def K0 (E : Env) (K : PX → St → Res) : PX → St → Res := (kBlock 0 (kSeq (ev (E.cx Tryd.prog kl) (codeAt (bodyOf Tryd.f40) [1, 1, 1])) K))
@[simp] theorem K0_ret (E : Env) (K : PX → St → Res) (s : St) : K0 E K .ret s = K .ret s := by kernel_rfl
noncomputable def K1 (E : Env) (K : PX → St → Res) : PX → St → Res := (kBlock 2 (kSeq (ev (E.cx Tryd.prog kl) (codeAt (bodyOf Tryd.f40) [1, 1, 1, 1])) K))
@[simp] theorem K1_ret (E : Env) (K : PX → St → Res) (s : St) : K1 E K .ret s = K .ret s := by kernel_rfl
noncomputable def body0 (E : Env) (K : PX → St → Res) (x0 x1 x5 x13 x14 : PV) (h : PHeap) : Res :=
    (E.p.bin .lss 3 x14 x13).bind fun v27 =>
    condP v27
     (
      (E.p.bin .shl 3 (.int .i64 1) x14).bind fun v28 =>
      (E.p.ptr x5).bind fun v29 =>
      (E.p.fieldAddr 72 v29 0).bind fun v30 =>
      (E.C fn_impl_withNear [x0, x1, v28] h).bind fun v31 =>
      (E.p.indexAddr 70 v30 x14).bind fun v32 =>
      (E.p.store 3 v32 v31.1 v31.2).bind fun v33 =>
      (E.p.bin .add 3 x14 (.int .i64 1)).bind fun v34 =>
      K .normal (st0 x0 x1 x5 x13 v34 v33))
     (
      K (.exit 0) (se0_0_1_5_13_14_15 x0 x1 x5 x13 x14 v27 h))
theorem body0_eq (E : Env) (K : PX → St → Res) (x0 x1 x5 x13 x14 : PV) (h : PHeap) : ev (E.cx Tryd.prog kl) lp0 (st0 x0 x1 x5 x13 x14 h) K = body0 E K x0 x1 x5 x13 x14 h := by kernel_rfl
noncomputable def body1 (E : Env) (K : PX → St → Res) (x0 x1 x5 x7 : PV) (h : PHeap) : Res :=
    (E.p.bin .leq 3 x7 (.int .i64 2)).bind fun v35 =>
    condP v35
     (
      (E.p.ptr x5).bind fun v36 =>
      (E.p.fieldAddr 72 v36 1).bind fun v37 =>
      (E.p.ptr x5).bind fun v38 =>
      (E.p.fieldAddr 72 v38 2).bind fun v39 =>
      (E.C fn_impl_sidesOf [x0, x1, x7] h).bind fun v40 =>
      (E.p.extract v40.1 0).bind fun v41 =>
      (E.p.extract v40.1 1).bind fun v42 =>
      (E.p.indexAddr 56 v37 x7).bind fun v43 =>
      (E.p.store 3 v43 v41 v40.2).bind fun v44 =>
      (E.p.indexAddr 56 v39 x7).bind fun v45 =>
      (E.p.store 3 v45 v42 v44).bind fun v46 =>
      (E.p.bin .add 3 x7 (.int .i64 1)).bind fun v47 =>
      K .normal (st1 x0 x1 x5 v47 v46))
     (
      K (.exit 2) (se2_0_1_5_7_29 x0 x1 x5 x7 v35 h))
theorem body1_eq (E : Env) (K : PX → St → Res) (x0 x1 x5 x7 : PV) (h : PHeap) : ev (E.cx Tryd.prog kl) lp1 (st1 x0 x1 x5 x7 h) K = body1 E K x0 x1 x5 x7 h := by kernel_rfl
theorem after0_se0_0_1_5_13_14_15 (E : Env) (x0 x1 x5 x13 x14 x15 : PV) (h : PHeap) : K0 E (kTop Tryd.prog Tryd.f40) (.exit 0) (se0_0_1_5_13_14_15 x0 x1 x5 x13 x14 x15 h) =
    loopK (ev (E.cx Tryd.prog impl_newSearch.kl) impl_newSearch.lp1) E.lf (impl_newSearch.st1 x0 x1 x5 (.int .i64 1) h) (impl_newSearch.K1 E (kTop Tryd.prog Tryd.f40)) := by kernel_rfl
theorem after1_se2_0_1_5_7_29 (E : Env) (x0 x1 x5 x7 x29 : PV) (h : PHeap) : K1 E (kTop Tryd.prog Tryd.f40) (.exit 2) (se2_0_1_5_7_29 x0 x1 x5 x7 x29 h) =
    (resV x5).bind fun v26 =>
    some (v26, h) := by kernel_rfl
noncomputable def main (E : Env) (x0 x1 : PV) (h : PHeap) : Res :=
    (E.p.makeMap none h).bind fun v1 =>
    (E.p.build 72 [(3, v1.1)]).bind fun v2 =>
    (E.p.box v2 v1.2).bind fun v3 =>
    (E.p.bin .mul 3 x0 x1).bind fun v4 =>
    loopK (ev (E.cx Tryd.prog impl_newSearch.kl) impl_newSearch.lp0) E.lf (impl_newSearch.st0 x0 x1 v3.1 v4 (.int .i64 0) v3.2) (impl_newSearch.K0 E (kTop Tryd.prog Tryd.f40))
theorem main_eq (E : Env) (x0 x1 : PV) (h : PHeap) : runBody (E.cx Tryd.prog kl) Tryd.f40 [x0, x1] h = main E x0 x1 h := by kernel_rfl
theorem call_eq (g : Nat → PV) (lf n : Nat) (x0 x1 : PV) (h : PHeap) : CL g lf (n + 1) fn_impl_newSearch [x0, x1] h = main (env g lf n) x0 x1 h := by
  rw [← main_eq]
  show call Tryd.prog g KL lf (n + 1) 40 [x0, x1] h = _
  rw [call_succ, Tryd.func40]
  kernel_rfl
end impl_newSearch
namespace impl_standingOf
noncomputable def lp0 : Code := (codeAt (bodyOf Tryd.f41) [1, 1, 0, 1, 0, 0])
def st0 (x0 x4 x5 x9 : PV) (h : PHeap) : St := ⟨[x0, .junk, .junk, .junk, x4, x5, .junk, .junk, .junk, x9, .junk, .junk, .junk, .junk, .junk, .junk, .junk, .junk, .junk, .junk], h⟩
def se0_0_4_5_9_10 (x0 x4 x5 x9 x10 : PV) (h : PHeap) : St := ⟨[x0, .junk, .junk, .junk, x4, x5, .junk, .junk, .junk, x9, x10, .junk, .junk, .junk, .junk, .junk, .junk, .junk, .junk, .junk], h⟩
noncomputable def K0 (E : Env) (K : PX → St → Res) : PX → St → Res := (kBlock 0 (kSeq (ev (E.cx Tryd.prog kl) (codeAt (bodyOf Tryd.f41) [1, 1, 1])) K))
@[simp] theorem K0_ret (E : Env) (K : PX → St → Res) (s : St) : K0 E K .ret s = K .ret s := by kernel_rfl
noncomputable def body0 (E : Env) (K : PX → St → Res) (x0 x4 x5 x9 : PV) (h : PHeap) : Res :=
    (E.p.bin .lss 3 x9 (.int .i64 3)).bind fun v14 =>
    condP v14
     (
      (E.C fn_impl_setOf [x0, x9] h).bind fun v15 =>
      (E.p.fieldAddr 58 x5 0).bind fun v16 =>
      (E.p.indexAddr 56 v16 x9).bind fun v17 =>
      (E.p.store 3 v17 v15.1 v15.2).bind fun v18 =>
      (E.p.bin .add 3 x9 (.int .i64 1)).bind fun v19 =>
      K .normal (st0 x0 x4 x5 v19 v18))
     (
      K (.exit 0) (se0_0_4_5_9_10 x0 x4 x5 x9 v14 h))
theorem body0_eq (E : Env) (K : PX → St → Res) (x0 x4 x5 x9 : PV) (h : PHeap) : ev (E.cx Tryd.prog kl) lp0 (st0 x0 x4 x5 x9 h) K = body0 E K x0 x4 x5 x9 h := by kernel_rfl
theorem after0_se0_0_4_5_9_10 (E : Env) (x0 x4 x5 x9 x10 : PV) (h : PHeap) : K0 E (kTop Tryd.prog Tryd.f41) (.exit 0) (se0_0_4_5_9_10 x0 x4 x5 x9 x10 h) =
    (E.p.load 58 x5 h).bind fun v11 =>
    (E.p.store 58 x4 v11 h).bind fun v12 =>
    (loadP Tryd.prog 58 x4 v12).bind fun v13 =>
    some (v13, v12) := by kernel_rfl
noncomputable def main (E : Env) (x0 x1 : PV) (h : PHeap) : Res :=
    (E.p.alloc 58 h).bind fun v1 =>
    (E.p.build 58 [(1, x1)]).bind fun v2 =>
    (E.p.alloc 58 v1.2).bind fun v3 =>
    (E.p.store 58 v3.1 v2 v3.2).bind fun v4 =>
    loopK (ev (E.cx Tryd.prog impl_standingOf.kl) impl_standingOf.lp0) E.lf (impl_standingOf.st0 x0 v1.1 v3.1 (.int .i64 0) v4) (impl_standingOf.K0 E (kTop Tryd.prog Tryd.f41))
theorem main_eq (E : Env) (x0 x1 : PV) (h : PHeap) : runBody (E.cx Tryd.prog kl) Tryd.f41 [x0, x1] h = main E x0 x1 h := by kernel_rfl
theorem call_eq (g : Nat → PV) (lf n : Nat) (x0 x1 : PV) (h : PHeap) : CL g lf (n + 1) fn_impl_standingOf [x0, x1] h = main (env g lf n) x0 x1 h := by
  rw [← main_eq]
  show call Tryd.prog g KL lf (n + 1) 41 [x0, x1] h = _
  rw [call_succ, Tryd.func41]
  kernel_rfl
end impl_standingOf
namespace impl_standing_after
noncomputable def main (E : Env) (x0 x1 : PV) (h : PHeap) : Res :=
    (E.p.box x0 h).bind fun v1 =>
    (E.p.alloc 58 v1.2).bind fun v2 =>
    (E.p.fieldAddr 58 v1.1 0).bind fun v3 =>
    (E.p.indexAddr 56 v3 (.int .i64 0)).bind fun v4 =>
    (E.p.bin .shl 3 (.int .i64 1) x1).bind fun v5 =>
    (E.p.fieldAddr 58 v1.1 0).bind fun v6 =>
    (E.p.load 3 v4 v2.2).bind fun v7 =>
    (E.p.bin .andNot 3 v7 v5).bind fun v8 =>
    (E.p.indexAddr 56 v6 (.int .i64 0)).bind fun v9 =>
    (E.p.store 3 v9 v8 v2.2).bind fun v10 =>
    (E.p.fieldAddr 58 v1.1 1).bind fun v11 =>
    (E.p.fieldAddr 58 v1.1 0).bind fun v12 =>
    (E.p.bin .shl 3 (.int .i64 1) x1).bind fun v13 =>
    (E.p.fieldAddr 58 v1.1 0).bind fun v14 =>
    (E.p.load 3 v11 v10).bind fun v15 =>
    (E.p.indexAddr 56 v12 v15).bind fun v16 =>
    (E.p.load 3 v16 v10).bind fun v17 =>
    (E.p.bin .or 3 v17 v13).bind fun v18 =>
    (E.p.indexAddr 56 v14 v15).bind fun v19 =>
    (E.p.store 3 v19 v18 v10).bind fun v20 =>
    (E.p.fieldAddr 58 v1.1 1).bind fun v21 =>
    (E.p.load 3 v21 v20).bind fun v22 =>
    (E.C fn_impl_exchanged [v22] v20).bind fun v23 =>
    (E.p.fieldAddr 58 v1.1 1).bind fun v24 =>
    (E.p.store 3 v24 v23.1 v23.2).bind fun v25 =>
    (E.p.load 58 v1.1 v25).bind fun v26 =>
    (E.p.store 58 v2.1 v26 v25).bind fun v27 =>
    (loadP Tryd.prog 58 v2.1 v27).bind fun v28 =>
    some (v28, v27)
theorem main_eq (E : Env) (x0 x1 : PV) (h : PHeap) : runBody (E.cx Tryd.prog kl) Tryd.f42 [x0, x1] h = main E x0 x1 h := by kernel_rfl
theorem call_eq (g : Nat → PV) (lf n : Nat) (x0 x1 : PV) (h : PHeap) : CL g lf (n + 1) fn_impl_standing_after [x0, x1] h = main (env g lf n) x0 x1 h := by
  rw [← main_eq]
  show call Tryd.prog g KL lf (n + 1) 42 [x0, x1] h = _
  rw [call_succ, Tryd.func42]
  kernel_rfl
end impl_standing_after
namespace impl_search_winner
noncomputable def main (E : Env) (x0 x1 : PV) (h : PHeap) : Res :=
    (E.p.box x1 h).bind fun v1 =>
    (E.p.ptr x0).bind fun v2 =>
    (E.p.fieldAddr 72 v2 3).bind fun v3 =>
    (E.p.load 69 v3 v1.2).bind fun v4 =>
    (E.p.load 58 v1.1 v1.2).bind fun v5 =>
    (E.p.lookup 69 v4 v5 true v1.2).bind fun v6 =>
    (E.p.extract v6 0).bind fun v7 =>
    (E.p.extract v6 1).bind fun v8 =>
    (E.p.un .not v8).bind fun v9 =>
    condP v9
     (
      (E.p.load 58 v1.1 v1.2).bind fun v10 =>
      (E.C fn_impl_search_solved [x0, v10] v1.2).bind fun v11 =>
      (E.p.ptr x0).bind fun v12 =>
      (E.p.fieldAddr 72 v12 3).bind fun v13 =>
      (E.p.load 69 v13 v11.2).bind fun v14 =>
      (E.p.load 58 v1.1 v11.2).bind fun v15 =>
      (E.p.update 69 v14 v15 v11.1 v11.2).bind fun v16 =>
      (resV v11.1).bind fun v17 =>
      some (v17, v16))
     (
      (resV v7).bind fun v18 =>
      some (v18, v1.2))
theorem main_eq (E : Env) (x0 x1 : PV) (h : PHeap) : runBody (E.cx Tryd.prog kl) Tryd.f43 [x0, x1] h = main E x0 x1 h := by kernel_rfl
theorem call_eq (g : Nat → PV) (lf n : Nat) (x0 x1 : PV) (h : PHeap) : CL g lf (n + 1) fn_impl_search_winner [x0, x1] h = main (env g lf n) x0 x1 h := by
  rw [← main_eq]
  show call Tryd.prog g KL lf (n + 1) 43 [x0, x1] h = _
  rw [call_succ, Tryd.func43]
  kernel_rfl
end impl_search_winner
namespace spec_BoardOk
noncomputable def main (E : Env) (x0 x1 : PV) (h : PHeap) : Res :=
    (E.C fn_spec_l1In [x0, (.int .i64 1), (.int .i64 4)] h).bind fun v1 =>
    (wantV v1.1 true).bind fun v2 =>
    (bif v2 then some (x1, v1.2) else some (.tup [], v1.2)).bind fun v3 =>
    (wantV v1.1 true).bind fun v4 =>
    (bif v4 then E.C fn_spec_l1In [v3.1, (.int .i64 1), (.int .i64 4)] v3.2 else some (.tup [], v3.2)).bind fun v5 =>
    (E.p.pick v1.1 v5.1 (.bool false)).bind fun v6 =>
    (wantV v6 true).bind fun v7 =>
    (bif v7 then some (x0, v5.2) else some (.tup [], v5.2)).bind fun v8 =>
    (wantV v6 true).bind fun v9 =>
    (bif v9 then some (x1, v8.2) else some (.tup [], v8.2)).bind fun v10 =>
    (wantV v6 true).bind fun v11 =>
    (bif v11 then pv v10.2 (E.p.bin .mul 3 v8.1 v10.1) else some (.tup [], v10.2)).bind fun v12 =>
    (wantV v6 true).bind fun v13 =>
    (bif v13 then pv v12.2 (E.p.bin .leq 3 v12.1 (.int .i64 9)) else some (.tup [], v12.2)).bind fun v14 =>
    (E.p.pick v6 v14.1 (.bool false)).bind fun v15 =>
    (resV v15).bind fun v16 =>
    some (v16, v14.2)
theorem main_eq (E : Env) (x0 x1 : PV) (h : PHeap) : runBody (E.cx Tryd.prog kl) Tryd.f44 [x0, x1] h = main E x0 x1 h := by kernel_rfl
theorem call_eq (g : Nat → PV) (lf n : Nat) (x0 x1 : PV) (h : PHeap) : CL g lf (n + 1) fn_spec_BoardOk [x0, x1] h = main (env g lf n) x0 x1 h := by
  rw [← main_eq]
  show call Tryd.prog g KL lf (n + 1) 44 [x0, x1] h = _
  rw [call_succ, Tryd.func44]
  kernel_rfl
end spec_BoardOk
namespace impl_sizeOk
noncomputable def main (E : Env) (x0 : PV) (h : PHeap) : Res :=
    (E.p.bin .geq 3 x0 (.int .i64 1)).bind fun v1 =>
    (wantV v1 true).bind fun v2 =>
    (bif v2 then some (x0, h) else some (.tup [], h)).bind fun v3 =>
    (wantV v1 true).bind fun v4 =>
    (bif v4 then pv v3.2 (E.p.bin .leq 3 v3.1 (.int .i64 4)) else some (.tup [], v3.2)).bind fun v5 =>
    (E.p.pick v1 v5.1 (.bool false)).bind fun v6 =>
    (resV v6).bind fun v7 =>
    some (v7, v5.2)
theorem main_eq (E : Env) (x0 : PV) (h : PHeap) : runBody (E.cx Tryd.prog kl) Tryd.f45 [x0] h = main E x0 h := by kernel_rfl
theorem call_eq (g : Nat → PV) (lf n : Nat) (x0 : PV) (h : PHeap) : CL g lf (n + 1) fn_impl_sizeOk [x0] h = main (env g lf n) x0 h := by
  rw [← main_eq]
  show call Tryd.prog g KL lf (n + 1) 45 [x0] h = _
  rw [call_succ, Tryd.func45]
  kernel_rfl
end impl_sizeOk
namespace impl_MoveOk
noncomputable def main (E : Env) (x0 x1 x2 x3 x4 : PV) (h : PHeap) : Res :=
    (E.C fn_impl_PositionOk [x0, x1, x2] h).bind fun v1 =>
    (E.p.un .not v1.1).bind fun v2 =>
    (wantV v2 false).bind fun v3 =>
    (bif v3 then some (x4, v1.2) else some (.tup [], v1.2)).bind fun v4 =>
    (wantV v2 false).bind fun v5 =>
    (bif v5 then E.C fn_impl_playerOk [v4.1] v4.2 else some (.tup [], v4.2)).bind fun v6 =>
    (wantV v2 false).bind fun v7 =>
    (bif v7 then pv v6.2 (E.p.un .not v6.1) else some (.tup [], v6.2)).bind fun v8 =>
    (E.p.pick v2 (.bool true) v8.1).bind fun v9 =>
    (wantV v9 false).bind fun v10 =>
    (bif v10 then some (x0, v8.2) else some (.tup [], v8.2)).bind fun v11 =>
    (wantV v9 false).bind fun v12 =>
    (bif v12 then some (x1, v11.2) else some (.tup [], v11.2)).bind fun v13 =>
    (wantV v9 false).bind fun v14 =>
    (bif v14 then some (x3, v13.2) else some (.tup [], v13.2)).bind fun v15 =>
    (wantV v9 false).bind fun v16 =>
    (bif v16 then E.C fn_impl_cellOk [v11.1, v13.1, v15.1] v15.2 else some (.tup [], v15.2)).bind fun v17 =>
    (wantV v9 false).bind fun v18 =>
    (bif v18 then pv v17.2 (E.p.un .not v17.1) else some (.tup [], v17.2)).bind fun v19 =>
    (E.p.pick v9 (.bool true) v19.1).bind fun v20 =>
    condP v20
     (
      (resV (.bool false)).bind fun v21 =>
      some (v21, v19.2))
     (
      (E.p.indexAddr 22 x2 x3).bind fun v22 =>
      (E.p.load 3 v22 v19.2).bind fun v23 =>
      (E.p.bin .eql 3 v23 (.int .i64 0)).bind fun v24 =>
      (wantV v24 true).bind fun v25 =>
      (bif v25 then some (x0, v19.2) else some (.tup [], v19.2)).bind fun v26 =>
      (wantV v24 true).bind fun v27 =>
      (bif v27 then some (x1, v26.2) else some (.tup [], v26.2)).bind fun v28 =>
      (wantV v24 true).bind fun v29 =>
      (bif v29 then some (x2, v28.2) else some (.tup [], v28.2)).bind fun v30 =>
      (wantV v24 true).bind fun v31 =>
      (bif v31 then E.C fn_impl_Joins [v26.1, v28.1, v30.1, (.int .i64 1)] v30.2 else some (.tup [], v30.2)).bind fun v32 =>
      (wantV v24 true).bind fun v33 =>
      (bif v33 then pv v32.2 (E.p.un .not v32.1) else some (.tup [], v32.2)).bind fun v34 =>
      (E.p.pick v24 v34.1 (.bool false)).bind fun v35 =>
      (wantV v35 true).bind fun v36 =>
      (bif v36 then some (x0, v34.2) else some (.tup [], v34.2)).bind fun v37 =>
      (wantV v35 true).bind fun v38 =>
      (bif v38 then some (x1, v37.2) else some (.tup [], v37.2)).bind fun v39 =>
      (wantV v35 true).bind fun v40 =>
      (bif v40 then some (x2, v39.2) else some (.tup [], v39.2)).bind fun v41 =>
      (wantV v35 true).bind fun v42 =>
      (bif v42 then E.C fn_impl_Joins [v37.1, v39.1, v41.1, (.int .i64 2)] v41.2 else some (.tup [], v41.2)).bind fun v43 =>
      (wantV v35 true).bind fun v44 =>
      (bif v44 then pv v43.2 (E.p.un .not v43.1) else some (.tup [], v43.2)).bind fun v45 =>
      (E.p.pick v35 v45.1 (.bool false)).bind fun v46 =>
      (resV v46).bind fun v47 =>
      some (v47, v45.2))
theorem main_eq (E : Env) (x0 x1 x2 x3 x4 : PV) (h : PHeap) : runBody (E.cx Tryd.prog kl) Tryd.f46 [x0, x1, x2, x3, x4] h = main E x0 x1 x2 x3 x4 h := by kernel_rfl
theorem call_eq (g : Nat → PV) (lf n : Nat) (x0 x1 x2 x3 x4 : PV) (h : PHeap) : CL g lf (n + 1) fn_impl_MoveOk [x0, x1, x2, x3, x4] h = main (env g lf n) x0 x1 x2 x3 x4 h := by
  rw [← main_eq]
  show call Tryd.prog g KL lf (n + 1) 46 [x0, x1, x2, x3, x4] h = _
  rw [call_succ, Tryd.func46]
  kernel_rfl
end impl_MoveOk
namespace slices_Clone___int_int_
noncomputable def main (E : Env) (x0 : PV) (h : PHeap) : Res :=
    (E.p.bin .eql 22 x0 .nilsl).bind fun v1 =>
    condP v1
     (
      (resV .nilsl).bind fun v2 =>
      some (v2, h))
     (
      (E.p.buildSlice 22 0 [] h).bind fun v3 =>
      (E.p.append 22 22 v3.1 x0 v3.2).bind fun v4 =>
      (resV v4.1).bind fun v5 =>
      some (v5, v4.2))
theorem main_eq (E : Env) (x0 : PV) (h : PHeap) : runBody (E.cx Tryd.prog kl) Tryd.f47 [x0] h = main E x0 h := by kernel_rfl
theorem call_eq (g : Nat → PV) (lf n : Nat) (x0 : PV) (h : PHeap) : CL g lf (n + 1) fn_slices_Clone___int_int_ [x0] h = main (env g lf n) x0 h := by
  rw [← main_eq]
  show call Tryd.prog g KL lf (n + 1) 47 [x0] h = _
  rw [call_succ, Tryd.func47]
  kernel_rfl
end slices_Clone___int_int_
namespace spec_l1In
noncomputable def main (E : Env) (x0 x1 x2 : PV) (h : PHeap) : Res :=
    (E.p.bin .geq 3 x0 x1).bind fun v1 =>
    (wantV v1 true).bind fun v2 =>
    (bif v2 then some (x0, h) else some (.tup [], h)).bind fun v3 =>
    (wantV v1 true).bind fun v4 =>
    (bif v4 then some (x2, v3.2) else some (.tup [], v3.2)).bind fun v5 =>
    (wantV v1 true).bind fun v6 =>
    (bif v6 then pv v5.2 (E.p.bin .leq 3 v3.1 v5.1) else some (.tup [], v5.2)).bind fun v7 =>
    (E.p.pick v1 v7.1 (.bool false)).bind fun v8 =>
    (resV v8).bind fun v9 =>
    some (v9, v7.2)
theorem main_eq (E : Env) (x0 x1 x2 : PV) (h : PHeap) : runBody (E.cx Tryd.prog kl) Tryd.f48 [x0, x1, x2] h = main E x0 x1 x2 h := by kernel_rfl
theorem call_eq (g : Nat → PV) (lf n : Nat) (x0 x1 x2 : PV) (h : PHeap) : CL g lf (n + 1) fn_spec_l1In [x0, x1, x2] h = main (env g lf n) x0 x1 x2 h := by
  rw [← main_eq]
  show call Tryd.prog g KL lf (n + 1) 48 [x0, x1, x2] h = _
  rw [call_succ, Tryd.func48]
  kernel_rfl
end spec_l1In
namespace strconv_Itoa
noncomputable def main (E : Env) (x0 : PV) (h : PHeap) : Res :=
    (E.C fn_internal_strconv_Itoa [x0] h).bind fun v1 =>
    (resV v1.1).bind fun v2 =>
    some (v2, v1.2)
theorem main_eq (E : Env) (x0 : PV) (h : PHeap) : runBody (E.cx Tryd.prog kl) Tryd.f49 [x0] h = main E x0 h := by kernel_rfl
theorem call_eq (g : Nat → PV) (lf n : Nat) (x0 : PV) (h : PHeap) : CL g lf (n + 1) fn_strconv_Itoa [x0] h = main (env g lf n) x0 h := by
  rw [← main_eq]
  show call Tryd.prog g KL lf (n + 1) 49 [x0] h = _
  rw [call_succ, Tryd.func49]
  kernel_rfl
end strconv_Itoa
namespace impl_cellOk
noncomputable def main (E : Env) (x0 x1 x2 : PV) (h : PHeap) : Res :=
    (E.C fn_impl_BoardOk [x0, x1] h).bind fun v1 =>
    (wantV v1.1 true).bind fun v2 =>
    (bif v2 then some (x2, v1.2) else some (.tup [], v1.2)).bind fun v3 =>
    (wantV v1.1 true).bind fun v4 =>
    (bif v4 then pv v3.2 (E.p.bin .geq 3 v3.1 (.int .i64 0)) else some (.tup [], v3.2)).bind fun v5 =>
    (E.p.pick v1.1 v5.1 (.bool false)).bind fun v6 =>
    (wantV v6 true).bind fun v7 =>
    (bif v7 then some (x2, v5.2) else some (.tup [], v5.2)).bind fun v8 =>
    (wantV v6 true).bind fun v9 =>
    (bif v9 then some (x0, v8.2) else some (.tup [], v8.2)).bind fun v10 =>
    (wantV v6 true).bind fun v11 =>
    (bif v11 then some (x1, v10.2) else some (.tup [], v10.2)).bind fun v12 =>
    (wantV v6 true).bind fun v13 =>
    (bif v13 then pv v12.2 (E.p.bin .mul 3 v10.1 v12.1) else some (.tup [], v12.2)).bind fun v14 =>
    (wantV v6 true).bind fun v15 =>
    (bif v15 then pv v14.2 (E.p.bin .lss 3 v8.1 v14.1) else some (.tup [], v14.2)).bind fun v16 =>
    (E.p.pick v6 v16.1 (.bool false)).bind fun v17 =>
    (resV v17).bind fun v18 =>
    some (v18, v16.2)
theorem main_eq (E : Env) (x0 x1 x2 : PV) (h : PHeap) : runBody (E.cx Tryd.prog kl) Tryd.f50 [x0, x1, x2] h = main E x0 x1 x2 h := by kernel_rfl
theorem call_eq (g : Nat → PV) (lf n : Nat) (x0 x1 x2 : PV) (h : PHeap) : CL g lf (n + 1) fn_impl_cellOk [x0, x1, x2] h = main (env g lf n) x0 x1 x2 h := by
  rw [← main_eq]
  show call Tryd.prog g KL lf (n + 1) 50 [x0, x1, x2] h = _
  rw [call_succ, Tryd.func50]
  kernel_rfl
end impl_cellOk
namespace internal_stringslite_Cut
noncomputable def main (E : Env) (x0 x1 : PV) (h : PHeap) : Res :=
    (E.C fn_internal_stringslite_Index [x0, x1] h).bind fun v1 =>
    (E.p.bin .geq 3 v1.1 (.int .i64 0)).bind fun v2 =>
    condP v2
     (
      (E.p.slice 9 x0 none (some v1.1) v1.2).bind fun v3 =>
      (E.p.len 9 x1).bind fun v4 =>
      (E.p.bin .add 3 v1.1 v4).bind fun v5 =>
      (E.p.slice 9 x0 (some v5) none v1.2).bind fun v6 =>
      (resV v3).bind fun v7 =>
      (resV v6).bind fun v8 =>
      (resV (.bool true)).bind fun v9 =>
      some (.tup [v7, v8, v9], v1.2))
     (
      (resV x0).bind fun v10 =>
      (resV (.str (sB []))).bind fun v11 =>
      (resV (.bool false)).bind fun v12 =>
      some (.tup [v10, v11, v12], v1.2))
theorem main_eq (E : Env) (x0 x1 : PV) (h : PHeap) : runBody (E.cx Tryd.prog kl) Tryd.f51 [x0, x1] h = main E x0 x1 h := by kernel_rfl
theorem call_eq (g : Nat → PV) (lf n : Nat) (x0 x1 : PV) (h : PHeap) : CL g lf (n + 1) fn_internal_stringslite_Cut [x0, x1] h = main (env g lf n) x0 x1 h := by
  rw [← main_eq]
  show call Tryd.prog g KL lf (n + 1) 51 [x0, x1] h = _
  rw [call_succ, Tryd.func51]
  kernel_rfl
end internal_stringslite_Cut
namespace strings_Split
noncomputable def main (E : Env) (x0 x1 : PV) (h : PHeap) : Res :=
    (E.C fn_strings_genSplit [x0, x1, (.int .i64 0), (.int .i64 (-1))] h).bind fun v1 =>
    (resV v1.1).bind fun v2 =>
    some (v2, v1.2)
theorem main_eq (E : Env) (x0 x1 : PV) (h : PHeap) : runBody (E.cx Tryd.prog kl) Tryd.f52 [x0, x1] h = main E x0 x1 h := by kernel_rfl
theorem call_eq (g : Nat → PV) (lf n : Nat) (x0 x1 : PV) (h : PHeap) : CL g lf (n + 1) fn_strings_Split [x0, x1] h = main (env g lf n) x0 x1 h := by
  rw [← main_eq]
  show call Tryd.prog g KL lf (n + 1) 52 [x0, x1] h = _
  rw [call_succ, Tryd.func52]
  kernel_rfl
end strings_Split
namespace impl_ReadCell
noncomputable def lp0 : Code := (codeAt (bodyOf Tryd.f53) [1, 0, 1, 0, 0])
def st0 (x0 x1 x2 x12 x13 : PV) (h : PHeap) : St := ⟨[x0, x1, x2, .junk, .junk, .junk, .junk, .junk, .junk, .junk, .junk, .junk, x12, x13, .junk, .junk, .junk, .junk, .junk, .junk, .junk, .junk, .junk, .junk], h⟩
def sr_6_7 (x6 x7 : PV) (h : PHeap) : St := ⟨[.junk, .junk, .junk, .junk, .junk, .junk, x6, x7, .junk, .junk, .junk, .junk, .junk, .junk, .junk, .junk, .junk, .junk, .junk, .junk, .junk, .junk, .junk, .junk], h⟩
def se0_0_1_2_12_13_14 (x0 x1 x2 x12 x13 x14 : PV) (h : PHeap) : St := ⟨[x0, x1, x2, .junk, .junk, .junk, .junk, .junk, .junk, .junk, .junk, .junk, x12, x13, x14, .junk, .junk, .junk, .junk, .junk, .junk, .junk, .junk, .junk], h⟩
noncomputable def K0 (E : Env) (K : PX → St → Res) : PX → St → Res := (kBlock 0 (kSeq (ev (E.cx Tryd.prog kl) (codeAt (bodyOf Tryd.f53) [1, 1])) K))
@[simp] theorem K0_ret (E : Env) (K : PX → St → Res) (s : St) : K0 E K .ret s = K .ret s := by kernel_rfl
noncomputable def body0 (E : Env) (K : PX → St → Res) (x0 x1 x2 x12 x13 : PV) (h : PHeap) : Res :=
    (E.p.bin .lss 3 x13 x12).bind fun v9 =>
    condP v9
     (
      (E.C fn_impl_CellText [x0, x1, x13] h).bind fun v10 =>
      (E.p.bin .eql 9 v10.1 x2).bind fun v11 =>
      condP v11
       (
        K .ret (sr_6_7 x13 (.bool true) v10.2))
       (
        (E.p.bin .add 3 x13 (.int .i64 1)).bind fun v12 =>
        K .normal (st0 x0 x1 x2 x12 v12 v10.2)))
     (
      K (.exit 0) (se0_0_1_2_12_13_14 x0 x1 x2 x12 x13 v9 h))
theorem body0_eq (E : Env) (K : PX → St → Res) (x0 x1 x2 x12 x13 : PV) (h : PHeap) : ev (E.cx Tryd.prog kl) lp0 (st0 x0 x1 x2 x12 x13 h) K = body0 E K x0 x1 x2 x12 x13 h := by kernel_rfl
theorem after0_se0_0_1_2_12_13_14 (E : Env) (x0 x1 x2 x12 x13 x14 : PV) (h : PHeap) : K0 E (kTop Tryd.prog Tryd.f53) (.exit 0) (se0_0_1_2_12_13_14 x0 x1 x2 x12 x13 x14 h) =
    (resV (.int .i64 (-1))).bind fun v7 =>
    (resV (.bool false)).bind fun v8 =>
    some (.tup [v7, v8], h) := by kernel_rfl
theorem top_sr_6_7 (x6 x7 : PV) (h : PHeap) : kTop Tryd.prog Tryd.f53 .ret (sr_6_7 x6 x7 h) =
    (resV x6).bind fun v13 =>
    (resV x7).bind fun v14 =>
    some (.tup [v13, v14], h) := by kernel_rfl
noncomputable def main (E : Env) (x0 x1 x2 : PV) (h : PHeap) : Res :=
    (E.C fn_impl_freeBoard [x0, x1] h).bind fun v1 =>
    (E.p.len 22 v1.1).bind fun v2 =>
    loopK (ev (E.cx Tryd.prog impl_ReadCell.kl) impl_ReadCell.lp0) E.lf (impl_ReadCell.st0 x0 x1 x2 v2 (.int .i64 0) v1.2) (impl_ReadCell.K0 E (kTop Tryd.prog Tryd.f53))
theorem main_eq (E : Env) (x0 x1 x2 : PV) (h : PHeap) : runBody (E.cx Tryd.prog kl) Tryd.f53 [x0, x1, x2] h = main E x0 x1 x2 h := by kernel_rfl
theorem call_eq (g : Nat → PV) (lf n : Nat) (x0 x1 x2 : PV) (h : PHeap) : CL g lf (n + 1) fn_impl_ReadCell [x0, x1, x2] h = main (env g lf n) x0 x1 x2 h := by
  rw [← main_eq]
  show call Tryd.prog g KL lf (n + 1) 53 [x0, x1, x2] h = _
  rw [call_succ, Tryd.func53]
  kernel_rfl
end impl_ReadCell
namespace spec_l2Masks
noncomputable def lp0 : Code := (codeAt (bodyOf Tryd.f54) [1, 1, 0, 1, 0, 0])
def st0 (x0 x1 x5 x6 : PV) (h : PHeap) : St := ⟨[x0, x1, .junk, .junk, .junk, x5, x6, .junk, .junk, .junk, .junk, .junk, .junk, .junk, .junk, .junk, .junk, .junk, .junk, .junk, .junk, .junk, .junk, .junk, .junk, .junk, .junk, .junk, .junk, .junk, .junk, .junk, .junk, .junk, .junk, .junk, .junk, .junk, .junk, .junk], h⟩
noncomputable def lp1 : Code := (codeAt (bodyOf Tryd.f54) [1, 1, 0, 1, 0, 0, 1, 0, 0, 1, 1, 0, 1, 0, 0])
def st1 (x0 x1 x5 x6 x7 x8 x9 : PV) (h : PHeap) : St := ⟨[x0, x1, .junk, .junk, .junk, x5, x6, x7, x8, x9, .junk, .junk, .junk, .junk, .junk, .junk, .junk, .junk, .junk, .junk, .junk, .junk, .junk, .junk, .junk, .junk, .junk, .junk, .junk, .junk, .junk, .junk, .junk, .junk, .junk, .junk, .junk, .junk, .junk, .junk], h⟩
def se0_0_1_5_6_15 (x0 x1 x5 x6 x15 : PV) (h : PHeap) : St := ⟨[x0, x1, .junk, .junk, .junk, x5, x6, .junk, .junk, .junk, .junk, .junk, .junk, .junk, .junk, x15, .junk, .junk, .junk, .junk, .junk, .junk, .junk, .junk, .junk, .junk, .junk, .junk, .junk, .junk, .junk, .junk, .junk, .junk, .junk, .junk, .junk, .junk, .junk, .junk], h⟩
def se2_0_1_5_6_7_8_9_25 (x0 x1 x5 x6 x7 x8 x9 x25 : PV) (h : PHeap) : St := ⟨[x0, x1, .junk, .junk, .junk, x5, x6, x7, x8, x9, .junk, .junk, .junk, .junk, .junk, .junk, .junk, .junk, .junk, .junk, .junk, .junk, .junk, .junk, .junk, x25, .junk, .junk, .junk, .junk, .junk, .junk, .junk, .junk, .junk, .junk, .junk, .junk, .junk, .junk], h⟩
noncomputable def K0 (E : Env) (K : PX → St → Res) : PX → St → Res := (kBlock 0 (kSeq (ev (E.cx Tryd.prog kl) (codeAt (bodyOf Tryd.f54) [1, 1, 1])) K))
@[simp] theorem K0_ret (E : Env) (K : PX → St → Res) (s : St) : K0 E K .ret s = K .ret s := by kernel_rfl
noncomputable def K1 (E : Env) (K : PX → St → Res) : PX → St → Res := (kBlock 2 (kSeq (ev (E.cx Tryd.prog kl) (codeAt (bodyOf Tryd.f54) [1, 1, 0, 1, 0, 0, 1, 0, 0, 1, 1, 1])) (kBlock 1 (kSeq (ev (E.cx Tryd.prog kl) (codeAt (bodyOf Tryd.f54) [1, 1, 0, 1, 0, 0, 1, 1])) K))))
@[simp] theorem K1_ret (E : Env) (K : PX → St → Res) (s : St) : K1 E K .ret s = K .ret s := by kernel_rfl
noncomputable def body0 (E : Env) (K : PX → St → Res) (x0 x1 x5 x6 : PV) (h : PHeap) : Res :=
    (E.p.bin .mul 3 x0 x1).bind fun v16 =>
    (E.p.bin .lss 3 x6 v16).bind fun v17 =>
    condP v17
     (
      (E.C fn_spec_l1Near [x0, x1, x6] h).bind fun v18 =>
      loopK (ev (E.cx Tryd.prog spec_l2Masks.kl) spec_l2Masks.lp1) E.lf (spec_l2Masks.st1 x0 x1 x5 x6 (.int .i64 0) v18.1 (.int .i64 0) v18.2) (spec_l2Masks.K1 E K))
     (
      K (.exit 0) (se0_0_1_5_6_15 x0 x1 x5 x6 v17 h))
theorem body0_eq (E : Env) (K : PX → St → Res) (x0 x1 x5 x6 : PV) (h : PHeap) : ev (E.cx Tryd.prog kl) lp0 (st0 x0 x1 x5 x6 h) K = body0 E K x0 x1 x5 x6 h := by kernel_rfl
noncomputable def body1 (E : Env) (K : PX → St → Res) (x0 x1 x5 x6 x7 x8 x9 : PV) (h : PHeap) : Res :=
    (E.p.len 22 x8).bind fun v19 =>
    (E.p.bin .lss 3 x9 v19).bind fun v20 =>
    condP v20
     (
      (E.p.indexAddr 22 x8 x9).bind fun v21 =>
      (E.p.load 3 v21 h).bind fun v22 =>
      (E.p.bin .shl 3 (.int .i64 1) v22).bind fun v23 =>
      (E.p.bin .or 3 x7 v23).bind fun v24 =>
      (E.p.bin .add 3 x9 (.int .i64 1)).bind fun v25 =>
      K .normal (st1 x0 x1 x5 x6 v24 x8 v25 h))
     (
      K (.exit 2) (se2_0_1_5_6_7_8_9_25 x0 x1 x5 x6 x7 x8 x9 v20 h))
theorem body1_eq (E : Env) (K : PX → St → Res) (x0 x1 x5 x6 x7 x8 x9 : PV) (h : PHeap) : ev (E.cx Tryd.prog kl) lp1 (st1 x0 x1 x5 x6 x7 x8 x9 h) K = body1 E K x0 x1 x5 x6 x7 x8 x9 h := by kernel_rfl
theorem after0_se0_0_1_5_6_15 (E : Env) (x0 x1 x5 x6 x15 : PV) (h : PHeap) : K0 E (kTop Tryd.prog Tryd.f54) (.exit 0) (se0_0_1_5_6_15 x0 x1 x5 x6 x15 h) =
    (resV x5).bind fun v12 =>
    some (v12, h) := by kernel_rfl
theorem after1_se2_0_1_5_6_7_8_9_25 (E : Env) (K : PX → St → Res) (x0 x1 x5 x6 x7 x8 x9 x25 : PV) (h : PHeap) : K1 E K (.exit 2) (se2_0_1_5_6_7_8_9_25 x0 x1 x5 x6 x7 x8 x9 x25 h) =
    (E.p.buildSlice 22 1 [(0, x7)] h).bind fun v13 =>
    (E.p.append 22 22 x5 v13.1 v13.2).bind fun v14 =>
    (E.p.bin .add 3 x6 (.int .i64 1)).bind fun v15 =>
    K .normal (st0 x0 x1 v14.1 v15 v14.2) := by kernel_rfl
noncomputable def main (E : Env) (x0 x1 : PV) (h : PHeap) : Res :=
    (E.p.buildSlice 22 0 [] h).bind fun v1 =>
    loopK (ev (E.cx Tryd.prog spec_l2Masks.kl) spec_l2Masks.lp0) E.lf (spec_l2Masks.st0 x0 x1 v1.1 (.int .i64 0) v1.2) (spec_l2Masks.K0 E (kTop Tryd.prog Tryd.f54))
theorem main_eq (E : Env) (x0 x1 : PV) (h : PHeap) : runBody (E.cx Tryd.prog kl) Tryd.f54 [x0, x1] h = main E x0 x1 h := by kernel_rfl
theorem call_eq (g : Nat → PV) (lf n : Nat) (x0 x1 : PV) (h : PHeap) : CL g lf (n + 1) fn_spec_l2Masks [x0, x1] h = main (env g lf n) x0 x1 h := by
  rw [← main_eq]
  show call Tryd.prog g KL lf (n + 1) 54 [x0, x1] h = _
  rw [call_succ, Tryd.func54]
  kernel_rfl
end spec_l2Masks
namespace spec_l3Solve
noncomputable def lp0 : Code := (codeAt (bodyOf Tryd.f55) [1, 1, 1, 1, 0, 1, 0, 0])
def st0 (x0 x1 x2 x3 x4 x5 x6 x15 x16 : PV) (h : PHeap) : St := ⟨[x0, x1, x2, x3, x4, x5, x6, .junk, .junk, .junk, .junk, .junk, .junk, .junk, .junk, x15, x16, .junk, .junk, .junk, .junk, .junk, .junk, .junk, .junk, .junk, .junk, .junk, .junk, .junk, .junk, .junk, .junk, .junk, .junk, .junk, .junk, .junk, .junk, .junk, .junk, .junk, .junk, .junk, .junk, .junk, .junk, .junk, .junk, .junk, .junk, .junk, .junk, .junk, .junk, .junk, .junk, .junk, .junk, .junk, .junk, .junk, .junk, .junk, .junk, .junk, .junk, .junk, .junk, .junk, .junk, .junk, .junk, .junk, .junk, .junk, .junk, .junk, .junk, .junk, .junk, .junk, .junk, .junk, .junk, .junk, .junk, .junk, .junk, .junk, .junk, .junk, .junk, .junk, .junk, .junk, .junk, .junk, .junk, .junk, .junk, .junk, .junk, .junk, .junk, .junk, .junk, .junk, .junk, .junk, .junk, .junk, .junk, .junk], h⟩
noncomputable def lp1 : Code := (codeAt (bodyOf Tryd.f55) [1, 1, 1, 1, 1, 1, 1, 1, 0, 1, 0, 0])
def st1 (x0 x1 x2 x3 x4 x5 x6 x15 x17 x18 : PV) (h : PHeap) : St := ⟨[x0, x1, x2, x3, x4, x5, x6, .junk, .junk, .junk, .junk, .junk, .junk, .junk, .junk, x15, .junk, x17, x18, .junk, .junk, .junk, .junk, .junk, .junk, .junk, .junk, .junk, .junk, .junk, .junk, .junk, .junk, .junk, .junk, .junk, .junk, .junk, .junk, .junk, .junk, .junk, .junk, .junk, .junk, .junk, .junk, .junk, .junk, .junk, .junk, .junk, .junk, .junk, .junk, .junk, .junk, .junk, .junk, .junk, .junk, .junk, .junk, .junk, .junk, .junk, .junk, .junk, .junk, .junk, .junk, .junk, .junk, .junk, .junk, .junk, .junk, .junk, .junk, .junk, .junk, .junk, .junk, .junk, .junk, .junk, .junk, .junk, .junk, .junk, .junk, .junk, .junk, .junk, .junk, .junk, .junk, .junk, .junk, .junk, .junk, .junk, .junk, .junk, .junk, .junk, .junk, .junk, .junk, .junk, .junk, .junk, .junk, .junk], h⟩
def se0_0_1_2_3_4_5_6_15_16_33 (x0 x1 x2 x3 x4 x5 x6 x15 x16 x33 : PV) (h : PHeap) : St := ⟨[x0, x1, x2, x3, x4, x5, x6, .junk, .junk, .junk, .junk, .junk, .junk, .junk, .junk, x15, x16, .junk, .junk, .junk, .junk, .junk, .junk, .junk, .junk, .junk, .junk, .junk, .junk, .junk, .junk, .junk, .junk, x33, .junk, .junk, .junk, .junk, .junk, .junk, .junk, .junk, .junk, .junk, .junk, .junk, .junk, .junk, .junk, .junk, .junk, .junk, .junk, .junk, .junk, .junk, .junk, .junk, .junk, .junk, .junk, .junk, .junk, .junk, .junk, .junk, .junk, .junk, .junk, .junk, .junk, .junk, .junk, .junk, .junk, .junk, .junk, .junk, .junk, .junk, .junk, .junk, .junk, .junk, .junk, .junk, .junk, .junk, .junk, .junk, .junk, .junk, .junk, .junk, .junk, .junk, .junk, .junk, .junk, .junk, .junk, .junk, .junk, .junk, .junk, .junk, .junk, .junk, .junk, .junk, .junk, .junk, .junk, .junk], h⟩
def se2_0_1_2_3_4_5_6_15_17_18_73 (x0 x1 x2 x3 x4 x5 x6 x15 x17 x18 x73 : PV) (h : PHeap) : St := ⟨[x0, x1, x2, x3, x4, x5, x6, .junk, .junk, .junk, .junk, .junk, .junk, .junk, .junk, x15, .junk, x17, x18, .junk, .junk, .junk, .junk, .junk, .junk, .junk, .junk, .junk, .junk, .junk, .junk, .junk, .junk, .junk, .junk, .junk, .junk, .junk, .junk, .junk, .junk, .junk, .junk, .junk, .junk, .junk, .junk, .junk, .junk, .junk, .junk, .junk, .junk, .junk, .junk, .junk, .junk, .junk, .junk, .junk, .junk, .junk, .junk, .junk, .junk, .junk, .junk, .junk, .junk, .junk, .junk, .junk, .junk, x73, .junk, .junk, .junk, .junk, .junk, .junk, .junk, .junk, .junk, .junk, .junk, .junk, .junk, .junk, .junk, .junk, .junk, .junk, .junk, .junk, .junk, .junk, .junk, .junk, .junk, .junk, .junk, .junk, .junk, .junk, .junk, .junk, .junk, .junk, .junk, .junk, .junk, .junk, .junk, .junk], h⟩
noncomputable def K0 (E : Env) (K : PX → St → Res) : PX → St → Res := (kBlock 0 (kSeq (ev (E.cx Tryd.prog kl) (codeAt (bodyOf Tryd.f55) [1, 1, 1, 1, 1])) K))
@[simp] theorem K0_ret (E : Env) (K : PX → St → Res) (s : St) : K0 E K .ret s = K .ret s := by kernel_rfl
noncomputable def K1 (E : Env) (K : PX → St → Res) : PX → St → Res := (kBlock 2 (kSeq (ev (E.cx Tryd.prog kl) (codeAt (bodyOf Tryd.f55) [1, 1, 1, 1, 1, 1, 1, 1, 1])) K))
@[simp] theorem K1_ret (E : Env) (K : PX → St → Res) (s : St) : K1 E K .ret s = K .ret s := by kernel_rfl
noncomputable def body0 (E : Env) (K : PX → St → Res) (x0 x1 x2 x3 x4 x5 x6 x15 x16 : PV) (h : PHeap) : Res :=
    (E.p.len 22 x2).bind fun v56 =>
    (E.p.bin .lss 3 x16 v56).bind fun v57 =>
    condP v57
     (
      (E.p.bin .mul 3 (.int .i64 3) x15).bind fun v58 =>
      (E.p.bin .shr 3 x3 x16).bind fun v59 =>
      (E.p.bin .rem 3 v59 (.int .i64 2)).bind fun v60 =>
      (E.p.bin .add 3 v58 v60).bind fun v61 =>
      (E.p.bin .shr 3 x4 x16).bind fun v62 =>
      (E.p.bin .rem 3 v62 (.int .i64 2)).bind fun v63 =>
      (E.p.bin .mul 3 (.int .i64 2) v63).bind fun v64 =>
      (E.p.bin .add 3 v61 v64).bind fun v65 =>
      (E.p.bin .add 3 x16 (.int .i64 1)).bind fun v66 =>
      K .normal (st0 x0 x1 x2 x3 x4 x5 x6 v65 v66 h))
     (
      K (.exit 0) (se0_0_1_2_3_4_5_6_15_16_33 x0 x1 x2 x3 x4 x5 x6 x15 x16 v57 h))
theorem body0_eq (E : Env) (K : PX → St → Res) (x0 x1 x2 x3 x4 x5 x6 x15 x16 : PV) (h : PHeap) : ev (E.cx Tryd.prog kl) lp0 (st0 x0 x1 x2 x3 x4 x5 x6 x15 x16 h) K = body0 E K x0 x1 x2 x3 x4 x5 x6 x15 x16 h := by kernel_rfl
noncomputable def body1 (E : Env) (K : PX → St → Res) (x0 x1 x2 x3 x4 x5 x6 x15 x17 x18 : PV) (h : PHeap) : Res :=
    (E.p.len 22 x2).bind fun v67 =>
    (E.p.bin .lss 3 x18 v67).bind fun v68 =>
    (wantV v68 true).bind fun v69 =>
    (bif v69 then some (x17, h) else some (.tup [], h)).bind fun v70 =>
    (wantV v68 true).bind fun v71 =>
    (bif v71 then some (x5, v70.2) else some (.tup [], v70.2)).bind fun v72 =>
    (wantV v68 true).bind fun v73 =>
    (bif v73 then pv v72.2 (E.p.bin .neq 3 v70.1 v72.1) else some (.tup [], v72.2)).bind fun v74 =>
    (E.p.pick v68 v74.1 (.bool false)).bind fun v75 =>
    condP v75
     (
      (E.p.bin .or 3 x3 x4).bind fun v76 =>
      (E.p.bin .shr 3 v76 x18).bind fun v77 =>
      (E.p.bin .rem 3 v77 (.int .i64 2)).bind fun v78 =>
      (E.p.bin .eql 3 v78 (.int .i64 1)).bind fun v79 =>
      condP v79
       (
        (E.p.bin .add 3 x18 (.int .i64 1)).bind fun v80 =>
        K .normal (st1 x0 x1 x2 x3 x4 x5 x6 x15 x17 v80 v74.2))
       (
        (E.p.bin .eql 3 x5 (.int .i64 1)).bind fun v81 =>
        condP v81
         (
          (E.p.bin .shl 3 (.int .i64 1) x18).bind fun v82 =>
          (E.p.bin .or 3 x3 v82).bind fun v83 =>
          (E.C fn_spec_l3Solve [x0, x1, x2, v83, x4, (.int .i64 2), x6] v74.2).bind fun v84 =>
          (E.p.bin .eql 3 v84.1 x5).bind fun v85 =>
          condP v85
           (
            (E.p.bin .add 3 x18 (.int .i64 1)).bind fun v86 =>
            K .normal (st1 x0 x1 x2 x3 x4 x5 x6 x15 x5 v86 v84.2))
           (
            (E.p.bin .add 3 x18 (.int .i64 1)).bind fun v87 =>
            K .normal (st1 x0 x1 x2 x3 x4 x5 x6 x15 x17 v87 v84.2)))
         (
          (E.p.bin .shl 3 (.int .i64 1) x18).bind fun v88 =>
          (E.p.bin .or 3 x4 v88).bind fun v89 =>
          (E.C fn_spec_l3Solve [x0, x1, x2, x3, v89, (.int .i64 1), x6] v74.2).bind fun v90 =>
          (E.p.bin .eql 3 v90.1 x5).bind fun v91 =>
          condP v91
           (
            (E.p.bin .add 3 x18 (.int .i64 1)).bind fun v92 =>
            K .normal (st1 x0 x1 x2 x3 x4 x5 x6 x15 x5 v92 v90.2))
           (
            (E.p.bin .add 3 x18 (.int .i64 1)).bind fun v93 =>
            K .normal (st1 x0 x1 x2 x3 x4 x5 x6 x15 x17 v93 v90.2)))))
     (
      K (.exit 2) (se2_0_1_2_3_4_5_6_15_17_18_73 x0 x1 x2 x3 x4 x5 x6 x15 x17 x18 v75 v74.2))
theorem body1_eq (E : Env) (K : PX → St → Res) (x0 x1 x2 x3 x4 x5 x6 x15 x17 x18 : PV) (h : PHeap) : ev (E.cx Tryd.prog kl) lp1 (st1 x0 x1 x2 x3 x4 x5 x6 x15 x17 x18 h) K = body1 E K x0 x1 x2 x3 x4 x5 x6 x15 x17 x18 h := by kernel_rfl
theorem after0_se0_0_1_2_3_4_5_6_15_16_33 (E : Env) (x0 x1 x2 x3 x4 x5 x6 x15 x16 x33 : PV) (h : PHeap) : K0 E (kTop Tryd.prog Tryd.f55) (.exit 0) (se0_0_1_2_3_4_5_6_15_16_33 x0 x1 x2 x3 x4 x5 x6 x15 x16 x33 h) =
    (E.p.bin .mul 3 (.int .i64 2) x15).bind fun v16 =>
    (E.p.bin .add 3 v16 x5).bind fun v17 =>
    (E.p.bin .sub 3 v17 (.int .i64 1)).bind fun v18 =>
    (E.p.indexAddr 22 x6 v18).bind fun v19 =>
    (E.p.load 3 v19 h).bind fun v20 =>
    (E.p.bin .gtr 3 v20 (.int .i64 0)).bind fun v21 =>
    condP v21
     (
      (E.p.indexAddr 22 x6 v18).bind fun v22 =>
      (E.p.load 3 v22 h).bind fun v23 =>
      (resV v23).bind fun v24 =>
      some (v24, h))
     (
      (E.C fn_spec_l1Other [x5] h).bind fun v25 =>
      loopK (ev (E.cx Tryd.prog spec_l3Solve.kl) spec_l3Solve.lp1) E.lf (spec_l3Solve.st1 x0 x1 x2 x3 x4 x5 x6 v18 v25.1 (.int .i64 0) v25.2) (spec_l3Solve.K1 E (kTop Tryd.prog Tryd.f55))) := by kernel_rfl
theorem after1_se2_0_1_2_3_4_5_6_15_17_18_73 (E : Env) (x0 x1 x2 x3 x4 x5 x6 x15 x17 x18 x73 : PV) (h : PHeap) : K1 E (kTop Tryd.prog Tryd.f55) (.exit 2) (se2_0_1_2_3_4_5_6_15_17_18_73 x0 x1 x2 x3 x4 x5 x6 x15 x17 x18 x73 h) =
    (E.p.indexAddr 22 x6 x15).bind fun v53 =>
    (E.p.store 3 v53 x17 h).bind fun v54 =>
    (resV x17).bind fun v55 =>
    some (v55, v54) := by kernel_rfl
noncomputable def main (E : Env) (x0 x1 x2 x3 x4 x5 x6 : PV) (h : PHeap) : Res :=
    (E.C fn_spec_l2Joins [x0, x1, x2, x3, (.int .i64 1)] h).bind fun v1 =>
    condP v1.1
     (
      (resV (.int .i64 1)).bind fun v2 =>
      some (v2, v1.2))
     (
      (E.C fn_spec_l2Joins [x0, x1, x2, x4, (.int .i64 2)] v1.2).bind fun v3 =>
      condP v3.1
       (
        (resV (.int .i64 2)).bind fun v4 =>
        some (v4, v3.2))
       (
        loopK (ev (E.cx Tryd.prog spec_l3Solve.kl) spec_l3Solve.lp0) E.lf (spec_l3Solve.st0 x0 x1 x2 x3 x4 x5 x6 (.int .i64 0) (.int .i64 0) v3.2) (spec_l3Solve.K0 E (kTop Tryd.prog Tryd.f55))))
theorem main_eq (E : Env) (x0 x1 x2 x3 x4 x5 x6 : PV) (h : PHeap) : runBody (E.cx Tryd.prog kl) Tryd.f55 [x0, x1, x2, x3, x4, x5, x6] h = main E x0 x1 x2 x3 x4 x5 x6 h := by kernel_rfl
theorem call_eq (g : Nat → PV) (lf n : Nat) (x0 x1 x2 x3 x4 x5 x6 : PV) (h : PHeap) : CL g lf (n + 1) fn_spec_l3Solve [x0, x1, x2, x3, x4, x5, x6] h = main (env g lf n) x0 x1 x2 x3 x4 x5 x6 h := by
  rw [← main_eq]
  show call Tryd.prog g KL lf (n + 1) 55 [x0, x1, x2, x3, x4, x5, x6] h = _
  rw [call_succ, Tryd.func55]
  kernel_rfl
end spec_l3Solve
namespace spec_l2Set
noncomputable def lp0 : Code := (codeAt (bodyOf Tryd.f56) [1, 1, 0, 1, 0, 0])
def st0 (x0 x1 x5 x6 : PV) (h : PHeap) : St := ⟨[x0, x1, .junk, .junk, .junk, x5, x6, .junk, .junk, .junk, .junk, .junk, .junk, .junk, .junk, .junk, .junk, .junk, .junk, .junk, .junk, .junk, .junk, .junk], h⟩
def se0_0_1_5_6_10 (x0 x1 x5 x6 x10 : PV) (h : PHeap) : St := ⟨[x0, x1, .junk, .junk, .junk, x5, x6, .junk, .junk, .junk, x10, .junk, .junk, .junk, .junk, .junk, .junk, .junk, .junk, .junk, .junk, .junk, .junk, .junk], h⟩
noncomputable def K0 (E : Env) (K : PX → St → Res) : PX → St → Res := (kBlock 0 (kSeq (ev (E.cx Tryd.prog kl) (codeAt (bodyOf Tryd.f56) [1, 1, 1])) K))
@[simp] theorem K0_ret (E : Env) (K : PX → St → Res) (s : St) : K0 E K .ret s = K .ret s := by kernel_rfl
noncomputable def body0 (E : Env) (K : PX → St → Res) (x0 x1 x5 x6 : PV) (h : PHeap) : Res :=
    (E.p.len 22 x0).bind fun v11 =>
    (E.p.bin .lss 3 x6 v11).bind fun v12 =>
    condP v12
     (
      (E.p.indexAddr 22 x0 x6).bind fun v13 =>
      (E.p.load 3 v13 h).bind fun v14 =>
      (E.p.bin .eql 3 v14 x1).bind fun v15 =>
      condP v15
       (
        (E.p.bin .shl 3 (.int .i64 1) x6).bind fun v16 =>
        (E.p.bin .or 3 x5 v16).bind fun v17 =>
        (E.p.bin .add 3 x6 (.int .i64 1)).bind fun v18 =>
        K .normal (st0 x0 x1 v17 v18 h))
       (
        (E.p.bin .add 3 x6 (.int .i64 1)).bind fun v19 =>
        K .normal (st0 x0 x1 x5 v19 h)))
     (
      K (.exit 0) (se0_0_1_5_6_10 x0 x1 x5 x6 v12 h))
theorem body0_eq (E : Env) (K : PX → St → Res) (x0 x1 x5 x6 : PV) (h : PHeap) : ev (E.cx Tryd.prog kl) lp0 (st0 x0 x1 x5 x6 h) K = body0 E K x0 x1 x5 x6 h := by kernel_rfl
theorem after0_se0_0_1_5_6_10 (E : Env) (x0 x1 x5 x6 x10 : PV) (h : PHeap) : K0 E (kTop Tryd.prog Tryd.f56) (.exit 0) (se0_0_1_5_6_10 x0 x1 x5 x6 x10 h) =
    (resV x5).bind fun v10 =>
    some (v10, h) := by kernel_rfl
noncomputable def main (E : Env) (x0 x1 : PV) (h : PHeap) : Res :=
    loopK (ev (E.cx Tryd.prog spec_l2Set.kl) spec_l2Set.lp0) E.lf (spec_l2Set.st0 x0 x1 (.int .i64 0) (.int .i64 0) h) (spec_l2Set.K0 E (kTop Tryd.prog Tryd.f56))
theorem main_eq (E : Env) (x0 x1 : PV) (h : PHeap) : runBody (E.cx Tryd.prog kl) Tryd.f56 [x0, x1] h = main E x0 x1 h := by kernel_rfl
theorem call_eq (g : Nat → PV) (lf n : Nat) (x0 x1 : PV) (h : PHeap) : CL g lf (n + 1) fn_spec_l2Set [x0, x1] h = main (env g lf n) x0 x1 h := by
  rw [← main_eq]
  show call Tryd.prog g KL lf (n + 1) 56 [x0, x1] h = _
  rw [call_succ, Tryd.func56]
  kernel_rfl
end spec_l2Set
namespace spec_l3Table
noncomputable def lp0 : Code := (codeAt (bodyOf Tryd.f57) [1, 1, 0, 1, 0, 0])
def st0 (x0 x3 x4 : PV) (h : PHeap) : St := ⟨[x0, .junk, .junk, x3, x4, .junk, .junk, .junk, .junk, .junk, .junk, .junk, .junk, .junk], h⟩
def se0_0_3_4_7 (x0 x3 x4 x7 : PV) (h : PHeap) : St := ⟨[x0, .junk, .junk, x3, x4, .junk, .junk, x7, .junk, .junk, .junk, .junk, .junk, .junk], h⟩
noncomputable def K0 (E : Env) (K : PX → St → Res) : PX → St → Res := (kBlock 0 (kSeq (ev (E.cx Tryd.prog kl) (codeAt (bodyOf Tryd.f57) [1, 1, 1])) K))
@[simp] theorem K0_ret (E : Env) (K : PX → St → Res) (s : St) : K0 E K .ret s = K .ret s := by kernel_rfl
noncomputable def body0 (E : Env) (K : PX → St → Res) (x0 x3 x4 : PV) (h : PHeap) : Res :=
    (E.p.bin .lss 3 x4 x0).bind fun v6 =>
    condP v6
     (
      (E.p.bin .mul 3 x3 (.int .i64 3)).bind fun v7 =>
      (E.p.bin .add 3 x4 (.int .i64 1)).bind fun v8 =>
      K .normal (st0 x0 v7 v8 h))
     (
      K (.exit 0) (se0_0_3_4_7 x0 x3 x4 v6 h))
theorem body0_eq (E : Env) (K : PX → St → Res) (x0 x3 x4 : PV) (h : PHeap) : ev (E.cx Tryd.prog kl) lp0 (st0 x0 x3 x4 h) K = body0 E K x0 x3 x4 h := by kernel_rfl
theorem after0_se0_0_3_4_7 (E : Env) (x0 x3 x4 x7 : PV) (h : PHeap) : K0 E (kTop Tryd.prog Tryd.f57) (.exit 0) (se0_0_3_4_7 x0 x3 x4 x7 h) =
    (E.p.make 22 x3 x3 h).bind fun v4 =>
    (resV v4.1).bind fun v5 =>
    some (v5, v4.2) := by kernel_rfl
noncomputable def main (E : Env) (x0 : PV) (h : PHeap) : Res :=
    loopK (ev (E.cx Tryd.prog spec_l3Table.kl) spec_l3Table.lp0) E.lf (spec_l3Table.st0 x0 (.int .i64 2) (.int .i64 0) h) (spec_l3Table.K0 E (kTop Tryd.prog Tryd.f57))
theorem main_eq (E : Env) (x0 : PV) (h : PHeap) : runBody (E.cx Tryd.prog kl) Tryd.f57 [x0] h = main E x0 h := by kernel_rfl
theorem call_eq (g : Nat → PV) (lf n : Nat) (x0 : PV) (h : PHeap) : CL g lf (n + 1) fn_spec_l3Table [x0] h = main (env g lf n) x0 h := by
  rw [← main_eq]
  show call Tryd.prog g KL lf (n + 1) 57 [x0] h = _
  rw [call_succ, Tryd.func57]
  kernel_rfl
end spec_l3Table
namespace spec_MoveOk
noncomputable def main (E : Env) (x0 x1 x2 x3 x4 : PV) (h : PHeap) : Res :=
    (E.C fn_spec_PositionOk [x0, x1, x2] h).bind fun v1 =>
    (E.p.un .not v1.1).bind fun v2 =>
    (wantV v2 false).bind fun v3 =>
    (bif v3 then some (x4, v1.2) else some (.tup [], v1.2)).bind fun v4 =>
    (wantV v2 false).bind fun v5 =>
    (bif v5 then E.C fn_spec_l1In [v4.1, (.int .i64 1), (.int .i64 2)] v4.2 else some (.tup [], v4.2)).bind fun v6 =>
    (wantV v2 false).bind fun v7 =>
    (bif v7 then pv v6.2 (E.p.un .not v6.1) else some (.tup [], v6.2)).bind fun v8 =>
    (E.p.pick v2 (.bool true) v8.1).bind fun v9 =>
    (wantV v9 false).bind fun v10 =>
    (bif v10 then some (x3, v8.2) else some (.tup [], v8.2)).bind fun v11 =>
    (wantV v9 false).bind fun v12 =>
    (bif v12 then some (x2, v11.2) else some (.tup [], v11.2)).bind fun v13 =>
    (wantV v9 false).bind fun v14 =>
    (bif v14 then pv v13.2 (E.p.len 22 v13.1) else some (.tup [], v13.2)).bind fun v15 =>
    (wantV v9 false).bind fun v16 =>
    (bif v16 then pv v15.2 (E.p.bin .sub 3 v15.1 (.int .i64 1)) else some (.tup [], v15.2)).bind fun v17 =>
    (wantV v9 false).bind fun v18 =>
    (bif v18 then E.C fn_spec_l1In [v11.1, (.int .i64 0), v17.1] v17.2 else some (.tup [], v17.2)).bind fun v19 =>
    (wantV v9 false).bind fun v20 =>
    (bif v20 then pv v19.2 (E.p.un .not v19.1) else some (.tup [], v19.2)).bind fun v21 =>
    (E.p.pick v9 (.bool true) v21.1).bind fun v22 =>
    condP v22
     (
      (resV (.bool false)).bind fun v23 =>
      some (v23, v21.2))
     (
      (E.p.indexAddr 22 x2 x3).bind fun v24 =>
      (E.p.load 3 v24 v21.2).bind fun v25 =>
      (E.p.bin .eql 3 v25 (.int .i64 0)).bind fun v26 =>
      (wantV v26 true).bind fun v27 =>
      (bif v27 then some (x0, v21.2) else some (.tup [], v21.2)).bind fun v28 =>
      (wantV v26 true).bind fun v29 =>
      (bif v29 then some (x1, v28.2) else some (.tup [], v28.2)).bind fun v30 =>
      (wantV v26 true).bind fun v31 =>
      (bif v31 then some (x2, v30.2) else some (.tup [], v30.2)).bind fun v32 =>
      (wantV v26 true).bind fun v33 =>
      (bif v33 then E.C fn_spec_Joins [v28.1, v30.1, v32.1, (.int .i64 1)] v32.2 else some (.tup [], v32.2)).bind fun v34 =>
      (wantV v26 true).bind fun v35 =>
      (bif v35 then pv v34.2 (E.p.un .not v34.1) else some (.tup [], v34.2)).bind fun v36 =>
      (E.p.pick v26 v36.1 (.bool false)).bind fun v37 =>
      (wantV v37 true).bind fun v38 =>
      (bif v38 then some (x0, v36.2) else some (.tup [], v36.2)).bind fun v39 =>
      (wantV v37 true).bind fun v40 =>
      (bif v40 then some (x1, v39.2) else some (.tup [], v39.2)).bind fun v41 =>
      (wantV v37 true).bind fun v42 =>
      (bif v42 then some (x2, v41.2) else some (.tup [], v41.2)).bind fun v43 =>
      (wantV v37 true).bind fun v44 =>
      (bif v44 then E.C fn_spec_Joins [v39.1, v41.1, v43.1, (.int .i64 2)] v43.2 else some (.tup [], v43.2)).bind fun v45 =>
      (wantV v37 true).bind fun v46 =>
      (bif v46 then pv v45.2 (E.p.un .not v45.1) else some (.tup [], v45.2)).bind fun v47 =>
      (E.p.pick v37 v47.1 (.bool false)).bind fun v48 =>
      (resV v48).bind fun v49 =>
      some (v49, v47.2))
theorem main_eq (E : Env) (x0 x1 x2 x3 x4 : PV) (h : PHeap) : runBody (E.cx Tryd.prog kl) Tryd.f58 [x0, x1, x2, x3, x4] h = main E x0 x1 x2 x3 x4 h := by kernel_rfl
theorem call_eq (g : Nat → PV) (lf n : Nat) (x0 x1 x2 x3 x4 : PV) (h : PHeap) : CL g lf (n + 1) fn_spec_MoveOk [x0, x1, x2, x3, x4] h = main (env g lf n) x0 x1 x2 x3 x4 h := by
  rw [← main_eq]
  show call Tryd.prog g KL lf (n + 1) 58 [x0, x1, x2, x3, x4] h = _
  rw [call_succ, Tryd.func58]
  kernel_rfl
end spec_MoveOk
namespace impl_withNear
noncomputable def lp0 : Code := (codeAt (bodyOf Tryd.f59) [1, 1, 0, 1, 0, 0])
def st0 (x0 x1 x2 x7 x14 x15 : PV) (h : PHeap) : St := ⟨[x0, x1, x2, .junk, .junk, .junk, .junk, x7, .junk, .junk, .junk, .junk, .junk, .junk, x14, x15, .junk, .junk, .junk, .junk, .junk, .junk, .junk, .junk, .junk, .junk, .junk, .junk, .junk, .junk, .junk, .junk, .junk, .junk, .junk, .junk, .junk, .junk, .junk], h⟩
noncomputable def lp1 : Code := (codeAt (bodyOf Tryd.f59) [1, 1, 0, 1, 0, 0, 1, 1, 0, 0, 1, 1, 1, 0, 0])
def st1 (x0 x1 x2 x7 x14 x15 x26 x27 x28 : PV) (h : PHeap) : St := ⟨[x0, x1, x2, .junk, .junk, .junk, .junk, x7, .junk, .junk, .junk, .junk, .junk, .junk, x14, x15, .junk, .junk, .junk, .junk, .junk, .junk, .junk, .junk, .junk, .junk, x26, x27, x28, .junk, .junk, .junk, .junk, .junk, .junk, .junk, .junk, .junk, .junk], h⟩
def se0_0_1_2_7_14_15_16 (x0 x1 x2 x7 x14 x15 x16 : PV) (h : PHeap) : St := ⟨[x0, x1, x2, .junk, .junk, .junk, .junk, x7, .junk, .junk, .junk, .junk, .junk, .junk, x14, x15, x16, .junk, .junk, .junk, .junk, .junk, .junk, .junk, .junk, .junk, .junk, .junk, .junk, .junk, .junk, .junk, .junk, .junk, .junk, .junk, .junk, .junk, .junk], h⟩
def se2_0_1_2_7_14_15_26_27_28_29 (x0 x1 x2 x7 x14 x15 x26 x27 x28 x29 : PV) (h : PHeap) : St := ⟨[x0, x1, x2, .junk, .junk, .junk, .junk, x7, .junk, .junk, .junk, .junk, .junk, .junk, x14, x15, .junk, .junk, .junk, .junk, .junk, .junk, .junk, .junk, .junk, .junk, x26, x27, x28, x29, .junk, .junk, .junk, .junk, .junk, .junk, .junk, .junk, .junk], h⟩
noncomputable def K0 (E : Env) (K : PX → St → Res) : PX → St → Res := (kBlock 0 (kSeq (ev (E.cx Tryd.prog kl) (codeAt (bodyOf Tryd.f59) [1, 1, 1])) K))
@[simp] theorem K0_ret (E : Env) (K : PX → St → Res) (s : St) : K0 E K .ret s = K .ret s := by kernel_rfl
noncomputable def K1 (E : Env) (K : PX → St → Res) : PX → St → Res := (kBlock 2 (kBlock 1 (kSeq (ev (E.cx Tryd.prog kl) (codeAt (bodyOf Tryd.f59) [1, 1, 0, 1, 0, 0, 1, 1, 1])) K)))
@[simp] theorem K1_ret (E : Env) (K : PX → St → Res) (s : St) : K1 E K .ret s = K .ret s := by kernel_rfl
noncomputable def body0 (E : Env) (K : PX → St → Res) (x0 x1 x2 x7 x14 x15 : PV) (h : PHeap) : Res :=
    (E.p.bin .lss 3 x15 x14).bind fun v17 =>
    condP v17
     (
      (E.p.bin .shr 3 x2 x15).bind fun v18 =>
      (E.p.bin .and 3 v18 (.int .i64 1)).bind fun v19 =>
      (E.p.bin .eql 3 v19 (.int .i64 0)).bind fun v20 =>
      condP v20
       (
        (E.p.bin .add 3 x15 (.int .i64 1)).bind fun v21 =>
        K .normal (st0 x0 x1 x2 x7 x14 v21 h))
       (
        (E.C fn_impl_NearCells [x0, x1, x15] h).bind fun v22 =>
        (E.p.len 22 v22.1).bind fun v23 =>
        loopK (ev (E.cx Tryd.prog impl_withNear.kl) impl_withNear.lp1) E.lf (impl_withNear.st1 x0 x1 x2 x7 x14 x15 v22.1 v23 (.int .i64 0) v22.2) (impl_withNear.K1 E K)))
     (
      K (.exit 0) (se0_0_1_2_7_14_15_16 x0 x1 x2 x7 x14 x15 v17 h))
theorem body0_eq (E : Env) (K : PX → St → Res) (x0 x1 x2 x7 x14 x15 : PV) (h : PHeap) : ev (E.cx Tryd.prog kl) lp0 (st0 x0 x1 x2 x7 x14 x15 h) K = body0 E K x0 x1 x2 x7 x14 x15 h := by kernel_rfl
noncomputable def body1 (E : Env) (K : PX → St → Res) (x0 x1 x2 x7 x14 x15 x26 x27 x28 : PV) (h : PHeap) : Res :=
    (E.p.bin .lss 3 x28 x27).bind fun v24 =>
    condP v24
     (
      (E.p.indexAddr 22 x26 x28).bind fun v25 =>
      (E.p.load 3 v25 h).bind fun v26 =>
      (E.p.bin .shl 3 (.int .i64 1) v26).bind fun v27 =>
      (E.p.bin .or 3 x7 v27).bind fun v28 =>
      (E.p.bin .add 3 x28 (.int .i64 1)).bind fun v29 =>
      K .normal (st1 x0 x1 x2 v28 x14 x15 x26 x27 v29 h))
     (
      K (.exit 2) (se2_0_1_2_7_14_15_26_27_28_29 x0 x1 x2 x7 x14 x15 x26 x27 x28 v24 h))
theorem body1_eq (E : Env) (K : PX → St → Res) (x0 x1 x2 x7 x14 x15 x26 x27 x28 : PV) (h : PHeap) : ev (E.cx Tryd.prog kl) lp1 (st1 x0 x1 x2 x7 x14 x15 x26 x27 x28 h) K = body1 E K x0 x1 x2 x7 x14 x15 x26 x27 x28 h := by kernel_rfl
theorem after0_se0_0_1_2_7_14_15_16 (E : Env) (x0 x1 x2 x7 x14 x15 x16 : PV) (h : PHeap) : K0 E (kTop Tryd.prog Tryd.f59) (.exit 0) (se0_0_1_2_7_14_15_16 x0 x1 x2 x7 x14 x15 x16 h) =
    (resV x7).bind fun v15 =>
    some (v15, h) := by kernel_rfl
theorem after1_se2_0_1_2_7_14_15_26_27_28_29 (E : Env) (K : PX → St → Res) (x0 x1 x2 x7 x14 x15 x26 x27 x28 x29 : PV) (h : PHeap) : K1 E K (.exit 2) (se2_0_1_2_7_14_15_26_27_28_29 x0 x1 x2 x7 x14 x15 x26 x27 x28 x29 h) =
    (E.p.bin .add 3 x15 (.int .i64 1)).bind fun v16 =>
    K .normal (st0 x0 x1 x2 x7 x14 v16 h) := by kernel_rfl
noncomputable def main (E : Env) (x0 x1 x2 : PV) (h : PHeap) : Res :=
    (E.p.bin .mul 3 x0 x1).bind fun v1 =>
    loopK (ev (E.cx Tryd.prog impl_withNear.kl) impl_withNear.lp0) E.lf (impl_withNear.st0 x0 x1 x2 x2 v1 (.int .i64 0) h) (impl_withNear.K0 E (kTop Tryd.prog Tryd.f59))
theorem main_eq (E : Env) (x0 x1 x2 : PV) (h : PHeap) : runBody (E.cx Tryd.prog kl) Tryd.f59 [x0, x1, x2] h = main E x0 x1 x2 h := by kernel_rfl
theorem call_eq (g : Nat → PV) (lf n : Nat) (x0 x1 x2 : PV) (h : PHeap) : CL g lf (n + 1) fn_impl_withNear [x0, x1, x2] h = main (env g lf n) x0 x1 x2 h := by
  rw [← main_eq]
  show call Tryd.prog g KL lf (n + 1) 59 [x0, x1, x2] h = _
  rw [call_succ, Tryd.func59]
  kernel_rfl
end impl_withNear
namespace impl_sidesOf
noncomputable def lp0 : Code := (codeAt (bodyOf Tryd.f60) [1, 1, 0, 1, 0, 0])
def st0 (x0 x1 x2 x8 x9 x15 x16 : PV) (h : PHeap) : St := ⟨[x0, x1, x2, .junk, .junk, .junk, .junk, .junk, x8, x9, .junk, .junk, .junk, .junk, .junk, x15, x16, .junk, .junk, .junk, .junk, .junk, .junk, .junk, .junk, .junk, .junk, .junk, .junk, .junk, .junk, .junk, .junk, .junk, .junk, .junk, .junk, .junk, .junk, .junk, .junk, .junk, .junk, .junk, .junk, .junk, .junk], h⟩
def se0_0_1_2_8_9_15_16_17 (x0 x1 x2 x8 x9 x15 x16 x17 : PV) (h : PHeap) : St := ⟨[x0, x1, x2, .junk, .junk, .junk, .junk, .junk, x8, x9, .junk, .junk, .junk, .junk, .junk, x15, x16, x17, .junk, .junk, .junk, .junk, .junk, .junk, .junk, .junk, .junk, .junk, .junk, .junk, .junk, .junk, .junk, .junk, .junk, .junk, .junk, .junk, .junk, .junk, .junk, .junk, .junk, .junk, .junk, .junk, .junk], h⟩
noncomputable def K0 (E : Env) (K : PX → St → Res) : PX → St → Res := (kBlock 0 (kSeq (ev (E.cx Tryd.prog kl) (codeAt (bodyOf Tryd.f60) [1, 1, 1])) K))
@[simp] theorem K0_ret (E : Env) (K : PX → St → Res) (s : St) : K0 E K .ret s = K .ret s := by kernel_rfl
noncomputable def body0 (E : Env) (K : PX → St → Res) (x0 x1 x2 x8 x9 x15 x16 : PV) (h : PHeap) : Res :=
    (E.p.bin .lss 3 x16 x15).bind fun v36 =>
    condP v36
     (
      (E.p.bin .quo 3 x16 x1).bind fun v37 =>
      (E.p.bin .sub 3 x0 (.int .i64 1)).bind fun v38 =>
      (E.p.bin .eql 3 x2 (.int .i64 2)).bind fun v39 =>
      condP v39
       (
        (E.p.bin .rem 3 x16 x1).bind fun v40 =>
        (E.p.bin .sub 3 x1 (.int .i64 1)).bind fun v41 =>
        (E.p.bin .eql 3 v40 (.int .i64 0)).bind fun v42 =>
        condP v42
         (
          (E.p.bin .shl 3 (.int .i64 1) x16).bind fun v43 =>
          (E.p.bin .or 3 x8 v43).bind fun v44 =>
          (E.p.bin .eql 3 v40 v41).bind fun v45 =>
          condP v45
           (
            (E.p.bin .shl 3 (.int .i64 1) x16).bind fun v46 =>
            (E.p.bin .or 3 x9 v46).bind fun v47 =>
            (E.p.bin .add 3 x16 (.int .i64 1)).bind fun v48 =>
            K .normal (st0 x0 x1 x2 v44 v47 x15 v48 h))
           (
            (E.p.bin .add 3 x16 (.int .i64 1)).bind fun v49 =>
            K .normal (st0 x0 x1 x2 v44 x9 x15 v49 h)))
         (
          (E.p.bin .eql 3 v40 v41).bind fun v50 =>
          condP v50
           (
            (E.p.bin .shl 3 (.int .i64 1) x16).bind fun v51 =>
            (E.p.bin .or 3 x9 v51).bind fun v52 =>
            (E.p.bin .add 3 x16 (.int .i64 1)).bind fun v53 =>
            K .normal (st0 x0 x1 x2 x8 v52 x15 v53 h))
           (
            (E.p.bin .add 3 x16 (.int .i64 1)).bind fun v54 =>
            K .normal (st0 x0 x1 x2 x8 x9 x15 v54 h))))
       (
        (E.p.bin .eql 3 v37 (.int .i64 0)).bind fun v55 =>
        condP v55
         (
          (E.p.bin .shl 3 (.int .i64 1) x16).bind fun v56 =>
          (E.p.bin .or 3 x8 v56).bind fun v57 =>
          (E.p.bin .eql 3 v37 v38).bind fun v58 =>
          condP v58
           (
            (E.p.bin .shl 3 (.int .i64 1) x16).bind fun v59 =>
            (E.p.bin .or 3 x9 v59).bind fun v60 =>
            (E.p.bin .add 3 x16 (.int .i64 1)).bind fun v61 =>
            K .normal (st0 x0 x1 x2 v57 v60 x15 v61 h))
           (
            (E.p.bin .add 3 x16 (.int .i64 1)).bind fun v62 =>
            K .normal (st0 x0 x1 x2 v57 x9 x15 v62 h)))
         (
          (E.p.bin .eql 3 v37 v38).bind fun v63 =>
          condP v63
           (
            (E.p.bin .shl 3 (.int .i64 1) x16).bind fun v64 =>
            (E.p.bin .or 3 x9 v64).bind fun v65 =>
            (E.p.bin .add 3 x16 (.int .i64 1)).bind fun v66 =>
            K .normal (st0 x0 x1 x2 x8 v65 x15 v66 h))
           (
            (E.p.bin .add 3 x16 (.int .i64 1)).bind fun v67 =>
            K .normal (st0 x0 x1 x2 x8 x9 x15 v67 h)))))
     (
      K (.exit 0) (se0_0_1_2_8_9_15_16_17 x0 x1 x2 x8 x9 x15 x16 v36 h))
theorem body0_eq (E : Env) (K : PX → St → Res) (x0 x1 x2 x8 x9 x15 x16 : PV) (h : PHeap) : ev (E.cx Tryd.prog kl) lp0 (st0 x0 x1 x2 x8 x9 x15 x16 h) K = body0 E K x0 x1 x2 x8 x9 x15 x16 h := by kernel_rfl
theorem after0_se0_0_1_2_8_9_15_16_17 (E : Env) (x0 x1 x2 x8 x9 x15 x16 x17 : PV) (h : PHeap) : K0 E (kTop Tryd.prog Tryd.f60) (.exit 0) (se0_0_1_2_8_9_15_16_17 x0 x1 x2 x8 x9 x15 x16 x17 h) =
    (resV x8).bind fun v34 =>
    (resV x9).bind fun v35 =>
    some (.tup [v34, v35], h) := by kernel_rfl
noncomputable def main (E : Env) (x0 x1 x2 : PV) (h : PHeap) : Res :=
    (E.p.bin .mul 3 x0 x1).bind fun v1 =>
    loopK (ev (E.cx Tryd.prog impl_sidesOf.kl) impl_sidesOf.lp0) E.lf (impl_sidesOf.st0 x0 x1 x2 (.int .i64 0) (.int .i64 0) v1 (.int .i64 0) h) (impl_sidesOf.K0 E (kTop Tryd.prog Tryd.f60))
theorem main_eq (E : Env) (x0 x1 x2 : PV) (h : PHeap) : runBody (E.cx Tryd.prog kl) Tryd.f60 [x0, x1, x2] h = main E x0 x1 x2 h := by kernel_rfl
theorem call_eq (g : Nat → PV) (lf n : Nat) (x0 x1 x2 : PV) (h : PHeap) : CL g lf (n + 1) fn_impl_sidesOf [x0, x1, x2] h = main (env g lf n) x0 x1 x2 h := by
  rw [← main_eq]
  show call Tryd.prog g KL lf (n + 1) 60 [x0, x1, x2] h = _
  rw [call_succ, Tryd.func60]
  kernel_rfl
end impl_sidesOf
namespace impl_setOf
noncomputable def lp0 : Code := (codeAt (bodyOf Tryd.f61) [1, 1, 0, 1, 0, 0])
def st0 (x1 x5 x8 x9 x10 : PV) (h : PHeap) : St := ⟨[.junk, x1, .junk, .junk, .junk, x5, .junk, .junk, x8, x9, x10, .junk, .junk, .junk, .junk, .junk, .junk, .junk, .junk, .junk, .junk, .junk, .junk, .junk], h⟩
def se0_1_5_8_9_10_11 (x1 x5 x8 x9 x10 x11 : PV) (h : PHeap) : St := ⟨[.junk, x1, .junk, .junk, .junk, x5, .junk, .junk, x8, x9, x10, x11, .junk, .junk, .junk, .junk, .junk, .junk, .junk, .junk, .junk, .junk, .junk, .junk], h⟩
noncomputable def K0 (E : Env) (K : PX → St → Res) : PX → St → Res := (kBlock 0 (kSeq (ev (E.cx Tryd.prog kl) (codeAt (bodyOf Tryd.f61) [1, 1, 1])) K))
@[simp] theorem K0_ret (E : Env) (K : PX → St → Res) (s : St) : K0 E K .ret s = K .ret s := by kernel_rfl
noncomputable def body0 (E : Env) (K : PX → St → Res) (x1 x5 x8 x9 x10 : PV) (h : PHeap) : Res :=
    (E.p.bin .lss 3 x10 x9).bind fun v11 =>
    condP v11
     (
      (E.p.indexAddr 22 x8 x10).bind fun v12 =>
      (E.p.load 3 v12 h).bind fun v13 =>
      (E.p.bin .eql 3 v13 x1).bind fun v14 =>
      condP v14
       (
        (E.p.bin .shl 3 (.int .i64 1) x10).bind fun v15 =>
        (E.p.bin .or 3 x5 v15).bind fun v16 =>
        (E.p.bin .add 3 x10 (.int .i64 1)).bind fun v17 =>
        K .normal (st0 x1 v16 x8 x9 v17 h))
       (
        (E.p.bin .add 3 x10 (.int .i64 1)).bind fun v18 =>
        K .normal (st0 x1 x5 x8 x9 v18 h)))
     (
      K (.exit 0) (se0_1_5_8_9_10_11 x1 x5 x8 x9 x10 v11 h))
theorem body0_eq (E : Env) (K : PX → St → Res) (x1 x5 x8 x9 x10 : PV) (h : PHeap) : ev (E.cx Tryd.prog kl) lp0 (st0 x1 x5 x8 x9 x10 h) K = body0 E K x1 x5 x8 x9 x10 h := by kernel_rfl
theorem after0_se0_1_5_8_9_10_11 (E : Env) (x1 x5 x8 x9 x10 x11 : PV) (h : PHeap) : K0 E (kTop Tryd.prog Tryd.f61) (.exit 0) (se0_1_5_8_9_10_11 x1 x5 x8 x9 x10 x11 h) =
    (resV x5).bind fun v10 =>
    some (v10, h) := by kernel_rfl
noncomputable def main (E : Env) (x0 x1 : PV) (h : PHeap) : Res :=
    (E.p.len 22 x0).bind fun v1 =>
    loopK (ev (E.cx Tryd.prog impl_setOf.kl) impl_setOf.lp0) E.lf (impl_setOf.st0 x1 (.int .i64 0) x0 v1 (.int .i64 0) h) (impl_setOf.K0 E (kTop Tryd.prog Tryd.f61))
theorem main_eq (E : Env) (x0 x1 : PV) (h : PHeap) : runBody (E.cx Tryd.prog kl) Tryd.f61 [x0, x1] h = main E x0 x1 h := by kernel_rfl
theorem call_eq (g : Nat → PV) (lf n : Nat) (x0 x1 : PV) (h : PHeap) : CL g lf (n + 1) fn_impl_setOf [x0, x1] h = main (env g lf n) x0 x1 h := by
  rw [← main_eq]
  show call Tryd.prog g KL lf (n + 1) 61 [x0, x1] h = _
  rw [call_succ, Tryd.func61]
  kernel_rfl
end impl_setOf
namespace impl_search_solved
noncomputable def lp0 : Code := (codeAt (bodyOf Tryd.f62) [1, 1, 0, 1, 0, 0])
def st0 (x0 x3 x6 : PV) (h : PHeap) : St := ⟨[x0, .junk, .junk, x3, .junk, .junk, x6, .junk, .junk, .junk, .junk, .junk, .junk, .junk, .junk, .junk, .junk, .junk, .junk, .junk, .junk, .junk, .junk, .junk, .junk, .junk, .junk, .junk, .junk, .junk, .junk, .junk, .junk, .junk, .junk, .junk], h⟩
def sr_4 (x4 : PV) (h : PHeap) : St := ⟨[.junk, .junk, .junk, .junk, x4, .junk, .junk, .junk, .junk, .junk, .junk, .junk, .junk, .junk, .junk, .junk, .junk, .junk, .junk, .junk, .junk, .junk, .junk, .junk, .junk, .junk, .junk, .junk, .junk, .junk, .junk, .junk, .junk, .junk, .junk, .junk], h⟩
def se0_0_3_6_17 (x0 x3 x6 x17 : PV) (h : PHeap) : St := ⟨[x0, .junk, .junk, x3, .junk, .junk, x6, .junk, .junk, .junk, .junk, .junk, .junk, .junk, .junk, .junk, .junk, x17, .junk, .junk, .junk, .junk, .junk, .junk, .junk, .junk, .junk, .junk, .junk, .junk, .junk, .junk, .junk, .junk, .junk, .junk], h⟩
noncomputable def K0 (E : Env) (K : PX → St → Res) : PX → St → Res := (kBlock 0 (kSeq (ev (E.cx Tryd.prog kl) (codeAt (bodyOf Tryd.f62) [1, 1, 1])) K))
@[simp] theorem K0_ret (E : Env) (K : PX → St → Res) (s : St) : K0 E K .ret s = K .ret s := by kernel_rfl
noncomputable def body0 (E : Env) (K : PX → St → Res) (x0 x3 x6 : PV) (h : PHeap) : Res :=
    (E.p.bin .neq 3 x6 (.int .i64 0)).bind fun v31 =>
    condP v31
     (
      (E.p.load 58 x3 h).bind fun v32 =>
      (E.p.fieldAddr 58 x3 1).bind fun v33 =>
      (E.p.load 3 v33 h).bind fun v34 =>
      (E.C fn_impl_leastIn [x6] h).bind fun v35 =>
      (E.p.load 3 v33 v35.2).bind fun v36 =>
      ckP (plainEq v34 v36) (
      (E.p.load 58 x3 v35.2).bind fun v37 =>
      ckP (plainEq v32 v37) (
      (E.C fn_impl_standing_after [v32, v35.1] v35.2).bind fun v38 =>
      (E.p.load 3 v33 v38.2).bind fun v39 =>
      ckP (plainEq v34 v39) (
      (E.p.load 58 x3 v38.2).bind fun v40 =>
      ckP (plainEq v32 v40) (
      (E.C fn_impl_search_winner [x0, v38.1] v38.2).bind fun v41 =>
      (E.p.load 3 v33 v41.2).bind fun v42 =>
      ckP (plainEq v34 v42) (
      (E.p.load 58 x3 v41.2).bind fun v43 =>
      ckP (plainEq v32 v43) (
      (E.p.bin .eql 3 v41.1 v34).bind fun v44 =>
      condP v44
       (
        (E.p.fieldAddr 58 x3 1).bind fun v45 =>
        (E.p.load 3 v45 v41.2).bind fun v46 =>
        K .ret (sr_4 v46 v41.2))
       (
        (E.p.bin .sub 3 x6 (.int .i64 1)).bind fun v47 =>
        (E.p.bin .and 3 x6 v47).bind fun v48 =>
        K .normal (st0 x0 x3 v48 v41.2)))))))))
     (
      K (.exit 0) (se0_0_3_6_17 x0 x3 x6 v31 h))
theorem body0_eq (E : Env) (K : PX → St → Res) (x0 x3 x6 : PV) (h : PHeap) : ev (E.cx Tryd.prog kl) lp0 (st0 x0 x3 x6 h) K = body0 E K x0 x3 x6 h := by kernel_rfl
theorem after0_se0_0_3_6_17 (E : Env) (x0 x3 x6 x17 : PV) (h : PHeap) : K0 E (kTop Tryd.prog Tryd.f62) (.exit 0) (se0_0_3_6_17 x0 x3 x6 x17 h) =
    (E.p.fieldAddr 58 x3 1).bind fun v27 =>
    (E.p.load 3 v27 h).bind fun v28 =>
    (E.C fn_impl_exchanged [v28] h).bind fun v29 =>
    (resV v29.1).bind fun v30 =>
    some (v30, v29.2) := by kernel_rfl
theorem top_sr_4 (x4 : PV) (h : PHeap) : kTop Tryd.prog Tryd.f62 .ret (sr_4 x4 h) =
    (resV x4).bind fun v49 =>
    some (v49, h) := by kernel_rfl
noncomputable def main (E : Env) (x0 x1 : PV) (h : PHeap) : Res :=
    (E.p.box x1 h).bind fun v1 =>
    (E.p.load 58 v1.1 v1.2).bind fun v2 =>
    (E.C fn_impl_search_joined [x0, v2] v1.2).bind fun v3 =>
    (E.p.bin .neq 3 v3.1 (.int .i64 0)).bind fun v4 =>
    condP v4
     (
      (resV v3.1).bind fun v5 =>
      some (v5, v3.2))
     (
      (E.p.fieldAddr 58 v1.1 0).bind fun v6 =>
      (E.p.indexAddr 56 v6 (.int .i64 0)).bind fun v7 =>
      (E.p.load 3 v7 v3.2).bind fun v8 =>
      loopK (ev (E.cx Tryd.prog impl_search_solved.kl) impl_search_solved.lp0) E.lf (impl_search_solved.st0 x0 v1.1 v8 v3.2) (impl_search_solved.K0 E (kTop Tryd.prog Tryd.f62)))
theorem main_eq (E : Env) (x0 x1 : PV) (h : PHeap) : runBody (E.cx Tryd.prog kl) Tryd.f62 [x0, x1] h = main E x0 x1 h := by kernel_rfl
theorem call_eq (g : Nat → PV) (lf n : Nat) (x0 x1 : PV) (h : PHeap) : CL g lf (n + 1) fn_impl_search_solved [x0, x1] h = main (env g lf n) x0 x1 h := by
  rw [← main_eq]
  show call Tryd.prog g KL lf (n + 1) 62 [x0, x1] h = _
  rw [call_succ, Tryd.func62]
  kernel_rfl
end impl_search_solved
namespace impl_PositionOk
noncomputable def lp0 : Code := (codeAt (bodyOf Tryd.f63) [1, 1, 0, 1, 0, 0])
def st0 (x21 x22 x23 : PV) (h : PHeap) : St := ⟨[.junk, .junk, .junk, .junk, .junk, .junk, .junk, .junk, .junk, .junk, .junk, .junk, .junk, .junk, .junk, .junk, .junk, .junk, .junk, .junk, .junk, x21, x22, x23, .junk, .junk, .junk, .junk, .junk, .junk, .junk], h⟩
def sr_6 (x6 : PV) (h : PHeap) : St := ⟨[.junk, .junk, .junk, .junk, .junk, .junk, x6, .junk, .junk, .junk, .junk, .junk, .junk, .junk, .junk, .junk, .junk, .junk, .junk, .junk, .junk, .junk, .junk, .junk, .junk, .junk, .junk, .junk, .junk, .junk, .junk], h⟩
def se0_21_22_23_24 (x21 x22 x23 x24 : PV) (h : PHeap) : St := ⟨[.junk, .junk, .junk, .junk, .junk, .junk, .junk, .junk, .junk, .junk, .junk, .junk, .junk, .junk, .junk, .junk, .junk, .junk, .junk, .junk, .junk, x21, x22, x23, x24, .junk, .junk, .junk, .junk, .junk, .junk], h⟩
noncomputable def K0 (E : Env) (K : PX → St → Res) : PX → St → Res := (kBlock 0 (kSeq (ev (E.cx Tryd.prog kl) (codeAt (bodyOf Tryd.f63) [1, 1, 1])) K))
@[simp] theorem K0_ret (E : Env) (K : PX → St → Res) (s : St) : K0 E K .ret s = K .ret s := by kernel_rfl
noncomputable def body0 (E : Env) (K : PX → St → Res) (x21 x22 x23 : PV) (h : PHeap) : Res :=
    (E.p.bin .lss 3 x23 x22).bind fun v25 =>
    condP v25
     (
      (E.p.indexAddr 22 x21 x23).bind fun v26 =>
      (E.p.load 3 v26 h).bind fun v27 =>
      (E.C fn_impl_contentOk [v27] h).bind fun v28 =>
      (E.p.un .not v28.1).bind fun v29 =>
      condP v29
       (
        K .ret (sr_6 (.bool false) v28.2))
       (
        (E.p.bin .add 3 x23 (.int .i64 1)).bind fun v30 =>
        K .normal (st0 x21 x22 v30 v28.2)))
     (
      K (.exit 0) (se0_21_22_23_24 x21 x22 x23 v25 h))
theorem body0_eq (E : Env) (K : PX → St → Res) (x21 x22 x23 : PV) (h : PHeap) : ev (E.cx Tryd.prog kl) lp0 (st0 x21 x22 x23 h) K = body0 E K x21 x22 x23 h := by kernel_rfl
theorem after0_se0_21_22_23_24 (E : Env) (x21 x22 x23 x24 : PV) (h : PHeap) : K0 E (kTop Tryd.prog Tryd.f63) (.exit 0) (se0_21_22_23_24 x21 x22 x23 x24 h) =
    (resV (.bool true)).bind fun v24 =>
    some (v24, h) := by kernel_rfl
theorem top_sr_6 (x6 : PV) (h : PHeap) : kTop Tryd.prog Tryd.f63 .ret (sr_6 x6 h) =
    (resV x6).bind fun v31 =>
    some (v31, h) := by kernel_rfl
noncomputable def main (E : Env) (x0 x1 x2 : PV) (h : PHeap) : Res :=
    (E.C fn_impl_BoardOk [x0, x1] h).bind fun v1 =>
    (E.p.un .not v1.1).bind fun v2 =>
    (wantV v2 false).bind fun v3 =>
    (bif v3 then some (x2, v1.2) else some (.tup [], v1.2)).bind fun v4 =>
    (wantV v2 false).bind fun v5 =>
    (bif v5 then pv v4.2 (E.p.len 22 v4.1) else some (.tup [], v4.2)).bind fun v6 =>
    (wantV v2 false).bind fun v7 =>
    (bif v7 then some (x0, v6.2) else some (.tup [], v6.2)).bind fun v8 =>
    (wantV v2 false).bind fun v9 =>
    (bif v9 then some (x1, v8.2) else some (.tup [], v8.2)).bind fun v10 =>
    (wantV v2 false).bind fun v11 =>
    (bif v11 then pv v10.2 (E.p.bin .mul 3 v8.1 v10.1) else some (.tup [], v10.2)).bind fun v12 =>
    (wantV v2 false).bind fun v13 =>
    (bif v13 then pv v12.2 (E.p.bin .neq 3 v6.1 v12.1) else some (.tup [], v12.2)).bind fun v14 =>
    (E.p.pick v2 (.bool true) v14.1).bind fun v15 =>
    condP v15
     (
      (resV (.bool false)).bind fun v16 =>
      some (v16, v14.2))
     (
      (E.p.len 22 x2).bind fun v17 =>
      loopK (ev (E.cx Tryd.prog impl_PositionOk.kl) impl_PositionOk.lp0) E.lf (impl_PositionOk.st0 x2 v17 (.int .i64 0) v14.2) (impl_PositionOk.K0 E (kTop Tryd.prog Tryd.f63)))
theorem main_eq (E : Env) (x0 x1 x2 : PV) (h : PHeap) : runBody (E.cx Tryd.prog kl) Tryd.f63 [x0, x1, x2] h = main E x0 x1 x2 h := by kernel_rfl
theorem call_eq (g : Nat → PV) (lf n : Nat) (x0 x1 x2 : PV) (h : PHeap) : CL g lf (n + 1) fn_impl_PositionOk [x0, x1, x2] h = main (env g lf n) x0 x1 x2 h := by
  rw [← main_eq]
  show call Tryd.prog g KL lf (n + 1) 63 [x0, x1, x2] h = _
  rw [call_succ, Tryd.func63]
  kernel_rfl
end impl_PositionOk
namespace impl_playerOk
noncomputable def main (E : Env) (x0 : PV) (h : PHeap) : Res :=
    (E.p.bin .eql 3 x0 (.int .i64 1)).bind fun v1 =>
    (wantV v1 false).bind fun v2 =>
    (bif v2 then some (x0, h) else some (.tup [], h)).bind fun v3 =>
    (wantV v1 false).bind fun v4 =>
    (bif v4 then pv v3.2 (E.p.bin .eql 3 v3.1 (.int .i64 2)) else some (.tup [], v3.2)).bind fun v5 =>
    (E.p.pick v1 (.bool true) v5.1).bind fun v6 =>
    (resV v6).bind fun v7 =>
    some (v7, v5.2)
theorem main_eq (E : Env) (x0 : PV) (h : PHeap) : runBody (E.cx Tryd.prog kl) Tryd.f64 [x0] h = main E x0 h := by kernel_rfl
theorem call_eq (g : Nat → PV) (lf n : Nat) (x0 : PV) (h : PHeap) : CL g lf (n + 1) fn_impl_playerOk [x0] h = main (env g lf n) x0 h := by
  rw [← main_eq]
  show call Tryd.prog g KL lf (n + 1) 64 [x0] h = _
  rw [call_succ, Tryd.func64]
  kernel_rfl
end impl_playerOk
namespace impl_Joins
noncomputable def main (E : Env) (x0 x1 x2 x3 : PV) (h : PHeap) : Res :=
    (E.C fn_impl_PositionOk [x0, x1, x2] h).bind fun v1 =>
    (E.p.un .not v1.1).bind fun v2 =>
    (wantV v2 false).bind fun v3 =>
    (bif v3 then some (x3, v1.2) else some (.tup [], v1.2)).bind fun v4 =>
    (wantV v2 false).bind fun v5 =>
    (bif v5 then E.C fn_impl_playerOk [v4.1] v4.2 else some (.tup [], v4.2)).bind fun v6 =>
    (wantV v2 false).bind fun v7 =>
    (bif v7 then pv v6.2 (E.p.un .not v6.1) else some (.tup [], v6.2)).bind fun v8 =>
    (E.p.pick v2 (.bool true) v8.1).bind fun v9 =>
    condP v9
     (
      (resV (.bool false)).bind fun v10 =>
      some (v10, v8.2))
     (
      (E.C fn_impl_sidesOf [x0, x1, x3] v8.2).bind fun v11 =>
      (E.p.extract v11.1 0).bind fun v12 =>
      (E.p.extract v11.1 1).bind fun v13 =>
      (E.C fn_impl_setOf [x2, x3] v11.2).bind fun v14 =>
      (E.p.bin .and 3 v12 v14.1).bind fun v15 =>
      (E.C fn_impl_grown [x0, x1, v15, v14.1] v14.2).bind fun v16 =>
      (E.p.bin .and 3 v16.1 v13).bind fun v17 =>
      (E.p.bin .neq 3 v17 (.int .i64 0)).bind fun v18 =>
      (resV v18).bind fun v19 =>
      some (v19, v16.2))
theorem main_eq (E : Env) (x0 x1 x2 x3 : PV) (h : PHeap) : runBody (E.cx Tryd.prog kl) Tryd.f65 [x0, x1, x2, x3] h = main E x0 x1 x2 x3 h := by kernel_rfl
theorem call_eq (g : Nat → PV) (lf n : Nat) (x0 x1 x2 x3 : PV) (h : PHeap) : CL g lf (n + 1) fn_impl_Joins [x0, x1, x2, x3] h = main (env g lf n) x0 x1 x2 x3 h := by
  rw [← main_eq]
  show call Tryd.prog g KL lf (n + 1) 65 [x0, x1, x2, x3] h = _
  rw [call_succ, Tryd.func65]
  kernel_rfl
end impl_Joins
namespace internal_strconv_Itoa
noncomputable def main (E : Env) (x0 : PV) (h : PHeap) : Res :=
    (E.C fn_internal_strconv_FormatInt [x0, (.int .i64 10)] h).bind fun v1 =>
    (resV v1.1).bind fun v2 =>
    some (v2, v1.2)
theorem main_eq (E : Env) (x0 : PV) (h : PHeap) : runBody (E.cx Tryd.prog kl) Tryd.f66 [x0] h = main E x0 h := by kernel_rfl
theorem call_eq (g : Nat → PV) (lf n : Nat) (x0 : PV) (h : PHeap) : CL g lf (n + 1) fn_internal_strconv_Itoa [x0] h = main (env g lf n) x0 h := by
  rw [← main_eq]
  show call Tryd.prog g KL lf (n + 1) 66 [x0] h = _
  rw [call_succ, Tryd.func66]
  kernel_rfl
end internal_strconv_Itoa
namespace internal_stringslite_Index
noncomputable def lp0 : Code := (codeAt (bodyOf Tryd.f67) [1, 1, 1, 1, 1, 1, 1, 1, 0, 0, 0])
def st0 (x0 x1 x5 x6 x7 x8 x9 x10 : PV) (h : PHeap) : St := ⟨[x0, x1, .junk, .junk, .junk, x5, x6, x7, x8, x9, x10, .junk, .junk, .junk, .junk, .junk, .junk, .junk, .junk, .junk, .junk, .junk, .junk, .junk, .junk, .junk, .junk, .junk, .junk, .junk, .junk, .junk, .junk, .junk, .junk, .junk, .junk, .junk, .junk, .junk, .junk, .junk, .junk, .junk, .junk, .junk, .junk, .junk, .junk, .junk, .junk, .junk, .junk, .junk, .junk, .junk, .junk, .junk, .junk, .junk, .junk, .junk, .junk, .junk, .junk, .junk, .junk, .junk, .junk, .junk, .junk, .junk, .junk, .junk, .junk, .junk, .junk, .junk, .junk, .junk, .junk, .junk, .junk, .junk, .junk, .junk, .junk, .junk, .junk, .junk, .junk, .junk, .junk, .junk, .junk, .junk, .junk, .junk, .junk, .junk, .junk, .junk, .junk, .junk, .junk, .junk, .junk, .junk, .junk, .junk, .junk, .junk, .junk, .junk, .junk, .junk, .junk, .junk, .junk, .junk, .junk, .junk, .junk, .junk, .junk, .junk, .junk, .junk, .junk, .junk, .junk, .junk, .junk, .junk, .junk, .junk, .junk, .junk, .junk, .junk, .junk, .junk, .junk], h⟩
def sr_4 (x4 : PV) (h : PHeap) : St := ⟨[.junk, .junk, .junk, .junk, x4, .junk, .junk, .junk, .junk, .junk, .junk, .junk, .junk, .junk, .junk, .junk, .junk, .junk, .junk, .junk, .junk, .junk, .junk, .junk, .junk, .junk, .junk, .junk, .junk, .junk, .junk, .junk, .junk, .junk, .junk, .junk, .junk, .junk, .junk, .junk, .junk, .junk, .junk, .junk, .junk, .junk, .junk, .junk, .junk, .junk, .junk, .junk, .junk, .junk, .junk, .junk, .junk, .junk, .junk, .junk, .junk, .junk, .junk, .junk, .junk, .junk, .junk, .junk, .junk, .junk, .junk, .junk, .junk, .junk, .junk, .junk, .junk, .junk, .junk, .junk, .junk, .junk, .junk, .junk, .junk, .junk, .junk, .junk, .junk, .junk, .junk, .junk, .junk, .junk, .junk, .junk, .junk, .junk, .junk, .junk, .junk, .junk, .junk, .junk, .junk, .junk, .junk, .junk, .junk, .junk, .junk, .junk, .junk, .junk, .junk, .junk, .junk, .junk, .junk, .junk, .junk, .junk, .junk, .junk, .junk, .junk, .junk, .junk, .junk, .junk, .junk, .junk, .junk, .junk, .junk, .junk, .junk, .junk, .junk, .junk, .junk, .junk, .junk], h⟩
def sn_0_1_5_6_7_8_9_10_132 (x0 x1 x5 x6 x7 x8 x9 x10 x132 : PV) (h : PHeap) : St := ⟨[x0, x1, .junk, .junk, .junk, x5, x6, x7, x8, x9, x10, .junk, .junk, .junk, .junk, .junk, .junk, .junk, .junk, .junk, .junk, .junk, .junk, .junk, .junk, .junk, .junk, .junk, .junk, .junk, .junk, .junk, .junk, .junk, .junk, .junk, .junk, .junk, .junk, .junk, .junk, .junk, .junk, .junk, .junk, .junk, .junk, .junk, .junk, .junk, .junk, .junk, .junk, .junk, .junk, .junk, .junk, .junk, .junk, .junk, .junk, .junk, .junk, .junk, .junk, .junk, .junk, .junk, .junk, .junk, .junk, .junk, .junk, .junk, .junk, .junk, .junk, .junk, .junk, .junk, .junk, .junk, .junk, .junk, .junk, .junk, .junk, .junk, .junk, .junk, .junk, .junk, .junk, .junk, .junk, .junk, .junk, .junk, .junk, .junk, .junk, .junk, .junk, .junk, .junk, .junk, .junk, .junk, .junk, .junk, .junk, .junk, .junk, .junk, .junk, .junk, .junk, .junk, .junk, .junk, .junk, .junk, .junk, .junk, .junk, .junk, .junk, .junk, .junk, .junk, .junk, .junk, x132, .junk, .junk, .junk, .junk, .junk, .junk, .junk, .junk, .junk, .junk], h⟩
def se1_0_1_5_6_7_8_9_10_59 (x0 x1 x5 x6 x7 x8 x9 x10 x59 : PV) (h : PHeap) : St := ⟨[x0, x1, .junk, .junk, .junk, x5, x6, x7, x8, x9, x10, .junk, .junk, .junk, .junk, .junk, .junk, .junk, .junk, .junk, .junk, .junk, .junk, .junk, .junk, .junk, .junk, .junk, .junk, .junk, .junk, .junk, .junk, .junk, .junk, .junk, .junk, .junk, .junk, .junk, .junk, .junk, .junk, .junk, .junk, .junk, .junk, .junk, .junk, .junk, .junk, .junk, .junk, .junk, .junk, .junk, .junk, .junk, .junk, x59, .junk, .junk, .junk, .junk, .junk, .junk, .junk, .junk, .junk, .junk, .junk, .junk, .junk, .junk, .junk, .junk, .junk, .junk, .junk, .junk, .junk, .junk, .junk, .junk, .junk, .junk, .junk, .junk, .junk, .junk, .junk, .junk, .junk, .junk, .junk, .junk, .junk, .junk, .junk, .junk, .junk, .junk, .junk, .junk, .junk, .junk, .junk, .junk, .junk, .junk, .junk, .junk, .junk, .junk, .junk, .junk, .junk, .junk, .junk, .junk, .junk, .junk, .junk, .junk, .junk, .junk, .junk, .junk, .junk, .junk, .junk, .junk, .junk, .junk, .junk, .junk, .junk, .junk, .junk, .junk, .junk, .junk, .junk], h⟩
noncomputable def K0 (E : Env) (K : PX → St → Res) : PX → St → Res := (kBlock 1 (kSeq (ev (E.cx Tryd.prog kl) (codeAt (bodyOf Tryd.f67) [1, 1, 1, 1, 1, 1, 1, 1, 1])) K))
@[simp] theorem K0_ret (E : Env) (K : PX → St → Res) (s : St) : K0 E K .ret s = K .ret s := by kernel_rfl
noncomputable def body0 (E : Env) (K : PX → St → Res) (x0 x1 x5 x6 x7 x8 x9 x10 : PV) (h : PHeap) : Res :=
    (E.p.bin .lss 3 x8 x9).bind fun v166 =>
    condP v166
     (
      (E.p.index 9 x0 x8).bind fun v167 =>
      (E.p.bin .neq 5 v167 x6).bind fun v168 =>
      condP v168
       (
        (E.p.bin .add 3 x8 (.int .i64 1)).bind fun v169 =>
        (E.p.slice 9 x0 (some v169) (some x9) h).bind fun v170 =>
        (E.C fn_internal_stringslite_IndexByte [v170, x6] h).bind fun v171 =>
        (E.p.bin .lss 3 v171.1 (.int .i64 0)).bind fun v172 =>
        condP v172
         (
          K .ret (sr_4 (.int .i64 (-1)) v171.2))
         (
          (E.p.bin .add 3 v171.1 (.int .i64 1)).bind fun v173 =>
          (E.p.bin .add 3 x8 v173).bind fun v174 =>
          (E.p.bin .add 3 v174 (.int .i64 1)).bind fun v175 =>
          (E.p.index 9 x0 v175).bind fun v176 =>
          (E.p.bin .eql 5 v176 x7).bind fun v177 =>
          (wantV v177 true).bind fun v178 =>
          (bif v178 then some (x0, v171.2) else some (.tup [], v171.2)).bind fun v179 =>
          (wantV v177 true).bind fun v180 =>
          (bif v180 then some (v174, v179.2) else some (.tup [], v179.2)).bind fun v181 =>
          (wantV v177 true).bind fun v182 =>
          (bif v182 then some (v174, v181.2) else some (.tup [], v181.2)).bind fun v183 =>
          (wantV v177 true).bind fun v184 =>
          (bif v184 then some (x5, v183.2) else some (.tup [], v183.2)).bind fun v185 =>
          (wantV v177 true).bind fun v186 =>
          (bif v186 then pv v185.2 (E.p.bin .add 3 v183.1 v185.1) else some (.tup [], v185.2)).bind fun v187 =>
          (wantV v177 true).bind fun v188 =>
          (bif v188 then pv v187.2 (E.p.slice 9 v179.1 (some v181.1) (some v187.1) v187.2) else some (.tup [], v187.2)).bind fun v189 =>
          (wantV v177 true).bind fun v190 =>
          (bif v190 then some (x1, v189.2) else some (.tup [], v189.2)).bind fun v191 =>
          (wantV v177 true).bind fun v192 =>
          (bif v192 then pv v191.2 (E.p.bin .eql 9 v189.1 v191.1) else some (.tup [], v191.2)).bind fun v193 =>
          (E.p.pick v177 v193.1 (.bool false)).bind fun v194 =>
          condP v194
           (
            K .ret (sr_4 v174 v193.2))
           (
            (E.p.bin .add 3 v174 (.int .i64 1)).bind fun v195 =>
            (E.p.bin .add 3 x10 (.int .i64 1)).bind fun v196 =>
            (E.p.load 3 (E.g 0) v193.2).bind fun v197 =>
            (E.p.bin .leq 3 x5 v197).bind fun v198 =>
            (wantV v198 true).bind fun v199 =>
            (bif v199 then some (v196, v193.2) else some (.tup [], v193.2)).bind fun v200 =>
            (wantV v198 true).bind fun v201 =>
            (bif v201 then some (v195, v200.2) else some (.tup [], v200.2)).bind fun v202 =>
            (wantV v198 true).bind fun v203 =>
            (bif v203 then E.C 81 [v202.1] v202.2 else some (.tup [], v202.2)).bind fun v204 =>
            (wantV v198 true).bind fun v205 =>
            (bif v205 then pv v204.2 (E.p.bin .gtr 3 v200.1 v204.1) else some (.tup [], v204.2)).bind fun v206 =>
            (E.p.pick v198 v206.1 (.bool false)).bind fun v207 =>
            condP v207
             (
              (E.p.slice 9 x0 (some v195) none v206.2).bind fun v208 =>
              (E.p.ext fn_internal_bytealg_IndexString [v208, x1]).bind fun v209 =>
              (E.p.bin .geq 3 v209 (.int .i64 0)).bind fun v210 =>
              condP v210
               (
                (E.p.bin .add 3 v209 v195).bind fun v211 =>
                K .ret (sr_4 v211 v206.2))
               (
                K .ret (sr_4 (.int .i64 (-1)) v206.2)))
             (
              (E.p.load 3 (E.g 0) v206.2).bind fun v212 =>
              (E.p.bin .gtr 3 x5 v212).bind fun v213 =>
              (wantV v213 true).bind fun v214 =>
              (bif v214 then some (v196, v206.2) else some (.tup [], v206.2)).bind fun v215 =>
              (wantV v213 true).bind fun v216 =>
              (bif v216 then some (v195, v215.2) else some (.tup [], v215.2)).bind fun v217 =>
              (wantV v213 true).bind fun v218 =>
              (bif v218 then pv v217.2 (E.p.bin .shr 3 v217.1 (.int .u64 4)) else some (.tup [], v217.2)).bind fun v219 =>
              (wantV v213 true).bind fun v220 =>
              (bif v220 then pv v219.2 (E.p.bin .add 3 (.int .i64 4) v219.1) else some (.tup [], v219.2)).bind fun v221 =>
              (wantV v213 true).bind fun v222 =>
              (bif v222 then pv v221.2 (E.p.bin .geq 3 v215.1 v221.1) else some (.tup [], v221.2)).bind fun v223 =>
              (E.p.pick v213 v223.1 (.bool false)).bind fun v224 =>
              (wantV v224 true).bind fun v225 =>
              (bif v225 then some (v195, v223.2) else some (.tup [], v223.2)).bind fun v226 =>
              (wantV v224 true).bind fun v227 =>
              (bif v227 then some (x9, v226.2) else some (.tup [], v226.2)).bind fun v228 =>
              (wantV v224 true).bind fun v229 =>
              (bif v229 then pv v228.2 (E.p.bin .lss 3 v226.1 v228.1) else some (.tup [], v228.2)).bind fun v230 =>
              (E.p.pick v224 v230.1 (.bool false)).bind fun v231 =>
              condP v231
               (
                (E.p.slice 9 x0 (some v195) none v230.2).bind fun v232 =>
                (E.C 82 [v232, x1] v230.2).bind fun v233 =>
                (E.p.bin .lss 3 v233.1 (.int .i64 0)).bind fun v234 =>
                condP v234
                 (
                  K .ret (sr_4 (.int .i64 (-1)) v233.2))
                 (
                  (E.p.bin .add 3 v195 v233.1).bind fun v235 =>
                  K .ret (sr_4 v235 v233.2)))
               (
                K .normal (sn_0_1_5_6_7_8_9_10_132 x0 x1 x5 x6 x7 v195 x9 v196 v231 v230.2))))))
       (
        (E.p.bin .add 3 x8 (.int .i64 1)).bind fun v236 =>
        (E.p.index 9 x0 v236).bind fun v237 =>
        (E.p.bin .eql 5 v237 x7).bind fun v238 =>
        (wantV v238 true).bind fun v239 =>
        (bif v239 then some (x0, h) else some (.tup [], h)).bind fun v240 =>
        (wantV v238 true).bind fun v241 =>
        (bif v241 then some (x8, v240.2) else some (.tup [], v240.2)).bind fun v242 =>
        (wantV v238 true).bind fun v243 =>
        (bif v243 then some (x8, v242.2) else some (.tup [], v242.2)).bind fun v244 =>
        (wantV v238 true).bind fun v245 =>
        (bif v245 then some (x5, v244.2) else some (.tup [], v244.2)).bind fun v246 =>
        (wantV v238 true).bind fun v247 =>
        (bif v247 then pv v246.2 (E.p.bin .add 3 v244.1 v246.1) else some (.tup [], v246.2)).bind fun v248 =>
        (wantV v238 true).bind fun v249 =>
        (bif v249 then pv v248.2 (E.p.slice 9 v240.1 (some v242.1) (some v248.1) v248.2) else some (.tup [], v248.2)).bind fun v250 =>
        (wantV v238 true).bind fun v251 =>
        (bif v251 then some (x1, v250.2) else some (.tup [], v250.2)).bind fun v252 =>
        (wantV v238 true).bind fun v253 =>
        (bif v253 then pv v252.2 (E.p.bin .eql 9 v250.1 v252.1) else some (.tup [], v252.2)).bind fun v254 =>
        (E.p.pick v238 v254.1 (.bool false)).bind fun v255 =>
        condP v255
         (
          K .ret (sr_4 x8 v254.2))
         (
          (E.p.bin .add 3 x8 (.int .i64 1)).bind fun v256 =>
          (E.p.bin .add 3 x10 (.int .i64 1)).bind fun v257 =>
          (E.p.load 3 (E.g 0) v254.2).bind fun v258 =>
          (E.p.bin .leq 3 x5 v258).bind fun v259 =>
          (wantV v259 true).bind fun v260 =>
          (bif v260 then some (v257, v254.2) else some (.tup [], v254.2)).bind fun v261 =>
          (wantV v259 true).bind fun v262 =>
          (bif v262 then some (v256, v261.2) else some (.tup [], v261.2)).bind fun v263 =>
          (wantV v259 true).bind fun v264 =>
          (bif v264 then E.C 81 [v263.1] v263.2 else some (.tup [], v263.2)).bind fun v265 =>
          (wantV v259 true).bind fun v266 =>
          (bif v266 then pv v265.2 (E.p.bin .gtr 3 v261.1 v265.1) else some (.tup [], v265.2)).bind fun v267 =>
          (E.p.pick v259 v267.1 (.bool false)).bind fun v268 =>
          condP v268
           (
            (E.p.slice 9 x0 (some v256) none v267.2).bind fun v269 =>
            (E.p.ext fn_internal_bytealg_IndexString [v269, x1]).bind fun v270 =>
            (E.p.bin .geq 3 v270 (.int .i64 0)).bind fun v271 =>
            condP v271
             (
              (E.p.bin .add 3 v270 v256).bind fun v272 =>
              K .ret (sr_4 v272 v267.2))
             (
              K .ret (sr_4 (.int .i64 (-1)) v267.2)))
           (
            (E.p.load 3 (E.g 0) v267.2).bind fun v273 =>
            (E.p.bin .gtr 3 x5 v273).bind fun v274 =>
            (wantV v274 true).bind fun v275 =>
            (bif v275 then some (v257, v267.2) else some (.tup [], v267.2)).bind fun v276 =>
            (wantV v274 true).bind fun v277 =>
            (bif v277 then some (v256, v276.2) else some (.tup [], v276.2)).bind fun v278 =>
            (wantV v274 true).bind fun v279 =>
            (bif v279 then pv v278.2 (E.p.bin .shr 3 v278.1 (.int .u64 4)) else some (.tup [], v278.2)).bind fun v280 =>
            (wantV v274 true).bind fun v281 =>
            (bif v281 then pv v280.2 (E.p.bin .add 3 (.int .i64 4) v280.1) else some (.tup [], v280.2)).bind fun v282 =>
            (wantV v274 true).bind fun v283 =>
            (bif v283 then pv v282.2 (E.p.bin .geq 3 v276.1 v282.1) else some (.tup [], v282.2)).bind fun v284 =>
            (E.p.pick v274 v284.1 (.bool false)).bind fun v285 =>
            (wantV v285 true).bind fun v286 =>
            (bif v286 then some (v256, v284.2) else some (.tup [], v284.2)).bind fun v287 =>
            (wantV v285 true).bind fun v288 =>
            (bif v288 then some (x9, v287.2) else some (.tup [], v287.2)).bind fun v289 =>
            (wantV v285 true).bind fun v290 =>
            (bif v290 then pv v289.2 (E.p.bin .lss 3 v287.1 v289.1) else some (.tup [], v289.2)).bind fun v291 =>
            (E.p.pick v285 v291.1 (.bool false)).bind fun v292 =>
            condP v292
             (
              (E.p.slice 9 x0 (some v256) none v291.2).bind fun v293 =>
              (E.C 82 [v293, x1] v291.2).bind fun v294 =>
              (E.p.bin .lss 3 v294.1 (.int .i64 0)).bind fun v295 =>
              condP v295
               (
                K .ret (sr_4 (.int .i64 (-1)) v294.2))
               (
                (E.p.bin .add 3 v256 v294.1).bind fun v296 =>
                K .ret (sr_4 v296 v294.2)))
             (
              K .normal (sn_0_1_5_6_7_8_9_10_132 x0 x1 x5 x6 x7 v256 x9 v257 v292 v291.2))))))
     (
      K (.exit 1) (se1_0_1_5_6_7_8_9_10_59 x0 x1 x5 x6 x7 x8 x9 x10 v166 h))
theorem body0_eq (E : Env) (K : PX → St → Res) (x0 x1 x5 x6 x7 x8 x9 x10 : PV) (h : PHeap) : ev (E.cx Tryd.prog kl) lp0 (st0 x0 x1 x5 x6 x7 x8 x9 x10 h) K = body0 E K x0 x1 x5 x6 x7 x8 x9 x10 h := by kernel_rfl
theorem top_sr_4 (x4 : PV) (h : PHeap) : kTop Tryd.prog Tryd.f67 .ret (sr_4 x4 h) =
    (resV x4).bind fun v297 =>
    some (v297, h) := by kernel_rfl
noncomputable def main (E : Env) (x0 x1 : PV) (h : PHeap) : Res :=
    (E.p.len 9 x1).bind fun v1 =>
    (E.p.bin .eql 3 v1 (.int .i64 0)).bind fun v2 =>
    (wantV v2 false).bind fun v3 =>
    (bif v3 then some (x1, h) else some (.tup [], h)).bind fun v4 =>
    (wantV v2 false).bind fun v5 =>
    (bif v5 then some (x0, v4.2) else some (.tup [], v4.2)).bind fun v6 =>
    (wantV v2 false).bind fun v7 =>
    (bif v7 then pv v6.2 (E.p.bin .eql 9 v4.1 v6.1) else some (.tup [], v6.2)).bind fun v8 =>
    (E.p.pick v2 (.bool true) v8.1).bind fun v9 =>
    condP v9
     (
      (resV (.int .i64 0)).bind fun v10 =>
      some (v10, v8.2))
     (
      (E.p.bin .eql 3 v1 (.int .i64 1)).bind fun v11 =>
      condP v11
       (
        (E.p.index 9 x1 (.int .i64 0)).bind fun v12 =>
        (E.C fn_internal_stringslite_IndexByte [x0, v12] v8.2).bind fun v13 =>
        (resV v13.1).bind fun v14 =>
        some (v14, v13.2))
       (
        (E.p.len 9 x0).bind fun v15 =>
        (E.p.bin .geq 3 v1 v15).bind fun v16 =>
        condP v16
         (
          (resV (.int .i64 (-1))).bind fun v17 =>
          some (v17, v8.2))
         (
          (E.p.load 3 (E.g 0) v8.2).bind fun v18 =>
          (E.p.bin .leq 3 v1 v18).bind fun v19 =>
          (wantV v19 true).bind fun v20 =>
          (bif v20 then some (x0, v8.2) else some (.tup [], v8.2)).bind fun v21 =>
          (wantV v19 true).bind fun v22 =>
          (bif v22 then pv v21.2 (E.p.len 9 v21.1) else some (.tup [], v21.2)).bind fun v23 =>
          (wantV v19 true).bind fun v24 =>
          (bif v24 then pv v23.2 (E.p.bin .leq 3 v23.1 (.int .i64 64)) else some (.tup [], v23.2)).bind fun v25 =>
          (E.p.pick v19 v25.1 (.bool false)).bind fun v26 =>
          condP v26
           (
            (E.p.ext fn_internal_bytealg_IndexString [x0, x1]).bind fun v27 =>
            (resV v27).bind fun v28 =>
            some (v28, v25.2))
           (
            (E.p.index 9 x1 (.int .i64 0)).bind fun v29 =>
            (E.p.index 9 x1 (.int .i64 1)).bind fun v30 =>
            (E.p.len 9 x0).bind fun v31 =>
            (E.p.bin .sub 3 v31 v1).bind fun v32 =>
            (E.p.bin .add 3 v32 (.int .i64 1)).bind fun v33 =>
            loopK (ev (E.cx Tryd.prog internal_stringslite_Index.kl) internal_stringslite_Index.lp0) E.lf (internal_stringslite_Index.st0 x0 x1 v1 v29 v30 (.int .i64 0) v33 (.int .i64 0) v25.2) (internal_stringslite_Index.K0 E (kTop Tryd.prog Tryd.f67))))))
theorem main_eq (E : Env) (x0 x1 : PV) (h : PHeap) : runBody (E.cx Tryd.prog kl) Tryd.f67 [x0, x1] h = main E x0 x1 h := by kernel_rfl
theorem call_eq (g : Nat → PV) (lf n : Nat) (x0 x1 : PV) (h : PHeap) : CL g lf (n + 1) fn_internal_stringslite_Index [x0, x1] h = main (env g lf n) x0 x1 h := by
  rw [← main_eq]
  show call Tryd.prog g KL lf (n + 1) 67 [x0, x1] h = _
  rw [call_succ, Tryd.func67]
  kernel_rfl
end internal_stringslite_Index
namespace strings_genSplit
noncomputable def lp0 : Code := (codeAt (bodyOf Tryd.f68) [1, 1, 1, 1, 1, 1, 1, 1, 0, 0, 0])
def st0 (x0 x1 x2 x3 x9 x10 : PV) (h : PHeap) : St := ⟨[x0, x1, x2, x3, .junk, .junk, .junk, .junk, .junk, x9, x10, .junk, .junk, .junk, .junk, .junk, .junk, .junk, .junk, .junk, .junk, .junk, .junk, .junk, .junk, .junk, .junk, .junk, .junk, .junk, .junk, .junk, .junk, .junk, .junk, .junk, .junk, .junk, .junk, .junk, .junk, .junk, .junk, .junk, .junk, .junk, .junk, .junk, .junk, .junk, .junk, .junk, .junk, .junk, .junk, .junk, .junk, .junk, .junk, .junk, .junk, .junk, .junk, .junk, .junk, .junk], h⟩
def se0_0_1_2_3_9_10_11_41 (x0 x1 x2 x3 x9 x10 x11 x41 : PV) (h : PHeap) : St := ⟨[x0, x1, x2, x3, .junk, .junk, .junk, .junk, .junk, x9, x10, x11, .junk, .junk, .junk, .junk, .junk, .junk, .junk, .junk, .junk, .junk, .junk, .junk, .junk, .junk, .junk, .junk, .junk, .junk, .junk, .junk, .junk, .junk, .junk, .junk, .junk, .junk, .junk, .junk, .junk, x41, .junk, .junk, .junk, .junk, .junk, .junk, .junk, .junk, .junk, .junk, .junk, .junk, .junk, .junk, .junk, .junk, .junk, .junk, .junk, .junk, .junk, .junk, .junk, .junk], h⟩
def se0_0_1_2_3_9_10_36 (x0 x1 x2 x3 x9 x10 x36 : PV) (h : PHeap) : St := ⟨[x0, x1, x2, x3, .junk, .junk, .junk, .junk, .junk, x9, x10, .junk, .junk, .junk, .junk, .junk, .junk, .junk, .junk, .junk, .junk, .junk, .junk, .junk, .junk, .junk, .junk, .junk, .junk, .junk, .junk, .junk, .junk, .junk, .junk, .junk, x36, .junk, .junk, .junk, .junk, .junk, .junk, .junk, .junk, .junk, .junk, .junk, .junk, .junk, .junk, .junk, .junk, .junk, .junk, .junk, .junk, .junk, .junk, .junk, .junk, .junk, .junk, .junk, .junk, .junk], h⟩
noncomputable def K0 (E : Env) (K : PX → St → Res) : PX → St → Res := (kBlock 0 (kSeq (ev (E.cx Tryd.prog kl) (codeAt (bodyOf Tryd.f68) [1, 1, 1, 1, 1, 1, 1, 1, 1])) K))
@[simp] theorem K0_ret (E : Env) (K : PX → St → Res) (s : St) : K0 E K .ret s = K .ret s := by kernel_rfl
noncomputable def body0 (E : Env) (K : PX → St → Res) (x0 x1 x2 x3 x9 x10 : PV) (h : PHeap) : Res :=
    (E.p.bin .lss 3 x10 x3).bind fun v40 =>
    condP v40
     (
      (E.C fn_strings_Index [x0, x1] h).bind fun v41 =>
      (E.p.bin .lss 3 v41.1 (.int .i64 0)).bind fun v42 =>
      condP v42
       (
        K (.exit 0) (se0_0_1_2_3_9_10_11_41 x0 x1 x2 x3 x9 x10 v41.1 v42 v41.2))
       (
        (E.p.bin .add 3 v41.1 x2).bind fun v43 =>
        (E.p.slice 9 x0 none (some v43) v41.2).bind fun v44 =>
        (E.p.indexAddr 43 x9 x10).bind fun v45 =>
        (E.p.store 9 v45 v44 v41.2).bind fun v46 =>
        (E.p.len 9 x1).bind fun v47 =>
        (E.p.bin .add 3 v41.1 v47).bind fun v48 =>
        (E.p.slice 9 x0 (some v48) none v46).bind fun v49 =>
        (E.p.bin .add 3 x10 (.int .i64 1)).bind fun v50 =>
        K .normal (st0 v49 x1 x2 x3 x9 v50 v46)))
     (
      K (.exit 0) (se0_0_1_2_3_9_10_36 x0 x1 x2 x3 x9 x10 v40 h))
theorem body0_eq (E : Env) (K : PX → St → Res) (x0 x1 x2 x3 x9 x10 : PV) (h : PHeap) : ev (E.cx Tryd.prog kl) lp0 (st0 x0 x1 x2 x3 x9 x10 h) K = body0 E K x0 x1 x2 x3 x9 x10 h := by kernel_rfl
theorem after0_se0_0_1_2_3_9_10_36 (E : Env) (x0 x1 x2 x3 x9 x10 x36 : PV) (h : PHeap) : K0 E (kTop Tryd.prog Tryd.f68) (.exit 0) (se0_0_1_2_3_9_10_36 x0 x1 x2 x3 x9 x10 x36 h) =
    (E.p.indexAddr 43 x9 x10).bind fun v35 =>
    (E.p.store 9 v35 x0 h).bind fun v36 =>
    (E.p.bin .add 3 x10 (.int .i64 1)).bind fun v37 =>
    (E.p.slice 43 x9 none (some v37) v36).bind fun v38 =>
    (resV v38).bind fun v39 =>
    some (v39, v36) := by kernel_rfl
noncomputable def main (E : Env) (x0 x1 x2 x3 : PV) (h : PHeap) : Res :=
    (E.p.bin .eql 3 x3 (.int .i64 0)).bind fun v1 =>
    condP v1
     (
      (resV .nilsl).bind fun v2 =>
      some (v2, h))
     (
      (E.p.bin .eql 9 x1 (.str (sB []))).bind fun v3 =>
      condP v3
       (
        (E.C 83 [x0, x3] h).bind fun v4 =>
        (resV v4.1).bind fun v5 =>
        some (v5, v4.2))
       (
        (E.p.bin .lss 3 x3 (.int .i64 0)).bind fun v6 =>
        condP v6
         (
          (E.C fn_strings_Count [x0, x1] h).bind fun v7 =>
          (E.p.bin .add 3 v7.1 (.int .i64 1)).bind fun v8 =>
          (E.p.len 9 x0).bind fun v9 =>
          (E.p.bin .add 3 v9 (.int .i64 1)).bind fun v10 =>
          (E.p.min v8 [v10]).bind fun v11 =>
          (E.p.make 43 v11 v11 v7.2).bind fun v12 =>
          (E.p.bin .sub 3 v11 (.int .i64 1)).bind fun v13 =>
          loopK (ev (E.cx Tryd.prog strings_genSplit.kl) strings_genSplit.lp0) E.lf (strings_genSplit.st0 x0 x1 x2 v13 v12.1 (.int .i64 0) v12.2) (strings_genSplit.K0 E (kTop Tryd.prog Tryd.f68)))
         (
          (E.p.len 9 x0).bind fun v14 =>
          (E.p.bin .add 3 v14 (.int .i64 1)).bind fun v15 =>
          (E.p.min x3 [v15]).bind fun v16 =>
          (E.p.make 43 v16 v16 h).bind fun v17 =>
          (E.p.bin .sub 3 v16 (.int .i64 1)).bind fun v18 =>
          loopK (ev (E.cx Tryd.prog strings_genSplit.kl) strings_genSplit.lp0) E.lf (strings_genSplit.st0 x0 x1 x2 v18 v17.1 (.int .i64 0) v17.2) (strings_genSplit.K0 E (kTop Tryd.prog Tryd.f68)))))
theorem main_eq (E : Env) (x0 x1 x2 x3 : PV) (h : PHeap) : runBody (E.cx Tryd.prog kl) Tryd.f68 [x0, x1, x2, x3] h = main E x0 x1 x2 x3 h := by kernel_rfl
theorem call_eq (g : Nat → PV) (lf n : Nat) (x0 x1 x2 x3 : PV) (h : PHeap) : CL g lf (n + 1) fn_strings_genSplit [x0, x1, x2, x3] h = main (env g lf n) x0 x1 x2 x3 h := by
  rw [← main_eq]
  show call Tryd.prog g KL lf (n + 1) 68 [x0, x1, x2, x3] h = _
  rw [call_succ, Tryd.func68]
  kernel_rfl
end strings_genSplit
namespace spec_l1Near
noncomputable def lp0 : Code := (codeAt (bodyOf Tryd.f69) [1, 1, 1, 1, 0, 1, 0, 0])
def st0 (x0 x1 x7 x8 x9 x10 : PV) (h : PHeap) : St := ⟨[x0, x1, .junk, .junk, .junk, .junk, .junk, x7, x8, x9, x10, .junk, .junk, .junk, .junk, .junk, .junk, .junk, .junk, .junk, .junk, .junk, .junk, .junk, .junk, .junk, .junk, .junk, .junk, .junk, .junk, .junk, .junk, .junk, .junk, .junk, .junk, .junk, .junk, .junk, .junk, .junk, .junk, .junk, .junk, .junk, .junk, .junk, .junk, .junk, .junk, .junk, .junk, .junk, .junk, .junk, .junk, .junk, .junk, .junk, .junk, .junk, .junk], h⟩
noncomputable def lp1 : Code := (codeAt (bodyOf Tryd.f69) [1, 1, 1, 1, 0, 1, 0, 0, 1, 0, 0, 1, 0, 0])
def st1 (x0 x1 x7 x8 x9 x10 x11 : PV) (h : PHeap) : St := ⟨[x0, x1, .junk, .junk, .junk, .junk, .junk, x7, x8, x9, x10, x11, .junk, .junk, .junk, .junk, .junk, .junk, .junk, .junk, .junk, .junk, .junk, .junk, .junk, .junk, .junk, .junk, .junk, .junk, .junk, .junk, .junk, .junk, .junk, .junk, .junk, .junk, .junk, .junk, .junk, .junk, .junk, .junk, .junk, .junk, .junk, .junk, .junk, .junk, .junk, .junk, .junk, .junk, .junk, .junk, .junk, .junk, .junk, .junk, .junk, .junk, .junk], h⟩
def se0_0_1_7_8_9_10_24 (x0 x1 x7 x8 x9 x10 x24 : PV) (h : PHeap) : St := ⟨[x0, x1, .junk, .junk, .junk, .junk, .junk, x7, x8, x9, x10, .junk, .junk, .junk, .junk, .junk, .junk, .junk, .junk, .junk, .junk, .junk, .junk, .junk, x24, .junk, .junk, .junk, .junk, .junk, .junk, .junk, .junk, .junk, .junk, .junk, .junk, .junk, .junk, .junk, .junk, .junk, .junk, .junk, .junk, .junk, .junk, .junk, .junk, .junk, .junk, .junk, .junk, .junk, .junk, .junk, .junk, .junk, .junk, .junk, .junk, .junk, .junk], h⟩
def se2_0_1_7_8_9_10_11_32 (x0 x1 x7 x8 x9 x10 x11 x32 : PV) (h : PHeap) : St := ⟨[x0, x1, .junk, .junk, .junk, .junk, .junk, x7, x8, x9, x10, x11, .junk, .junk, .junk, .junk, .junk, .junk, .junk, .junk, .junk, .junk, .junk, .junk, .junk, .junk, .junk, .junk, .junk, .junk, .junk, .junk, x32, .junk, .junk, .junk, .junk, .junk, .junk, .junk, .junk, .junk, .junk, .junk, .junk, .junk, .junk, .junk, .junk, .junk, .junk, .junk, .junk, .junk, .junk, .junk, .junk, .junk, .junk, .junk, .junk, .junk, .junk], h⟩
noncomputable def K0 (E : Env) (K : PX → St → Res) : PX → St → Res := (kBlock 0 (kSeq (ev (E.cx Tryd.prog kl) (codeAt (bodyOf Tryd.f69) [1, 1, 1, 1, 1])) K))
@[simp] theorem K0_ret (E : Env) (K : PX → St → Res) (s : St) : K0 E K .ret s = K .ret s := by kernel_rfl
noncomputable def K1 (E : Env) (K : PX → St → Res) : PX → St → Res := (kBlock 2 (kBlock 1 (kSeq (ev (E.cx Tryd.prog kl) (codeAt (bodyOf Tryd.f69) [1, 1, 1, 1, 0, 1, 0, 0, 1, 1])) K)))
@[simp] theorem K1_ret (E : Env) (K : PX → St → Res) (s : St) : K1 E K .ret s = K .ret s := by kernel_rfl
noncomputable def body0 (E : Env) (K : PX → St → Res) (x0 x1 x7 x8 x9 x10 : PV) (h : PHeap) : Res :=
    (E.p.bin .add 3 x8 (.int .i64 1)).bind fun v39 =>
    (E.p.bin .leq 3 x10 v39).bind fun v40 =>
    condP v40
     (
      (E.p.bin .sub 3 x9 (.int .i64 1)).bind fun v41 =>
      loopK (ev (E.cx Tryd.prog spec_l1Near.kl) spec_l1Near.lp1) E.lf (spec_l1Near.st1 x0 x1 x7 x8 x9 x10 v41 h) (spec_l1Near.K1 E K))
     (
      K (.exit 0) (se0_0_1_7_8_9_10_24 x0 x1 x7 x8 x9 x10 v40 h))
theorem body0_eq (E : Env) (K : PX → St → Res) (x0 x1 x7 x8 x9 x10 : PV) (h : PHeap) : ev (E.cx Tryd.prog kl) lp0 (st0 x0 x1 x7 x8 x9 x10 h) K = body0 E K x0 x1 x7 x8 x9 x10 h := by kernel_rfl
noncomputable def body1 (E : Env) (K : PX → St → Res) (x0 x1 x7 x8 x9 x10 x11 : PV) (h : PHeap) : Res :=
    (E.p.bin .add 3 x9 (.int .i64 1)).bind fun v42 =>
    (E.p.bin .leq 3 x11 v42).bind fun v43 =>
    condP v43
     (
      (E.p.bin .sub 3 x10 x8).bind fun v44 =>
      (E.p.bin .sub 3 x11 x9).bind fun v45 =>
      (E.p.bin .neq 3 v44 v45).bind fun v46 =>
      (wantV v46 true).bind fun v47 =>
      (bif v47 then some (x10, h) else some (.tup [], h)).bind fun v48 =>
      (wantV v46 true).bind fun v49 =>
      (bif v49 then some (x0, v48.2) else some (.tup [], v48.2)).bind fun v50 =>
      (wantV v46 true).bind fun v51 =>
      (bif v51 then pv v50.2 (E.p.bin .sub 3 v50.1 (.int .i64 1)) else some (.tup [], v50.2)).bind fun v52 =>
      (wantV v46 true).bind fun v53 =>
      (bif v53 then E.C fn_spec_l1In [v48.1, (.int .i64 0), v52.1] v52.2 else some (.tup [], v52.2)).bind fun v54 =>
      (E.p.pick v46 v54.1 (.bool false)).bind fun v55 =>
      (wantV v55 true).bind fun v56 =>
      (bif v56 then some (x11, v54.2) else some (.tup [], v54.2)).bind fun v57 =>
      (wantV v55 true).bind fun v58 =>
      (bif v58 then some (x1, v57.2) else some (.tup [], v57.2)).bind fun v59 =>
      (wantV v55 true).bind fun v60 =>
      (bif v60 then pv v59.2 (E.p.bin .sub 3 v59.1 (.int .i64 1)) else some (.tup [], v59.2)).bind fun v61 =>
      (wantV v55 true).bind fun v62 =>
      (bif v62 then E.C fn_spec_l1In [v57.1, (.int .i64 0), v61.1] v61.2 else some (.tup [], v61.2)).bind fun v63 =>
      (E.p.pick v55 v63.1 (.bool false)).bind fun v64 =>
      condP v64
       (
        (E.p.bin .mul 3 x10 x1).bind fun v65 =>
        (E.p.bin .add 3 v65 x11).bind fun v66 =>
        (E.p.buildSlice 22 1 [(0, v66)] v63.2).bind fun v67 =>
        (E.p.append 22 22 x7 v67.1 v67.2).bind fun v68 =>
        (E.p.bin .add 3 x11 (.int .i64 1)).bind fun v69 =>
        K .normal (st1 x0 x1 v68.1 x8 x9 x10 v69 v68.2))
       (
        (E.p.bin .add 3 x11 (.int .i64 1)).bind fun v70 =>
        K .normal (st1 x0 x1 x7 x8 x9 x10 v70 v63.2)))
     (
      K (.exit 2) (se2_0_1_7_8_9_10_11_32 x0 x1 x7 x8 x9 x10 x11 v43 h))
theorem body1_eq (E : Env) (K : PX → St → Res) (x0 x1 x7 x8 x9 x10 x11 : PV) (h : PHeap) : ev (E.cx Tryd.prog kl) lp1 (st1 x0 x1 x7 x8 x9 x10 x11 h) K = body1 E K x0 x1 x7 x8 x9 x10 x11 h := by kernel_rfl
theorem after0_se0_0_1_7_8_9_10_24 (E : Env) (x0 x1 x7 x8 x9 x10 x24 : PV) (h : PHeap) : K0 E (kTop Tryd.prog Tryd.f69) (.exit 0) (se0_0_1_7_8_9_10_24 x0 x1 x7 x8 x9 x10 x24 h) =
    (resV x7).bind fun v37 =>
    some (v37, h) := by kernel_rfl
theorem after1_se2_0_1_7_8_9_10_11_32 (E : Env) (K : PX → St → Res) (x0 x1 x7 x8 x9 x10 x11 x32 : PV) (h : PHeap) : K1 E K (.exit 2) (se2_0_1_7_8_9_10_11_32 x0 x1 x7 x8 x9 x10 x11 x32 h) =
    (E.p.bin .add 3 x10 (.int .i64 1)).bind fun v38 =>
    K .normal (st0 x0 x1 x7 x8 x9 v38 h) := by kernel_rfl
noncomputable def main (E : Env) (x0 x1 x2 : PV) (h : PHeap) : Res :=
    (E.p.buildSlice 22 0 [] h).bind fun v1 =>
    (E.p.bin .quo 3 x2 x1).bind fun v2 =>
    (E.p.bin .rem 3 x2 x1).bind fun v3 =>
    (E.p.bin .sub 3 v2 (.int .i64 1)).bind fun v4 =>
    loopK (ev (E.cx Tryd.prog spec_l1Near.kl) spec_l1Near.lp0) E.lf (spec_l1Near.st0 x0 x1 v1.1 v2 v3 v4 v1.2) (spec_l1Near.K0 E (kTop Tryd.prog Tryd.f69))
theorem main_eq (E : Env) (x0 x1 x2 : PV) (h : PHeap) : runBody (E.cx Tryd.prog kl) Tryd.f69 [x0, x1, x2] h = main E x0 x1 x2 h := by kernel_rfl
theorem call_eq (g : Nat → PV) (lf n : Nat) (x0 x1 x2 : PV) (h : PHeap) : CL g lf (n + 1) fn_spec_l1Near [x0, x1, x2] h = main (env g lf n) x0 x1 x2 h := by
  rw [← main_eq]
  show call Tryd.prog g KL lf (n + 1) 69 [x0, x1, x2] h = _
  rw [call_succ, Tryd.func69]
  kernel_rfl
end spec_l1Near
namespace spec_l2Joins
noncomputable def main (E : Env) (x0 x1 x2 x3 x4 : PV) (h : PHeap) : Res :=
    (E.C fn_spec_l2Side [x0, x1, x4, (.bool false)] h).bind fun v1 =>
    (E.C fn_spec_l2Grow [x2, x3, v1.1] v1.2).bind fun v2 =>
    (E.C fn_spec_l2Side [x0, x1, x4, (.bool true)] v2.2).bind fun v3 =>
    (E.p.bin .and 3 v2.1 v3.1).bind fun v4 =>
    (E.p.bin .neq 3 v4 (.int .i64 0)).bind fun v5 =>
    (resV v5).bind fun v6 =>
    some (v6, v3.2)
theorem main_eq (E : Env) (x0 x1 x2 x3 x4 : PV) (h : PHeap) : runBody (E.cx Tryd.prog kl) Tryd.f70 [x0, x1, x2, x3, x4] h = main E x0 x1 x2 x3 x4 h := by kernel_rfl
theorem call_eq (g : Nat → PV) (lf n : Nat) (x0 x1 x2 x3 x4 : PV) (h : PHeap) : CL g lf (n + 1) fn_spec_l2Joins [x0, x1, x2, x3, x4] h = main (env g lf n) x0 x1 x2 x3 x4 h := by
  rw [← main_eq]
  show call Tryd.prog g KL lf (n + 1) 70 [x0, x1, x2, x3, x4] h = _
  rw [call_succ, Tryd.func70]
  kernel_rfl
end spec_l2Joins
namespace spec_PositionOk
noncomputable def lp0 : Code := (codeAt (bodyOf Tryd.f71) [1, 0, 1, 0, 0])
def st0 (x0 x1 x2 x7 : PV) (h : PHeap) : St := ⟨[x0, x1, x2, .junk, .junk, .junk, .junk, x7, .junk, .junk, .junk, .junk, .junk, .junk, .junk, .junk, .junk, .junk, .junk, .junk, .junk, .junk, .junk, .junk, .junk, .junk, .junk, .junk, .junk, .junk, .junk], h⟩
def sr_6 (x6 : PV) (h : PHeap) : St := ⟨[.junk, .junk, .junk, .junk, .junk, .junk, x6, .junk, .junk, .junk, .junk, .junk, .junk, .junk, .junk, .junk, .junk, .junk, .junk, .junk, .junk, .junk, .junk, .junk, .junk, .junk, .junk, .junk, .junk, .junk, .junk], h⟩
def se0_0_1_2_7_11 (x0 x1 x2 x7 x11 : PV) (h : PHeap) : St := ⟨[x0, x1, x2, .junk, .junk, .junk, .junk, x7, .junk, .junk, .junk, x11, .junk, .junk, .junk, .junk, .junk, .junk, .junk, .junk, .junk, .junk, .junk, .junk, .junk, .junk, .junk, .junk, .junk, .junk, .junk], h⟩
noncomputable def K0 (E : Env) (K : PX → St → Res) : PX → St → Res := (kBlock 0 (kSeq (ev (E.cx Tryd.prog kl) (codeAt (bodyOf Tryd.f71) [1, 1])) K))
@[simp] theorem K0_ret (E : Env) (K : PX → St → Res) (s : St) : K0 E K .ret s = K .ret s := by kernel_rfl
noncomputable def body0 (E : Env) (K : PX → St → Res) (x0 x1 x2 x7 : PV) (h : PHeap) : Res :=
    (E.p.len 22 x2).bind fun v23 =>
    (E.p.bin .lss 3 x7 v23).bind fun v24 =>
    condP v24
     (
      (E.p.indexAddr 22 x2 x7).bind fun v25 =>
      (E.p.load 3 v25 h).bind fun v26 =>
      (E.C fn_spec_l1In [v26, (.int .i64 0), (.int .i64 2)] h).bind fun v27 =>
      (E.p.un .not v27.1).bind fun v28 =>
      condP v28
       (
        K .ret (sr_6 (.bool false) v27.2))
       (
        (E.p.bin .add 3 x7 (.int .i64 1)).bind fun v29 =>
        K .normal (st0 x0 x1 x2 v29 v27.2)))
     (
      K (.exit 0) (se0_0_1_2_7_11 x0 x1 x2 x7 v24 h))
theorem body0_eq (E : Env) (K : PX → St → Res) (x0 x1 x2 x7 : PV) (h : PHeap) : ev (E.cx Tryd.prog kl) lp0 (st0 x0 x1 x2 x7 h) K = body0 E K x0 x1 x2 x7 h := by kernel_rfl
theorem after0_se0_0_1_2_7_11 (E : Env) (x0 x1 x2 x7 x11 : PV) (h : PHeap) : K0 E (kTop Tryd.prog Tryd.f71) (.exit 0) (se0_0_1_2_7_11 x0 x1 x2 x7 x11 h) =
    (E.C fn_spec_BoardOk [x0, x1] h).bind fun v8 =>
    (wantV v8.1 true).bind fun v9 =>
    (bif v9 then some (x2, v8.2) else some (.tup [], v8.2)).bind fun v10 =>
    (wantV v8.1 true).bind fun v11 =>
    (bif v11 then pv v10.2 (E.p.len 22 v10.1) else some (.tup [], v10.2)).bind fun v12 =>
    (wantV v8.1 true).bind fun v13 =>
    (bif v13 then some (x0, v12.2) else some (.tup [], v12.2)).bind fun v14 =>
    (wantV v8.1 true).bind fun v15 =>
    (bif v15 then some (x1, v14.2) else some (.tup [], v14.2)).bind fun v16 =>
    (wantV v8.1 true).bind fun v17 =>
    (bif v17 then pv v16.2 (E.p.bin .mul 3 v14.1 v16.1) else some (.tup [], v16.2)).bind fun v18 =>
    (wantV v8.1 true).bind fun v19 =>
    (bif v19 then pv v18.2 (E.p.bin .eql 3 v12.1 v18.1) else some (.tup [], v18.2)).bind fun v20 =>
    (E.p.pick v8.1 v20.1 (.bool false)).bind fun v21 =>
    (resV v21).bind fun v22 =>
    some (v22, v20.2) := by kernel_rfl
theorem top_sr_6 (x6 : PV) (h : PHeap) : kTop Tryd.prog Tryd.f71 .ret (sr_6 x6 h) =
    (resV x6).bind fun v30 =>
    some (v30, h) := by kernel_rfl
noncomputable def main (E : Env) (x0 x1 x2 : PV) (h : PHeap) : Res :=
    loopK (ev (E.cx Tryd.prog spec_PositionOk.kl) spec_PositionOk.lp0) E.lf (spec_PositionOk.st0 x0 x1 x2 (.int .i64 0) h) (spec_PositionOk.K0 E (kTop Tryd.prog Tryd.f71))
theorem main_eq (E : Env) (x0 x1 x2 : PV) (h : PHeap) : runBody (E.cx Tryd.prog kl) Tryd.f71 [x0, x1, x2] h = main E x0 x1 x2 h := by kernel_rfl
theorem call_eq (g : Nat → PV) (lf n : Nat) (x0 x1 x2 : PV) (h : PHeap) : CL g lf (n + 1) fn_spec_PositionOk [x0, x1, x2] h = main (env g lf n) x0 x1 x2 h := by
  rw [← main_eq]
  show call Tryd.prog g KL lf (n + 1) 71 [x0, x1, x2] h = _
  rw [call_succ, Tryd.func71]
  kernel_rfl
end spec_PositionOk
namespace spec_Joins
noncomputable def main (E : Env) (x0 x1 x2 x3 : PV) (h : PHeap) : Res :=
    (E.C fn_spec_PositionOk [x0, x1, x2] h).bind fun v1 =>
    (E.p.un .not v1.1).bind fun v2 =>
    (wantV v2 false).bind fun v3 =>
    (bif v3 then some (x3, v1.2) else some (.tup [], v1.2)).bind fun v4 =>
    (wantV v2 false).bind fun v5 =>
    (bif v5 then E.C fn_spec_l1In [v4.1, (.int .i64 1), (.int .i64 2)] v4.2 else some (.tup [], v4.2)).bind fun v6 =>
    (wantV v2 false).bind fun v7 =>
    (bif v7 then pv v6.2 (E.p.un .not v6.1) else some (.tup [], v6.2)).bind fun v8 =>
    (E.p.pick v2 (.bool true) v8.1).bind fun v9 =>
    condP v9
     (
      (resV (.bool false)).bind fun v10 =>
      some (v10, v8.2))
     (
      (E.C fn_spec_l2Masks [x0, x1] v8.2).bind fun v11 =>
      (E.C fn_spec_l2Set [x2, x3] v11.2).bind fun v12 =>
      (E.C fn_spec_l2Joins [x0, x1, v11.1, v12.1, x3] v12.2).bind fun v13 =>
      (resV v13.1).bind fun v14 =>
      some (v14, v13.2))
theorem main_eq (E : Env) (x0 x1 x2 x3 : PV) (h : PHeap) : runBody (E.cx Tryd.prog kl) Tryd.f72 [x0, x1, x2, x3] h = main E x0 x1 x2 x3 h := by kernel_rfl
theorem call_eq (g : Nat → PV) (lf n : Nat) (x0 x1 x2 x3 : PV) (h : PHeap) : CL g lf (n + 1) fn_spec_Joins [x0, x1, x2, x3] h = main (env g lf n) x0 x1 x2 x3 h := by
  rw [← main_eq]
  show call Tryd.prog g KL lf (n + 1) 72 [x0, x1, x2, x3] h = _
  rw [call_succ, Tryd.func72]
  kernel_rfl
end spec_Joins
namespace impl_NearCells
noncomputable def lp0 : Code := (codeAt (bodyOf Tryd.f73) [1, 1, 1, 0, 1, 0, 0])
def st0 (x0 x1 x2 x7 x17 x18 : PV) (h : PHeap) : St := ⟨[x0, x1, x2, .junk, .junk, .junk, .junk, x7, .junk, .junk, .junk, .junk, .junk, .junk, .junk, .junk, .junk, x17, x18, .junk, .junk, .junk, .junk, .junk, .junk, .junk, .junk, .junk, .junk, .junk, .junk, .junk, .junk, .junk, .junk, .junk, .junk, .junk, .junk, .junk, .junk, .junk, .junk, .junk, .junk, .junk, .junk, .junk, .junk, .junk, .junk, .junk, .junk, .junk, .junk, .junk, .junk, .junk, .junk], h⟩
def se0_0_1_2_7_17_18_19 (x0 x1 x2 x7 x17 x18 x19 : PV) (h : PHeap) : St := ⟨[x0, x1, x2, .junk, .junk, .junk, .junk, x7, .junk, .junk, .junk, .junk, .junk, .junk, .junk, .junk, .junk, x17, x18, x19, .junk, .junk, .junk, .junk, .junk, .junk, .junk, .junk, .junk, .junk, .junk, .junk, .junk, .junk, .junk, .junk, .junk, .junk, .junk, .junk, .junk, .junk, .junk, .junk, .junk, .junk, .junk, .junk, .junk, .junk, .junk, .junk, .junk, .junk, .junk, .junk, .junk, .junk, .junk], h⟩
noncomputable def K0 (E : Env) (K : PX → St → Res) : PX → St → Res := (kBlock 0 (kSeq (ev (E.cx Tryd.prog kl) (codeAt (bodyOf Tryd.f73) [1, 1, 1, 1])) K))
@[simp] theorem K0_ret (E : Env) (K : PX → St → Res) (s : St) : K0 E K .ret s = K .ret s := by kernel_rfl
noncomputable def body0 (E : Env) (K : PX → St → Res) (x0 x1 x2 x7 x17 x18 : PV) (h : PHeap) : Res :=
    (E.p.bin .lss 3 x18 (.int .i64 6)).bind fun v44 =>
    condP v44
     (
      (E.p.index 88 x17 x18).bind fun v45 =>
      (E.p.alloc 87 h).bind fun v46 =>
      (E.p.store 87 v46.1 v45 v46.2).bind fun v47 =>
      (E.p.bin .quo 3 x2 x1).bind fun v48 =>
      (E.p.indexAddr 87 v46.1 (.int .i64 0)).bind fun v49 =>
      (E.p.load 3 v49 v47).bind fun v50 =>
      (E.p.bin .add 3 v48 v50).bind fun v51 =>
      (E.p.bin .rem 3 x2 x1).bind fun v52 =>
      (E.p.indexAddr 87 v46.1 (.int .i64 1)).bind fun v53 =>
      (E.p.load 3 v53 v47).bind fun v54 =>
      (E.p.bin .add 3 v52 v54).bind fun v55 =>
      (E.p.bin .geq 3 v51 (.int .i64 0)).bind fun v56 =>
      (wantV v56 true).bind fun v57 =>
      (bif v57 then some (v51, v47) else some (.tup [], v47)).bind fun v58 =>
      (wantV v56 true).bind fun v59 =>
      (bif v59 then some (x0, v58.2) else some (.tup [], v58.2)).bind fun v60 =>
      (wantV v56 true).bind fun v61 =>
      (bif v61 then pv v60.2 (E.p.bin .lss 3 v58.1 v60.1) else some (.tup [], v60.2)).bind fun v62 =>
      (E.p.pick v56 v62.1 (.bool false)).bind fun v63 =>
      (wantV v63 true).bind fun v64 =>
      (bif v64 then some (v55, v62.2) else some (.tup [], v62.2)).bind fun v65 =>
      (wantV v63 true).bind fun v66 =>
      (bif v66 then pv v65.2 (E.p.bin .geq 3 v65.1 (.int .i64 0)) else some (.tup [], v65.2)).bind fun v67 =>
      (E.p.pick v63 v67.1 (.bool false)).bind fun v68 =>
      (wantV v68 true).bind fun v69 =>
      (bif v69 then some (v55, v67.2) else some (.tup [], v67.2)).bind fun v70 =>
      (wantV v68 true).bind fun v71 =>
      (bif v71 then some (x1, v70.2) else some (.tup [], v70.2)).bind fun v72 =>
      (wantV v68 true).bind fun v73 =>
      (bif v73 then pv v72.2 (E.p.bin .lss 3 v70.1 v72.1) else some (.tup [], v72.2)).bind fun v74 =>
      (E.p.pick v68 v74.1 (.bool false)).bind fun v75 =>
      condP v75
       (
        (E.p.bin .mul 3 v51 x1).bind fun v76 =>
        (E.p.bin .add 3 v76 v55).bind fun v77 =>
        (E.p.buildSlice 22 1 [(0, v77)] v74.2).bind fun v78 =>
        (E.p.append 22 22 x7 v78.1 v78.2).bind fun v79 =>
        (E.p.bin .add 3 x18 (.int .i64 1)).bind fun v80 =>
        K .normal (st0 x0 x1 x2 v79.1 x17 v80 v79.2))
       (
        (E.p.bin .add 3 x18 (.int .i64 1)).bind fun v81 =>
        K .normal (st0 x0 x1 x2 x7 x17 v81 v74.2)))
     (
      K (.exit 0) (se0_0_1_2_7_17_18_19 x0 x1 x2 x7 x17 x18 v44 h))
theorem body0_eq (E : Env) (K : PX → St → Res) (x0 x1 x2 x7 x17 x18 : PV) (h : PHeap) : ev (E.cx Tryd.prog kl) lp0 (st0 x0 x1 x2 x7 x17 x18 h) K = body0 E K x0 x1 x2 x7 x17 x18 h := by kernel_rfl
theorem after0_se0_0_1_2_7_17_18_19 (E : Env) (x0 x1 x2 x7 x17 x18 x19 : PV) (h : PHeap) : K0 E (kTop Tryd.prog Tryd.f73) (.exit 0) (se0_0_1_2_7_17_18_19 x0 x1 x2 x7 x17 x18 x19 h) =
    (resV x7).bind fun v43 =>
    some (v43, h) := by kernel_rfl
noncomputable def main (E : Env) (x0 x1 x2 : PV) (h : PHeap) : Res :=
    (E.C fn_impl_cellOk [x0, x1, x2] h).bind fun v1 =>
    (E.p.un .not v1.1).bind fun v2 =>
    condP v2
     (
      (resV .nilsl).bind fun v3 =>
      some (v3, v1.2))
     (
      (E.p.load 88 (E.g 1) v1.2).bind fun v4 =>
      loopK (ev (E.cx Tryd.prog impl_NearCells.kl) impl_NearCells.lp0) E.lf (impl_NearCells.st0 x0 x1 x2 .nilsl v4 (.int .i64 0) v1.2) (impl_NearCells.K0 E (kTop Tryd.prog Tryd.f73)))
theorem main_eq (E : Env) (x0 x1 x2 : PV) (h : PHeap) : runBody (E.cx Tryd.prog kl) Tryd.f73 [x0, x1, x2] h = main E x0 x1 x2 h := by kernel_rfl
theorem call_eq (g : Nat → PV) (lf n : Nat) (x0 x1 x2 : PV) (h : PHeap) : CL g lf (n + 1) fn_impl_NearCells [x0, x1, x2] h = main (env g lf n) x0 x1 x2 h := by
  rw [← main_eq]
  show call Tryd.prog g KL lf (n + 1) 73 [x0, x1, x2] h = _
  rw [call_succ, Tryd.func73]
  kernel_rfl
end impl_NearCells
namespace impl_search_joined
noncomputable def lp0 : Code := (codeAt (bodyOf Tryd.f74) [1, 0, 1, 0, 0])
def st0 (x0 x3 x5 : PV) (h : PHeap) : St := ⟨[x0, .junk, .junk, x3, .junk, x5, .junk, .junk, .junk, .junk, .junk, .junk, .junk, .junk, .junk, .junk, .junk, .junk], h⟩
def sr_4 (x4 : PV) (h : PHeap) : St := ⟨[.junk, .junk, .junk, .junk, x4, .junk, .junk, .junk, .junk, .junk, .junk, .junk, .junk, .junk, .junk, .junk, .junk, .junk], h⟩
def se0_0_3_5_7 (x0 x3 x5 x7 : PV) (h : PHeap) : St := ⟨[x0, .junk, .junk, x3, .junk, x5, .junk, x7, .junk, .junk, .junk, .junk, .junk, .junk, .junk, .junk, .junk, .junk], h⟩
noncomputable def K0 (E : Env) (K : PX → St → Res) : PX → St → Res := (kBlock 0 (kSeq (ev (E.cx Tryd.prog kl) (codeAt (bodyOf Tryd.f74) [1, 1])) K))
@[simp] theorem K0_ret (E : Env) (K : PX → St → Res) (s : St) : K0 E K .ret s = K .ret s := by kernel_rfl
noncomputable def body0 (E : Env) (K : PX → St → Res) (x0 x3 x5 : PV) (h : PHeap) : Res :=
    (E.p.bin .leq 3 x5 (.int .i64 2)).bind fun v9 =>
    condP v9
     (
      (E.p.fieldAddr 58 x3 0).bind fun v10 =>
      (E.p.indexAddr 56 v10 x5).bind fun v11 =>
      (E.p.load 3 v11 h).bind fun v12 =>
      (E.C fn_impl_search_joins [x0, v12, x5] h).bind fun v13 =>
      condP v13.1
       (
        K .ret (sr_4 x5 v13.2))
       (
        (E.p.bin .add 3 x5 (.int .i64 1)).bind fun v14 =>
        K .normal (st0 x0 x3 v14 v13.2)))
     (
      K (.exit 0) (se0_0_3_5_7 x0 x3 x5 v9 h))
theorem body0_eq (E : Env) (K : PX → St → Res) (x0 x3 x5 : PV) (h : PHeap) : ev (E.cx Tryd.prog kl) lp0 (st0 x0 x3 x5 h) K = body0 E K x0 x3 x5 h := by kernel_rfl
theorem after0_se0_0_3_5_7 (E : Env) (x0 x3 x5 x7 : PV) (h : PHeap) : K0 E (kTop Tryd.prog Tryd.f74) (.exit 0) (se0_0_3_5_7 x0 x3 x5 x7 h) =
    (resV (.int .i64 0)).bind fun v8 =>
    some (v8, h) := by kernel_rfl
theorem top_sr_4 (x4 : PV) (h : PHeap) : kTop Tryd.prog Tryd.f74 .ret (sr_4 x4 h) =
    (resV x4).bind fun v15 =>
    some (v15, h) := by kernel_rfl
noncomputable def main (E : Env) (x0 x1 : PV) (h : PHeap) : Res :=
    (E.p.box x1 h).bind fun v1 =>
    loopK (ev (E.cx Tryd.prog impl_search_joined.kl) impl_search_joined.lp0) E.lf (impl_search_joined.st0 x0 v1.1 (.int .i64 1) v1.2) (impl_search_joined.K0 E (kTop Tryd.prog Tryd.f74))
theorem main_eq (E : Env) (x0 x1 : PV) (h : PHeap) : runBody (E.cx Tryd.prog kl) Tryd.f74 [x0, x1] h = main E x0 x1 h := by kernel_rfl
theorem call_eq (g : Nat → PV) (lf n : Nat) (x0 x1 : PV) (h : PHeap) : CL g lf (n + 1) fn_impl_search_joined [x0, x1] h = main (env g lf n) x0 x1 h := by
  rw [← main_eq]
  show call Tryd.prog g KL lf (n + 1) 74 [x0, x1] h = _
  rw [call_succ, Tryd.func74]
  kernel_rfl
end impl_search_joined
namespace impl_leastIn
noncomputable def main (E : Env) (x0 : PV) (h : PHeap) : Res :=
    (E.p.conv 3 83 x0).bind fun v1 =>
    (E.C fn_bits_TrailingZeros [v1] h).bind fun v2 =>
    (resV v2.1).bind fun v3 =>
    some (v3, v2.2)
theorem main_eq (E : Env) (x0 : PV) (h : PHeap) : runBody (E.cx Tryd.prog kl) Tryd.f75 [x0] h = main E x0 h := by kernel_rfl
theorem call_eq (g : Nat → PV) (lf n : Nat) (x0 : PV) (h : PHeap) : CL g lf (n + 1) fn_impl_leastIn [x0] h = main (env g lf n) x0 h := by
  rw [← main_eq]
  show call Tryd.prog g KL lf (n + 1) 75 [x0] h = _
  rw [call_succ, Tryd.func75]
  kernel_rfl
end impl_leastIn
namespace impl_contentOk
noncomputable def main (E : Env) (x0 : PV) (h : PHeap) : Res :=
    (E.p.bin .eql 3 x0 (.int .i64 0)).bind fun v1 =>
    (wantV v1 false).bind fun v2 =>
    (bif v2 then some (x0, h) else some (.tup [], h)).bind fun v3 =>
    (wantV v1 false).bind fun v4 =>
    (bif v4 then pv v3.2 (E.p.bin .eql 3 v3.1 (.int .i64 1)) else some (.tup [], v3.2)).bind fun v5 =>
    (E.p.pick v1 (.bool true) v5.1).bind fun v6 =>
    (wantV v6 false).bind fun v7 =>
    (bif v7 then some (x0, v5.2) else some (.tup [], v5.2)).bind fun v8 =>
    (wantV v6 false).bind fun v9 =>
    (bif v9 then pv v8.2 (E.p.bin .eql 3 v8.1 (.int .i64 2)) else some (.tup [], v8.2)).bind fun v10 =>
    (E.p.pick v6 (.bool true) v10.1).bind fun v11 =>
    (resV v11).bind fun v12 =>
    some (v12, v10.2)
theorem main_eq (E : Env) (x0 : PV) (h : PHeap) : runBody (E.cx Tryd.prog kl) Tryd.f76 [x0] h = main E x0 h := by kernel_rfl
theorem call_eq (g : Nat → PV) (lf n : Nat) (x0 : PV) (h : PHeap) : CL g lf (n + 1) fn_impl_contentOk [x0] h = main (env g lf n) x0 h := by
  rw [← main_eq]
  show call Tryd.prog g KL lf (n + 1) 76 [x0] h = _
  rw [call_succ, Tryd.func76]
  kernel_rfl
end impl_contentOk
namespace impl_grown
noncomputable def lp0 : Code := (codeAt (bodyOf Tryd.f77) [1, 0, 1, 0, 0])
def st0 (x0 x1 x2 x3 x9 : PV) (h : PHeap) : St := ⟨[x0, x1, x2, x3, .junk, .junk, .junk, .junk, .junk, x9, .junk, .junk, .junk, .junk, .junk, .junk, .junk, .junk, .junk, .junk, .junk, .junk, .junk, .junk, .junk], h⟩
def se0_0_1_2_3_9_12 (x0 x1 x2 x3 x9 x12 : PV) (h : PHeap) : St := ⟨[x0, x1, x2, x3, .junk, .junk, .junk, .junk, .junk, x9, .junk, .junk, x12, .junk, .junk, .junk, .junk, .junk, .junk, .junk, .junk, .junk, .junk, .junk, .junk], h⟩
noncomputable def K0 (E : Env) (K : PX → St → Res) : PX → St → Res := (kBlock 0 (kSeq (ev (E.cx Tryd.prog kl) (codeAt (bodyOf Tryd.f77) [1, 1])) K))
@[simp] theorem K0_ret (E : Env) (K : PX → St → Res) (s : St) : K0 E K .ret s = K .ret s := by kernel_rfl
noncomputable def body0 (E : Env) (K : PX → St → Res) (x0 x1 x2 x3 x9 : PV) (h : PHeap) : Res :=
    (E.p.bin .neq 3 x9 (.int .i64 0)).bind fun v7 =>
    condP v7
     (
      (E.C fn_impl_withNear [x0, x1, x9] h).bind fun v8 =>
      (E.p.bin .and 3 v8.1 x3).bind fun v9 =>
      (E.p.bin .andNot 3 v9 x2).bind fun v10 =>
      (E.p.bin .or 3 x2 v10).bind fun v11 =>
      K .normal (st0 x0 x1 v11 x3 v10 v8.2))
     (
      K (.exit 0) (se0_0_1_2_3_9_12 x0 x1 x2 x3 x9 v7 h))
theorem body0_eq (E : Env) (K : PX → St → Res) (x0 x1 x2 x3 x9 : PV) (h : PHeap) : ev (E.cx Tryd.prog kl) lp0 (st0 x0 x1 x2 x3 x9 h) K = body0 E K x0 x1 x2 x3 x9 h := by kernel_rfl
theorem after0_se0_0_1_2_3_9_12 (E : Env) (x0 x1 x2 x3 x9 x12 : PV) (h : PHeap) : K0 E (kTop Tryd.prog Tryd.f77) (.exit 0) (se0_0_1_2_3_9_12 x0 x1 x2 x3 x9 x12 h) =
    (resV x2).bind fun v6 =>
    some (v6, h) := by kernel_rfl
noncomputable def main (E : Env) (x0 x1 x2 x3 : PV) (h : PHeap) : Res :=
    loopK (ev (E.cx Tryd.prog impl_grown.kl) impl_grown.lp0) E.lf (impl_grown.st0 x0 x1 x2 x3 x2 h) (impl_grown.K0 E (kTop Tryd.prog Tryd.f77))
theorem main_eq (E : Env) (x0 x1 x2 x3 : PV) (h : PHeap) : runBody (E.cx Tryd.prog kl) Tryd.f77 [x0, x1, x2, x3] h = main E x0 x1 x2 x3 h := by kernel_rfl
theorem call_eq (g : Nat → PV) (lf n : Nat) (x0 x1 x2 x3 : PV) (h : PHeap) : CL g lf (n + 1) fn_impl_grown [x0, x1, x2, x3] h = main (env g lf n) x0 x1 x2 x3 h := by
  rw [← main_eq]
  show call Tryd.prog g KL lf (n + 1) 77 [x0, x1, x2, x3] h = _
  rw [call_succ, Tryd.func77]
  kernel_rfl
end impl_grown
namespace internal_strconv_FormatInt
noncomputable def main (E : Env) (x0 x1 : PV) (h : PHeap) : Res :=
    (E.p.bin .eql 3 x1 (.int .i64 10)).bind fun v1 =>
    condP v1
     (
      (E.p.bin .leq 2 (.int .i64 0) x0).bind fun v2 =>
      (wantV v2 true).bind fun v3 =>
      (bif v3 then some (x0, h) else some (.tup [], h)).bind fun v4 =>
      (wantV v2 true).bind fun v5 =>
      (bif v5 then pv v4.2 (E.p.bin .lss 2 v4.1 (.int .i64 100)) else some (.tup [], v4.2)).bind fun v6 =>
      (E.p.pick v2 v6.1 (.bool false)).bind fun v7 =>
      condP v7
       (
        (E.C fn_internal_strconv_small [x0] v6.2).bind fun v8 =>
        (resV v8.1).bind fun v9 =>
        some (v9, v8.2))
       (
        (E.p.alloc 90 v6.2).bind fun v10 =>
        (E.p.conv 2 91 x0).bind fun v11 =>
        (E.p.bin .lss 2 x0 (.int .i64 0)).bind fun v12 =>
        condP v12
         (
          (E.p.un .neg v11).bind fun v13 =>
          (E.C 91 [v13] v10.2).bind fun v14 =>
          (E.p.bin .add 3 (.int .i64 1) v14.1).bind fun v15 =>
          (E.p.slice 90 v10.1 (some (.int .i64 1)) (some v15) v14.2).bind fun v16 =>
          (E.C 92 [v16, v13] v14.2).bind fun v17 =>
          (E.p.bin .lss 2 x0 (.int .i64 0)).bind fun v18 =>
          condP v18
           (
            (E.p.indexAddr 90 v10.1 (.int .i64 0)).bind fun v19 =>
            (E.p.store 5 v19 (.int .u8 45) v17.2).bind fun v20 =>
            (E.p.bin .add 3 (.int .i64 1) v14.1).bind fun v21 =>
            (E.p.slice 90 v10.1 none (some v21) v20).bind fun v22 =>
            (E.p.bstr 64 9 v22 v20).bind fun v23 =>
            (resV v23).bind fun v24 =>
            some (v24, v20))
           (
            (E.p.bin .add 3 (.int .i64 1) v14.1).bind fun v25 =>
            (E.p.slice 90 v10.1 (some (.int .i64 1)) (some v25) v17.2).bind fun v26 =>
            (E.p.bstr 64 9 v26 v17.2).bind fun v27 =>
            (resV v27).bind fun v28 =>
            some (v28, v17.2)))
         (
          (E.C 91 [v11] v10.2).bind fun v29 =>
          (E.p.bin .add 3 (.int .i64 1) v29.1).bind fun v30 =>
          (E.p.slice 90 v10.1 (some (.int .i64 1)) (some v30) v29.2).bind fun v31 =>
          (E.C 92 [v31, v11] v29.2).bind fun v32 =>
          (E.p.bin .lss 2 x0 (.int .i64 0)).bind fun v33 =>
          condP v33
           (
            (E.p.indexAddr 90 v10.1 (.int .i64 0)).bind fun v34 =>
            (E.p.store 5 v34 (.int .u8 45) v32.2).bind fun v35 =>
            (E.p.bin .add 3 (.int .i64 1) v29.1).bind fun v36 =>
            (E.p.slice 90 v10.1 none (some v36) v35).bind fun v37 =>
            (E.p.bstr 64 9 v37 v35).bind fun v38 =>
            (resV v38).bind fun v39 =>
            some (v39, v35))
           (
            (E.p.bin .add 3 (.int .i64 1) v29.1).bind fun v40 =>
            (E.p.slice 90 v10.1 (some (.int .i64 1)) (some v40) v32.2).bind fun v41 =>
            (E.p.bstr 64 9 v41 v32.2).bind fun v42 =>
            (resV v42).bind fun v43 =>
            some (v43, v32.2)))))
     (
      (E.p.conv 2 91 x0).bind fun v44 =>
      (E.p.bin .lss 2 x0 (.int .i64 0)).bind fun v45 =>
      (E.C 93 [.nilsl, v44, x1, v45, (.bool false)] h).bind fun v46 =>
      (E.p.extract v46.1 0).bind fun v47 =>
      (E.p.extract v46.1 1).bind fun v48 =>
      (resV v48).bind fun v49 =>
      some (v49, v46.2))
theorem main_eq (E : Env) (x0 x1 : PV) (h : PHeap) : runBody (E.cx Tryd.prog kl) Tryd.f78 [x0, x1] h = main E x0 x1 h := by kernel_rfl
theorem call_eq (g : Nat → PV) (lf n : Nat) (x0 x1 : PV) (h : PHeap) : CL g lf (n + 1) fn_internal_strconv_FormatInt [x0, x1] h = main (env g lf n) x0 x1 h := by
  rw [← main_eq]
  show call Tryd.prog g KL lf (n + 1) 78 [x0, x1] h = _
  rw [call_succ, Tryd.func78]
  kernel_rfl
end internal_strconv_FormatInt
namespace internal_stringslite_IndexByte
noncomputable def main (E : Env) (x0 x1 : PV) (h : PHeap) : Res :=
    (E.p.ext fn_internal_bytealg_IndexByteString [x0, x1]).bind fun v1 =>
    (resV v1).bind fun v2 =>
    some (v2, h)
theorem main_eq (E : Env) (x0 x1 : PV) (h : PHeap) : runBody (E.cx Tryd.prog kl) Tryd.f79 [x0, x1] h = main E x0 x1 h := by kernel_rfl
theorem call_eq (g : Nat → PV) (lf n : Nat) (x0 x1 : PV) (h : PHeap) : CL g lf (n + 1) fn_internal_stringslite_IndexByte [x0, x1] h = main (env g lf n) x0 x1 h := by
  rw [← main_eq]
  show call Tryd.prog g KL lf (n + 1) 79 [x0, x1] h = _
  rw [call_succ, Tryd.func79]
  kernel_rfl
end internal_stringslite_IndexByte
namespace strings_Count
noncomputable def lp0 : Code := (codeAt (bodyOf Tryd.f84) [1, 1, 1, 1, 0, 0])
def st0 (x0 x1 x5 : PV) (h : PHeap) : St := ⟨[x0, x1, .junk, .junk, .junk, x5, .junk, .junk, .junk, .junk, .junk, .junk, .junk, .junk, .junk, .junk, .junk, .junk, .junk, .junk, .junk, .junk, .junk, .junk, .junk, .junk, .junk, .junk, .junk, .junk, .junk, .junk, .junk, .junk], h⟩
def sr_4 (x4 : PV) (h : PHeap) : St := ⟨[.junk, .junk, .junk, .junk, x4, .junk, .junk, .junk, .junk, .junk, .junk, .junk, .junk, .junk, .junk, .junk, .junk, .junk, .junk, .junk, .junk, .junk, .junk, .junk, .junk, .junk, .junk, .junk, .junk, .junk, .junk, .junk, .junk, .junk], h⟩
noncomputable def K0 (E : Env) (K : PX → St → Res) : PX → St → Res := (kBlock 0 K)
@[simp] theorem K0_ret (E : Env) (K : PX → St → Res) (s : St) : K0 E K .ret s = K .ret s := by kernel_rfl
noncomputable def body0 (E : Env) (K : PX → St → Res) (x0 x1 x5 : PV) (h : PHeap) : Res :=
    (E.C fn_strings_Index [x0, x1] h).bind fun v17 =>
    (E.p.bin .eql 3 v17.1 (.int .i64 (-1))).bind fun v18 =>
    condP v18
     (
      K .ret (sr_4 x5 v17.2))
     (
      (E.p.bin .add 3 x5 (.int .i64 1)).bind fun v19 =>
      (E.p.len 9 x1).bind fun v20 =>
      (E.p.bin .add 3 v17.1 v20).bind fun v21 =>
      (E.p.slice 9 x0 (some v21) none v17.2).bind fun v22 =>
      K .normal (st0 v22 x1 v19 v17.2))
theorem body0_eq (E : Env) (K : PX → St → Res) (x0 x1 x5 : PV) (h : PHeap) : ev (E.cx Tryd.prog kl) lp0 (st0 x0 x1 x5 h) K = body0 E K x0 x1 x5 h := by kernel_rfl
theorem top_sr_4 (x4 : PV) (h : PHeap) : kTop Tryd.prog Tryd.f84 .ret (sr_4 x4 h) =
    (resV x4).bind fun v23 =>
    some (v23, h) := by kernel_rfl
noncomputable def main (E : Env) (x0 x1 : PV) (h : PHeap) : Res :=
    (E.p.len 9 x1).bind fun v1 =>
    (E.p.bin .eql 3 v1 (.int .i64 0)).bind fun v2 =>
    condP v2
     (
      (E.C 96 [x0] h).bind fun v3 =>
      (E.p.bin .add 3 v3.1 (.int .i64 1)).bind fun v4 =>
      (resV v4).bind fun v5 =>
      some (v5, v3.2))
     (
      (E.p.len 9 x1).bind fun v6 =>
      (E.p.bin .eql 3 v6 (.int .i64 1)).bind fun v7 =>
      condP v7
       (
        (E.p.index 9 x1 (.int .i64 0)).bind fun v8 =>
        (E.p.ext fn_internal_bytealg_CountString [x0, v8]).bind fun v9 =>
        (resV v9).bind fun v10 =>
        some (v10, h))
       (
        loopK (ev (E.cx Tryd.prog strings_Count.kl) strings_Count.lp0) E.lf (strings_Count.st0 x0 x1 (.int .i64 0) h) (strings_Count.K0 E (kTop Tryd.prog Tryd.f84))))
theorem main_eq (E : Env) (x0 x1 : PV) (h : PHeap) : runBody (E.cx Tryd.prog kl) Tryd.f84 [x0, x1] h = main E x0 x1 h := by kernel_rfl
theorem call_eq (g : Nat → PV) (lf n : Nat) (x0 x1 : PV) (h : PHeap) : CL g lf (n + 1) fn_strings_Count [x0, x1] h = main (env g lf n) x0 x1 h := by
  rw [← main_eq]
  show call Tryd.prog g KL lf (n + 1) 84 [x0, x1] h = _
  rw [call_succ, Tryd.func84]
  kernel_rfl
end strings_Count
namespace strings_Index
noncomputable def main (E : Env) (x0 x1 : PV) (h : PHeap) : Res :=
    (E.C fn_internal_stringslite_Index [x0, x1] h).bind fun v1 =>
    (resV v1.1).bind fun v2 =>
    some (v2, v1.2)
theorem main_eq (E : Env) (x0 x1 : PV) (h : PHeap) : runBody (E.cx Tryd.prog kl) Tryd.f85 [x0, x1] h = main E x0 x1 h := by kernel_rfl
theorem call_eq (g : Nat → PV) (lf n : Nat) (x0 x1 : PV) (h : PHeap) : CL g lf (n + 1) fn_strings_Index [x0, x1] h = main (env g lf n) x0 x1 h := by
  rw [← main_eq]
  show call Tryd.prog g KL lf (n + 1) 85 [x0, x1] h = _
  rw [call_succ, Tryd.func85]
  kernel_rfl
end strings_Index
namespace spec_l2Grow
noncomputable def lp0 : Code := (codeAt (bodyOf Tryd.f86) [1, 1, 0, 1, 0, 0])
def st0 (x0 x1 x7 x8 : PV) (h : PHeap) : St := ⟨[x0, x1, .junk, .junk, .junk, .junk, .junk, x7, x8, .junk, .junk, .junk, .junk, .junk, .junk, .junk, .junk, .junk, .junk, .junk, .junk, .junk, .junk, .junk, .junk, .junk, .junk, .junk, .junk, .junk, .junk, .junk, .junk, .junk, .junk, .junk, .junk, .junk, .junk, .junk], h⟩
noncomputable def lp1 : Code := (codeAt (bodyOf Tryd.f86) [1, 1, 0, 1, 0, 0, 1, 0, 1, 0, 1, 0, 0])
def st1 (x0 x1 x7 x9 x10 : PV) (h : PHeap) : St := ⟨[x0, x1, .junk, .junk, .junk, .junk, .junk, x7, .junk, x9, x10, .junk, .junk, .junk, .junk, .junk, .junk, .junk, .junk, .junk, .junk, .junk, .junk, .junk, .junk, .junk, .junk, .junk, .junk, .junk, .junk, .junk, .junk, .junk, .junk, .junk, .junk, .junk, .junk, .junk], h⟩
def se0_0_1_7_14 (x0 x1 x7 x14 : PV) (h : PHeap) : St := ⟨[x0, x1, .junk, .junk, .junk, .junk, .junk, x7, .junk, .junk, .junk, .junk, .junk, .junk, x14, .junk, .junk, .junk, .junk, .junk, .junk, .junk, .junk, .junk, .junk, .junk, .junk, .junk, .junk, .junk, .junk, .junk, .junk, .junk, .junk, .junk, .junk, .junk, .junk, .junk], h⟩
def se2_0_1_7_9_10_19 (x0 x1 x7 x9 x10 x19 : PV) (h : PHeap) : St := ⟨[x0, x1, .junk, .junk, .junk, .junk, .junk, x7, .junk, x9, x10, .junk, .junk, .junk, .junk, .junk, .junk, .junk, .junk, x19, .junk, .junk, .junk, .junk, .junk, .junk, .junk, .junk, .junk, .junk, .junk, .junk, .junk, .junk, .junk, .junk, .junk, .junk, .junk, .junk], h⟩
noncomputable def K0 (E : Env) (K : PX → St → Res) : PX → St → Res := (kBlock 0 (kSeq (ev (E.cx Tryd.prog kl) (codeAt (bodyOf Tryd.f86) [1, 1, 1])) K))
@[simp] theorem K0_ret (E : Env) (K : PX → St → Res) (s : St) : K0 E K .ret s = K .ret s := by kernel_rfl
noncomputable def K1 (E : Env) (K : PX → St → Res) : PX → St → Res := (kBlock 2 (kSeq (ev (E.cx Tryd.prog kl) (codeAt (bodyOf Tryd.f86) [1, 1, 0, 1, 0, 0, 1, 0, 1, 1])) (kBlock 1 K)))
@[simp] theorem K1_ret (E : Env) (K : PX → St → Res) (s : St) : K1 E K .ret s = K .ret s := by kernel_rfl
noncomputable def body0 (E : Env) (K : PX → St → Res) (x0 x1 x7 x8 : PV) (h : PHeap) : Res :=
    condP x8
     (
      loopK (ev (E.cx Tryd.prog spec_l2Grow.kl) spec_l2Grow.lp1) E.lf (spec_l2Grow.st1 x0 x1 x7 x7 (.int .i64 0) h) (spec_l2Grow.K1 E K))
     (
      K (.exit 0) (se0_0_1_7_14 x0 x1 x7 x8 h))
theorem body0_eq (E : Env) (K : PX → St → Res) (x0 x1 x7 x8 : PV) (h : PHeap) : ev (E.cx Tryd.prog kl) lp0 (st0 x0 x1 x7 x8 h) K = body0 E K x0 x1 x7 x8 h := by kernel_rfl
noncomputable def body1 (E : Env) (K : PX → St → Res) (x0 x1 x7 x9 x10 : PV) (h : PHeap) : Res :=
    (E.p.len 22 x0).bind fun v15 =>
    (E.p.bin .lss 3 x10 v15).bind fun v16 =>
    condP v16
     (
      (E.p.bin .shr 3 x7 x10).bind fun v17 =>
      (E.p.bin .rem 3 v17 (.int .i64 2)).bind fun v18 =>
      (E.p.bin .eql 3 v18 (.int .i64 1)).bind fun v19 =>
      condP v19
       (
        (E.p.indexAddr 22 x0 x10).bind fun v20 =>
        (E.p.load 3 v20 h).bind fun v21 =>
        (E.p.bin .and 3 v21 x1).bind fun v22 =>
        (E.p.bin .or 3 x9 v22).bind fun v23 =>
        (E.p.bin .add 3 x10 (.int .i64 1)).bind fun v24 =>
        K .normal (st1 x0 x1 x7 v23 v24 h))
       (
        (E.p.bin .add 3 x10 (.int .i64 1)).bind fun v25 =>
        K .normal (st1 x0 x1 x7 x9 v25 h)))
     (
      K (.exit 2) (se2_0_1_7_9_10_19 x0 x1 x7 x9 x10 v16 h))
theorem body1_eq (E : Env) (K : PX → St → Res) (x0 x1 x7 x9 x10 : PV) (h : PHeap) : ev (E.cx Tryd.prog kl) lp1 (st1 x0 x1 x7 x9 x10 h) K = body1 E K x0 x1 x7 x9 x10 h := by kernel_rfl
theorem after0_se0_0_1_7_14 (E : Env) (x0 x1 x7 x14 : PV) (h : PHeap) : K0 E (kTop Tryd.prog Tryd.f86) (.exit 0) (se0_0_1_7_14 x0 x1 x7 x14 h) =
    (resV x7).bind fun v13 =>
    some (v13, h) := by kernel_rfl
theorem after1_se2_0_1_7_9_10_19 (E : Env) (K : PX → St → Res) (x0 x1 x7 x9 x10 x19 : PV) (h : PHeap) : K1 E K (.exit 2) (se2_0_1_7_9_10_19 x0 x1 x7 x9 x10 x19 h) =
    (E.p.bin .neq 3 x9 x7).bind fun v14 =>
    K .normal (st0 x0 x1 x9 v14 h) := by kernel_rfl
noncomputable def main (E : Env) (x0 x1 x2 : PV) (h : PHeap) : Res :=
    (E.p.bin .and 3 x2 x1).bind fun v1 =>
    loopK (ev (E.cx Tryd.prog spec_l2Grow.kl) spec_l2Grow.lp0) E.lf (spec_l2Grow.st0 x0 x1 v1 (.bool true) h) (spec_l2Grow.K0 E (kTop Tryd.prog Tryd.f86))
theorem main_eq (E : Env) (x0 x1 x2 : PV) (h : PHeap) : runBody (E.cx Tryd.prog kl) Tryd.f86 [x0, x1, x2] h = main E x0 x1 x2 h := by kernel_rfl
theorem call_eq (g : Nat → PV) (lf n : Nat) (x0 x1 x2 : PV) (h : PHeap) : CL g lf (n + 1) fn_spec_l2Grow [x0, x1, x2] h = main (env g lf n) x0 x1 x2 h := by
  rw [← main_eq]
  show call Tryd.prog g KL lf (n + 1) 86 [x0, x1, x2] h = _
  rw [call_succ, Tryd.func86]
  kernel_rfl
end spec_l2Grow
namespace spec_l2Side
noncomputable def lp0 : Code := (codeAt (bodyOf Tryd.f87) [1, 1, 0, 1, 0, 0])
def st0 (x0 x1 x2 x3 x9 x10 : PV) (h : PHeap) : St := ⟨[x0, x1, x2, x3, .junk, .junk, .junk, .junk, .junk, x9, x10, .junk, .junk, .junk, .junk, .junk, .junk, .junk, .junk, .junk, .junk, .junk, .junk, .junk, .junk, .junk, .junk, .junk, .junk, .junk, .junk, .junk, .junk, .junk, .junk, .junk, .junk, .junk, .junk, .junk, .junk, .junk, .junk, .junk, .junk, .junk, .junk, .junk, .junk, .junk, .junk], h⟩
def se0_0_1_2_3_9_10_17 (x0 x1 x2 x3 x9 x10 x17 : PV) (h : PHeap) : St := ⟨[x0, x1, x2, x3, .junk, .junk, .junk, .junk, .junk, x9, x10, .junk, .junk, .junk, .junk, .junk, .junk, x17, .junk, .junk, .junk, .junk, .junk, .junk, .junk, .junk, .junk, .junk, .junk, .junk, .junk, .junk, .junk, .junk, .junk, .junk, .junk, .junk, .junk, .junk, .junk, .junk, .junk, .junk, .junk, .junk, .junk, .junk, .junk, .junk, .junk], h⟩
noncomputable def K0 (E : Env) (K : PX → St → Res) : PX → St → Res := (kBlock 0 (kSeq (ev (E.cx Tryd.prog kl) (codeAt (bodyOf Tryd.f87) [1, 1, 1])) K))
@[simp] theorem K0_ret (E : Env) (K : PX → St → Res) (s : St) : K0 E K .ret s = K .ret s := by kernel_rfl
noncomputable def body0 (E : Env) (K : PX → St → Res) (x0 x1 x2 x3 x9 x10 : PV) (h : PHeap) : Res :=
    (E.p.bin .mul 3 x0 x1).bind fun v57 =>
    (E.p.bin .lss 3 x10 v57).bind fun v58 =>
    condP v58
     (
      (E.p.bin .quo 3 x10 x1).bind fun v59 =>
      (E.p.bin .sub 3 x0 (.int .i64 1)).bind fun v60 =>
      (E.p.bin .eql 3 x2 (.int .i64 2)).bind fun v61 =>
      condP v61
       (
        (E.p.bin .rem 3 x10 x1).bind fun v62 =>
        (E.p.bin .sub 3 x1 (.int .i64 1)).bind fun v63 =>
        (wantV x3 true).bind fun v64 =>
        (bif v64 then some (v62, h) else some (.tup [], h)).bind fun v65 =>
        (wantV x3 true).bind fun v66 =>
        (bif v66 then some (v63, v65.2) else some (.tup [], v65.2)).bind fun v67 =>
        (wantV x3 true).bind fun v68 =>
        (bif v68 then pv v67.2 (E.p.bin .eql 3 v65.1 v67.1) else some (.tup [], v67.2)).bind fun v69 =>
        (E.p.pick x3 v69.1 (.bool false)).bind fun v70 =>
        (wantV v70 false).bind fun v71 =>
        (bif v71 then some (x3, v69.2) else some (.tup [], v69.2)).bind fun v72 =>
        (wantV v70 false).bind fun v73 =>
        (bif v73 then pv v72.2 (E.p.un .not v72.1) else some (.tup [], v72.2)).bind fun v74 =>
        (wantV v70 false).bind fun v75 =>
        (bif v75 then some (v74.1, v74.2) else some (.tup [], v74.2)).bind fun v76 =>
        (wantV v76.1 true).bind fun v77 =>
        (bif v77 then some (v62, v76.2) else some (.tup [], v76.2)).bind fun v78 =>
        (wantV v76.1 true).bind fun v79 =>
        (bif v79 then pv v78.2 (E.p.bin .eql 3 v78.1 (.int .i64 0)) else some (.tup [], v78.2)).bind fun v80 =>
        (wantV v70 false).bind fun v81 =>
        (bif v81 then pv v80.2 (E.p.pick v76.1 v80.1 (.bool false)) else some (.tup [], v80.2)).bind fun v82 =>
        (E.p.pick v70 (.bool true) v82.1).bind fun v83 =>
        condP v83
         (
          (E.p.bin .shl 3 (.int .i64 1) x10).bind fun v84 =>
          (E.p.bin .or 3 x9 v84).bind fun v85 =>
          (E.p.bin .add 3 x10 (.int .i64 1)).bind fun v86 =>
          K .normal (st0 x0 x1 x2 x3 v85 v86 v82.2))
         (
          (E.p.bin .add 3 x10 (.int .i64 1)).bind fun v87 =>
          K .normal (st0 x0 x1 x2 x3 x9 v87 v82.2)))
       (
        (wantV x3 true).bind fun v88 =>
        (bif v88 then some (v59, h) else some (.tup [], h)).bind fun v89 =>
        (wantV x3 true).bind fun v90 =>
        (bif v90 then some (v60, v89.2) else some (.tup [], v89.2)).bind fun v91 =>
        (wantV x3 true).bind fun v92 =>
        (bif v92 then pv v91.2 (E.p.bin .eql 3 v89.1 v91.1) else some (.tup [], v91.2)).bind fun v93 =>
        (E.p.pick x3 v93.1 (.bool false)).bind fun v94 =>
        (wantV v94 false).bind fun v95 =>
        (bif v95 then some (x3, v93.2) else some (.tup [], v93.2)).bind fun v96 =>
        (wantV v94 false).bind fun v97 =>
        (bif v97 then pv v96.2 (E.p.un .not v96.1) else some (.tup [], v96.2)).bind fun v98 =>
        (wantV v94 false).bind fun v99 =>
        (bif v99 then some (v98.1, v98.2) else some (.tup [], v98.2)).bind fun v100 =>
        (wantV v100.1 true).bind fun v101 =>
        (bif v101 then some (v59, v100.2) else some (.tup [], v100.2)).bind fun v102 =>
        (wantV v100.1 true).bind fun v103 =>
        (bif v103 then pv v102.2 (E.p.bin .eql 3 v102.1 (.int .i64 0)) else some (.tup [], v102.2)).bind fun v104 =>
        (wantV v94 false).bind fun v105 =>
        (bif v105 then pv v104.2 (E.p.pick v100.1 v104.1 (.bool false)) else some (.tup [], v104.2)).bind fun v106 =>
        (E.p.pick v94 (.bool true) v106.1).bind fun v107 =>
        condP v107
         (
          (E.p.bin .shl 3 (.int .i64 1) x10).bind fun v108 =>
          (E.p.bin .or 3 x9 v108).bind fun v109 =>
          (E.p.bin .add 3 x10 (.int .i64 1)).bind fun v110 =>
          K .normal (st0 x0 x1 x2 x3 v109 v110 v106.2))
         (
          (E.p.bin .add 3 x10 (.int .i64 1)).bind fun v111 =>
          K .normal (st0 x0 x1 x2 x3 x9 v111 v106.2))))
     (
      K (.exit 0) (se0_0_1_2_3_9_10_17 x0 x1 x2 x3 x9 x10 v58 h))
theorem body0_eq (E : Env) (K : PX → St → Res) (x0 x1 x2 x3 x9 x10 : PV) (h : PHeap) : ev (E.cx Tryd.prog kl) lp0 (st0 x0 x1 x2 x3 x9 x10 h) K = body0 E K x0 x1 x2 x3 x9 x10 h := by kernel_rfl
theorem after0_se0_0_1_2_3_9_10_17 (E : Env) (x0 x1 x2 x3 x9 x10 x17 : PV) (h : PHeap) : K0 E (kTop Tryd.prog Tryd.f87) (.exit 0) (se0_0_1_2_3_9_10_17 x0 x1 x2 x3 x9 x10 x17 h) =
    (resV x9).bind fun v56 =>
    some (v56, h) := by kernel_rfl
noncomputable def main (E : Env) (x0 x1 x2 x3 : PV) (h : PHeap) : Res :=
    loopK (ev (E.cx Tryd.prog spec_l2Side.kl) spec_l2Side.lp0) E.lf (spec_l2Side.st0 x0 x1 x2 x3 (.int .i64 0) (.int .i64 0) h) (spec_l2Side.K0 E (kTop Tryd.prog Tryd.f87))
theorem main_eq (E : Env) (x0 x1 x2 x3 : PV) (h : PHeap) : runBody (E.cx Tryd.prog kl) Tryd.f87 [x0, x1, x2, x3] h = main E x0 x1 x2 x3 h := by kernel_rfl
theorem call_eq (g : Nat → PV) (lf n : Nat) (x0 x1 x2 x3 : PV) (h : PHeap) : CL g lf (n + 1) fn_spec_l2Side [x0, x1, x2, x3] h = main (env g lf n) x0 x1 x2 x3 h := by
  rw [← main_eq]
  show call Tryd.prog g KL lf (n + 1) 87 [x0, x1, x2, x3] h = _
  rw [call_succ, Tryd.func87]
  kernel_rfl
end spec_l2Side
namespace impl_search_joins
noncomputable def lp0 : Code := (codeAt (bodyOf Tryd.f88) [1, 1, 0, 1, 0, 0])
def st0 (x0 x1 x2 x7 x8 : PV) (h : PHeap) : St := ⟨[x0, x1, x2, .junk, .junk, .junk, .junk, x7, x8, .junk, .junk, .junk, .junk, .junk, .junk, .junk, .junk, .junk, .junk, .junk, .junk, .junk, .junk, .junk, .junk, .junk, .junk, .junk, .junk, .junk, .junk, .junk, .junk, .junk, .junk, .junk, .junk, .junk, .junk, .junk, .junk, .junk, .junk, .junk, .junk, .junk, .junk, .junk, .junk, .junk, .junk, .junk, .junk, .junk, .junk], h⟩
noncomputable def lp1 : Code := (codeAt (bodyOf Tryd.f88) [1, 1, 0, 1, 0, 0, 1, 0, 1, 0, 1, 0, 0])
def st1 (x0 x1 x2 x7 x9 x10 : PV) (h : PHeap) : St := ⟨[x0, x1, x2, .junk, .junk, .junk, .junk, x7, .junk, x9, x10, .junk, .junk, .junk, .junk, .junk, .junk, .junk, .junk, .junk, .junk, .junk, .junk, .junk, .junk, .junk, .junk, .junk, .junk, .junk, .junk, .junk, .junk, .junk, .junk, .junk, .junk, .junk, .junk, .junk, .junk, .junk, .junk, .junk, .junk, .junk, .junk, .junk, .junk, .junk, .junk, .junk, .junk, .junk, .junk], h⟩
def se0_0_1_2_7_8_21 (x0 x1 x2 x7 x8 x21 : PV) (h : PHeap) : St := ⟨[x0, x1, x2, .junk, .junk, .junk, .junk, x7, x8, .junk, .junk, .junk, .junk, .junk, .junk, .junk, .junk, .junk, .junk, .junk, .junk, x21, .junk, .junk, .junk, .junk, .junk, .junk, .junk, .junk, .junk, .junk, .junk, .junk, .junk, .junk, .junk, .junk, .junk, .junk, .junk, .junk, .junk, .junk, .junk, .junk, .junk, .junk, .junk, .junk, .junk, .junk, .junk, .junk, .junk], h⟩
def se2_0_1_2_7_9_10_24 (x0 x1 x2 x7 x9 x10 x24 : PV) (h : PHeap) : St := ⟨[x0, x1, x2, .junk, .junk, .junk, .junk, x7, .junk, x9, x10, .junk, .junk, .junk, .junk, .junk, .junk, .junk, .junk, .junk, .junk, .junk, .junk, .junk, x24, .junk, .junk, .junk, .junk, .junk, .junk, .junk, .junk, .junk, .junk, .junk, .junk, .junk, .junk, .junk, .junk, .junk, .junk, .junk, .junk, .junk, .junk, .junk, .junk, .junk, .junk, .junk, .junk, .junk, .junk], h⟩
noncomputable def K0 (E : Env) (K : PX → St → Res) : PX → St → Res := (kBlock 0 (kSeq (ev (E.cx Tryd.prog kl) (codeAt (bodyOf Tryd.f88) [1, 1, 1])) K))
@[simp] theorem K0_ret (E : Env) (K : PX → St → Res) (s : St) : K0 E K .ret s = K .ret s := by kernel_rfl
noncomputable def K1 (E : Env) (K : PX → St → Res) : PX → St → Res := (kBlock 2 (kSeq (ev (E.cx Tryd.prog kl) (codeAt (bodyOf Tryd.f88) [1, 1, 0, 1, 0, 0, 1, 0, 1, 1])) (kBlock 1 K)))
@[simp] theorem K1_ret (E : Env) (K : PX → St → Res) (s : St) : K1 E K .ret s = K .ret s := by kernel_rfl
noncomputable def body0 (E : Env) (K : PX → St → Res) (x0 x1 x2 x7 x8 : PV) (h : PHeap) : Res :=
    (E.p.bin .neq 3 x8 (.int .i64 0)).bind fun v26 =>
    condP v26
     (
      loopK (ev (E.cx Tryd.prog impl_search_joins.kl) impl_search_joins.lp1) E.lf (impl_search_joins.st1 x0 x1 x2 x7 (.int .i64 0) x8 h) (impl_search_joins.K1 E K))
     (
      K (.exit 0) (se0_0_1_2_7_8_21 x0 x1 x2 x7 x8 v26 h))
theorem body0_eq (E : Env) (K : PX → St → Res) (x0 x1 x2 x7 x8 : PV) (h : PHeap) : ev (E.cx Tryd.prog kl) lp0 (st0 x0 x1 x2 x7 x8 h) K = body0 E K x0 x1 x2 x7 x8 h := by kernel_rfl
noncomputable def body1 (E : Env) (K : PX → St → Res) (x0 x1 x2 x7 x9 x10 : PV) (h : PHeap) : Res :=
    (E.p.bin .neq 3 x10 (.int .i64 0)).bind fun v27 =>
    condP v27
     (
      (E.p.ptr x0).bind fun v28 =>
      (E.p.fieldAddr 72 v28 0).bind fun v29 =>
      (E.C fn_impl_leastIn [x10] h).bind fun v30 =>
      (E.p.indexAddr 70 v29 v30.1).bind fun v31 =>
      (E.p.load 3 v31 v30.2).bind fun v32 =>
      (E.p.bin .or 3 x9 v32).bind fun v33 =>
      (E.p.bin .sub 3 x10 (.int .i64 1)).bind fun v34 =>
      (E.p.bin .and 3 x10 v34).bind fun v35 =>
      K .normal (st1 x0 x1 x2 x7 v33 v35 v30.2))
     (
      K (.exit 2) (se2_0_1_2_7_9_10_24 x0 x1 x2 x7 x9 x10 v27 h))
theorem body1_eq (E : Env) (K : PX → St → Res) (x0 x1 x2 x7 x9 x10 : PV) (h : PHeap) : ev (E.cx Tryd.prog kl) lp1 (st1 x0 x1 x2 x7 x9 x10 h) K = body1 E K x0 x1 x2 x7 x9 x10 h := by kernel_rfl
theorem after0_se0_0_1_2_7_8_21 (E : Env) (x0 x1 x2 x7 x8 x21 : PV) (h : PHeap) : K0 E (kTop Tryd.prog Tryd.f88) (.exit 0) (se0_0_1_2_7_8_21 x0 x1 x2 x7 x8 x21 h) =
    (E.p.ptr x0).bind fun v16 =>
    (E.p.fieldAddr 72 v16 2).bind fun v17 =>
    (E.p.indexAddr 56 v17 x2).bind fun v18 =>
    (E.p.load 3 v18 h).bind fun v19 =>
    (E.p.bin .and 3 x7 v19).bind fun v20 =>
    (E.p.bin .neq 3 v20 (.int .i64 0)).bind fun v21 =>
    (resV v21).bind fun v22 =>
    some (v22, h) := by kernel_rfl
theorem after1_se2_0_1_2_7_9_10_24 (E : Env) (K : PX → St → Res) (x0 x1 x2 x7 x9 x10 x24 : PV) (h : PHeap) : K1 E K (.exit 2) (se2_0_1_2_7_9_10_24 x0 x1 x2 x7 x9 x10 x24 h) =
    (E.p.bin .and 3 x9 x1).bind fun v23 =>
    (E.p.bin .andNot 3 v23 x7).bind fun v24 =>
    (E.p.bin .or 3 x7 v24).bind fun v25 =>
    K .normal (st0 x0 x1 x2 v25 v24 h) := by kernel_rfl
noncomputable def main (E : Env) (x0 x1 x2 : PV) (h : PHeap) : Res :=
    (E.p.ptr x0).bind fun v1 =>
    (E.p.fieldAddr 72 v1 1).bind fun v2 =>
    (E.p.indexAddr 56 v2 x2).bind fun v3 =>
    (E.p.load 3 v3 h).bind fun v4 =>
    (E.p.bin .and 3 x1 v4).bind fun v5 =>
    loopK (ev (E.cx Tryd.prog impl_search_joins.kl) impl_search_joins.lp0) E.lf (impl_search_joins.st0 x0 x1 x2 v5 v5 h) (impl_search_joins.K0 E (kTop Tryd.prog Tryd.f88))
theorem main_eq (E : Env) (x0 x1 x2 : PV) (h : PHeap) : runBody (E.cx Tryd.prog kl) Tryd.f88 [x0, x1, x2] h = main E x0 x1 x2 h := by kernel_rfl
theorem call_eq (g : Nat → PV) (lf n : Nat) (x0 x1 x2 : PV) (h : PHeap) : CL g lf (n + 1) fn_impl_search_joins [x0, x1, x2] h = main (env g lf n) x0 x1 x2 h := by
  rw [← main_eq]
  show call Tryd.prog g KL lf (n + 1) 88 [x0, x1, x2] h = _
  rw [call_succ, Tryd.func88]
  kernel_rfl
end impl_search_joins
namespace bits_TrailingZeros
noncomputable def main (E : Env) (x0 : PV) (h : PHeap) : Res :=
    condP (.bool false)
     (
      (E.p.conv 83 96 x0).bind fun v1 =>
      (E.C fn_bits_TrailingZeros32 [v1] h).bind fun v2 =>
      (resV v2.1).bind fun v3 =>
      some (v3, v2.2))
     (
      (E.C fn_bits_TrailingZeros64 [x0] h).bind fun v4 =>
      (resV v4.1).bind fun v5 =>
      some (v5, v4.2))
theorem main_eq (E : Env) (x0 : PV) (h : PHeap) : runBody (E.cx Tryd.prog kl) Tryd.f89 [x0] h = main E x0 h := by kernel_rfl
theorem call_eq (g : Nat → PV) (lf n : Nat) (x0 : PV) (h : PHeap) : CL g lf (n + 1) fn_bits_TrailingZeros [x0] h = main (env g lf n) x0 h := by
  rw [← main_eq]
  show call Tryd.prog g KL lf (n + 1) 89 [x0] h = _
  rw [call_succ, Tryd.func89]
  kernel_rfl
end bits_TrailingZeros
namespace internal_strconv_small
noncomputable def main (E : Env) (x0 : PV) (h : PHeap) : Res :=
    (E.p.bin .lss 3 x0 (.int .i64 10)).bind fun v1 =>
    condP v1
     (
      (E.p.bin .add 3 x0 (.int .i64 1)).bind fun v2 =>
      (E.p.slice 9 (.str (sB [48, 49, 50, 51, 52, 53, 54, 55, 56, 57, 97, 98, 99, 100, 101, 102, 103, 104, 105, 106, 107, 108, 109, 110, 111, 112, 113, 114, 115, 116, 117, 118, 119, 120, 121, 122])) (some x0) (some v2) h).bind fun v3 =>
      (resV v3).bind fun v4 =>
      some (v4, h))
     (
      (E.p.bin .mul 3 x0 (.int .i64 2)).bind fun v5 =>
      (E.p.bin .mul 3 x0 (.int .i64 2)).bind fun v6 =>
      (E.p.bin .add 3 v6 (.int .i64 2)).bind fun v7 =>
      (E.p.slice 9 (.str (sB [48, 48, 48, 49, 48, 50, 48, 51, 48, 52, 48, 53, 48, 54, 48, 55, 48, 56, 48, 57, 49, 48, 49, 49, 49, 50, 49, 51, 49, 52, 49, 53, 49, 54, 49, 55, 49, 56, 49, 57, 50, 48, 50, 49, 50, 50, 50, 51, 50, 52, 50, 53, 50, 54, 50, 55, 50, 56, 50, 57, 51, 48, 51, 49, 51, 50, 51, 51, 51, 52, 51, 53, 51, 54, 51, 55, 51, 56, 51, 57, 52, 48, 52, 49, 52, 50, 52, 51, 52, 52, 52, 53, 52, 54, 52, 55, 52, 56, 52, 57, 53, 48, 53, 49, 53, 50, 53, 51, 53, 52, 53, 53, 53, 54, 53, 55, 53, 56, 53, 57, 54, 48, 54, 49, 54, 50, 54, 51, 54, 52, 54, 53, 54, 54, 54, 55, 54, 56, 54, 57, 55, 48, 55, 49, 55, 50, 55, 51, 55, 52, 55, 53, 55, 54, 55, 55, 55, 56, 55, 57, 56, 48, 56, 49, 56, 50, 56, 51, 56, 52, 56, 53, 56, 54, 56, 55, 56, 56, 56, 57, 57, 48, 57, 49, 57, 50, 57, 51, 57, 52, 57, 53, 57, 54, 57, 55, 57, 56, 57, 57])) (some v5) (some v7) h).bind fun v8 =>
      (resV v8).bind fun v9 =>
      some (v9, h))
theorem main_eq (E : Env) (x0 : PV) (h : PHeap) : runBody (E.cx Tryd.prog kl) Tryd.f90 [x0] h = main E x0 h := by kernel_rfl
theorem call_eq (g : Nat → PV) (lf n : Nat) (x0 : PV) (h : PHeap) : CL g lf (n + 1) fn_internal_strconv_small [x0] h = main (env g lf n) x0 h := by
  rw [← main_eq]
  show call Tryd.prog g KL lf (n + 1) 90 [x0] h = _
  rw [call_succ, Tryd.func90]
  kernel_rfl
end internal_strconv_small
namespace bits_TrailingZeros32
noncomputable def main (E : Env) (x0 : PV) (h : PHeap) : Res :=
    (E.p.bin .eql 96 x0 (.int .u32 0)).bind fun v1 =>
    condP v1
     (
      (resV (.int .i64 32)).bind fun v2 =>
      some (v2, h))
     (
      (E.p.un .neg x0).bind fun v3 =>
      (E.p.bin .and 96 x0 v3).bind fun v4 =>
      (E.p.bin .mul 96 v4 (.int .u32 125613361)).bind fun v5 =>
      (E.p.bin .shr 96 v5 (.int .u64 27)).bind fun v6 =>
      (E.p.indexAddr 105 (E.g 3) v6).bind fun v7 =>
      (E.p.load 5 v7 h).bind fun v8 =>
      (E.p.conv 5 3 v8).bind fun v9 =>
      (resV v9).bind fun v10 =>
      some (v10, h))
theorem main_eq (E : Env) (x0 : PV) (h : PHeap) : runBody (E.cx Tryd.prog kl) Tryd.f99 [x0] h = main E x0 h := by kernel_rfl
theorem call_eq (g : Nat → PV) (lf n : Nat) (x0 : PV) (h : PHeap) : CL g lf (n + 1) fn_bits_TrailingZeros32 [x0] h = main (env g lf n) x0 h := by
  rw [← main_eq]
  show call Tryd.prog g KL lf (n + 1) 99 [x0] h = _
  rw [call_succ, Tryd.func99]
  kernel_rfl
end bits_TrailingZeros32
namespace bits_TrailingZeros64
noncomputable def main (E : Env) (x0 : PV) (h : PHeap) : Res :=
    (E.p.bin .eql 91 x0 (.int .u64 0)).bind fun v1 =>
    condP v1
     (
      (resV (.int .i64 64)).bind fun v2 =>
      some (v2, h))
     (
      (E.p.un .neg x0).bind fun v3 =>
      (E.p.bin .and 91 x0 v3).bind fun v4 =>
      (E.p.bin .mul 91 v4 (.int .u64 285870213051353865)).bind fun v5 =>
      (E.p.bin .shr 91 v5 (.int .u64 58)).bind fun v6 =>
      (E.p.indexAddr 106 (E.g 4) v6).bind fun v7 =>
      (E.p.load 5 v7 h).bind fun v8 =>
      (E.p.conv 5 3 v8).bind fun v9 =>
      (resV v9).bind fun v10 =>
      some (v10, h))
theorem main_eq (E : Env) (x0 : PV) (h : PHeap) : runBody (E.cx Tryd.prog kl) Tryd.f100 [x0] h = main E x0 h := by kernel_rfl
theorem call_eq (g : Nat → PV) (lf n : Nat) (x0 : PV) (h : PHeap) : CL g lf (n + 1) fn_bits_TrailingZeros64 [x0] h = main (env g lf n) x0 h := by
  rw [← main_eq]
  show call Tryd.prog g KL lf (n + 1) 100 [x0] h = _
  rw [call_succ, Tryd.func100]
  kernel_rfl
end bits_TrailingZeros64
end Go.Proofs.YtpaehbfknlpkbadDoor.G

