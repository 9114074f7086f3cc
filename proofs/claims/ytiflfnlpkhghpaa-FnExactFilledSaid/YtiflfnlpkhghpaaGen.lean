/- Of each function of this seat's program its plain form over the interpreter, written by program; each equation is the kernel's. -/
import Derived.Test.YtiflfnlpkhghpaaProg
import Derived.Test.YtiflfnlpkhghpaaIp
import Derived.Test.YtiflfnlpkhghpaaGenBase
import Derived.KernelRfl
set_option linter.unusedVariables false
set_option maxRecDepth 100000
namespace Go.Proofs.Ytiflfnlpkhghpaa.G
open Go Go.Ip Go.Proofs

namespace laws_FnExactFilled
noncomputable def main (E : Env) (x0 x1 x2 x3 : PV) (h : PHeap) : Res :=
    (E.p.len 22 x2).bind fun v1 =>
    (E.p.bin .gtr 3 v1 (.int .i64 1048576)).bind fun v2 =>
    condP v2
     (
      (resV (.bool true)).bind fun v3 =>
      some (v3, h))
     (
      (E.C fn_laws_toIntS [x2] h).bind fun v4 =>
      (E.C fn_spec_Filled [x0, x1, v4.1, x3] v4.2).bind fun v5 =>
      (E.C fn_laws_toIntS [x2] v5.2).bind fun v6 =>
      (E.C fn_impl_Filled [x0, x1, v6.1, x3] v6.2).bind fun v7 =>
      (E.C fn_laws_eqIntS [v7.1, v5.1] v7.2).bind fun v8 =>
      (E.p.un .not v8.1).bind fun v9 =>
      condP v9
       (
        (resV (.bool false)).bind fun v10 =>
        some (v10, v8.2))
       (
        (E.C fn_laws_toIntS [x2] v8.2).bind fun v11 =>
        (E.C fn_laws_eqIntS [v6.1, v11.1] v11.2).bind fun v12 =>
        (E.p.un .not v12.1).bind fun v13 =>
        condP v13
         (
          (resV (.bool false)).bind fun v14 =>
          some (v14, v12.2))
         (
          (E.C fn_laws_markIntS [v6.1, (.int .i64 1)] v12.2).bind fun v15 =>
          (E.p.bin .lss 3 v15.1 (.int .i64 0)).bind fun v16 =>
          (wantV v16 false).bind fun v17 =>
          (bif v17 then some (v7.1, v15.2) else some (.tup [], v15.2)).bind fun v18 =>
          (wantV v16 false).bind fun v19 =>
          (bif v19 then some (v5.1, v18.2) else some (.tup [], v18.2)).bind fun v20 =>
          (wantV v16 false).bind fun v21 =>
          (bif v21 then E.C fn_laws_eqIntS [v18.1, v20.1] v20.2 else some (.tup [], v20.2)).bind fun v22 =>
          (wantV v16 false).bind fun v23 =>
          (bif v23 then pv v22.2 (E.p.un .not v22.1) else some (.tup [], v22.2)).bind fun v24 =>
          (E.p.pick v16 (.bool true) v24.1).bind fun v25 =>
          condP v25
           (
            (resV (.bool false)).bind fun v26 =>
            some (v26, v24.2))
           (
            (E.C fn_laws_markIntS [v7.1, (.int .i64 1)] v24.2).bind fun v27 =>
            (E.C fn_laws_heldIntS [v7.1, (.int .i64 1)] v27.2).bind fun v28 =>
            (E.p.bin .lss 3 v28.1 (.int .i64 0)).bind fun v29 =>
            condP v29
             (
              (resV (.bool false)).bind fun v30 =>
              some (v30, v28.2))
             (
              (E.p.bin .neq 3 v28.1 v27.1).bind fun v31 =>
              condP v31
               (
                (resV (.bool false)).bind fun v32 =>
                some (v32, v28.2))
               (
                (E.C fn_laws_toIntS [x2] v28.2).bind fun v33 =>
                (E.C fn_impl_Filled [x0, x1, v33.1, x3] v33.2).bind fun v34 =>
                (E.C fn_laws_eqIntS [v34.1, v5.1] v34.2).bind fun v35 =>
                (E.p.un .not v35.1).bind fun v36 =>
                condP v36
                 (
                  (resV (.bool false)).bind fun v37 =>
                  some (v37, v35.2))
                 (
                  (E.C fn_laws_heldIntS [v7.1, (.int .i64 1)] v35.2).bind fun v38 =>
                  (E.p.bin .lss 3 v38.1 (.int .i64 0)).bind fun v39 =>
                  condP v39
                   (
                    (resV (.bool false)).bind fun v40 =>
                    some (v40, v38.2))
                   (
                    (E.p.bin .neq 3 v38.1 v27.1).bind fun v41 =>
                    condP v41
                     (
                      (resV (.bool false)).bind fun v42 =>
                      some (v42, v38.2))
                     (
                      (resV (.bool true)).bind fun v43 =>
                      some (v43, v38.2))))))))))
theorem main_eq (E : Env) (x0 x1 x2 x3 : PV) (h : PHeap) : runBody (E.cx Try.prog kl) Try.f3 [x0, x1, x2, x3] h = main E x0 x1 x2 x3 h := by kernel_rfl
theorem call_eq (g : Nat → PV) (lf n : Nat) (x0 x1 x2 x3 : PV) (h : PHeap) : CL g lf (n + 1) fn_laws_FnExactFilled [x0, x1, x2, x3] h = main (env g lf n) x0 x1 x2 x3 h := by
  rw [← main_eq]
  show (match Try.prog.funcs[3]? with | some fn => if fn.body.isSome then runBody ⟨Try.prog, g, call Try.prog g KL lf n, KL 3, lf, std Try.prog⟩ fn [x0, x1, x2, x3] h else none | none => none) = _
  rw [Try.func3]
  kernel_rfl
end laws_FnExactFilled
namespace spec_Filled
noncomputable def lp0 : Code := (codeAt (bodyOf Try.f4) [1, 1, 0, 1, 0, 0])
def st0 (x0 x1 x2 x3 x9 x10 : PV) (h : PHeap) : St := ⟨[x0, x1, x2, x3, .junk, .junk, .junk, .junk, .junk, x9, x10, .junk, .junk, .junk, .junk, .junk, .junk, .junk, .junk, .junk, .junk, .junk, .junk, .junk, .junk, .junk, .junk, .junk, .junk, .junk, .junk, .junk, .junk, .junk, .junk, .junk, .junk, .junk, .junk, .junk, .junk], h⟩
def se0_0_1_2_3_9_10_26 (x0 x1 x2 x3 x9 x10 x26 : PV) (h : PHeap) : St := ⟨[x0, x1, x2, x3, .junk, .junk, .junk, .junk, .junk, x9, x10, .junk, .junk, .junk, .junk, .junk, .junk, .junk, .junk, .junk, .junk, .junk, .junk, .junk, .junk, .junk, x26, .junk, .junk, .junk, .junk, .junk, .junk, .junk, .junk, .junk, .junk, .junk, .junk, .junk, .junk], h⟩
noncomputable def K0 (E : Env) (K : PX → St → Res) : PX → St → Res := (kBlock 0 (kSeq (ev (E.cx Try.prog kl) (codeAt (bodyOf Try.f4) [1, 1, 1])) K))
@[simp] theorem K0_ret (E : Env) (K : PX → St → Res) (s : St) : K0 E K .ret s = K .ret s := by kernel_rfl
noncomputable def body0 (E : Env) (K : PX → St → Res) (x0 x1 x2 x3 x9 x10 : PV) (h : PHeap) : Res :=
    (E.p.len 22 x2).bind fun v28 =>
    (E.p.bin .lss 3 x10 v28).bind fun v29 =>
    (wantV v29 true).bind fun v30 =>
    (bif v30 then some (x0, h) else some (.tup [], h)).bind fun v31 =>
    (wantV v29 true).bind fun v32 =>
    (bif v32 then some (x1, v31.2) else some (.tup [], v31.2)).bind fun v33 =>
    (wantV v29 true).bind fun v34 =>
    (bif v34 then some (x2, v33.2) else some (.tup [], v33.2)).bind fun v35 =>
    (wantV v29 true).bind fun v36 =>
    (bif v36 then E.C fn_spec_PositionOk [v31.1, v33.1, v35.1] v35.2 else some (.tup [], v35.2)).bind fun v37 =>
    (E.p.pick v29 v37.1 (.bool false)).bind fun v38 =>
    (wantV v38 true).bind fun v39 =>
    (bif v39 then some (x3, v37.2) else some (.tup [], v37.2)).bind fun v40 =>
    (wantV v38 true).bind fun v41 =>
    (bif v41 then E.C fn_spec_l1In [v40.1, (.int .i64 1), (.int .i64 2)] v40.2 else some (.tup [], v40.2)).bind fun v42 =>
    (E.p.pick v38 v42.1 (.bool false)).bind fun v43 =>
    condP v43
     (
      (E.p.indexAddr 22 x2 x10).bind fun v44 =>
      (E.p.load 3 v44 v42.2).bind fun v45 =>
      (E.p.bin .eql 3 v45 (.int .i64 0)).bind fun v46 =>
      condP v46
       (
        (E.p.buildSlice 22 1 [(0, x3)] v42.2).bind fun v47 =>
        (E.p.append 22 22 x9 v47.1 v47.2).bind fun v48 =>
        (E.p.bin .add 3 x10 (.int .i64 1)).bind fun v49 =>
        K .normal (st0 x0 x1 x2 x3 v48.1 v49 v48.2))
       (
        (E.p.buildSlice 22 1 [(0, v45)] v42.2).bind fun v50 =>
        (E.p.append 22 22 x9 v50.1 v50.2).bind fun v51 =>
        (E.p.bin .add 3 x10 (.int .i64 1)).bind fun v52 =>
        K .normal (st0 x0 x1 x2 x3 v51.1 v52 v51.2)))
     (
      K (.exit 0) (se0_0_1_2_3_9_10_26 x0 x1 x2 x3 x9 x10 v43 v42.2))
theorem body0_eq (E : Env) (K : PX → St → Res) (x0 x1 x2 x3 x9 x10 : PV) (h : PHeap) : ev (E.cx Try.prog kl) lp0 (st0 x0 x1 x2 x3 x9 x10 h) K = body0 E K x0 x1 x2 x3 x9 x10 h := by kernel_rfl
theorem after0_se0_0_1_2_3_9_10_26 (E : Env) (x0 x1 x2 x3 x9 x10 x26 : PV) (h : PHeap) : K0 E (kTop Try.prog Try.f4) (.exit 0) (se0_0_1_2_3_9_10_26 x0 x1 x2 x3 x9 x10 x26 h) =
    (resV x9).bind fun v27 =>
    some (v27, h) := by kernel_rfl
noncomputable def main (E : Env) (x0 x1 x2 x3 : PV) (h : PHeap) : Res :=
    (E.p.buildSlice 22 0 [] h).bind fun v1 =>
    loopK (ev (E.cx Try.prog spec_Filled.kl) spec_Filled.lp0) E.lf (spec_Filled.st0 x0 x1 x2 x3 v1.1 (.int .i64 0) v1.2) (spec_Filled.K0 E (kTop Try.prog Try.f4))
theorem main_eq (E : Env) (x0 x1 x2 x3 : PV) (h : PHeap) : runBody (E.cx Try.prog kl) Try.f4 [x0, x1, x2, x3] h = main E x0 x1 x2 x3 h := by kernel_rfl
theorem call_eq (g : Nat → PV) (lf n : Nat) (x0 x1 x2 x3 : PV) (h : PHeap) : CL g lf (n + 1) fn_spec_Filled [x0, x1, x2, x3] h = main (env g lf n) x0 x1 x2 x3 h := by
  rw [← main_eq]
  show (match Try.prog.funcs[4]? with | some fn => if fn.body.isSome then runBody ⟨Try.prog, g, call Try.prog g KL lf n, KL 4, lf, std Try.prog⟩ fn [x0, x1, x2, x3] h else none | none => none) = _
  rw [Try.func4]
  kernel_rfl
end spec_Filled
namespace laws_toIntS
noncomputable def lp0 : Code := (codeAt (bodyOf Try.f5) [1, 1, 0, 1, 0, 0])
def st0 (x0 x3 x4 : PV) (h : PHeap) : St := ⟨[x0, .junk, .junk, x3, x4, .junk, .junk, .junk, .junk, .junk, .junk, .junk, .junk, .junk, .junk, .junk, .junk, .junk, .junk, .junk, .junk, .junk], h⟩
def se0_0_3_4_11 (x0 x3 x4 x11 : PV) (h : PHeap) : St := ⟨[x0, .junk, .junk, x3, x4, .junk, .junk, .junk, .junk, .junk, .junk, x11, .junk, .junk, .junk, .junk, .junk, .junk, .junk, .junk, .junk, .junk], h⟩
noncomputable def K0 (E : Env) (K : PX → St → Res) : PX → St → Res := (kBlock 0 (kSeq (ev (E.cx Try.prog kl) (codeAt (bodyOf Try.f5) [1, 1, 1])) K))
@[simp] theorem K0_ret (E : Env) (K : PX → St → Res) (s : St) : K0 E K .ret s = K .ret s := by kernel_rfl
noncomputable def body0 (E : Env) (K : PX → St → Res) (x0 x3 x4 : PV) (h : PHeap) : Res :=
    (E.p.len 22 x0).bind fun v11 =>
    (E.p.bin .lss 3 x4 v11).bind fun v12 =>
    condP v12
     (
      (E.p.indexAddr 22 x0 x4).bind fun v13 =>
      (E.p.load 3 v13 h).bind fun v14 =>
      (E.p.indexAddr 22 x3 x4).bind fun v15 =>
      (E.p.store 3 v15 v14 h).bind fun v16 =>
      (E.p.bin .add 3 x4 (.int .i64 1)).bind fun v17 =>
      K .normal (st0 x0 x3 v17 v16))
     (
      K (.exit 0) (se0_0_3_4_11 x0 x3 x4 v12 h))
theorem body0_eq (E : Env) (K : PX → St → Res) (x0 x3 x4 : PV) (h : PHeap) : ev (E.cx Try.prog kl) lp0 (st0 x0 x3 x4 h) K = body0 E K x0 x3 x4 h := by kernel_rfl
theorem after0_se0_0_3_4_11 (E : Env) (x0 x3 x4 x11 : PV) (h : PHeap) : K0 E (kTop Try.prog Try.f5) (.exit 0) (se0_0_3_4_11 x0 x3 x4 x11 h) =
    (resV x3).bind fun v10 =>
    some (v10, h) := by kernel_rfl
noncomputable def main (E : Env) (x0 : PV) (h : PHeap) : Res :=
    (E.p.len 22 x0).bind fun v1 =>
    (E.p.make 22 v1 v1 h).bind fun v2 =>
    loopK (ev (E.cx Try.prog laws_toIntS.kl) laws_toIntS.lp0) E.lf (laws_toIntS.st0 x0 v2.1 (.int .i64 0) v2.2) (laws_toIntS.K0 E (kTop Try.prog Try.f5))
theorem main_eq (E : Env) (x0 : PV) (h : PHeap) : runBody (E.cx Try.prog kl) Try.f5 [x0] h = main E x0 h := by kernel_rfl
theorem call_eq (g : Nat → PV) (lf n : Nat) (x0 : PV) (h : PHeap) : CL g lf (n + 1) fn_laws_toIntS [x0] h = main (env g lf n) x0 h := by
  rw [← main_eq]
  show (match Try.prog.funcs[5]? with | some fn => if fn.body.isSome then runBody ⟨Try.prog, g, call Try.prog g KL lf n, KL 5, lf, std Try.prog⟩ fn [x0] h else none | none => none) = _
  rw [Try.func5]
  kernel_rfl
end laws_toIntS
namespace impl_Filled
noncomputable def lp0 : Code := (codeAt (bodyOf Try.f6) [1, 1, 1, 0, 1, 0, 0])
def st0 (x3 x9 x25 x26 x27 : PV) (h : PHeap) : St := ⟨[.junk, .junk, .junk, x3, .junk, .junk, .junk, .junk, .junk, x9, .junk, .junk, .junk, .junk, .junk, .junk, .junk, .junk, .junk, .junk, .junk, .junk, .junk, .junk, .junk, x25, x26, x27, .junk, .junk, .junk, .junk, .junk, .junk, .junk, .junk, .junk, .junk, .junk, .junk, .junk], h⟩
def se0_3_9_25_26_27_28 (x3 x9 x25 x26 x27 x28 : PV) (h : PHeap) : St := ⟨[.junk, .junk, .junk, x3, .junk, .junk, .junk, .junk, .junk, x9, .junk, .junk, .junk, .junk, .junk, .junk, .junk, .junk, .junk, .junk, .junk, .junk, .junk, .junk, .junk, x25, x26, x27, x28, .junk, .junk, .junk, .junk, .junk, .junk, .junk, .junk, .junk, .junk, .junk, .junk], h⟩
noncomputable def K0 (E : Env) (K : PX → St → Res) : PX → St → Res := (kBlock 0 (kSeq (ev (E.cx Try.prog kl) (codeAt (bodyOf Try.f6) [1, 1, 1, 1])) K))
@[simp] theorem K0_ret (E : Env) (K : PX → St → Res) (s : St) : K0 E K .ret s = K .ret s := by kernel_rfl
noncomputable def body0 (E : Env) (K : PX → St → Res) (x3 x9 x25 x26 x27 : PV) (h : PHeap) : Res :=
    (E.p.bin .lss 3 x27 x26).bind fun v25 =>
    condP v25
     (
      (E.p.indexAddr 22 x25 x27).bind fun v26 =>
      (E.p.load 3 v26 h).bind fun v27 =>
      (E.p.bin .eql 3 v27 (.int .i64 0)).bind fun v28 =>
      condP v28
       (
        (E.p.indexAddr 22 x9 x27).bind fun v29 =>
        (E.p.store 3 v29 x3 h).bind fun v30 =>
        (E.p.bin .add 3 x27 (.int .i64 1)).bind fun v31 =>
        K .normal (st0 x3 x9 x25 x26 v31 v30))
       (
        (E.p.indexAddr 22 x9 x27).bind fun v32 =>
        (E.p.store 3 v32 v27 h).bind fun v33 =>
        (E.p.bin .add 3 x27 (.int .i64 1)).bind fun v34 =>
        K .normal (st0 x3 x9 x25 x26 v34 v33)))
     (
      K (.exit 0) (se0_3_9_25_26_27_28 x3 x9 x25 x26 x27 v25 h))
theorem body0_eq (E : Env) (K : PX → St → Res) (x3 x9 x25 x26 x27 : PV) (h : PHeap) : ev (E.cx Try.prog kl) lp0 (st0 x3 x9 x25 x26 x27 h) K = body0 E K x3 x9 x25 x26 x27 h := by kernel_rfl
theorem after0_se0_3_9_25_26_27_28 (E : Env) (x3 x9 x25 x26 x27 x28 : PV) (h : PHeap) : K0 E (kTop Try.prog Try.f6) (.exit 0) (se0_3_9_25_26_27_28 x3 x9 x25 x26 x27 x28 h) =
    (resV x9).bind fun v24 =>
    some (v24, h) := by kernel_rfl
noncomputable def main (E : Env) (x0 x1 x2 x3 : PV) (h : PHeap) : Res :=
    (E.C fn_impl_PositionOk [x0, x1, x2] h).bind fun v1 =>
    (E.p.un .not v1.1).bind fun v2 =>
    (wantV v2 false).bind fun v3 =>
    (bif v3 then some (x3, v1.2) else some (.tup [], v1.2)).bind fun v4 =>
    (wantV v2 false).bind fun v5 =>
    (bif v5 then E.C fn_impl_playerOk [v4.1] v4.2 else some (.tup [], v4.2)).bind fun v6 =>
    (wantV v2 false).bind fun v7 =>
    (bif v7 then pv v6.2 (E.p.un .not v6.1) else some (.tup [], v6.2)).bind fun v8 =>
    (E.p.pick v2 (.bool true) v8.1).bind fun v9 =>
    condP v9
     (
      (resV .nilsl).bind fun v10 =>
      some (v10, v8.2))
     (
      (E.p.len 22 x2).bind fun v11 =>
      (E.p.make 22 v11 v11 v8.2).bind fun v12 =>
      (E.p.len 22 x2).bind fun v13 =>
      loopK (ev (E.cx Try.prog impl_Filled.kl) impl_Filled.lp0) E.lf (impl_Filled.st0 x3 v12.1 x2 v13 (.int .i64 0) v12.2) (impl_Filled.K0 E (kTop Try.prog Try.f6)))
theorem main_eq (E : Env) (x0 x1 x2 x3 : PV) (h : PHeap) : runBody (E.cx Try.prog kl) Try.f6 [x0, x1, x2, x3] h = main E x0 x1 x2 x3 h := by kernel_rfl
theorem call_eq (g : Nat → PV) (lf n : Nat) (x0 x1 x2 x3 : PV) (h : PHeap) : CL g lf (n + 1) fn_impl_Filled [x0, x1, x2, x3] h = main (env g lf n) x0 x1 x2 x3 h := by
  rw [← main_eq]
  show (match Try.prog.funcs[6]? with | some fn => if fn.body.isSome then runBody ⟨Try.prog, g, call Try.prog g KL lf n, KL 6, lf, std Try.prog⟩ fn [x0, x1, x2, x3] h else none | none => none) = _
  rw [Try.func6]
  kernel_rfl
end impl_Filled
namespace laws_eqIntS
noncomputable def lp0 : Code := (codeAt (bodyOf Try.f7) [1, 1, 0, 1, 0, 0])
def st0 (x0 x1 x5 : PV) (h : PHeap) : St := ⟨[x0, x1, .junk, .junk, .junk, x5, .junk, .junk, .junk, .junk, .junk, .junk, .junk, .junk, .junk, .junk, .junk, .junk, .junk, .junk, .junk, .junk, .junk, .junk, .junk, .junk], h⟩
def sr_4 (x4 : PV) (h : PHeap) : St := ⟨[.junk, .junk, .junk, .junk, x4, .junk, .junk, .junk, .junk, .junk, .junk, .junk, .junk, .junk, .junk, .junk, .junk, .junk, .junk, .junk, .junk, .junk, .junk, .junk, .junk, .junk], h⟩
def se0_0_1_5_14 (x0 x1 x5 x14 : PV) (h : PHeap) : St := ⟨[x0, x1, .junk, .junk, .junk, x5, .junk, .junk, .junk, .junk, .junk, .junk, .junk, .junk, x14, .junk, .junk, .junk, .junk, .junk, .junk, .junk, .junk, .junk, .junk, .junk], h⟩
noncomputable def K0 (E : Env) (K : PX → St → Res) : PX → St → Res := (kBlock 0 (kSeq (ev (E.cx Try.prog kl) (codeAt (bodyOf Try.f7) [1, 1, 1])) K))
@[simp] theorem K0_ret (E : Env) (K : PX → St → Res) (s : St) : K0 E K .ret s = K .ret s := by kernel_rfl
noncomputable def body0 (E : Env) (K : PX → St → Res) (x0 x1 x5 : PV) (h : PHeap) : Res :=
    (E.p.len 22 x0).bind fun v14 =>
    (E.p.bin .lss 3 x5 v14).bind fun v15 =>
    condP v15
     (
      (E.p.indexAddr 22 x0 x5).bind fun v16 =>
      (E.p.load 3 v16 h).bind fun v17 =>
      (E.p.indexAddr 22 x1 x5).bind fun v18 =>
      (E.p.load 3 v18 h).bind fun v19 =>
      (E.p.bin .neq 3 v17 v19).bind fun v20 =>
      condP v20
       (
        K .ret (sr_4 (.bool false) h))
       (
        (E.p.bin .add 3 x5 (.int .i64 1)).bind fun v21 =>
        K .normal (st0 x0 x1 v21 h)))
     (
      K (.exit 0) (se0_0_1_5_14 x0 x1 x5 v15 h))
theorem body0_eq (E : Env) (K : PX → St → Res) (x0 x1 x5 : PV) (h : PHeap) : ev (E.cx Try.prog kl) lp0 (st0 x0 x1 x5 h) K = body0 E K x0 x1 x5 h := by kernel_rfl
theorem after0_se0_0_1_5_14 (E : Env) (x0 x1 x5 x14 : PV) (h : PHeap) : K0 E (kTop Try.prog Try.f7) (.exit 0) (se0_0_1_5_14 x0 x1 x5 x14 h) =
    (resV (.bool true)).bind fun v13 =>
    some (v13, h) := by kernel_rfl
theorem top_sr_4 (x4 : PV) (h : PHeap) : kTop Try.prog Try.f7 .ret (sr_4 x4 h) =
    (resV x4).bind fun v22 =>
    some (v22, h) := by kernel_rfl
noncomputable def main (E : Env) (x0 x1 : PV) (h : PHeap) : Res :=
    (E.p.len 22 x0).bind fun v1 =>
    (E.p.len 22 x1).bind fun v2 =>
    (E.p.bin .neq 3 v1 v2).bind fun v3 =>
    condP v3
     (
      (resV (.bool false)).bind fun v4 =>
      some (v4, h))
     (
      loopK (ev (E.cx Try.prog laws_eqIntS.kl) laws_eqIntS.lp0) E.lf (laws_eqIntS.st0 x0 x1 (.int .i64 0) h) (laws_eqIntS.K0 E (kTop Try.prog Try.f7)))
theorem main_eq (E : Env) (x0 x1 : PV) (h : PHeap) : runBody (E.cx Try.prog kl) Try.f7 [x0, x1] h = main E x0 x1 h := by kernel_rfl
theorem call_eq (g : Nat → PV) (lf n : Nat) (x0 x1 : PV) (h : PHeap) : CL g lf (n + 1) fn_laws_eqIntS [x0, x1] h = main (env g lf n) x0 x1 h := by
  rw [← main_eq]
  show (match Try.prog.funcs[7]? with | some fn => if fn.body.isSome then runBody ⟨Try.prog, g, call Try.prog g KL lf n, KL 7, lf, std Try.prog⟩ fn [x0, x1] h else none | none => none) = _
  rw [Try.func7]
  kernel_rfl
end laws_eqIntS
namespace laws_markIntS
noncomputable def lp0 : Code := (codeAt (bodyOf Try.f8) [1, 0, 1, 0, 0])
def st0 (x0 x1 x5 : PV) (h : PHeap) : St := ⟨[x0, x1, .junk, .junk, .junk, x5, .junk, .junk, .junk, .junk, .junk, .junk, .junk, .junk, .junk, .junk, .junk, .junk, .junk], h⟩
def se0_0_1_5_9 (x0 x1 x5 x9 : PV) (h : PHeap) : St := ⟨[x0, x1, .junk, .junk, .junk, x5, .junk, .junk, .junk, x9, .junk, .junk, .junk, .junk, .junk, .junk, .junk, .junk, .junk], h⟩
noncomputable def K0 (E : Env) (K : PX → St → Res) : PX → St → Res := (kBlock 0 (kSeq (ev (E.cx Try.prog kl) (codeAt (bodyOf Try.f8) [1, 1])) K))
@[simp] theorem K0_ret (E : Env) (K : PX → St → Res) (s : St) : K0 E K .ret s = K .ret s := by kernel_rfl
noncomputable def body0 (E : Env) (K : PX → St → Res) (x0 x1 x5 : PV) (h : PHeap) : Res :=
    (E.p.len 22 x0).bind fun v8 =>
    (E.p.bin .lss 3 x5 v8).bind fun v9 =>
    condP v9
     (
      (E.p.indexAddr 22 x0 x5).bind fun v10 =>
      (E.p.store 3 v10 x1 h).bind fun v11 =>
      (E.p.bin .add 3 x1 (.int .i64 1)).bind fun v12 =>
      (E.p.bin .add 3 x5 (.int .i64 1)).bind fun v13 =>
      K .normal (st0 x0 v12 v13 v11))
     (
      K (.exit 0) (se0_0_1_5_9 x0 x1 x5 v9 h))
theorem body0_eq (E : Env) (K : PX → St → Res) (x0 x1 x5 : PV) (h : PHeap) : ev (E.cx Try.prog kl) lp0 (st0 x0 x1 x5 h) K = body0 E K x0 x1 x5 h := by kernel_rfl
theorem after0_se0_0_1_5_9 (E : Env) (x0 x1 x5 x9 : PV) (h : PHeap) : K0 E (kTop Try.prog Try.f8) (.exit 0) (se0_0_1_5_9 x0 x1 x5 x9 h) =
    (resV x1).bind fun v7 =>
    some (v7, h) := by kernel_rfl
noncomputable def main (E : Env) (x0 x1 : PV) (h : PHeap) : Res :=
    loopK (ev (E.cx Try.prog laws_markIntS.kl) laws_markIntS.lp0) E.lf (laws_markIntS.st0 x0 x1 (.int .i64 0) h) (laws_markIntS.K0 E (kTop Try.prog Try.f8))
theorem main_eq (E : Env) (x0 x1 : PV) (h : PHeap) : runBody (E.cx Try.prog kl) Try.f8 [x0, x1] h = main E x0 x1 h := by kernel_rfl
theorem call_eq (g : Nat → PV) (lf n : Nat) (x0 x1 : PV) (h : PHeap) : CL g lf (n + 1) fn_laws_markIntS [x0, x1] h = main (env g lf n) x0 x1 h := by
  rw [← main_eq]
  show (match Try.prog.funcs[8]? with | some fn => if fn.body.isSome then runBody ⟨Try.prog, g, call Try.prog g KL lf n, KL 8, lf, std Try.prog⟩ fn [x0, x1] h else none | none => none) = _
  rw [Try.func8]
  kernel_rfl
end laws_markIntS
namespace laws_heldIntS
noncomputable def lp0 : Code := (codeAt (bodyOf Try.f9) [1, 0, 1, 0, 0])
def st0 (x0 x1 x5 : PV) (h : PHeap) : St := ⟨[x0, x1, .junk, .junk, .junk, x5, .junk, .junk, .junk, .junk, .junk, .junk, .junk, .junk, .junk, .junk, .junk, .junk, .junk, .junk, .junk], h⟩
def sr_4 (x4 : PV) (h : PHeap) : St := ⟨[.junk, .junk, .junk, .junk, x4, .junk, .junk, .junk, .junk, .junk, .junk, .junk, .junk, .junk, .junk, .junk, .junk, .junk, .junk, .junk, .junk], h⟩
def se0_0_1_5_9 (x0 x1 x5 x9 : PV) (h : PHeap) : St := ⟨[x0, x1, .junk, .junk, .junk, x5, .junk, .junk, .junk, x9, .junk, .junk, .junk, .junk, .junk, .junk, .junk, .junk, .junk, .junk, .junk], h⟩
noncomputable def K0 (E : Env) (K : PX → St → Res) : PX → St → Res := (kBlock 0 (kSeq (ev (E.cx Try.prog kl) (codeAt (bodyOf Try.f9) [1, 1])) K))
@[simp] theorem K0_ret (E : Env) (K : PX → St → Res) (s : St) : K0 E K .ret s = K .ret s := by kernel_rfl
noncomputable def body0 (E : Env) (K : PX → St → Res) (x0 x1 x5 : PV) (h : PHeap) : Res :=
    (E.p.len 22 x0).bind fun v9 =>
    (E.p.bin .lss 3 x5 v9).bind fun v10 =>
    condP v10
     (
      (E.p.indexAddr 22 x0 x5).bind fun v11 =>
      (E.p.load 3 v11 h).bind fun v12 =>
      (E.p.bin .neq 3 v12 x1).bind fun v13 =>
      condP v13
       (
        K .ret (sr_4 (.int .i64 (-1)) h))
       (
        (E.p.bin .add 3 x1 (.int .i64 1)).bind fun v14 =>
        (E.p.bin .add 3 x5 (.int .i64 1)).bind fun v15 =>
        K .normal (st0 x0 v14 v15 h)))
     (
      K (.exit 0) (se0_0_1_5_9 x0 x1 x5 v10 h))
theorem body0_eq (E : Env) (K : PX → St → Res) (x0 x1 x5 : PV) (h : PHeap) : ev (E.cx Try.prog kl) lp0 (st0 x0 x1 x5 h) K = body0 E K x0 x1 x5 h := by kernel_rfl
theorem after0_se0_0_1_5_9 (E : Env) (x0 x1 x5 x9 : PV) (h : PHeap) : K0 E (kTop Try.prog Try.f9) (.exit 0) (se0_0_1_5_9 x0 x1 x5 x9 h) =
    (resV x1).bind fun v8 =>
    some (v8, h) := by kernel_rfl
theorem top_sr_4 (x4 : PV) (h : PHeap) : kTop Try.prog Try.f9 .ret (sr_4 x4 h) =
    (resV x4).bind fun v16 =>
    some (v16, h) := by kernel_rfl
noncomputable def main (E : Env) (x0 x1 : PV) (h : PHeap) : Res :=
    loopK (ev (E.cx Try.prog laws_heldIntS.kl) laws_heldIntS.lp0) E.lf (laws_heldIntS.st0 x0 x1 (.int .i64 0) h) (laws_heldIntS.K0 E (kTop Try.prog Try.f9))
theorem main_eq (E : Env) (x0 x1 : PV) (h : PHeap) : runBody (E.cx Try.prog kl) Try.f9 [x0, x1] h = main E x0 x1 h := by kernel_rfl
theorem call_eq (g : Nat → PV) (lf n : Nat) (x0 x1 : PV) (h : PHeap) : CL g lf (n + 1) fn_laws_heldIntS [x0, x1] h = main (env g lf n) x0 x1 h := by
  rw [← main_eq]
  show (match Try.prog.funcs[9]? with | some fn => if fn.body.isSome then runBody ⟨Try.prog, g, call Try.prog g KL lf n, KL 9, lf, std Try.prog⟩ fn [x0, x1] h else none | none => none) = _
  rw [Try.func9]
  kernel_rfl
end laws_heldIntS
namespace spec_PositionOk
noncomputable def lp0 : Code := (codeAt (bodyOf Try.f10) [1, 0, 1, 0, 0])
def st0 (x0 x1 x2 x7 : PV) (h : PHeap) : St := ⟨[x0, x1, x2, .junk, .junk, .junk, .junk, x7, .junk, .junk, .junk, .junk, .junk, .junk, .junk, .junk, .junk, .junk, .junk, .junk, .junk, .junk, .junk, .junk, .junk, .junk, .junk, .junk, .junk, .junk, .junk], h⟩
def sr_6 (x6 : PV) (h : PHeap) : St := ⟨[.junk, .junk, .junk, .junk, .junk, .junk, x6, .junk, .junk, .junk, .junk, .junk, .junk, .junk, .junk, .junk, .junk, .junk, .junk, .junk, .junk, .junk, .junk, .junk, .junk, .junk, .junk, .junk, .junk, .junk, .junk], h⟩
def se0_0_1_2_7_11 (x0 x1 x2 x7 x11 : PV) (h : PHeap) : St := ⟨[x0, x1, x2, .junk, .junk, .junk, .junk, x7, .junk, .junk, .junk, x11, .junk, .junk, .junk, .junk, .junk, .junk, .junk, .junk, .junk, .junk, .junk, .junk, .junk, .junk, .junk, .junk, .junk, .junk, .junk], h⟩
noncomputable def K0 (E : Env) (K : PX → St → Res) : PX → St → Res := (kBlock 0 (kSeq (ev (E.cx Try.prog kl) (codeAt (bodyOf Try.f10) [1, 1])) K))
@[simp] theorem K0_ret (E : Env) (K : PX → St → Res) (s : St) : K0 E K .ret s = K .ret s := by kernel_rfl
noncomputable def body0 (E : Env) (K : PX → St → Res) (x0 x1 x2 x7 : PV) (h : PHeap) : Res :=
    (E.p.len 22 x2).bind fun v23 =>
    (E.p.bin .lss 3 x7 v23).bind fun v24 =>
    condP v24
     (
      (E.p.indexAddr 22 x2 x7).bind fun v25 =>
      (E.p.load 3 v25 h).bind fun v26 =>
      (E.C fn_spec_l1In [v26, (.int .i64 0), (.int .i64 2)] h).bind fun v27 =>
      (E.p.un .not v27.1).bind fun v28 =>
      condP v28
       (
        K .ret (sr_6 (.bool false) v27.2))
       (
        (E.p.bin .add 3 x7 (.int .i64 1)).bind fun v29 =>
        K .normal (st0 x0 x1 x2 v29 v27.2)))
     (
      K (.exit 0) (se0_0_1_2_7_11 x0 x1 x2 x7 v24 h))
theorem body0_eq (E : Env) (K : PX → St → Res) (x0 x1 x2 x7 : PV) (h : PHeap) : ev (E.cx Try.prog kl) lp0 (st0 x0 x1 x2 x7 h) K = body0 E K x0 x1 x2 x7 h := by kernel_rfl
theorem after0_se0_0_1_2_7_11 (E : Env) (x0 x1 x2 x7 x11 : PV) (h : PHeap) : K0 E (kTop Try.prog Try.f10) (.exit 0) (se0_0_1_2_7_11 x0 x1 x2 x7 x11 h) =
    (E.C fn_spec_BoardOk [x0, x1] h).bind fun v8 =>
    (wantV v8.1 true).bind fun v9 =>
    (bif v9 then some (x2, v8.2) else some (.tup [], v8.2)).bind fun v10 =>
    (wantV v8.1 true).bind fun v11 =>
    (bif v11 then pv v10.2 (E.p.len 22 v10.1) else some (.tup [], v10.2)).bind fun v12 =>
    (wantV v8.1 true).bind fun v13 =>
    (bif v13 then some (x0, v12.2) else some (.tup [], v12.2)).bind fun v14 =>
    (wantV v8.1 true).bind fun v15 =>
    (bif v15 then some (x1, v14.2) else some (.tup [], v14.2)).bind fun v16 =>
    (wantV v8.1 true).bind fun v17 =>
    (bif v17 then pv v16.2 (E.p.bin .mul 3 v14.1 v16.1) else some (.tup [], v16.2)).bind fun v18 =>
    (wantV v8.1 true).bind fun v19 =>
    (bif v19 then pv v18.2 (E.p.bin .eql 3 v12.1 v18.1) else some (.tup [], v18.2)).bind fun v20 =>
    (E.p.pick v8.1 v20.1 (.bool false)).bind fun v21 =>
    (resV v21).bind fun v22 =>
    some (v22, v20.2) := by kernel_rfl
theorem top_sr_6 (x6 : PV) (h : PHeap) : kTop Try.prog Try.f10 .ret (sr_6 x6 h) =
    (resV x6).bind fun v30 =>
    some (v30, h) := by kernel_rfl
noncomputable def main (E : Env) (x0 x1 x2 : PV) (h : PHeap) : Res :=
    loopK (ev (E.cx Try.prog spec_PositionOk.kl) spec_PositionOk.lp0) E.lf (spec_PositionOk.st0 x0 x1 x2 (.int .i64 0) h) (spec_PositionOk.K0 E (kTop Try.prog Try.f10))
theorem main_eq (E : Env) (x0 x1 x2 : PV) (h : PHeap) : runBody (E.cx Try.prog kl) Try.f10 [x0, x1, x2] h = main E x0 x1 x2 h := by kernel_rfl
theorem call_eq (g : Nat → PV) (lf n : Nat) (x0 x1 x2 : PV) (h : PHeap) : CL g lf (n + 1) fn_spec_PositionOk [x0, x1, x2] h = main (env g lf n) x0 x1 x2 h := by
  rw [← main_eq]
  show (match Try.prog.funcs[10]? with | some fn => if fn.body.isSome then runBody ⟨Try.prog, g, call Try.prog g KL lf n, KL 10, lf, std Try.prog⟩ fn [x0, x1, x2] h else none | none => none) = _
  rw [Try.func10]
  kernel_rfl
end spec_PositionOk
namespace spec_l1In
noncomputable def main (E : Env) (x0 x1 x2 : PV) (h : PHeap) : Res :=
    (E.p.bin .geq 3 x0 x1).bind fun v1 =>
    (wantV v1 true).bind fun v2 =>
    (bif v2 then some (x0, h) else some (.tup [], h)).bind fun v3 =>
    (wantV v1 true).bind fun v4 =>
    (bif v4 then some (x2, v3.2) else some (.tup [], v3.2)).bind fun v5 =>
    (wantV v1 true).bind fun v6 =>
    (bif v6 then pv v5.2 (E.p.bin .leq 3 v3.1 v5.1) else some (.tup [], v5.2)).bind fun v7 =>
    (E.p.pick v1 v7.1 (.bool false)).bind fun v8 =>
    (resV v8).bind fun v9 =>
    some (v9, v7.2)
theorem main_eq (E : Env) (x0 x1 x2 : PV) (h : PHeap) : runBody (E.cx Try.prog kl) Try.f11 [x0, x1, x2] h = main E x0 x1 x2 h := by kernel_rfl
theorem call_eq (g : Nat → PV) (lf n : Nat) (x0 x1 x2 : PV) (h : PHeap) : CL g lf (n + 1) fn_spec_l1In [x0, x1, x2] h = main (env g lf n) x0 x1 x2 h := by
  rw [← main_eq]
  show (match Try.prog.funcs[11]? with | some fn => if fn.body.isSome then runBody ⟨Try.prog, g, call Try.prog g KL lf n, KL 11, lf, std Try.prog⟩ fn [x0, x1, x2] h else none | none => none) = _
  rw [Try.func11]
  kernel_rfl
end spec_l1In
namespace impl_PositionOk
noncomputable def lp0 : Code := (codeAt (bodyOf Try.f12) [1, 1, 0, 1, 0, 0])
def st0 (x21 x22 x23 : PV) (h : PHeap) : St := ⟨[.junk, .junk, .junk, .junk, .junk, .junk, .junk, .junk, .junk, .junk, .junk, .junk, .junk, .junk, .junk, .junk, .junk, .junk, .junk, .junk, .junk, x21, x22, x23, .junk, .junk, .junk, .junk, .junk, .junk, .junk], h⟩
def sr_6 (x6 : PV) (h : PHeap) : St := ⟨[.junk, .junk, .junk, .junk, .junk, .junk, x6, .junk, .junk, .junk, .junk, .junk, .junk, .junk, .junk, .junk, .junk, .junk, .junk, .junk, .junk, .junk, .junk, .junk, .junk, .junk, .junk, .junk, .junk, .junk, .junk], h⟩
def se0_21_22_23_24 (x21 x22 x23 x24 : PV) (h : PHeap) : St := ⟨[.junk, .junk, .junk, .junk, .junk, .junk, .junk, .junk, .junk, .junk, .junk, .junk, .junk, .junk, .junk, .junk, .junk, .junk, .junk, .junk, .junk, x21, x22, x23, x24, .junk, .junk, .junk, .junk, .junk, .junk], h⟩
noncomputable def K0 (E : Env) (K : PX → St → Res) : PX → St → Res := (kBlock 0 (kSeq (ev (E.cx Try.prog kl) (codeAt (bodyOf Try.f12) [1, 1, 1])) K))
@[simp] theorem K0_ret (E : Env) (K : PX → St → Res) (s : St) : K0 E K .ret s = K .ret s := by kernel_rfl
noncomputable def body0 (E : Env) (K : PX → St → Res) (x21 x22 x23 : PV) (h : PHeap) : Res :=
    (E.p.bin .lss 3 x23 x22).bind fun v25 =>
    condP v25
     (
      (E.p.indexAddr 22 x21 x23).bind fun v26 =>
      (E.p.load 3 v26 h).bind fun v27 =>
      (E.C fn_impl_contentOk [v27] h).bind fun v28 =>
      (E.p.un .not v28.1).bind fun v29 =>
      condP v29
       (
        K .ret (sr_6 (.bool false) v28.2))
       (
        (E.p.bin .add 3 x23 (.int .i64 1)).bind fun v30 =>
        K .normal (st0 x21 x22 v30 v28.2)))
     (
      K (.exit 0) (se0_21_22_23_24 x21 x22 x23 v25 h))
theorem body0_eq (E : Env) (K : PX → St → Res) (x21 x22 x23 : PV) (h : PHeap) : ev (E.cx Try.prog kl) lp0 (st0 x21 x22 x23 h) K = body0 E K x21 x22 x23 h := by kernel_rfl
theorem after0_se0_21_22_23_24 (E : Env) (x21 x22 x23 x24 : PV) (h : PHeap) : K0 E (kTop Try.prog Try.f12) (.exit 0) (se0_21_22_23_24 x21 x22 x23 x24 h) =
    (resV (.bool true)).bind fun v24 =>
    some (v24, h) := by kernel_rfl
theorem top_sr_6 (x6 : PV) (h : PHeap) : kTop Try.prog Try.f12 .ret (sr_6 x6 h) =
    (resV x6).bind fun v31 =>
    some (v31, h) := by kernel_rfl
noncomputable def main (E : Env) (x0 x1 x2 : PV) (h : PHeap) : Res :=
    (E.C fn_impl_BoardOk [x0, x1] h).bind fun v1 =>
    (E.p.un .not v1.1).bind fun v2 =>
    (wantV v2 false).bind fun v3 =>
    (bif v3 then some (x2, v1.2) else some (.tup [], v1.2)).bind fun v4 =>
    (wantV v2 false).bind fun v5 =>
    (bif v5 then pv v4.2 (E.p.len 22 v4.1) else some (.tup [], v4.2)).bind fun v6 =>
    (wantV v2 false).bind fun v7 =>
    (bif v7 then some (x0, v6.2) else some (.tup [], v6.2)).bind fun v8 =>
    (wantV v2 false).bind fun v9 =>
    (bif v9 then some (x1, v8.2) else some (.tup [], v8.2)).bind fun v10 =>
    (wantV v2 false).bind fun v11 =>
    (bif v11 then pv v10.2 (E.p.bin .mul 3 v8.1 v10.1) else some (.tup [], v10.2)).bind fun v12 =>
    (wantV v2 false).bind fun v13 =>
    (bif v13 then pv v12.2 (E.p.bin .neq 3 v6.1 v12.1) else some (.tup [], v12.2)).bind fun v14 =>
    (E.p.pick v2 (.bool true) v14.1).bind fun v15 =>
    condP v15
     (
      (resV (.bool false)).bind fun v16 =>
      some (v16, v14.2))
     (
      (E.p.len 22 x2).bind fun v17 =>
      loopK (ev (E.cx Try.prog impl_PositionOk.kl) impl_PositionOk.lp0) E.lf (impl_PositionOk.st0 x2 v17 (.int .i64 0) v14.2) (impl_PositionOk.K0 E (kTop Try.prog Try.f12)))
theorem main_eq (E : Env) (x0 x1 x2 : PV) (h : PHeap) : runBody (E.cx Try.prog kl) Try.f12 [x0, x1, x2] h = main E x0 x1 x2 h := by kernel_rfl
theorem call_eq (g : Nat → PV) (lf n : Nat) (x0 x1 x2 : PV) (h : PHeap) : CL g lf (n + 1) fn_impl_PositionOk [x0, x1, x2] h = main (env g lf n) x0 x1 x2 h := by
  rw [← main_eq]
  show (match Try.prog.funcs[12]? with | some fn => if fn.body.isSome then runBody ⟨Try.prog, g, call Try.prog g KL lf n, KL 12, lf, std Try.prog⟩ fn [x0, x1, x2] h else none | none => none) = _
  rw [Try.func12]
  kernel_rfl
end impl_PositionOk
namespace impl_playerOk
noncomputable def main (E : Env) (x0 : PV) (h : PHeap) : Res :=
    (E.p.bin .eql 3 x0 (.int .i64 1)).bind fun v1 =>
    (wantV v1 false).bind fun v2 =>
    (bif v2 then some (x0, h) else some (.tup [], h)).bind fun v3 =>
    (wantV v1 false).bind fun v4 =>
    (bif v4 then pv v3.2 (E.p.bin .eql 3 v3.1 (.int .i64 2)) else some (.tup [], v3.2)).bind fun v5 =>
    (E.p.pick v1 (.bool true) v5.1).bind fun v6 =>
    (resV v6).bind fun v7 =>
    some (v7, v5.2)
theorem main_eq (E : Env) (x0 : PV) (h : PHeap) : runBody (E.cx Try.prog kl) Try.f13 [x0] h = main E x0 h := by kernel_rfl
theorem call_eq (g : Nat → PV) (lf n : Nat) (x0 : PV) (h : PHeap) : CL g lf (n + 1) fn_impl_playerOk [x0] h = main (env g lf n) x0 h := by
  rw [← main_eq]
  show (match Try.prog.funcs[13]? with | some fn => if fn.body.isSome then runBody ⟨Try.prog, g, call Try.prog g KL lf n, KL 13, lf, std Try.prog⟩ fn [x0] h else none | none => none) = _
  rw [Try.func13]
  kernel_rfl
end impl_playerOk
namespace spec_BoardOk
noncomputable def main (E : Env) (x0 x1 : PV) (h : PHeap) : Res :=
    (E.C fn_spec_l1In [x0, (.int .i64 1), (.int .i64 4)] h).bind fun v1 =>
    (wantV v1.1 true).bind fun v2 =>
    (bif v2 then some (x1, v1.2) else some (.tup [], v1.2)).bind fun v3 =>
    (wantV v1.1 true).bind fun v4 =>
    (bif v4 then E.C fn_spec_l1In [v3.1, (.int .i64 1), (.int .i64 4)] v3.2 else some (.tup [], v3.2)).bind fun v5 =>
    (E.p.pick v1.1 v5.1 (.bool false)).bind fun v6 =>
    (wantV v6 true).bind fun v7 =>
    (bif v7 then some (x0, v5.2) else some (.tup [], v5.2)).bind fun v8 =>
    (wantV v6 true).bind fun v9 =>
    (bif v9 then some (x1, v8.2) else some (.tup [], v8.2)).bind fun v10 =>
    (wantV v6 true).bind fun v11 =>
    (bif v11 then pv v10.2 (E.p.bin .mul 3 v8.1 v10.1) else some (.tup [], v10.2)).bind fun v12 =>
    (wantV v6 true).bind fun v13 =>
    (bif v13 then pv v12.2 (E.p.bin .leq 3 v12.1 (.int .i64 9)) else some (.tup [], v12.2)).bind fun v14 =>
    (E.p.pick v6 v14.1 (.bool false)).bind fun v15 =>
    (resV v15).bind fun v16 =>
    some (v16, v14.2)
theorem main_eq (E : Env) (x0 x1 : PV) (h : PHeap) : runBody (E.cx Try.prog kl) Try.f14 [x0, x1] h = main E x0 x1 h := by kernel_rfl
theorem call_eq (g : Nat → PV) (lf n : Nat) (x0 x1 : PV) (h : PHeap) : CL g lf (n + 1) fn_spec_BoardOk [x0, x1] h = main (env g lf n) x0 x1 h := by
  rw [← main_eq]
  show (match Try.prog.funcs[14]? with | some fn => if fn.body.isSome then runBody ⟨Try.prog, g, call Try.prog g KL lf n, KL 14, lf, std Try.prog⟩ fn [x0, x1] h else none | none => none) = _
  rw [Try.func14]
  kernel_rfl
end spec_BoardOk
namespace impl_BoardOk
noncomputable def main (E : Env) (x0 x1 : PV) (h : PHeap) : Res :=
    (E.C fn_impl_sizeOk [x0] h).bind fun v1 =>
    (wantV v1.1 true).bind fun v2 =>
    (bif v2 then some (x1, v1.2) else some (.tup [], v1.2)).bind fun v3 =>
    (wantV v1.1 true).bind fun v4 =>
    (bif v4 then E.C fn_impl_sizeOk [v3.1] v3.2 else some (.tup [], v3.2)).bind fun v5 =>
    (E.p.pick v1.1 v5.1 (.bool false)).bind fun v6 =>
    (wantV v6 true).bind fun v7 =>
    (bif v7 then some (x0, v5.2) else some (.tup [], v5.2)).bind fun v8 =>
    (wantV v6 true).bind fun v9 =>
    (bif v9 then some (x1, v8.2) else some (.tup [], v8.2)).bind fun v10 =>
    (wantV v6 true).bind fun v11 =>
    (bif v11 then pv v10.2 (E.p.bin .mul 3 v8.1 v10.1) else some (.tup [], v10.2)).bind fun v12 =>
    (wantV v6 true).bind fun v13 =>
    (bif v13 then pv v12.2 (E.p.bin .leq 3 v12.1 (.int .i64 9)) else some (.tup [], v12.2)).bind fun v14 =>
    (E.p.pick v6 v14.1 (.bool false)).bind fun v15 =>
    (resV v15).bind fun v16 =>
    some (v16, v14.2)
theorem main_eq (E : Env) (x0 x1 : PV) (h : PHeap) : runBody (E.cx Try.prog kl) Try.f15 [x0, x1] h = main E x0 x1 h := by kernel_rfl
theorem call_eq (g : Nat → PV) (lf n : Nat) (x0 x1 : PV) (h : PHeap) : CL g lf (n + 1) fn_impl_BoardOk [x0, x1] h = main (env g lf n) x0 x1 h := by
  rw [← main_eq]
  show (match Try.prog.funcs[15]? with | some fn => if fn.body.isSome then runBody ⟨Try.prog, g, call Try.prog g KL lf n, KL 15, lf, std Try.prog⟩ fn [x0, x1] h else none | none => none) = _
  rw [Try.func15]
  kernel_rfl
end impl_BoardOk
namespace impl_contentOk
noncomputable def main (E : Env) (x0 : PV) (h : PHeap) : Res :=
    (E.p.bin .eql 3 x0 (.int .i64 0)).bind fun v1 =>
    (wantV v1 false).bind fun v2 =>
    (bif v2 then some (x0, h) else some (.tup [], h)).bind fun v3 =>
    (wantV v1 false).bind fun v4 =>
    (bif v4 then pv v3.2 (E.p.bin .eql 3 v3.1 (.int .i64 1)) else some (.tup [], v3.2)).bind fun v5 =>
    (E.p.pick v1 (.bool true) v5.1).bind fun v6 =>
    (wantV v6 false).bind fun v7 =>
    (bif v7 then some (x0, v5.2) else some (.tup [], v5.2)).bind fun v8 =>
    (wantV v6 false).bind fun v9 =>
    (bif v9 then pv v8.2 (E.p.bin .eql 3 v8.1 (.int .i64 2)) else some (.tup [], v8.2)).bind fun v10 =>
    (E.p.pick v6 (.bool true) v10.1).bind fun v11 =>
    (resV v11).bind fun v12 =>
    some (v12, v10.2)
theorem main_eq (E : Env) (x0 : PV) (h : PHeap) : runBody (E.cx Try.prog kl) Try.f16 [x0] h = main E x0 h := by kernel_rfl
theorem call_eq (g : Nat → PV) (lf n : Nat) (x0 : PV) (h : PHeap) : CL g lf (n + 1) fn_impl_contentOk [x0] h = main (env g lf n) x0 h := by
  rw [← main_eq]
  show (match Try.prog.funcs[16]? with | some fn => if fn.body.isSome then runBody ⟨Try.prog, g, call Try.prog g KL lf n, KL 16, lf, std Try.prog⟩ fn [x0] h else none | none => none) = _
  rw [Try.func16]
  kernel_rfl
end impl_contentOk
namespace impl_sizeOk
noncomputable def main (E : Env) (x0 : PV) (h : PHeap) : Res :=
    (E.p.bin .geq 3 x0 (.int .i64 1)).bind fun v1 =>
    (wantV v1 true).bind fun v2 =>
    (bif v2 then some (x0, h) else some (.tup [], h)).bind fun v3 =>
    (wantV v1 true).bind fun v4 =>
    (bif v4 then pv v3.2 (E.p.bin .leq 3 v3.1 (.int .i64 4)) else some (.tup [], v3.2)).bind fun v5 =>
    (E.p.pick v1 v5.1 (.bool false)).bind fun v6 =>
    (resV v6).bind fun v7 =>
    some (v7, v5.2)
theorem main_eq (E : Env) (x0 : PV) (h : PHeap) : runBody (E.cx Try.prog kl) Try.f17 [x0] h = main E x0 h := by kernel_rfl
theorem call_eq (g : Nat → PV) (lf n : Nat) (x0 : PV) (h : PHeap) : CL g lf (n + 1) fn_impl_sizeOk [x0] h = main (env g lf n) x0 h := by
  rw [← main_eq]
  show (match Try.prog.funcs[17]? with | some fn => if fn.body.isSome then runBody ⟨Try.prog, g, call Try.prog g KL lf n, KL 17, lf, std Try.prog⟩ fn [x0] h else none | none => none) = _
  rw [Try.func17]
  kernel_rfl
end impl_sizeOk
end Go.Proofs.Ytiflfnlpkhghpaa.G
