/- Texts of this seat, in their order, put together by program. -/
import Derived.Test.YtihlmjapddjjjabK7
import Derived.IntWalk
import Derived.Test.YtihlmjapddjjjabProg
import Derived.KernelRfl
set_option linter.unusedSimpArgs false
set_option linter.unusedVariables false
set_option linter.unusedSectionVars false
/- What the operations come to on values that are written out: rules for the simplifier; and the types of this program. -/
set_option maxRecDepth 20000
namespace Go.Proofs.Ytihlmjapddjjjab
open Go Go.Ip

section
variable {P : Program} {t : TypeId} {k : IntKind} {a b : Int} {h : PHeap}

@[simp] theorem bin_add : binP P .add t (.int k a) (.int k b) = some (.int k (k.wrap (a + b))) := by simp [binP, binI]
@[simp] theorem bin_sub : binP P .sub t (.int k a) (.int k b) = some (.int k (k.wrap (a - b))) := by simp [binP, binI]
@[simp] theorem bin_mul : binP P .mul t (.int k a) (.int k b) = some (.int k (k.wrap (a * b))) := by simp [binP, binI]
@[simp] theorem bin_eql : binP P .eql t (.int k a) (.int k b) = some (.bool (a == b)) := by simp [binP, binI]
@[simp] theorem bin_neq : binP P .neq t (.int k a) (.int k b) = some (.bool (a != b)) := by simp [binP, binI]
@[simp] theorem bin_lss : binP P .lss t (.int k a) (.int k b) = some (.bool (decide (a < b))) := by simp [binP, binI]
@[simp] theorem bin_leq : binP P .leq t (.int k a) (.int k b) = some (.bool (decide (a ≤ b))) := by simp [binP, binI]
@[simp] theorem bin_gtr : binP P .gtr t (.int k a) (.int k b) = some (.bool (decide (b < a))) := by simp [binP, binI]
@[simp] theorem bin_geq : binP P .geq t (.int k a) (.int k b) = some (.bool (decide (b ≤ a))) := by simp [binP, binI]
@[simp] theorem un_not {x : Bool} : unP .not (.bool x) = some (.bool (!x)) := rfl
@[simp] theorem un_neg : unP .neg (.int k a) = some (.int k (k.wrap (0 - a))) := rfl
@[simp] theorem pick_bool {x : Bool} {u v : PV} : pickP (.bool x) u v = some (bif x then u else v) := rfl
@[simp] theorem want_bool {x y : Bool} : wantV (.bool x) y = some (x == y) := rfl
@[simp] theorem want_undef {y : Bool} : wantV (.tup []) y = some false := rfl
@[simp] theorem cond_bool {x : Bool} {u v : Res} : condP (.bool x) u v = bif x then u else v := rfl
@[simp] theorem res_int : resV (.int k a) = some (.int k a) := rfl
@[simp] theorem res_bool {x : Bool} : resV (.bool x) = some (.bool x) := rfl
@[simp] theorem res_sl {i o l : Nat} : resV (.sl i o l) = some (.sl i o l) := rfl
@[simp] theorem res_nilsl : resV .nilsl = some .nilsl := rfl
@[simp] theorem res_ptr {i o : Nat} : resV (.ptr i o) = some (.ptr i o) := rfl
@[simp] theorem pv_some' {v : PV} : pv h (some v) = some (v, h) := rfl
@[simp] theorem ptr_ptr {i o : Nat} : ptrP (.ptr i o) = some (.ptr i o) := rfl
@[simp] theorem extract_tup {l : List PV} {i : Nat} : extractP (.tup l) i = l[i]? := rfl
@[simp] theorem fold_nil {f : PV → PV → Option PV} {x : PV} : foldP f x [] = some x := rfl
@[simp] theorem fold_cons {f : PV → PV → Option PV} {x y : PV} {ys : List PV} : foldP f x (y :: ys) = (f x y).bind fun z => foldP f z ys := rfl
@[simp] theorem max2_int {k' : IntKind} : maxP2 (.int k a) (.int k' b) = some (.int k (if b > a then b else a)) := rfl
@[simp] theorem min2_int {k' : IntKind} : minP2 (.int k a) (.int k' b) = some (.int k (if b < a then b else a)) := rfl
theorem wr {x : Int} (hx : -9223372036854775808 ≤ x ∧ x ≤ 9223372036854775807) : IntKind.i64.wrap x = x := by rw [IntKind.wrap_i64]; omega

theorem bin_eqlB {x y : Bool} (ht : isBoolT P t = true) : binP P .eql t (.bool x) (.bool y) = some (.bool (x == y)) := by simp [binP, ht]
theorem bin_neqB {x y : Bool} (ht : isBoolT P t = true) : binP P .neq t (.bool x) (.bool y) = some (.bool (!(x == y))) := by simp [binP, ht]
end

@[simp] theorem ty_bool : isBoolT Try.prog 4 = true := by kernel_rfl
@[simp] theorem neqB {x y : Bool} : binP Try.prog .neq 4 (.bool x) (.bool y) = some (.bool (!(x == y))) := bin_neqB ty_bool
@[simp] theorem eqlB {x y : Bool} : binP Try.prog .eql 4 (.bool x) (.bool y) = some (.bool (x == y)) := bin_eqlB ty_bool

end Go.Proofs.Ytihlmjapddjjjab

/- Slices of integers on the interpreter's heap: how they are read, made, written and appended to. -/
set_option maxRecDepth 20000
namespace Go.Proofs.Ytihlmjapddjjjab
open Go Go.Ip G

def kLoop (f : St → (PX → St → Res) → Res) (n : Nat) (k : PX → St → Res) : PX → St → Res := fun x s => match x with | .normal => loopK f n s k | x => k x s
theorem loopK_succ (f : St → (PX → St → Res) → Res) (n : Nat) (s : St) (k : PX → St → Res) : loopK f (n + 1) s k = f s (kLoop f n k) := rfl
@[simp] theorem kLoop_normal (f : St → (PX → St → Res) → Res) (n : Nat) (s : St) (k : PX → St → Res) : kLoop f n k .normal s = loopK f n s k := rfl
@[simp] theorem kLoop_exit (f : St → (PX → St → Res) → Res) (n i : Nat) (s : St) (k : PX → St → Res) : kLoop f n k (.exit i) s = k (.exit i) s := rfl
@[simp] theorem kLoop_ret (f : St → (PX → St → Res) → Res) (n : Nat) (s : St) (k : PX → St → Res) : kLoop f n k .ret s = k .ret s := rfl

/-- The first n objects are as they were. -/
def Keep (n : Nat) (h h' : PHeap) : Prop := h.length ≤ h'.length ∧ ∀ i, i < n → h'[i]? = h[i]?

theorem Keep.refl (n : Nat) (h : PHeap) : Keep n h h := ⟨Nat.le_refl _, fun _ _ => rfl⟩
theorem Keep.trans {n : Nat} {a b c : PHeap} (h : Keep n a b) (k : Keep n b c) : Keep n a c := ⟨Nat.le_trans h.1 k.1, fun i hi => (k.2 i hi).trans (h.2 i hi)⟩
theorem Keep.mono {n m : Nat} {a b : PHeap} (h : Keep n a b) (hm : m ≤ n) : Keep m a b := ⟨h.1, fun i hi => h.2 i (by omega)⟩
theorem Keep.append (n : Nat) (h E : PHeap) (hn : n ≤ h.length) : Keep n h (h ++ E) := ⟨by simp, fun i hi => List.getElem?_append_left (by omega)⟩
theorem Keep.set (n : Nat) (h : PHeap) (i : Nat) (o : PObj) (hi : n ≤ i) : Keep n h (h.set i o) := ⟨by simp, fun j hj => List.getElem?_set_ne (by omega)⟩

theorem cellsAt_keep {n : Nat} {h h' : PHeap} (k : Keep n h h') {id : Nat} (hi : id < n) : cellsAt h' id = cellsAt h id := by
  unfold cellsAt; rw [k.2 id hi]

theorem lt_of_cell {h : PHeap} {id j : Nat} {v : PV} (hv : (cellsAt h id)[j]? = some v) : id < h.length := by
  unfold cellsAt at hv
  cases ho : h[id]? with
  | none => rw [ho] at hv; simp at hv
  | some o => exact (List.getElem?_eq_some_iff.1 ho).1

theorem IntSl.keep {k : IntKind} {h h' : PHeap} {p : PV} {xs : List Int} (s : IntSl k h p xs) (hk : Keep h.length h h') : IntSl k h' p xs := by
  rcases s with s | ⟨id, off, hp, hc⟩
  · exact .inl s
  · exact .inr ⟨id, off, hp, fun i x hx => by rw [cellsAt_keep hk (lt_of_cell (hc i x hx))]; exact hc i x hx⟩

theorem IntSl.nil (k : IntKind) (h : PHeap) : IntSl k h .nilsl [] := .inl ⟨rfl, rfl⟩

section
variable {P : Program} {T I : TypeId}

theorem IntSl.len {k : IntKind} {h : PHeap} {p : PV} {xs : List Int} (s : IntSl k h p xs) (hT : P.underlying T = some (.slice I)) : lenP P T p = some (.int .i64 xs.length) := by
  rcases s with ⟨rfl, rfl⟩ | ⟨id, off, rfl, hc⟩ <;> simp [lenP, hT]

theorem IntSl.at {k : IntKind} {h : PHeap} {p : PV} {xs : List Int} (s : IntSl k h p xs) (hT : P.underlying T = some (.slice I)) (hS : sizeT P I = some 1) (hA : isAggT P I = some false) {i : Nat} (hi : i < xs.length) :
    ∃ a, indexAddrP P T p (.int .i64 i) = some a ∧ loadP P I a h = some (.int k xs[i]) := by
  rcases s with ⟨rfl, rfl⟩ | ⟨id, off, rfl, hc⟩
  · simp at hi
  · refine ⟨.ptr id (off + i), ?_, ?_⟩
    · simp [indexAddrP, hT, hS, hi]
    · simp only [loadP, hA]
      exact hc i _ (List.getElem?_eq_getElem hi)
end

/-- A slice of integers that the call itself made, from object n on. -/
def OwnSl (n : Nat) (h : PHeap) (p : PV) (xs : List Int) : Prop :=
  (p = .nilsl ∧ xs = []) ∨ ∃ id, n ≤ id ∧ p = .sl id 0 xs.length ∧ h[id]? = some (.own 1 (xs.map (.int .i64)))

theorem OwnSl.int {n : Nat} {h : PHeap} {p : PV} {xs : List Int} (s : OwnSl n h p xs) : IntSl .i64 h p xs := by
  rcases s with s | ⟨id, _, hp, ho⟩
  · exact .inl s
  · refine .inr ⟨id, 0, hp, fun i x hx => ?_⟩
    simp [cellsAt, ho, PObj.get, hx]

theorem OwnSl.mono {n m : Nat} {h : PHeap} {p : PV} {xs : List Int} (s : OwnSl n h p xs) (hm : m ≤ n) : OwnSl m h p xs := by
  rcases s with s | ⟨id, h1, h2⟩
  · exact .inl s
  · exact .inr ⟨id, by omega, h2⟩

theorem OwnSl.keep {n : Nat} {h h' : PHeap} {p : PV} {xs : List Int} (s : OwnSl n h p xs) (hk : Keep h.length h h') : OwnSl n h' p xs := by
  rcases s with s | ⟨id, h1, h2, h3⟩
  · exact .inl s
  · exact .inr ⟨id, h1, h2, by rw [hk.2 id (List.getElem?_eq_some_iff.1 h3).1]; exact h3⟩

theorem OwnSl.nil (n : Nat) (h : PHeap) : OwnSl n h .nilsl [] := .inl ⟨rfl, rfl⟩

theorem tySize : sizeT Try.prog 3 = some 1 := by kernel_rfl
theorem tyAgg : isAggT Try.prog 3 = some false := by kernel_rfl
theorem nx {i : Nat} (hi : i < 2 ^ 40) : IntKind.i64.wrap ((i : Int) + 1) = ((i + 1 : Nat) : Int) := by
  rw [wr (by omega)]; rfl

end Go.Proofs.Ytihlmjapddjjjab

/- Of each function of this seat's program its plain form over the interpreter, written by program; each equation is the kernel's. -/
set_option linter.unusedVariables false
set_option maxRecDepth 100000
namespace Go.Proofs.Ytihlmjapddjjjab.G
open Go Go.Ip Go.Proofs

namespace laws_FnExactWiresOk
noncomputable def main (E : Env) (x0 x1 : PV) (h : PHeap) : Res :=
    (E.C fn_laws_szWireS [x1, (.int .i64 1048576)] h).bind fun v1 =>
    (E.p.bin .lss 3 v1.1 (.int .i64 0)).bind fun v2 =>
    condP v2
     (
      (resV (.bool true)).bind fun v3 =>
      some (v3, v1.2))
     (
      (E.C fn_laws_toWireS [x1] v1.2).bind fun v4 =>
      (E.C fn_spec_WiresOk [x0, v4.1] v4.2).bind fun v5 =>
      (E.C fn_laws_toWireS [x1] v5.2).bind fun v6 =>
      (E.C fn_impl_WiresOk [x0, v6.1] v6.2).bind fun v7 =>
      (E.p.bin .neq 4 v7.1 v5.1).bind fun v8 =>
      condP v8
       (
        (resV (.bool false)).bind fun v9 =>
        some (v9, v7.2))
       (
        (E.C fn_laws_toWireS [x1] v7.2).bind fun v10 =>
        (E.C fn_laws_eqWireS [v6.1, v10.1] v10.2).bind fun v11 =>
        (E.p.un .not v11.1).bind fun v12 =>
        condP v12
         (
          (resV (.bool false)).bind fun v13 =>
          some (v13, v11.2))
         (
          (resV (.bool true)).bind fun v14 =>
          some (v14, v11.2))))
theorem main_eq (E : Env) (x0 x1 : PV) (h : PHeap) : runBody (E.cx Try.prog kl) Try.f3 [x0, x1] h = main E x0 x1 h := by kernel_rfl
theorem call_eq (g : Nat → PV) (lf n : Nat) (x0 x1 : PV) (h : PHeap) : CL g lf (n + 1) fn_laws_FnExactWiresOk [x0, x1] h = main (env g lf n) x0 x1 h := by
  rw [← main_eq]
  show call Try.prog g KL lf (n + 1) 3 [x0, x1] h = _
  rw [call_succ, Try.func3]
  kernel_rfl
end laws_FnExactWiresOk
namespace laws_szWireS
noncomputable def main (E : Env) (x0 x1 : PV) (h : PHeap) : Res :=
    (E.p.len 22 x0).bind fun v1 =>
    (E.p.bin .sub 3 x1 v1).bind fun v2 =>
    (E.p.bin .lss 3 v2 (.int .i64 0)).bind fun v3 =>
    condP v3
     (
      (resV (.int .i64 (-1))).bind fun v4 =>
      some (v4, h))
     (
      (resV v2).bind fun v5 =>
      some (v5, h))
theorem main_eq (E : Env) (x0 x1 : PV) (h : PHeap) : runBody (E.cx Try.prog kl) Try.f4 [x0, x1] h = main E x0 x1 h := by kernel_rfl
theorem call_eq (g : Nat → PV) (lf n : Nat) (x0 x1 : PV) (h : PHeap) : CL g lf (n + 1) fn_laws_szWireS [x0, x1] h = main (env g lf n) x0 x1 h := by
  rw [← main_eq]
  show call Try.prog g KL lf (n + 1) 4 [x0, x1] h = _
  rw [call_succ, Try.func4]
  kernel_rfl
end laws_szWireS
namespace spec_WiresOk
noncomputable def lp0 : Code := (codeAt (bodyOf Try.f5) [1, 0, 1, 0, 0])
def st0 (x0 x1 x5 : PV) (h : PHeap) : St := ⟨[x0, x1, .junk, .junk, .junk, x5, .junk, .junk, .junk, .junk, .junk, .junk, .junk, .junk, .junk, .junk, .junk, .junk, .junk, .junk, .junk, .junk, .junk, .junk, .junk, .junk, .junk, .junk, .junk, .junk, .junk, .junk, .junk, .junk, .junk, .junk, .junk, .junk, .junk, .junk, .junk, .junk, .junk, .junk, .junk, .junk, .junk, .junk, .junk, .junk, .junk], h⟩
def sr_4 (x4 : PV) (h : PHeap) : St := ⟨[.junk, .junk, .junk, .junk, x4, .junk, .junk, .junk, .junk, .junk, .junk, .junk, .junk, .junk, .junk, .junk, .junk, .junk, .junk, .junk, .junk, .junk, .junk, .junk, .junk, .junk, .junk, .junk, .junk, .junk, .junk, .junk, .junk, .junk, .junk, .junk, .junk, .junk, .junk, .junk, .junk, .junk, .junk, .junk, .junk, .junk, .junk, .junk, .junk, .junk, .junk], h⟩
def se0_0_1_5_10 (x0 x1 x5 x10 : PV) (h : PHeap) : St := ⟨[x0, x1, .junk, .junk, .junk, x5, .junk, .junk, .junk, .junk, x10, .junk, .junk, .junk, .junk, .junk, .junk, .junk, .junk, .junk, .junk, .junk, .junk, .junk, .junk, .junk, .junk, .junk, .junk, .junk, .junk, .junk, .junk, .junk, .junk, .junk, .junk, .junk, .junk, .junk, .junk, .junk, .junk, .junk, .junk, .junk, .junk, .junk, .junk, .junk, .junk], h⟩
noncomputable def K0 (E : Env) (K : PX → St → Res) : PX → St → Res := (kBlock 0 (kSeq (ev (E.cx Try.prog kl) (codeAt (bodyOf Try.f5) [1, 1])) K))
@[simp] theorem K0_ret (E : Env) (K : PX → St → Res) (s : St) : K0 E K .ret s = K .ret s := by kernel_rfl
noncomputable def body0 (E : Env) (K : PX → St → Res) (x0 x1 x5 : PV) (h : PHeap) : Res :=
    (E.p.len 25 x1).bind fun v56 =>
    (E.p.bin .lss 3 x5 v56).bind fun v57 =>
    condP v57
     (
      (E.p.indexAddr 25 x1 x5).bind fun v58 =>
      (E.p.load 30 v58 h).bind fun v59 =>
      (E.p.alloc 30 h).bind fun v60 =>
      (E.p.store 30 v60.1 v59 v60.2).bind fun v61 =>
      (E.p.fieldAddr 30 v60.1 0).bind fun v62 =>
      (E.p.load 3 v62 v61).bind fun v63 =>
      (E.p.bin .lss 3 v63 (.int .i64 0)).bind fun v64 =>
      (wantV v64 false).bind fun v65 =>
      (bif v65 then pv v61 (E.p.fieldAddr 30 v60.1 0) else some (.tup [], v61)).bind fun v66 =>
      (wantV v64 false).bind fun v67 =>
      (bif v67 then pv v66.2 (E.p.load 3 v66.1 v66.2) else some (.tup [], v66.2)).bind fun v68 =>
      (wantV v64 false).bind fun v69 =>
      (bif v69 then some (x0, v68.2) else some (.tup [], v68.2)).bind fun v70 =>
      (wantV v64 false).bind fun v71 =>
      (bif v71 then pv v70.2 (E.p.bin .geq 3 v68.1 v70.1) else some (.tup [], v70.2)).bind fun v72 =>
      (E.p.pick v64 (.bool true) v72.1).bind fun v73 =>
      (wantV v73 false).bind fun v74 =>
      (bif v74 then pv v72.2 (E.p.fieldAddr 30 v60.1 1) else some (.tup [], v72.2)).bind fun v75 =>
      (wantV v73 false).bind fun v76 =>
      (bif v76 then pv v75.2 (E.p.load 3 v75.1 v75.2) else some (.tup [], v75.2)).bind fun v77 =>
      (wantV v73 false).bind fun v78 =>
      (bif v78 then pv v77.2 (E.p.bin .lss 3 v77.1 (.int .i64 0)) else some (.tup [], v77.2)).bind fun v79 =>
      (E.p.pick v73 (.bool true) v79.1).bind fun v80 =>
      (wantV v80 false).bind fun v81 =>
      (bif v81 then pv v79.2 (E.p.fieldAddr 30 v60.1 1) else some (.tup [], v79.2)).bind fun v82 =>
      (wantV v80 false).bind fun v83 =>
      (bif v83 then pv v82.2 (E.p.load 3 v82.1 v82.2) else some (.tup [], v82.2)).bind fun v84 =>
      (wantV v80 false).bind fun v85 =>
      (bif v85 then some (x0, v84.2) else some (.tup [], v84.2)).bind fun v86 =>
      (wantV v80 false).bind fun v87 =>
      (bif v87 then pv v86.2 (E.p.bin .geq 3 v84.1 v86.1) else some (.tup [], v86.2)).bind fun v88 =>
      (E.p.pick v80 (.bool true) v88.1).bind fun v89 =>
      (wantV v89 false).bind fun v90 =>
      (bif v90 then pv v88.2 (E.p.fieldAddr 30 v60.1 0) else some (.tup [], v88.2)).bind fun v91 =>
      (wantV v89 false).bind fun v92 =>
      (bif v92 then pv v91.2 (E.p.load 3 v91.1 v91.2) else some (.tup [], v91.2)).bind fun v93 =>
      (wantV v89 false).bind fun v94 =>
      (bif v94 then pv v93.2 (E.p.fieldAddr 30 v60.1 1) else some (.tup [], v93.2)).bind fun v95 =>
      (wantV v89 false).bind fun v96 =>
      (bif v96 then pv v95.2 (E.p.load 3 v95.1 v95.2) else some (.tup [], v95.2)).bind fun v97 =>
      (wantV v89 false).bind fun v98 =>
      (bif v98 then pv v97.2 (E.p.bin .eql 3 v93.1 v97.1) else some (.tup [], v97.2)).bind fun v99 =>
      (E.p.pick v89 (.bool true) v99.1).bind fun v100 =>
      condP v100
       (
        K .ret (sr_4 (.bool false) v99.2))
       (
        (E.p.bin .add 3 x5 (.int .i64 1)).bind fun v101 =>
        K .normal (st0 x0 x1 v101 v99.2)))
     (
      K (.exit 0) (se0_0_1_5_10 x0 x1 x5 v57 h))
theorem body0_eq (E : Env) (K : PX → St → Res) (x0 x1 x5 : PV) (h : PHeap) : ev (E.cx Try.prog kl) lp0 (st0 x0 x1 x5 h) K = body0 E K x0 x1 x5 h := by kernel_rfl
theorem after0_se0_0_1_5_10 (E : Env) (x0 x1 x5 x10 : PV) (h : PHeap) : K0 E (kTop Try.prog Try.f5) (.exit 0) (se0_0_1_5_10 x0 x1 x5 x10 h) =
    (E.C fn_spec_l1In [x0, (.int .i64 2), (.int .i64 5)] h).bind fun v47 =>
    (wantV v47.1 true).bind fun v48 =>
    (bif v48 then some (x1, v47.2) else some (.tup [], v47.2)).bind fun v49 =>
    (wantV v47.1 true).bind fun v50 =>
    (bif v50 then pv v49.2 (E.p.len 25 v49.1) else some (.tup [], v49.2)).bind fun v51 =>
    (wantV v47.1 true).bind fun v52 =>
    (bif v52 then pv v51.2 (E.p.bin .leq 3 v51.1 (.int .i64 8)) else some (.tup [], v51.2)).bind fun v53 =>
    (E.p.pick v47.1 v53.1 (.bool false)).bind fun v54 =>
    (resV v54).bind fun v55 =>
    some (v55, v53.2) := by kernel_rfl
theorem top_sr_4 (x4 : PV) (h : PHeap) : kTop Try.prog Try.f5 .ret (sr_4 x4 h) =
    (resV x4).bind fun v102 =>
    some (v102, h) := by kernel_rfl
noncomputable def main (E : Env) (x0 x1 : PV) (h : PHeap) : Res :=
    loopK (ev (E.cx Try.prog spec_WiresOk.kl) spec_WiresOk.lp0) E.lf (spec_WiresOk.st0 x0 x1 (.int .i64 0) h) (spec_WiresOk.K0 E (kTop Try.prog Try.f5))
theorem main_eq (E : Env) (x0 x1 : PV) (h : PHeap) : runBody (E.cx Try.prog kl) Try.f5 [x0, x1] h = main E x0 x1 h := by kernel_rfl
theorem call_eq (g : Nat → PV) (lf n : Nat) (x0 x1 : PV) (h : PHeap) : CL g lf (n + 1) fn_spec_WiresOk [x0, x1] h = main (env g lf n) x0 x1 h := by
  rw [← main_eq]
  show call Try.prog g KL lf (n + 1) 5 [x0, x1] h = _
  rw [call_succ, Try.func5]
  kernel_rfl
end spec_WiresOk
namespace laws_toWireS
noncomputable def lp0 : Code := (codeAt (bodyOf Try.f6) [1, 1, 0, 1, 0, 0])
def st0 (x0 x3 x4 : PV) (h : PHeap) : St := ⟨[x0, .junk, .junk, x3, x4, .junk, .junk, .junk, .junk, .junk, .junk, .junk, .junk, .junk, .junk, .junk, .junk, .junk, .junk, .junk, .junk, .junk, .junk], h⟩
def se0_0_3_4_11 (x0 x3 x4 x11 : PV) (h : PHeap) : St := ⟨[x0, .junk, .junk, x3, x4, .junk, .junk, .junk, .junk, .junk, .junk, x11, .junk, .junk, .junk, .junk, .junk, .junk, .junk, .junk, .junk, .junk, .junk], h⟩
noncomputable def K0 (E : Env) (K : PX → St → Res) : PX → St → Res := (kBlock 0 (kSeq (ev (E.cx Try.prog kl) (codeAt (bodyOf Try.f6) [1, 1, 1])) K))
@[simp] theorem K0_ret (E : Env) (K : PX → St → Res) (s : St) : K0 E K .ret s = K .ret s := by kernel_rfl
noncomputable def body0 (E : Env) (K : PX → St → Res) (x0 x3 x4 : PV) (h : PHeap) : Res :=
    (E.p.len 22 x0).bind fun v12 =>
    (E.p.bin .lss 3 x4 v12).bind fun v13 =>
    condP v13
     (
      (E.p.indexAddr 22 x0 x4).bind fun v14 =>
      (E.p.load 33 v14 h).bind fun v15 =>
      (E.C fn_laws_toWire [v15] h).bind fun v16 =>
      (E.p.indexAddr 25 x3 x4).bind fun v17 =>
      (E.p.store 30 v17 v16.1 v16.2).bind fun v18 =>
      (E.p.bin .add 3 x4 (.int .i64 1)).bind fun v19 =>
      K .normal (st0 x0 x3 v19 v18))
     (
      K (.exit 0) (se0_0_3_4_11 x0 x3 x4 v13 h))
theorem body0_eq (E : Env) (K : PX → St → Res) (x0 x3 x4 : PV) (h : PHeap) : ev (E.cx Try.prog kl) lp0 (st0 x0 x3 x4 h) K = body0 E K x0 x3 x4 h := by kernel_rfl
theorem after0_se0_0_3_4_11 (E : Env) (x0 x3 x4 x11 : PV) (h : PHeap) : K0 E (kTop Try.prog Try.f6) (.exit 0) (se0_0_3_4_11 x0 x3 x4 x11 h) =
    (resV x3).bind fun v11 =>
    some (v11, h) := by kernel_rfl
noncomputable def main (E : Env) (x0 : PV) (h : PHeap) : Res :=
    (E.p.len 22 x0).bind fun v1 =>
    (E.p.make 25 v1 v1 h).bind fun v2 =>
    loopK (ev (E.cx Try.prog laws_toWireS.kl) laws_toWireS.lp0) E.lf (laws_toWireS.st0 x0 v2.1 (.int .i64 0) v2.2) (laws_toWireS.K0 E (kTop Try.prog Try.f6))
theorem main_eq (E : Env) (x0 : PV) (h : PHeap) : runBody (E.cx Try.prog kl) Try.f6 [x0] h = main E x0 h := by kernel_rfl
theorem call_eq (g : Nat → PV) (lf n : Nat) (x0 : PV) (h : PHeap) : CL g lf (n + 1) fn_laws_toWireS [x0] h = main (env g lf n) x0 h := by
  rw [← main_eq]
  show call Try.prog g KL lf (n + 1) 6 [x0] h = _
  rw [call_succ, Try.func6]
  kernel_rfl
end laws_toWireS
namespace impl_WiresOk
noncomputable def lp0 : Code := (codeAt (bodyOf Try.f7) [1, 1, 0, 1, 0, 0])
def st0 (x0 x18 x19 x20 : PV) (h : PHeap) : St := ⟨[x0, .junk, .junk, .junk, .junk, .junk, .junk, .junk, .junk, .junk, .junk, .junk, .junk, .junk, .junk, .junk, .junk, .junk, x18, x19, x20, .junk, .junk, .junk, .junk, .junk, .junk, .junk, .junk, .junk, .junk, .junk, .junk, .junk, .junk, .junk, .junk, .junk, .junk, .junk, .junk, .junk, .junk, .junk], h⟩
def sr_4 (x4 : PV) (h : PHeap) : St := ⟨[.junk, .junk, .junk, .junk, x4, .junk, .junk, .junk, .junk, .junk, .junk, .junk, .junk, .junk, .junk, .junk, .junk, .junk, .junk, .junk, .junk, .junk, .junk, .junk, .junk, .junk, .junk, .junk, .junk, .junk, .junk, .junk, .junk, .junk, .junk, .junk, .junk, .junk, .junk, .junk, .junk, .junk, .junk, .junk], h⟩
def se0_0_18_19_20_21 (x0 x18 x19 x20 x21 : PV) (h : PHeap) : St := ⟨[x0, .junk, .junk, .junk, .junk, .junk, .junk, .junk, .junk, .junk, .junk, .junk, .junk, .junk, .junk, .junk, .junk, .junk, x18, x19, x20, x21, .junk, .junk, .junk, .junk, .junk, .junk, .junk, .junk, .junk, .junk, .junk, .junk, .junk, .junk, .junk, .junk, .junk, .junk, .junk, .junk, .junk, .junk], h⟩
noncomputable def K0 (E : Env) (K : PX → St → Res) : PX → St → Res := (kBlock 0 (kSeq (ev (E.cx Try.prog kl) (codeAt (bodyOf Try.f7) [1, 1, 1])) K))
@[simp] theorem K0_ret (E : Env) (K : PX → St → Res) (s : St) : K0 E K .ret s = K .ret s := by kernel_rfl
noncomputable def body0 (E : Env) (K : PX → St → Res) (x0 x18 x19 x20 : PV) (h : PHeap) : Res :=
    (E.p.bin .lss 3 x20 x19).bind fun v50 =>
    condP v50
     (
      (E.p.indexAddr 25 x18 x20).bind fun v51 =>
      (E.p.load 30 v51 h).bind fun v52 =>
      (E.p.alloc 30 h).bind fun v53 =>
      (E.p.store 30 v53.1 v52 v53.2).bind fun v54 =>
      (E.p.fieldAddr 30 v53.1 0).bind fun v55 =>
      (E.p.load 3 v55 v54).bind fun v56 =>
      (E.p.fieldAddr 30 v53.1 1).bind fun v57 =>
      (E.p.load 3 v57 v54).bind fun v58 =>
      (E.p.bin .eql 3 v56 v58).bind fun v59 =>
      (wantV v59 false).bind fun v60 =>
      (bif v60 then some (x0, v54) else some (.tup [], v54)).bind fun v61 =>
      (wantV v59 false).bind fun v62 =>
      (bif v62 then pv v61.2 (E.p.fieldAddr 30 v53.1 0) else some (.tup [], v61.2)).bind fun v63 =>
      (wantV v59 false).bind fun v64 =>
      (bif v64 then pv v63.2 (E.p.load 3 v63.1 v63.2) else some (.tup [], v63.2)).bind fun v65 =>
      (wantV v59 false).bind fun v66 =>
      (bif v66 then E.C fn_impl_nodeOk [v61.1, v65.1] v65.2 else some (.tup [], v65.2)).bind fun v67 =>
      (wantV v59 false).bind fun v68 =>
      (bif v68 then pv v67.2 (E.p.un .not v67.1) else some (.tup [], v67.2)).bind fun v69 =>
      (E.p.pick v59 (.bool true) v69.1).bind fun v70 =>
      (wantV v70 false).bind fun v71 =>
      (bif v71 then some (x0, v69.2) else some (.tup [], v69.2)).bind fun v72 =>
      (wantV v70 false).bind fun v73 =>
      (bif v73 then pv v72.2 (E.p.fieldAddr 30 v53.1 1) else some (.tup [], v72.2)).bind fun v74 =>
      (wantV v70 false).bind fun v75 =>
      (bif v75 then pv v74.2 (E.p.load 3 v74.1 v74.2) else some (.tup [], v74.2)).bind fun v76 =>
      (wantV v70 false).bind fun v77 =>
      (bif v77 then E.C fn_impl_nodeOk [v72.1, v76.1] v76.2 else some (.tup [], v76.2)).bind fun v78 =>
      (wantV v70 false).bind fun v79 =>
      (bif v79 then pv v78.2 (E.p.un .not v78.1) else some (.tup [], v78.2)).bind fun v80 =>
      (E.p.pick v70 (.bool true) v80.1).bind fun v81 =>
      condP v81
       (
        K .ret (sr_4 (.bool false) v80.2))
       (
        (E.p.bin .add 3 x20 (.int .i64 1)).bind fun v82 =>
        K .normal (st0 x0 x18 x19 v82 v80.2)))
     (
      K (.exit 0) (se0_0_18_19_20_21 x0 x18 x19 x20 v50 h))
theorem body0_eq (E : Env) (K : PX → St → Res) (x0 x18 x19 x20 : PV) (h : PHeap) : ev (E.cx Try.prog kl) lp0 (st0 x0 x18 x19 x20 h) K = body0 E K x0 x18 x19 x20 h := by kernel_rfl
theorem after0_se0_0_18_19_20_21 (E : Env) (x0 x18 x19 x20 x21 : PV) (h : PHeap) : K0 E (kTop Try.prog Try.f7) (.exit 0) (se0_0_18_19_20_21 x0 x18 x19 x20 x21 h) =
    (resV (.bool true)).bind fun v49 =>
    some (v49, h) := by kernel_rfl
theorem top_sr_4 (x4 : PV) (h : PHeap) : kTop Try.prog Try.f7 .ret (sr_4 x4 h) =
    (resV x4).bind fun v83 =>
    some (v83, h) := by kernel_rfl
noncomputable def main (E : Env) (x0 x1 : PV) (h : PHeap) : Res :=
    (E.p.bin .lss 3 x0 (.int .i64 2)).bind fun v1 =>
    (wantV v1 false).bind fun v2 =>
    (bif v2 then some (x0, h) else some (.tup [], h)).bind fun v3 =>
    (wantV v1 false).bind fun v4 =>
    (bif v4 then pv v3.2 (E.p.bin .gtr 3 v3.1 (.int .i64 5)) else some (.tup [], v3.2)).bind fun v5 =>
    (E.p.pick v1 (.bool true) v5.1).bind fun v6 =>
    (wantV v6 false).bind fun v7 =>
    (bif v7 then some (x1, v5.2) else some (.tup [], v5.2)).bind fun v8 =>
    (wantV v6 false).bind fun v9 =>
    (bif v9 then pv v8.2 (E.p.len 25 v8.1) else some (.tup [], v8.2)).bind fun v10 =>
    (wantV v6 false).bind fun v11 =>
    (bif v11 then pv v10.2 (E.p.bin .gtr 3 v10.1 (.int .i64 8)) else some (.tup [], v10.2)).bind fun v12 =>
    (E.p.pick v6 (.bool true) v12.1).bind fun v13 =>
    condP v13
     (
      (resV (.bool false)).bind fun v14 =>
      some (v14, v12.2))
     (
      (E.p.len 25 x1).bind fun v15 =>
      loopK (ev (E.cx Try.prog impl_WiresOk.kl) impl_WiresOk.lp0) E.lf (impl_WiresOk.st0 x0 x1 v15 (.int .i64 0) v12.2) (impl_WiresOk.K0 E (kTop Try.prog Try.f7)))
theorem main_eq (E : Env) (x0 x1 : PV) (h : PHeap) : runBody (E.cx Try.prog kl) Try.f7 [x0, x1] h = main E x0 x1 h := by kernel_rfl
theorem call_eq (g : Nat → PV) (lf n : Nat) (x0 x1 : PV) (h : PHeap) : CL g lf (n + 1) fn_impl_WiresOk [x0, x1] h = main (env g lf n) x0 x1 h := by
  rw [← main_eq]
  show call Try.prog g KL lf (n + 1) 7 [x0, x1] h = _
  rw [call_succ, Try.func7]
  kernel_rfl
end impl_WiresOk
namespace laws_eqWireS
noncomputable def lp0 : Code := (codeAt (bodyOf Try.f8) [1, 1, 0, 1, 0, 0])
def st0 (x0 x1 x5 : PV) (h : PHeap) : St := ⟨[x0, x1, .junk, .junk, .junk, x5, .junk, .junk, .junk, .junk, .junk, .junk, .junk, .junk, .junk, .junk, .junk, .junk, .junk, .junk, .junk, .junk, .junk, .junk, .junk, .junk, .junk], h⟩
def sr_4 (x4 : PV) (h : PHeap) : St := ⟨[.junk, .junk, .junk, .junk, x4, .junk, .junk, .junk, .junk, .junk, .junk, .junk, .junk, .junk, .junk, .junk, .junk, .junk, .junk, .junk, .junk, .junk, .junk, .junk, .junk, .junk, .junk], h⟩
def se0_0_1_5_14 (x0 x1 x5 x14 : PV) (h : PHeap) : St := ⟨[x0, x1, .junk, .junk, .junk, x5, .junk, .junk, .junk, .junk, .junk, .junk, .junk, .junk, x14, .junk, .junk, .junk, .junk, .junk, .junk, .junk, .junk, .junk, .junk, .junk, .junk], h⟩
noncomputable def K0 (E : Env) (K : PX → St → Res) : PX → St → Res := (kBlock 0 (kSeq (ev (E.cx Try.prog kl) (codeAt (bodyOf Try.f8) [1, 1, 1])) K))
@[simp] theorem K0_ret (E : Env) (K : PX → St → Res) (s : St) : K0 E K .ret s = K .ret s := by kernel_rfl
noncomputable def body0 (E : Env) (K : PX → St → Res) (x0 x1 x5 : PV) (h : PHeap) : Res :=
    (E.p.len 25 x0).bind fun v17 =>
    (E.p.bin .lss 3 x5 v17).bind fun v18 =>
    condP v18
     (
      (E.p.indexAddr 25 x0 x5).bind fun v19 =>
      (E.p.load 30 v19 h).bind fun v20 =>
      (E.p.indexAddr 25 x1 x5).bind fun v21 =>
      (E.p.load 30 v21 h).bind fun v22 =>
      (E.C fn_laws_eqWire [v20, v22] h).bind fun v23 =>
      (E.p.load 30 v21 v23.2).bind fun v24 =>
      ckP (plainEq v22 v24) (
      (E.p.load 30 v19 v23.2).bind fun v25 =>
      ckP (plainEq v20 v25) (
      (E.p.un .not v23.1).bind fun v26 =>
      condP v26
       (
        K .ret (sr_4 (.bool false) v23.2))
       (
        (E.p.bin .add 3 x5 (.int .i64 1)).bind fun v27 =>
        K .normal (st0 x0 x1 v27 v23.2)))))
     (
      K (.exit 0) (se0_0_1_5_14 x0 x1 x5 v18 h))
theorem body0_eq (E : Env) (K : PX → St → Res) (x0 x1 x5 : PV) (h : PHeap) : ev (E.cx Try.prog kl) lp0 (st0 x0 x1 x5 h) K = body0 E K x0 x1 x5 h := by kernel_rfl
theorem after0_se0_0_1_5_14 (E : Env) (x0 x1 x5 x14 : PV) (h : PHeap) : K0 E (kTop Try.prog Try.f8) (.exit 0) (se0_0_1_5_14 x0 x1 x5 x14 h) =
    (resV (.bool true)).bind fun v16 =>
    some (v16, h) := by kernel_rfl
theorem top_sr_4 (x4 : PV) (h : PHeap) : kTop Try.prog Try.f8 .ret (sr_4 x4 h) =
    (resV x4).bind fun v28 =>
    some (v28, h) := by kernel_rfl
noncomputable def main (E : Env) (x0 x1 : PV) (h : PHeap) : Res :=
    (E.p.len 25 x0).bind fun v1 =>
    (E.p.len 25 x1).bind fun v2 =>
    (E.p.bin .neq 3 v1 v2).bind fun v3 =>
    condP v3
     (
      (resV (.bool false)).bind fun v4 =>
      some (v4, h))
     (
      loopK (ev (E.cx Try.prog laws_eqWireS.kl) laws_eqWireS.lp0) E.lf (laws_eqWireS.st0 x0 x1 (.int .i64 0) h) (laws_eqWireS.K0 E (kTop Try.prog Try.f8)))
theorem main_eq (E : Env) (x0 x1 : PV) (h : PHeap) : runBody (E.cx Try.prog kl) Try.f8 [x0, x1] h = main E x0 x1 h := by kernel_rfl
theorem call_eq (g : Nat → PV) (lf n : Nat) (x0 x1 : PV) (h : PHeap) : CL g lf (n + 1) fn_laws_eqWireS [x0, x1] h = main (env g lf n) x0 x1 h := by
  rw [← main_eq]
  show call Try.prog g KL lf (n + 1) 8 [x0, x1] h = _
  rw [call_succ, Try.func8]
  kernel_rfl
end laws_eqWireS
namespace spec_l1In
noncomputable def main (E : Env) (x0 x1 x2 : PV) (h : PHeap) : Res :=
    (E.p.bin .geq 3 x0 x1).bind fun v1 =>
    (wantV v1 true).bind fun v2 =>
    (bif v2 then some (x0, h) else some (.tup [], h)).bind fun v3 =>
    (wantV v1 true).bind fun v4 =>
    (bif v4 then some (x2, v3.2) else some (.tup [], v3.2)).bind fun v5 =>
    (wantV v1 true).bind fun v6 =>
    (bif v6 then pv v5.2 (E.p.bin .leq 3 v3.1 v5.1) else some (.tup [], v5.2)).bind fun v7 =>
    (E.p.pick v1 v7.1 (.bool false)).bind fun v8 =>
    (resV v8).bind fun v9 =>
    some (v9, v7.2)
theorem main_eq (E : Env) (x0 x1 x2 : PV) (h : PHeap) : runBody (E.cx Try.prog kl) Try.f9 [x0, x1, x2] h = main E x0 x1 x2 h := by kernel_rfl
theorem call_eq (g : Nat → PV) (lf n : Nat) (x0 x1 x2 : PV) (h : PHeap) : CL g lf (n + 1) fn_spec_l1In [x0, x1, x2] h = main (env g lf n) x0 x1 x2 h := by
  rw [← main_eq]
  show call Try.prog g KL lf (n + 1) 9 [x0, x1, x2] h = _
  rw [call_succ, Try.func9]
  kernel_rfl
end spec_l1In
namespace laws_toWire
noncomputable def main (E : Env) (x0 : PV) (h : PHeap) : Res :=
    (E.p.box x0 h).bind fun v1 =>
    (E.p.alloc 30 v1.2).bind fun v2 =>
    (E.p.alloc 30 v2.2).bind fun v3 =>
    (E.p.fieldAddr 33 v1.1 0).bind fun v4 =>
    (E.p.load 3 v4 v3.2).bind fun v5 =>
    (E.p.fieldAddr 30 v3.1 0).bind fun v6 =>
    (E.p.store 3 v6 v5 v3.2).bind fun v7 =>
    (E.p.fieldAddr 33 v1.1 1).bind fun v8 =>
    (E.p.load 3 v8 v7).bind fun v9 =>
    (E.p.fieldAddr 30 v3.1 1).bind fun v10 =>
    (E.p.store 3 v10 v9 v7).bind fun v11 =>
    (E.p.load 30 v3.1 v11).bind fun v12 =>
    (E.p.store 30 v2.1 v12 v11).bind fun v13 =>
    (loadP Try.prog 30 v2.1 v13).bind fun v14 =>
    some (v14, v13)
theorem main_eq (E : Env) (x0 : PV) (h : PHeap) : runBody (E.cx Try.prog kl) Try.f10 [x0] h = main E x0 h := by kernel_rfl
theorem call_eq (g : Nat → PV) (lf n : Nat) (x0 : PV) (h : PHeap) : CL g lf (n + 1) fn_laws_toWire [x0] h = main (env g lf n) x0 h := by
  rw [← main_eq]
  show call Try.prog g KL lf (n + 1) 10 [x0] h = _
  rw [call_succ, Try.func10]
  kernel_rfl
end laws_toWire
namespace impl_nodeOk
noncomputable def main (E : Env) (x0 x1 : PV) (h : PHeap) : Res :=
    (E.p.bin .geq 3 x1 (.int .i64 0)).bind fun v1 =>
    (wantV v1 true).bind fun v2 =>
    (bif v2 then some (x1, h) else some (.tup [], h)).bind fun v3 =>
    (wantV v1 true).bind fun v4 =>
    (bif v4 then some (x0, v3.2) else some (.tup [], v3.2)).bind fun v5 =>
    (wantV v1 true).bind fun v6 =>
    (bif v6 then pv v5.2 (E.p.bin .lss 3 v3.1 v5.1) else some (.tup [], v5.2)).bind fun v7 =>
    (E.p.pick v1 v7.1 (.bool false)).bind fun v8 =>
    (resV v8).bind fun v9 =>
    some (v9, v7.2)
theorem main_eq (E : Env) (x0 x1 : PV) (h : PHeap) : runBody (E.cx Try.prog kl) Try.f11 [x0, x1] h = main E x0 x1 h := by kernel_rfl
theorem call_eq (g : Nat → PV) (lf n : Nat) (x0 x1 : PV) (h : PHeap) : CL g lf (n + 1) fn_impl_nodeOk [x0, x1] h = main (env g lf n) x0 x1 h := by
  rw [← main_eq]
  show call Try.prog g KL lf (n + 1) 11 [x0, x1] h = _
  rw [call_succ, Try.func11]
  kernel_rfl
end impl_nodeOk
namespace laws_eqWire
noncomputable def main (E : Env) (x0 x1 : PV) (h : PHeap) : Res :=
    (E.p.box x0 h).bind fun v1 =>
    (E.p.box x1 v1.2).bind fun v2 =>
    (E.p.fieldAddr 30 v1.1 0).bind fun v3 =>
    (E.p.load 3 v3 v2.2).bind fun v4 =>
    (E.p.fieldAddr 30 v2.1 0).bind fun v5 =>
    (E.p.load 3 v5 v2.2).bind fun v6 =>
    (E.p.bin .neq 3 v4 v6).bind fun v7 =>
    condP v7
     (
      (resV (.bool false)).bind fun v8 =>
      some (v8, v2.2))
     (
      (E.p.fieldAddr 30 v1.1 1).bind fun v9 =>
      (E.p.load 3 v9 v2.2).bind fun v10 =>
      (E.p.fieldAddr 30 v2.1 1).bind fun v11 =>
      (E.p.load 3 v11 v2.2).bind fun v12 =>
      (E.p.bin .neq 3 v10 v12).bind fun v13 =>
      condP v13
       (
        (resV (.bool false)).bind fun v14 =>
        some (v14, v2.2))
       (
        (resV (.bool true)).bind fun v15 =>
        some (v15, v2.2)))
theorem main_eq (E : Env) (x0 x1 : PV) (h : PHeap) : runBody (E.cx Try.prog kl) Try.f12 [x0, x1] h = main E x0 x1 h := by kernel_rfl
theorem call_eq (g : Nat → PV) (lf n : Nat) (x0 x1 : PV) (h : PHeap) : CL g lf (n + 1) fn_laws_eqWire [x0, x1] h = main (env g lf n) x0 x1 h := by
  rw [← main_eq]
  show call Try.prog g KL lf (n + 1) 12 [x0, x1] h = _
  rw [call_succ, Try.func12]
  kernel_rfl
end laws_eqWire
end Go.Proofs.Ytihlmjapddjjjab.G

/- Which boards there are: what the program's and the model's functions on a board's sides compute. -/
set_option maxRecDepth 20000
namespace Go.Proofs.Ytihlmjapddjjjab
open Go Go.Ip G

def boardB (r c : Int) : Bool := decide (1 ≤ r ∧ r ≤ 4 ∧ 1 ≤ c ∧ c ≤ 4 ∧ r * c ≤ 9)

variable (g : Nat → PV) (lf n : Nat) (h : PHeap)

theorem l1In_calls (a lo hi : Int) : CL g lf (n + 1) fn_spec_l1In [.int .i64 a, .int .i64 lo, .int .i64 hi] h = some (.bool (decide (lo ≤ a ∧ a ≤ hi)), h) := by
  rw [spec_l1In.call_eq]
  by_cases h1 : lo ≤ a <;> simp [spec_l1In.main, h1]

end Go.Proofs.Ytihlmjapddjjjab

/- What the laws' helpers on slices of integers, and both functions that check a position, compute. -/
set_option maxRecDepth 20000
namespace Go.Proofs.Ytihlmjapddjjjab
open Go Go.Ip G

variable (g : Nat → PV) (lf n : Nat)

/-! ### toIntS: a copy -/
/-! ### eqIntS: are two lists equal? -/
/-! ### positions -/
def contentB (x : Int) : Bool := decide (0 ≤ x ∧ x ≤ 2)
def posB (r c : Int) (xs : List Int) : Bool := boardB r c && decide ((xs.length : Int) = r * c) && xs.all contentB

end Go.Proofs.Ytihlmjapddjjjab

/- The exact law on positions. -/
set_option maxRecDepth 20000
namespace Go.Proofs.Ytihlmjapddjjjab
open Go Go.Ip G

variable (g : Nat → PV) (lf n : Nat)

end Go.Proofs.Ytihlmjapddjjjab

/- The marks that the exact laws lay and look for, and the lists that both programs make of a position. -/
set_option maxRecDepth 20000
namespace Go.Proofs.Ytihlmjapddjjjab
open Go Go.Ip G

/-- A slice of the call's own, among the objects from n up to m. -/
def OwnB (n m : Nat) (h : PHeap) (p : PV) (xs : List Int) : Prop :=
  (p = .nilsl ∧ xs = []) ∨ ∃ id, n ≤ id ∧ id < m ∧ p = .sl id 0 xs.length ∧ h[id]? = some (.own 1 (xs.map (.int .i64)))

theorem OwnSl.b {n : Nat} {h : PHeap} {p : PV} {xs : List Int} (s : OwnSl n h p xs) : OwnB n h.length h p xs := by
  rcases s with s | ⟨id, h1, h2, h3⟩
  · exact .inl s
  · exact .inr ⟨id, h1, (List.getElem?_eq_some_iff.1 h3).1, h2, h3⟩

theorem OwnB.sl {n m : Nat} {h : PHeap} {p : PV} {xs : List Int} (s : OwnB n m h p xs) : OwnSl n h p xs := by
  rcases s with s | ⟨id, h1, _, h2, h3⟩
  · exact .inl s
  · exact .inr ⟨id, h1, h2, h3⟩

theorem OwnB.int {n m : Nat} {h : PHeap} {p : PV} {xs : List Int} (s : OwnB n m h p xs) : IntSl .i64 h p xs := s.sl.int

/-- Only the objects from n up to m may have been written to. -/
def Only (n m : Nat) (h h' : PHeap) : Prop := h'.length = h.length ∧ ∀ i, (i < n ∨ m ≤ i) → h'[i]? = h[i]?

theorem Only.refl (n m : Nat) (h : PHeap) : Only n m h h := ⟨rfl, fun _ _ => rfl⟩
theorem Only.trans {n m : Nat} {a b c : PHeap} (h : Only n m a b) (k : Only n m b c) : Only n m a c := ⟨k.1.trans h.1, fun i hi => (k.2 i hi).trans (h.2 i hi)⟩
theorem Only.keep {n m : Nat} {a b : PHeap} (h : Only n m a b) : Keep n a b := ⟨by rw [h.1]; exact Nat.le_refl _, fun i hi => h.2 i (.inl hi)⟩

theorem OwnB.keep {n m : Nat} {h h' : PHeap} {p : PV} {xs : List Int} (s : OwnB n m h p xs) (k : Keep m h h') : OwnB n m h' p xs := by
  rcases s with s | ⟨id, h1, h2, h3, h4⟩
  · exact .inl s
  · exact .inr ⟨id, h1, h2, h3, by rw [k.2 id h2]; exact h4⟩

theorem OwnB.only {n m n' m' : Nat} {h h' : PHeap} {p : PV} {xs : List Int} (s : OwnB n m h p xs) (k : Only n' m' h h') (hd : m ≤ n' ∨ m' ≤ n) : OwnB n m h' p xs := by
  rcases s with s | ⟨id, h1, h2, h3, h4⟩
  · exact .inl s
  · exact .inr ⟨id, h1, h2, h3, by rw [k.2 id (by omega)]; exact h4⟩

/-- k, k + 1, k + 2 .. -/
def marks (k : Int) : Nat → List Int
  | 0 => []
  | n + 1 => k :: marks (k + 1) n

variable (g : Nat → PV) (lf n : Nat)

end Go.Proofs.Ytihlmjapddjjjab

/- The cells of one kind, and a position turned by half a turn: both programs, and their exact laws. -/
set_option maxRecDepth 20000
namespace Go.Proofs.Ytihlmjapddjjjab
open Go Go.Ip G

variable (g : Nat → PV) (lf n : Nat)

theorem OwnSl.res {n : Nat} {h : PHeap} {p : PV} {xs : List Int} (s : OwnSl n h p xs) : resV p = some p := by
  rcases s with ⟨rfl, _⟩ | ⟨id, _, rfl, _⟩ <;> rfl

end Go.Proofs.Ytihlmjapddjjjab

/- A position turned by half a turn: both programs, and the exact law. -/
set_option maxRecDepth 20000
namespace Go.Proofs.Ytihlmjapddjjjab
open Go Go.Ip G

variable (g : Nat → PV) (lf n : Nat)

end Go.Proofs.Ytihlmjapddjjjab

/- The reader from which the model draws: what a pick may come to. -/
set_option maxRecDepth 20000
namespace Go.Proofs.Ytihlmjapddjjjab
open Go Go.Ip Go.RowKit G

/-- The reader: object id, over a code of at most 2000 bytes, at most m picks behind. -/
def Rd (h : PHeap) (id m : Nat) : Prop :=
  ∃ bp bs pos, h[id]? = some (.own 1 [bp, .int .i64 pos]) ∧ (∀ h', Keep id h h' → IntSl .u8 h' bp bs) ∧ (∀ b ∈ bs, (0 : Int) ≤ b ∧ b ≤ 255) ∧ bs.length ≤ 2000 ∧ 0 ≤ pos ∧ pos ≤ (m : Int)

theorem Rd.keep {h h' : PHeap} {id m n : Nat} (r : Rd h id m) (hk : Keep n h h') (hn : id < n) : Rd h' id m := by
  obtain ⟨bp, bs, pos, h1, h2, rest⟩ := r
  exact ⟨bp, bs, pos, by rw [hk.2 id hn]; exact h1, fun h3 hk3 => h2 h3 ((hk.mono (by omega)).trans hk3), rest⟩

theorem Rd.lt {h : PHeap} {id m : Nat} (r : Rd h id m) : id < h.length := by
  obtain ⟨bp, bs, pos, h1, _⟩ := r
  exact (List.getElem?_eq_some_iff.1 h1).1

variable (g : Nat → PV) (lf n : Nat)

end Go.Proofs.Ytihlmjapddjjjab

/- What a pick and a chance come to. -/
set_option maxRecDepth 20000
namespace Go.Proofs.Ytihlmjapddjjjab
open Go Go.Ip Go.RowKit G

variable (g : Nat → PV) (lf n : Nat)

end Go.Proofs.Ytihlmjapddjjjab

/- The board that the model draws: small numbers, whatever they are. -/
set_option maxRecDepth 20000
namespace Go.Proofs.Ytihlmjapddjjjab
open Go Go.Ip Go.RowKit G

/-- Below n nothing has turned but the object id. -/
def KeepX (id n : Nat) (h h' : PHeap) : Prop := h.length ≤ h'.length ∧ ∀ i, i < n → i ≠ id → h'[i]? = h[i]?

theorem KeepX.refl (id n : Nat) (h : PHeap) : KeepX id n h h := ⟨Nat.le_refl _, fun _ _ _ => rfl⟩
theorem KeepX.trans {id n : Nat} {a b c : PHeap} (h : KeepX id n a b) (k : KeepX id n b c) : KeepX id n a c := ⟨Nat.le_trans h.1 k.1, fun i hi hn => (k.2 i hi hn).trans (h.2 i hi hn)⟩
theorem KeepX.mono {id n m : Nat} {a b : PHeap} (h : KeepX id n a b) (hm : m ≤ n) : KeepX id m a b := ⟨h.1, fun i hi hn => h.2 i (by omega) hn⟩
theorem Keep.x {id n : Nat} {a b : PHeap} (h : Keep n a b) : KeepX id n a b := ⟨h.1, fun i hi _ => h.2 i hi⟩
theorem Only.x {id n : Nat} {a b : PHeap} (h : Only id (id + 1) a b) : KeepX id n a b := ⟨by rw [h.1]; exact Nat.le_refl _, fun i _ hn => h.2 i (by omega)⟩
theorem KeepX.keep {id n : Nat} {a b : PHeap} (h : KeepX id n a b) (hn : id ≤ n) : Keep id a b := ⟨h.1, fun i hi => h.2 i (by omega) (by omega)⟩

theorem Rd.mono {h : PHeap} {id m m' : Nat} (r : Rd h id m) (hm : m ≤ m') : Rd h id m' := by
  obtain ⟨bp, bs, pos, h1, h2, h3, h4, h5, h6⟩ := r
  exact ⟨bp, bs, pos, h1, h2, h3, h4, h5, by omega⟩

variable (g : Nat → PV) (lf n : Nat)

end Go.Proofs.Ytihlmjapddjjjab

/- Promise 1: boards are turned. -/
set_option maxRecDepth 20000
namespace Go.Proofs.Ytihlmjapddjjjab
open Go Go.Ip Go.RowKit G

variable (g : Nat → PV) (lf n : Nat)

end Go.Proofs.Ytihlmjapddjjjab

/- The position that the model draws: at most ten numbers, whatever they are. -/
set_option maxRecDepth 20000
namespace Go.Proofs.Ytihlmjapddjjjab
open Go Go.Ip Go.RowKit G

variable (g : Nat → PV) (lf n : Nat)

end Go.Proofs.Ytihlmjapddjjjab

/- Promise 3: free boards are positions. -/
set_option maxRecDepth 20000
namespace Go.Proofs.Ytihlmjapddjjjab
open Go Go.Ip Go.RowKit G

variable (g : Nat → PV) (lf n : Nat)

end Go.Proofs.Ytihlmjapddjjjab

/- Promise 5: turned by half a turn twice it is as before. -/
set_option maxRecDepth 20000
namespace Go.Proofs.Ytihlmjapddjjjab
open Go Go.Ip Go.RowKit G

variable (g : Nat → PV) (lf n : Nat)

/-! ### sameInts: are two lists equal? -/
end Go.Proofs.Ytihlmjapddjjjab

/- Promise 4: each cell is of one kind. -/
set_option maxRecDepth 20000
namespace Go.Proofs.Ytihlmjapddjjjab
open Go Go.Ip Go.RowKit G

variable (g : Nat → PV) (lf n : Nat)

/-! ### what is listed -/
/-! ### ascend -/
/-! ### the law's own loops -/
end Go.Proofs.Ytihlmjapddjjjab

/- What both functions that mirror a position compute, and the exact law on them. -/
set_option maxRecDepth 20000
namespace Go.Proofs.Ytihlmjapddjjjab
open Go Go.Ip Go.RowKit G

variable (g : Nat → PV) (lf n : Nat)

/-- Where the mirrored position's cell k comes from: of a board of R rows and C columns. -/
def sig (R C k : Nat) : Nat := k % R * C + k / R
/-- A board's sides, as numbers. -/
def Sides (r c : Int) (R C : Nat) (xs : List Int) : Prop := r = (R : Int) ∧ c = (C : Int) ∧ 1 ≤ R ∧ R ≤ 4 ∧ 1 ≤ C ∧ C ≤ 4 ∧ R * C ≤ 9 ∧ xs.length = R * C ∧ xs.all contentB = true

end Go.Proofs.Ytihlmjapddjjjab

/- The neighbours of a cell: the program's loop over its table of steps, the model's two loops, and the exact law. -/
set_option maxRecDepth 20000
namespace Go.Proofs.Ytihlmjapddjjjab
open Go Go.Ip G

/-! ### the table of steps -/
def steps : List (Int × Int) := [(-1, 0), (-1, 1), (0, -1), (0, 1), (1, -1), (1, 0)]
/-- Where the library's table of 64 bytes is known to lie, it reads so. -/
def Tab64 (_ : Nat → PV) (_ : PHeap) : Prop := True
theorem Tab64.keep {g : Nat → PV} {h h' : PHeap} (_ : Tab64 g h) (_ : Keep h.length h h') : Tab64 g h' := trivial

/-! ### what is meant -/
def rowAt (C k : Nat) (s : Int × Int) : Int := ((k / C : Nat) : Int) + s.1
def colAt (C k : Nat) (s : Int × Int) : Int := ((k % C : Nat) : Int) + s.2
def inB (R C k : Nat) (s : Int × Int) : Bool := decide (0 ≤ rowAt C k s) && decide (rowAt C k s < R) && decide (0 ≤ colAt C k s) && decide (colAt C k s < C)
def nearFrom (R C k : Nat) (ss : List (Int × Int)) : List Int := (ss.filter (inB R C k)).map fun s => rowAt C k s * C + colAt C k s
def nearN (R C k : Nat) : List Int := nearFrom R C k steps
/-- An operation under a guard. -/
theorem gd {α β : Type} {b t : Bool} {x y : Option α} {f : α → Option β} {r : Option β} (hb : b = t) (hx : x.bind f = r) : ((wantV (.bool b) t).bind fun v => (bif v then x else y).bind f) = r := by
  subst hb; simpa using hx
variable (g : Nat → PV) (lf n : Nat)

/-! ### the program -/
end Go.Proofs.Ytihlmjapddjjjab

/- The model's neighbours, 'is a number in a list', and the exact law on neighbours. -/
set_option maxRecDepth 20000
namespace Go.Proofs.Ytihlmjapddjjjab
open Go Go.Ip G

variable (g : Nat → PV) (lf n : Nat)

theorem l1In_N (N : Nat) (hN : 1 ≤ N) (h : PHeap) (a lo hi : Int) : CL g lf N fn_spec_l1In [.int .i64 a, .int .i64 lo, .int .i64 hi] h = some (.bool (decide (lo ≤ a ∧ a ≤ hi)), h) := by
  obtain ⟨n, rfl⟩ : ∃ n, N = n + 1 := ⟨N - 1, by omega⟩
  exact l1In_calls g lf n h a lo hi

/-! ### hasInt -/
/-! ### the exact law -/
end Go.Proofs.Ytihlmjapddjjjab

/- Promises 2 and 8: neighbours are so both ways; all neighbours are counted by rows and columns. -/
set_option maxRecDepth 20000
namespace Go.Proofs.Ytihlmjapddjjjab
open Go Go.Ip G

/-! ### of all cells of all boards -/
variable (g : Nat → PV) (lf n : Nat)

/-! ### promise 8 -/
end Go.Proofs.Ytihlmjapddjjjab

/- Promise 7 and the exact law on it: how far cells are from each other. -/
set_option maxRecDepth 20000
namespace Go.Proofs.Ytihlmjapddjjjab
open Go Go.Ip G

/-! ### sets of cells as numbers -/
def orAll (w : Nat) : List Int → Nat
  | [] => w
  | e :: l => orAll (w ||| (1 <<< e.toNat)) l
/-! ### what the model says -/
variable (g : Nat → PV) (lf n : Nat)

/-! ### the program -/
end Go.Proofs.Ytihlmjapddjjjab

/- Sets of cells as bits: what grows, what is reached, and at what cost. No program text. -/
set_option maxRecDepth 20000
namespace Go.Proofs.Ytihlmjapddjjjab

theorem bit_iff (x k : Nat) : x >>> k % 2 = 1 ↔ x.testBit k = true := by
  rw [Nat.testBit_eq_decide_div_mod_eq, Nat.shiftRight_eq_div_pow, decide_eq_true_iff]

/-- Cell j is beside cell k: the masks tell the neighbours of each cell. -/
def Adj (M : List Nat) (k j : Nat) : Prop := (M.getD k 0).testBit j = true

inductive Reach (M : List Nat) (set fr : Nat) : Nat → Prop
  | start {j} (h : fr.testBit j = true) (hs : set.testBit j = true) : Reach M set fr j
  | step {k j} (h : Reach M set fr k) (ha : Adj M k j) (hs : set.testBit j = true) : Reach M set fr j

theorem Reach.inSet {M : List Nat} {set fr j : Nat} (h : Reach M set fr j) : set.testBit j = true := by
  cases h <;> assumption

theorem Reach.mono {M : List Nat} {set fr set' fr' : Nat} (hs : ∀ j, set.testBit j = true → set'.testBit j = true) (hf : ∀ j, fr.testBit j = true → fr'.testBit j = true) {j : Nat} (h : Reach M set fr j) : Reach M set' fr' j := by
  induction h with
  | start h h' => exact .start (hf _ h) (hs _ h')
  | step _ ha h' ih => exact .step ih ha (hs _ h')

theorem Reach.trans {M : List Nat} {set fr fr' : Nat} (hf : ∀ j, fr'.testBit j = true → Reach M set fr j) {j : Nat} (h : Reach M set fr' j) : Reach M set fr j := by
  induction h with
  | start h _ => exact hf _ h
  | step _ ha h' ih => exact .step ih ha h'

theorem one_bit (k j : Nat) : (1 <<< k).testBit j = decide (j = k) := by
  rw [Nat.one_shiftLeft, Nat.testBit_two_pow]
  by_cases h : j = k
  · subst h; simp
  · simp [h]; exact fun e => h e.symm

/-- From one cell to another, and back. -/
theorem Reach.back {M : List Nat} (sym : ∀ k j, Adj M k j → Adj M j k) {set a b : Nat} (ha : set.testBit a = true) (h : Reach M set (1 <<< a) b) : Reach M set (1 <<< b) a := by
  induction h with
  | @start j h _ =>
    rw [one_bit] at h
    have : j = a := of_decide_eq_true h
    subst this
    exact .start (by rw [one_bit]; simp) ha
  | @step k j _ hk hj ih =>
    refine ih.trans fun i hi => ?_
    rw [one_bit] at hi
    have : i = k := of_decide_eq_true hi
    subst this
    rename_i hk'
    exact .step (.start (by rw [one_bit]; simp) hj) (sym _ _ hk) hk'.inSet

/-! ### growing -/
def stepFrom (set now : Nat) : Nat → List Nat → Nat → Nat
  | _, [], nx => nx
  | k, m :: ms, nx => stepFrom set now (k + 1) ms (if now >>> k % 2 = 1 then nx ||| (m &&& set) else nx)

theorem stepFrom_le (set now : Nat) : ∀ (ms : List Nat) (k nx : Nat), nx ≤ stepFrom set now k ms nx
  | [], _, _ => Nat.le_refl _
  | m :: ms, k, nx => by
    rw [stepFrom]
    refine Nat.le_trans ?_ (stepFrom_le set now ms (k + 1) _)
    split
    · exact Nat.left_le_or
    · exact Nat.le_refl _

theorem stepFrom_bit (set now : Nat) (j : Nat) : ∀ (ms : List Nat) (k nx : Nat), (stepFrom set now k ms nx).testBit j = true ↔ nx.testBit j = true ∨ ∃ i, now.testBit (k + i) = true ∧ (ms.getD i 0).testBit j = true ∧ set.testBit j = true
  | [], k, nx => by simp [stepFrom]
  | m :: ms, k, nx => by
    rw [stepFrom, stepFrom_bit set now j ms (k + 1)]
    have hsplit : (∃ i, now.testBit (k + i) = true ∧ ((m :: ms).getD i 0).testBit j = true ∧ set.testBit j = true) ↔ (now.testBit k = true ∧ m.testBit j = true ∧ set.testBit j = true) ∨ ∃ i, now.testBit (k + 1 + i) = true ∧ (ms.getD i 0).testBit j = true ∧ set.testBit j = true := by
      constructor
      · rintro ⟨i, h⟩
        cases i with
        | zero => exact .inl (by simpa using h)
        | succ i => exact .inr ⟨i, by rw [show k + 1 + i = k + (i + 1) by omega]; simpa using h⟩
      · rintro (h | ⟨i, h⟩)
        · exact ⟨0, by simpa using h⟩
        · exact ⟨i + 1, by rw [show k + (i + 1) = k + 1 + i by omega]; simpa using h⟩
    rw [hsplit]
    by_cases hb : now >>> k % 2 = 1
    · rw [if_pos hb, Nat.testBit_or, Nat.testBit_and]
      have hb' := (bit_iff now k).1 hb
      simp [hb', or_assoc]
    · rw [if_neg hb]
      have hb' : ¬ now.testBit k = true := fun h => hb ((bit_iff now k).2 h)
      simp [hb']

def growF (M : List Nat) (set : Nat) : Nat → Nat → Nat
  | 0, now => now
  | f + 1, now => if stepFrom set now 0 M now = now then now else growF M set f (stepFrom set now 0 M now)
def growN (M : List Nat) (set fr : Nat) : Nat := growF M set 600 (fr &&& set)

theorem sub_and {a b : Nat} (h : ∀ j, a.testBit j = true → b.testBit j = true) : a &&& b = a := by
  apply Nat.eq_of_testBit_eq
  intro j
  rw [Nat.testBit_and]
  cases e : a.testBit j with
  | false => rfl
  | true => rw [h j e]; rfl

theorem sub_le {a b : Nat} (h : ∀ j, a.testBit j = true → b.testBit j = true) : a ≤ b := by
  rw [← sub_and h]; exact Nat.and_le_right

theorem step_sub {M : List Nat} {set now : Nat} (h : ∀ j, now.testBit j = true → set.testBit j = true) : ∀ j, (stepFrom set now 0 M now).testBit j = true → set.testBit j = true := by
  intro j hj
  rcases (stepFrom_bit set now j M 0 now).1 hj with hj | ⟨_, _, _, hj⟩
  · exact h j hj
  · exact hj

theorem growF_fix {M : List Nat} {set : Nat} : ∀ (f now : Nat), (∀ j, now.testBit j = true → set.testBit j = true) → set < now + f → stepFrom set (growF M set f now) 0 M (growF M set f now) = growF M set f now ∧ (∀ j, now.testBit j = true → (growF M set f now).testBit j = true)
  | 0, now, hs, hf => by have := sub_le hs; omega
  | f + 1, now, hs, hf => by
    rw [growF]
    split
    · rename_i h; exact ⟨h, fun _ h => h⟩
    · rename_i h
      have hle := stepFrom_le set now M 0 now
      have ih := growF_fix (M := M) f (stepFrom set now 0 M now) (step_sub hs) (by omega)
      exact ⟨ih.1, fun j hj => ih.2 j ((stepFrom_bit set now j M 0 now).2 (.inl hj))⟩

theorem growF_reach {M : List Nat} {set fr : Nat} : ∀ (f now : Nat), (∀ j, now.testBit j = true → Reach M set fr j) → ∀ j, (growF M set f now).testBit j = true → Reach M set fr j
  | 0, now, hs, j, hj => hs j hj
  | f + 1, now, hs, j, hj => by
    rw [growF] at hj
    split at hj
    · exact hs j hj
    · refine growF_reach f _ (fun i hi => ?_) j hj
      rcases (stepFrom_bit set now i M 0 now).1 hi with hi | ⟨k, h1, h2, h3⟩
      · exact hs i hi
      · rw [Nat.zero_add] at h1
        exact .step (hs k h1) h2 h3

theorem grow_bit {M : List Nat} {set fr : Nat} (hset : set < 2 ^ 9) (j : Nat) : (growN M set fr).testBit j = true ↔ Reach M set fr j := by
  have hsub : ∀ j, (fr &&& set).testBit j = true → set.testBit j = true := fun j hj => by rw [Nat.testBit_and, Bool.and_eq_true] at hj; exact hj.2
  constructor
  · refine growF_reach 600 _ (fun i hi => ?_) j
    rw [Nat.testBit_and, Bool.and_eq_true] at hi
    exact .start hi.1 hi.2
  · obtain ⟨hfix, hin⟩ := growF_fix (M := M) 600 (fr &&& set) hsub (by omega)
    intro h
    induction h with
    | start h hs => exact hin _ (by rw [Nat.testBit_and, h, hs]; rfl)
    | @step k j _ ha hs ih =>
      unfold growN at ih ⊢
      rw [← hfix]
      exact (stepFrom_bit set _ j M 0 _).2 (.inr ⟨k, by rw [Nat.zero_add]; exact ih, ha, hs⟩)

/-! ### at what cost -/
/-- Cell j is reached from the edge over own cells and at most k free ones. -/
inductive Cost (M : List Nat) (edge own free : Nat) : Nat → Nat → Prop
  | ownEdge {k j} (h : edge.testBit j = true) (ho : own.testBit j = true) : Cost M edge own free k j
  | freeEdge {k j} (h : edge.testBit j = true) (hf : free.testBit j = true) : Cost M edge own free (k + 1) j
  | ownStep {k i j} (h : Cost M edge own free k i) (ha : Adj M i j) (ho : own.testBit j = true) : Cost M edge own free k j
  | freeStep {k i j} (h : Cost M edge own free k i) (ha : Adj M i j) (hf : free.testBit j = true) : Cost M edge own free (k + 1) j

theorem Cost.more {M : List Nat} {edge own free k j : Nat} (h : Cost M edge own free k j) : Cost M edge own free (k + 1) j := by
  induction h with
  | ownEdge h ho => exact .ownEdge h ho
  | freeEdge h hf => exact .freeEdge h hf
  | ownStep _ ha ho ih => exact .ownStep ih ha ho
  | freeStep _ ha hf ih => exact .freeStep ih ha hf

/-- Own cells more, free cells that are now own: no dearer. -/
theorem Cost.mono {M : List Nat} {edge own free own' free' : Nat} (ho : ∀ j, own.testBit j = true → own'.testBit j = true) (hf : ∀ j, free.testBit j = true → own'.testBit j = true ∨ free'.testBit j = true) {k j : Nat} (h : Cost M edge own free k j) : Cost M edge own' free' k j := by
  induction h with
  | ownEdge h h' => exact .ownEdge h (ho _ h')
  | freeEdge h h' =>
    rcases hf _ h' with h' | h'
    · exact .ownEdge h h'
    · exact .freeEdge h h'
  | ownStep _ ha h' ih => exact .ownStep ih ha (ho _ h')
  | freeStep _ ha h' ih =>
    rcases hf _ h' with h' | h'
    · exact (Cost.ownStep ih ha h').more
    · exact .freeStep ih ha h'

/-- What is dear by one more is so by some free cell: with that one own it is not. -/
theorem Cost.cell {M : List Nat} {edge own free k j : Nat} (h : Cost M edge own free (k + 1) j) :
    Cost M edge own free k j ∨ ∃ c, free.testBit c = true ∧ ∀ own' free', (∀ j, own.testBit j = true → own'.testBit j = true) → own'.testBit c = true → (∀ j, free.testBit j = true → own'.testBit j = true ∨ free'.testBit j = true) → Cost M edge own' free' k j := by
  generalize hk : k + 1 = k' at h
  induction h generalizing k with
  | ownEdge h h' => exact .inl (.ownEdge h h')
  | @freeEdge k0 j h h' => exact .inr ⟨j, h', fun own' free' _ hc _ => .ownEdge h hc⟩
  | ownStep _ ha h' ih =>
    rcases ih hk with ih | ⟨c, hc, ih⟩
    · exact .inl (.ownStep ih ha h')
    · exact .inr ⟨c, hc, fun own' free' ho hoc hf => .ownStep (ih own' free' ho hoc hf) ha (ho _ h')⟩
  | @freeStep k0 i j h0 ha h' _ =>
    obtain rfl : k = k0 := by omega
    exact .inr ⟨j, h', fun own' free' ho hoc hf => .ownStep (h0.mono ho hf) ha hoc⟩

end Go.Proofs.Ytihlmjapddjjjab

/- Gaps: waves of cost tell the least number of free cells. No program text. -/
set_option maxRecDepth 20000
namespace Go.Proofs.Ytihlmjapddjjjab

/-- The last side is reached at cost k. -/
def Hits (M : List Nat) (own free edge last k : Nat) : Prop := ∃ j, last.testBit j = true ∧ Cost M edge own free k j
def IsGap (M : List Nat) (own free edge last k : Nat) : Prop := Hits M own free edge last k ∧ ∀ i, i < k → ¬ Hits M own free edge last i

theorem IsGap.unique {M : List Nat} {own free edge last k k' : Nat} (h : IsGap M own free edge last k) (h' : IsGap M own free edge last k') : k = k' := by
  rcases Nat.lt_trichotomy k k' with hlt | e | hgt
  · exact absurd h.1 (h'.2 k hlt)
  · exact e
  · exact absurd h'.1 (h.2 k' hgt)

theorem and_zero {a b : Nat} : a &&& b = 0 ↔ ∀ j, a.testBit j = true → b.testBit j = true → False := by
  constructor
  · intro h j ha hb
    have := congrArg (fun x => x.testBit j) h
    simp [Nat.testBit_and, ha, hb] at this
  · intro h
    apply Nat.eq_of_testBit_eq
    intro j
    rw [Nat.testBit_and, Nat.zero_testBit]
    cases ha : a.testBit j with
    | false => rfl
    | true =>
      cases hb : b.testBit j with
      | false => rfl
      | true => exact (h j ha hb).elim

/-- What is taken away. -/
def without (x c : Nat) : Nat := x ^^^ (x &&& (1 <<< c))
theorem without_bit (x c j : Nat) : (without x c).testBit j = (x.testBit j && decide (j ≠ c)) := by
  unfold without
  rw [Nat.testBit_xor, Nat.testBit_and, one_bit]
  by_cases h : j = c
  · subst h; simp
  · simp [h]
theorem with_bit (x c j : Nat) : (x ||| (1 <<< c)).testBit j = (x.testBit j || decide (j = c)) := by rw [Nat.testBit_or, one_bit]

section
variable {M : List Nat} {own free edge last : Nat}

end

/-! ### how many -/
def pop (x : Nat) : Nat := (List.range 9).countP fun j => x.testBit j

theorem bit_small {x n j : Nat} (hx : x < 2 ^ n) (h : x.testBit j = true) : j < n := by
  rcases Nat.lt_or_ge j n with hlt | hge
  · exact hlt
  · rw [Nat.testBit_lt_two_pow (Nat.lt_of_lt_of_le hx (Nat.pow_le_pow_right (by decide) hge))] at h; cases h

/-! ### the waves -/
section
variable {M : List Nat} {own free edge last : Nat}

end

end Go.Proofs.Ytihlmjapddjjjab

/- The model's sets of cells: masks, sides, the cells with a stone, growing, and whether sides are joined. -/
set_option maxRecDepth 20000
namespace Go.Proofs.Ytihlmjapddjjjab
open Go Go.Ip G

def masksN (R C : Nat) : List Nat := (List.range (R * C)).map fun k => orAll 0 (nearN R C k)
/-- A board, as numbers. -/
def BoardOf (R C : Nat) : Prop := 1 ≤ R ∧ R ≤ 4 ∧ 1 ≤ C ∧ C ≤ 4 ∧ R * C ≤ 9

variable (g : Nat → PV) (lf n : Nat)

/-! ### masks -/
/-! ### sides -/
def atSide (C P i : Nat) : Nat := if P = 2 then i % C else i / C
def endSide (R C P : Nat) : Nat := if P = 2 then C - 1 else R - 1
def sideFrom (R C P : Nat) (last : Bool) : Nat → Nat → Nat → Nat
  | 0, _, w => w
  | m + 1, i, w => sideFrom R C P last m (i + 1) (if (bif last then decide (atSide C P i = endSide R C P) else decide (atSide C P i = 0)) = true then w ||| (1 <<< i) else w)
def sideN (R C P : Nat) (last : Bool) : Nat := sideFrom R C P last (R * C) 0 0

/-! ### the cells with a stone -/
/-! ### growing -/
def joinsN (R C P S : Nat) : Bool := !decide (growN (masksN R C) S (sideN R C P false) &&& sideN R C P true = 0)

end Go.Proofs.Ytihlmjapddjjjab

/- The model's chapter 2: what Joins, GroupOf, GapOf, Filled and GapCells of it compute. -/
set_option maxRecDepth 20000
namespace Go.Proofs.Ytihlmjapddjjjab
open Go Go.Ip G

variable (g : Nat → PV) (lf n : Nat)

/-! ### a set's list -/
/-! ### gaps -/
/-! ### the functions -/
end Go.Proofs.Ytihlmjapddjjjab

/- The model's Filled and GapCells. -/
set_option maxRecDepth 20000
namespace Go.Proofs.Ytihlmjapddjjjab
open Go Go.Ip G

variable (g : Nat → PV) (lf n : Nat)

/-! ### the cells that close a gap -/
end Go.Proofs.Ytihlmjapddjjjab

/- Of all boards and all sets of cells: exactly one has joined on a full board; turned, and mirrored. No program text. -/
set_option maxRecDepth 20000
namespace Go.Proofs.Ytihlmjapddjjjab

def boards : List (Nat × Nat) := [(1, 1), (1, 2), (1, 3), (1, 4), (2, 1), (2, 2), (2, 3), (2, 4), (3, 1), (3, 2), (3, 3), (4, 1), (4, 2)]
theorem board_mem {R C : Nat} (h : BoardOf R C) : (R, C) ∈ boards := by
  obtain ⟨h1, h2, h3, h4, h9⟩ := h
  have hR : R = 1 ∨ R = 2 ∨ R = 3 ∨ R = 4 := by omega
  have hC : C = 1 ∨ C = 2 ∨ C = 3 ∨ C = 4 := by omega
  rcases hR with rfl | rfl | rfl | rfl <;> rcases hC with rfl | rfl | rfl | rfl <;> first | decide | omega

/-- The cells of a set, each at another place. -/
def moved (f : Nat → Nat) (S : Nat) : Nat → Nat
  | 0 => 0
  | k + 1 => moved f S k ||| (if S.testBit k then 1 <<< f k else 0)

def hexB (R C S : Nat) : Bool :=
  (joinsN R C 1 S != joinsN R C 2 (2 ^ (R * C) - 1 - S)) &&
  (joinsN R C 1 (moved (fun k => R * C - 1 - k) S (R * C)) == joinsN R C 1 S) && (joinsN R C 2 (moved (fun k => R * C - 1 - k) S (R * C)) == joinsN R C 2 S) &&
  (joinsN C R 2 (moved (sig C R) S (R * C)) == joinsN R C 1 S) && (joinsN C R 1 (moved (sig C R) S (R * C)) == joinsN R C 2 S)

theorem hex_all : (boards.all fun b => (List.range (2 ^ (b.1 * b.2))).all fun S => hexB b.1 b.2 S) = true := by kernel_rfl

theorem hex_ok {R C S : Nat} (hb : BoardOf R C) (hS : S < 2 ^ (R * C)) : hexB R C S = true := by
  have := List.all_eq_true.1 hex_all (R, C) (board_mem hb)
  exact List.all_eq_true.1 this S (by rw [List.mem_range]; exact hS)

end Go.Proofs.Ytihlmjapddjjjab

/- Promise 6: mirrored twice it is as before. -/
set_option maxRecDepth 20000
namespace Go.Proofs.Ytihlmjapddjjjab
open Go Go.Ip Go.RowKit G

variable (g : Nat → PV) (lf n : Nat)

end Go.Proofs.Ytihlmjapddjjjab

/- What the laws of chapter 2 say of positions, as facts on sets of cells. No program text. -/
set_option maxRecDepth 20000
namespace Go.Proofs.Ytihlmjapddjjjab

/-! ### joined sides -/
theorem joins_iff {R C P S : Nat} (hS : S < 2 ^ 9) : joinsN R C P S = true ↔ ∃ j, (sideN R C P true).testBit j = true ∧ Reach (masksN R C) S (sideN R C P false) j := by
  unfold joinsN
  rw [Bool.not_eq_true', decide_eq_false_iff_not]
  constructor
  · intro h
    apply Classical.byContradiction
    intro hn
    exact h (and_zero.2 fun j h1 h2 => hn ⟨j, h2, (grow_bit hS j).1 h1⟩)
  · rintro ⟨j, h1, h2⟩ h
    exact and_zero.1 h j ((grow_bit hS j).2 h2) h1

theorem joins_mono {R C P S T : Nat} (hS : S < 2 ^ 9) (hT : T < 2 ^ 9) (h : ∀ j, S.testBit j = true → T.testBit j = true) (hj : joinsN R C P S = true) : joinsN R C P T = true := by
  obtain ⟨j, h1, h2⟩ := (joins_iff hS).1 hj
  exact (joins_iff hT).2 ⟨j, h1, h2.mono h (fun _ h => h)⟩

theorem compl_bit {n S : Nat} (hS : S < 2 ^ n) (j : Nat) : (2 ^ n - 1 - S).testBit j = (decide (j < n) && !S.testBit j) := by
  rw [Nat.sub_sub, Nat.add_comm 1 S]; exact Nat.testBit_two_pow_sub_succ hS j

theorem hex {R C P S : Nat} (hB : BoardOf R C) (hP : P = 1 ∨ P = 2) (hS : S < 2 ^ (R * C)) : joinsN R C P S = !joinsN R C (3 - P) (2 ^ (R * C) - 1 - S) := by
  have key : ∀ T, T < 2 ^ (R * C) → joinsN R C 1 T = !joinsN R C 2 (2 ^ (R * C) - 1 - T) := fun T hT => by
    have := hex_ok hB hT
    unfold hexB at this
    simp only [Bool.and_eq_true] at this
    have := this.1.1.1.1
    cases h1 : joinsN R C 1 T <;> cases h2 : joinsN R C 2 (2 ^ (R * C) - 1 - T) <;> rw [h1, h2] at this <;> first | rfl | cases this
  rcases hP with rfl | rfl
  · exact key S hS
  · have h2 := key (2 ^ (R * C) - 1 - S) (by omega)
    rw [show 2 ^ (R * C) - 1 - (2 ^ (R * C) - 1 - S) = S by omega] at h2
    rw [show 3 - 2 = 1 from rfl, h2, Bool.not_not]

/-! ### filled -/
/-! ### turned and mirrored -/
theorem moved_bit (f : Nat → Nat) (S : Nat) : ∀ (n j : Nat), (moved f S n).testBit j = true ↔ ∃ k, k < n ∧ S.testBit k = true ∧ j = f k
  | 0, j => by simp [moved]
  | n + 1, j => by
    rw [moved, Nat.testBit_or, Bool.or_eq_true, moved_bit f S n j]
    have hlast : ((if S.testBit n = true then 1 <<< f n else 0).testBit j = true) ↔ (S.testBit n = true ∧ j = f n) := by
      by_cases h : S.testBit n = true
      · rw [if_pos h, one_bit, decide_eq_true_iff]; simp [h]
      · rw [if_neg h, Nat.zero_testBit]; simp [h]
    rw [hlast]
    constructor
    · rintro (⟨k, h1, h2, h3⟩ | ⟨h1, h2⟩)
      · exact ⟨k, by omega, h2, h3⟩
      · exact ⟨n, by omega, h1, h2⟩
    · rintro ⟨k, h1, h2, h3⟩
      by_cases e : k = n
      · subst e; exact .inr ⟨h2, h3⟩
      · exact .inl ⟨k, by omega, h2, h3⟩

/-! ### gaps -/
/-! ### the cells that close a gap -/
end Go.Proofs.Ytihlmjapddjjjab

/- Who wins, told by the sets of both players' stones: what it is, that a stone more never harms, that to move never harms, and that turned and mirrored it is the same. No program text. -/
set_option maxRecDepth 20000
namespace Go.Proofs.Ytihlmjapddjjjab
open Go Go.Ip G

/-- A stone of the one to move. -/
def putA (t k a : Nat) : Nat := if t = 1 then a ||| (1 <<< k) else a
def putB (t k b : Nat) : Nat := if t = 1 then b else b ||| (1 <<< k)

def winF (R C : Nat) : Nat → Nat → Nat → Nat → Nat
  | 0, a, b, t => if joinsN R C 1 a = true then 1 else if joinsN R C 2 b = true then 2 else 3 - t
  | f + 1, a, b, t => if joinsN R C 1 a = true then 1 else if joinsN R C 2 b = true then 2 else
      if ((List.range (R * C)).any fun k => !(a ||| b).testBit k && decide (winF R C f (putA t k a) (putB t k b) (3 - t) = t)) = true then t else 3 - t

def winN (R C a b t : Nat) : Nat := winF R C (R * C) a b t

/-- A position, by its two sets. -/
def Pos (R C a b : Nat) : Prop := a < 2 ^ (R * C) ∧ b < 2 ^ (R * C) ∧ ∀ j, a.testBit j = true → b.testBit j = true → False

theorem Pos.lt9 {R C a b : Nat} (hB : BoardOf R C) (h : Pos R C a b) : a < 2 ^ 9 ∧ b < 2 ^ 9 := by
  have : 2 ^ (R * C) ≤ 2 ^ 9 := Nat.pow_le_pow_right (by decide) hB.2.2.2.2
  exact ⟨Nat.lt_of_lt_of_le h.1 this, Nat.lt_of_lt_of_le h.2.1 this⟩

theorem Pos.put {R C a b t k : Nat} (h : Pos R C a b) (hk : k < R * C) (hf : (a ||| b).testBit k = false) : Pos R C (putA t k a) (putB t k b) := by
  rw [Nat.testBit_or, Bool.or_eq_false_iff] at hf
  have hl : 1 <<< k < 2 ^ (R * C) := by rw [Nat.one_shiftLeft]; exact Nat.pow_lt_pow_right (by decide) hk
  unfold putA putB
  split
  · refine ⟨Nat.or_lt_two_pow h.1 hl, h.2.1, fun j h1 h2 => ?_⟩
    rw [with_bit, Bool.or_eq_true, decide_eq_true_eq] at h1
    rcases h1 with h1 | rfl
    · exact h.2.2 j h1 h2
    · rw [hf.2] at h2; cases h2
  · refine ⟨h.1, Nat.or_lt_two_pow h.2.1 hl, fun j h1 h2 => ?_⟩
    rw [with_bit, Bool.or_eq_true, decide_eq_true_eq] at h2
    rcases h2 with h2 | rfl
    · exact h.2.2 j h1 h2
    · rw [hf.1] at h1; cases h1

/-- Never have both joined. -/
theorem Pos.both {R C a b : Nat} (hB : BoardOf R C) (h : Pos R C a b) (h1 : joinsN R C 1 a = true) : joinsN R C 2 b = false := by
  cases e : joinsN R C 2 b with
  | false => rfl
  | true =>
    have l9 := h.lt9 hB
    have hc : 2 ^ (R * C) - 1 - a < 2 ^ 9 := by
      have : 2 ^ (R * C) ≤ 2 ^ 9 := Nat.pow_le_pow_right (by decide) hB.2.2.2.2
      omega
    have h2 := joins_mono (P := 2) l9.2 hc (fun j hj => by
      rw [compl_bit h.1]
      have hjn := bit_small h.2.1 hj
      cases ea : a.testBit j with
      | false => simp [hjn]
      | true => exact (h.2.2 j ea hj).elim) e
    have h3 := hex hB (.inl rfl) h.1
    rw [h1, show 3 - 1 = 2 from rfl, h2] at h3
    cases h3

/-- If nobody has joined there is a free cell. -/
theorem Pos.free {R C a b : Nat} (hB : BoardOf R C) (h : Pos R C a b) (h1 : joinsN R C 1 a = false) (h2 : joinsN R C 2 b = false) : ∃ k, k < R * C ∧ (a ||| b).testBit k = false := by
  apply Classical.byContradiction
  intro hn
  have hall : ∀ k, k < R * C → (a ||| b).testBit k = true := fun k hk => by
    cases e : (a ||| b).testBit k with
    | true => rfl
    | false => exact (hn ⟨k, hk, e⟩).elim
  have hb : 2 ^ (R * C) - 1 - a = b := by
    apply Nat.eq_of_testBit_eq
    intro j
    rw [compl_bit h.1]
    by_cases hj : j < R * C
    · have := hall j hj
      rw [Nat.testBit_or, Bool.or_eq_true] at this
      cases ea : a.testBit j with
      | true =>
        cases eb : b.testBit j with
        | false => simp
        | true => exact (h.2.2 j ea eb).elim
      | false =>
        rw [ea] at this
        simp at this
        simp [hj, this]
    · cases eb : b.testBit j with
      | true => exact (hj (bit_small h.2.1 eb)).elim
      | false => simp [hj]
  have h3 := hex hB (.inl rfl) h.1
  rw [show 3 - 1 = 2 from rfl, hb, h1, h2] at h3
  cases h3

/-! ### turned and mirrored -/
/-- Each place is taken by just one. -/
structure Perm (f : Nat → Nat) (n : Nat) : Prop where
  lt : ∀ k, k < n → f k < n
  inj : ∀ i k, i < n → k < n → f i = f k → i = k
  onto : ∀ j, j < n → ∃ k, k < n ∧ f k = j

theorem moved_at {f : Nat → Nat} {S n k : Nat} (hf : Perm f n) (hk : k < n) : (moved f S n).testBit (f k) = S.testBit k := by
  rw [Bool.eq_iff_iff, moved_bit]
  constructor
  · rintro ⟨i, hi, h, e⟩
    rw [hf.inj k i hk hi e]; exact h
  · intro h; exact ⟨k, hk, h, rfl⟩

theorem moved_lt {f : Nat → Nat} {S n : Nat} (hf : Perm f n) : moved f S n < 2 ^ n := by
  apply Nat.lt_pow_two_of_testBit
  intro i hi
  cases e : (moved f S n).testBit i with
  | false => rfl
  | true =>
    obtain ⟨k, hk, _, rfl⟩ := (moved_bit f S n i).1 e
    have := hf.lt k hk
    omega

theorem Pos.moved {R C R' C' a b : Nat} {f : Nat → Nat} (hn : R' * C' = R * C) (hf : Perm f (R * C)) (h : Pos R C a b) : Pos R' C' (moved f a (R * C)) (moved f b (R * C)) := by
  refine ⟨by rw [hn]; exact moved_lt hf, by rw [hn]; exact moved_lt hf, fun j h1 h2 => ?_⟩
  obtain ⟨i, hi, ha, rfl⟩ := (moved_bit _ _ _ _).1 h1
  rw [moved_at hf hi] at h2
  exact h.2.2 i ha h2

end Go.Proofs.Ytihlmjapddjjjab

/- A game in which both take cells in turn until one of both has what is wanted: never have both, and on a full board one has. Who wins, that a cell more never harms, and that to move never harms. No program text. -/
set_option maxRecDepth 20000
namespace Go.Proofs.Ytihlmjapddjjjab
open Go Go.Ip G

/-- What the first one wants, and the second one: more never harms, and on a full board just one of both has it. -/
structure Game (n : Nat) (J1 J2 : Nat → Bool) : Prop where
  mono1 : ∀ a b, a < 2 ^ n → b < 2 ^ n → (∀ j, a.testBit j = true → b.testBit j = true) → J1 a = true → J1 b = true
  mono2 : ∀ a b, a < 2 ^ n → b < 2 ^ n → (∀ j, a.testBit j = true → b.testBit j = true) → J2 a = true → J2 b = true
  ex : ∀ a, a < 2 ^ n → J2 (2 ^ n - 1 - a) = !J1 a

def gWinF (n : Nat) (J1 J2 : Nat → Bool) : Nat → Nat → Nat → Nat → Nat
  | 0, a, b, t => if J1 a = true then 1 else if J2 b = true then 2 else 3 - t
  | f + 1, a, b, t => if J1 a = true then 1 else if J2 b = true then 2 else
      if ((List.range n).any fun k => !(a ||| b).testBit k && decide (gWinF n J1 J2 f (putA t k a) (putB t k b) (3 - t) = t)) = true then t else 3 - t

def gWin (n : Nat) (J1 J2 : Nat → Bool) (a b t : Nat) : Nat := gWinF n J1 J2 n a b t

/-- A position, by its two sets. -/
def gPos (n a b : Nat) : Prop := a < 2 ^ n ∧ b < 2 ^ n ∧ ∀ j, a.testBit j = true → b.testBit j = true → False

theorem gPos.put {n a b t k : Nat} (h : gPos n a b) (hk : k < n) (hf : (a ||| b).testBit k = false) : gPos n (putA t k a) (putB t k b) := by
  rw [Nat.testBit_or, Bool.or_eq_false_iff] at hf
  have hl : 1 <<< k < 2 ^ n := by rw [Nat.one_shiftLeft]; exact Nat.pow_lt_pow_right (by decide) hk
  unfold putA putB
  split
  · refine ⟨Nat.or_lt_two_pow h.1 hl, h.2.1, fun j h1 h2 => ?_⟩
    rw [with_bit, Bool.or_eq_true, decide_eq_true_eq] at h1
    rcases h1 with h1 | rfl
    · exact h.2.2 j h1 h2
    · rw [hf.2] at h2; cases h2
  · refine ⟨h.1, Nat.or_lt_two_pow h.2.1 hl, fun j h1 h2 => ?_⟩
    rw [with_bit, Bool.or_eq_true, decide_eq_true_eq] at h2
    rcases h2 with h2 | rfl
    · exact h.2.2 j h1 h2
    · rw [hf.1] at h1; cases h1

/-- Never have both. -/
theorem gPos.both {n a b : Nat} {J1 J2 : Nat → Bool} (hB : Game n J1 J2) (h : gPos n a b) (h1 : J1 a = true) : J2 b = false := by
  cases e : J2 b with
  | false => rfl
  | true =>
    have hc : 2 ^ n - 1 - a < 2 ^ n := by have := Nat.two_pow_pos n; omega
    have h2 := hB.mono2 b _ h.2.1 hc (fun j hj => by
      rw [compl_bit h.1]
      have hjn := bit_small h.2.1 hj
      cases ea : a.testBit j with
      | false => simp [hjn]
      | true => exact (h.2.2 j ea hj).elim) e
    rw [hB.ex a h.1, h1] at h2
    cases h2
/-- If nobody has joined there is a free cell. -/
theorem gPos.free {n a b : Nat} {J1 J2 : Nat → Bool} (hB : Game n J1 J2) (h : gPos n a b) (h1 : J1 a = false) (h2 : J2 b = false) : ∃ k, k < n ∧ (a ||| b).testBit k = false := by
  apply Classical.byContradiction
  intro hn
  have hall : ∀ k, k < n → (a ||| b).testBit k = true := fun k hk => by
    cases e : (a ||| b).testBit k with
    | true => rfl
    | false => exact (hn ⟨k, hk, e⟩).elim
  have hb : 2 ^ n - 1 - a = b := by
    apply Nat.eq_of_testBit_eq
    intro j
    rw [compl_bit h.1]
    by_cases hj : j < n
    · have := hall j hj
      rw [Nat.testBit_or, Bool.or_eq_true] at this
      cases ea : a.testBit j with
      | true =>
        cases eb : b.testBit j with
        | false => simp
        | true => exact (h.2.2 j ea eb).elim
      | false =>
        rw [ea] at this
        simp at this
        simp [hj, this]
    · cases eb : b.testBit j with
      | true => exact (hj (bit_small h.2.1 eb)).elim
      | false => simp [hj]
  have h3 := hB.ex a h.1
  rw [hb, h1, h2] at h3
  cases h3

end Go.Proofs.Ytihlmjapddjjjab

/- Nets: which nodes are come to by a set of wires; sets that link the ends. No program text. -/
set_option maxRecDepth 20000
namespace Go.Proofs.Ytihlmjapddjjjab
open Go Go.Ip G

/-- All wires are between two different nodes of at most five. -/
def NetN (nodes : Nat) (ws : List (Nat × Nat)) : Prop := 2 ≤ nodes ∧ nodes ≤ 5 ∧ ws.length ≤ 8 ∧ ∀ w ∈ ws, w.1 < nodes ∧ w.2 < nodes ∧ w.1 ≠ w.2

/-- One comes from a node to another one by wires of a set. -/
inductive Conn (ws : List (Nat × Nat)) (set u : Nat) : Nat → Prop where
  | refl : Conn ws set u u
  | fwd {v k : Nat} {w : Nat × Nat} : Conn ws set u v → ws[k]? = some w → set.testBit k = true → w.1 = v → Conn ws set u w.2
  | bwd {v k : Nat} {w : Nat × Nat} : Conn ws set u v → ws[k]? = some w → set.testBit k = true → w.2 = v → Conn ws set u w.1

theorem Conn.mono {ws : List (Nat × Nat)} {S S' u v : Nat} (hm : ∀ j, S.testBit j = true → S'.testBit j = true) (h : Conn ws S u v) : Conn ws S' u v := by
  induction h with
  | refl => exact .refl
  | fwd _ hw hs e ih => exact .fwd ih hw (hm _ hs) e
  | bwd _ hw hs e ih => exact .bwd ih hw (hm _ hs) e
theorem Conn.trans {ws : List (Nat × Nat)} {S u v x : Nat} (h : Conn ws S u v) (h2 : Conn ws S v x) : Conn ws S u x := by
  induction h2 with
  | refl => exact h
  | fwd _ hw hs e ih => exact .fwd ih hw hs e
  | bwd _ hw hs e ih => exact .bwd ih hw hs e
theorem Conn.symm {ws : List (Nat × Nat)} {S u v : Nat} (h : Conn ws S u v) : Conn ws S v u := by
  induction h with
  | refl => exact .refl
  | fwd _ hw hs e ih => subst e; exact (Conn.bwd .refl hw hs rfl).trans ih
  | bwd _ hw hs e ih => subst e; exact (Conn.fwd .refl hw hs rfl).trans ih

end Go.Proofs.Ytihlmjapddjjjab

/- Least sets of wires that link, and that cut. No program text. -/
set_option maxRecDepth 20000
namespace Go.Proofs.Ytihlmjapddjjjab
open Go Go.Ip G

section
variable {nodes : Nat} {ws : List (Nat × Nat)} (hn : NetN nodes ws)
include hn
end

end Go.Proofs.Ytihlmjapddjjjab

/- A further wire never harms who joins; with two wires between the ends the first one wins. No program text. -/
set_option maxRecDepth 20000
namespace Go.Proofs.Ytihlmjapddjjjab
open Go Go.Ip G

theorem Conn.more {ws l : List (Nat × Nat)} {S u v : Nat} (h : Conn ws S u v) : Conn (ws ++ l) S u v := by
  have hg : ∀ {k : Nat} {w}, ws[k]? = some w → (ws ++ l)[k]? = some w := fun hw => by rw [List.getElem?_append_left (List.getElem?_eq_some_iff.1 hw).1]; exact hw
  induction h with
  | refl => exact .refl
  | fwd _ hw hs e ih => exact .fwd ih (hg hw) hs e
  | bwd _ hw hs e ih => exact .bwd ih (hg hw) hs e
end Go.Proofs.Ytihlmjapddjjjab

/- The gap of wires: layers of nodes, by how many free wires must be taken to come to them. No program text. -/
set_option maxRecDepth 20000
namespace Go.Proofs.Ytihlmjapddjjjab
open Go Go.Ip G

/-! ### as it is reckoned -/
/-! ### as sets of nodes -/
def Cr (ws : List (Nat × Nat)) (free : Nat) (S : Nat → Prop) (u : Nat) : Prop := ∃ k w, ws[k]? = some w ∧ free.testBit k = true ∧ ((u = w.1 ∧ S w.2) ∨ (u = w.2 ∧ S w.1))
def Ly (ws : List (Nat × Nat)) (own free : Nat) : Nat → Nat → Prop
  | 0, v => Conn ws own 0 v
  | c + 1, v => ∃ u, (Ly ws own free c u ∨ Cr ws free (Ly ws own free c) u) ∧ Conn ws own u v

section
variable {ws : List (Nat × Nat)} {own free : Nat}
theorem Cr.mono {S T : Nat → Prop} {f f' u : Nat} (hf : ∀ j, f.testBit j = true → f'.testBit j = true) (hS : ∀ v, S v → T v) (h : Cr ws f S u) : Cr ws f' T u := by
  obtain ⟨k, w, hw, hk, h⟩ := h
  refine ⟨k, w, hw, hf k hk, ?_⟩
  rcases h with ⟨h1, h2⟩ | ⟨h1, h2⟩
  · exact .inl ⟨h1, hS _ h2⟩
  · exact .inr ⟨h1, hS _ h2⟩
/-- With the free wires owned as well one comes to just what some layer holds. -/
theorem Ly.conn {c v : Nat} (h : Ly ws own free c v) : Conn ws (own ||| free) 0 v := by
  induction c generalizing v with
  | zero => exact Conn.mono (fun j hj => by rw [Nat.testBit_or, hj]; rfl) (show Conn ws own 0 v from h)
  | succ c ih =>
    obtain ⟨u, hu, hc⟩ := h
    have hc' : Conn ws (own ||| free) u v := hc.mono fun j hj => by rw [Nat.testBit_or, hj]; rfl
    refine Conn.trans ?_ hc'
    rcases hu with hu | ⟨k, w, hw, hk, h⟩
    · exact ih hu
    · have hb : (own ||| free).testBit k = true := by rw [Nat.testBit_or, hk, Bool.or_true]
      rcases h with ⟨rfl, h2⟩ | ⟨rfl, h2⟩
      · exact .bwd (ih h2) hw hb rfl
      · exact .fwd (ih h2) hw hb rfl
/-! ### a free wire that is taken -/
theorem Ly.more {e : Nat} {we : Nat × Nat} (he : ws[e]? = some we) {c v : Nat} (h : Ly ws own free c v) : Ly ws (own ||| (1 <<< e)) (without free e) c v := by
  have hm : ∀ j, own.testBit j = true → (own ||| (1 <<< e)).testBit j = true := fun j hj => by rw [with_bit, hj]; rfl
  have hbe : (own ||| (1 <<< e)).testBit e = true := by rw [with_bit]; simp
  induction c generalizing v with
  | zero => exact Conn.mono hm (show Conn ws own 0 v from h)
  | succ c ih =>
    obtain ⟨u, hu, hc⟩ := h
    have hc' := hc.mono hm
    rcases hu with hu | ⟨k, w, hw, hk, h⟩
    · exact ⟨u, .inl (ih hu), hc'⟩
    · by_cases hke : k = e
      · subst hke
        obtain rfl := Option.some.inj (he.symm.trans hw)
        rcases h with ⟨rfl, h2⟩ | ⟨rfl, h2⟩
        · exact ⟨we.2, .inl (ih h2), (Conn.bwd .refl he hbe rfl).trans hc'⟩
        · exact ⟨we.1, .inl (ih h2), (Conn.fwd .refl he hbe rfl).trans hc'⟩
      · refine ⟨u, .inr ⟨k, w, hw, by rw [without_bit, hk]; simp [hke], ?_⟩, hc'⟩
        rcases h with ⟨h1, h2⟩ | ⟨h1, h2⟩
        · exact .inl ⟨h1, ih h2⟩
        · exact .inr ⟨h1, ih h2⟩
end

/-! ### what is reckoned are the layers -/
theorem Conn.lt {nodes : Nat} {ws : List (Nat × Nat)} (hn : NetN nodes ws) {S u v : Nat} (hu : u < nodes) (h : Conn ws S u v) : v < nodes := by
  cases h with
  | refl => exact hu
  | fwd _ hw _ _ => exact (hn.2.2.2 _ (List.mem_of_getElem? hw)).2.1
  | bwd _ hw _ _ => exact (hn.2.2.2 _ (List.mem_of_getElem? hw)).1

section
variable {nodes : Nat} {ws : List (Nat × Nat)} (hn : NetN nodes ws) {own free : Nat}
include hn
theorem Ly.lt {c v : Nat} (h : Ly ws own free c v) : v < nodes := by
  have := hn.1
  exact Conn.lt hn (by omega) h.conn
end

end Go.Proofs.Ytihlmjapddjjjab

/- Rules to walk through a function's plain form with what is to hold in the end: binds, conditions, guards, comparisons, numbers, calls and loops. -/
set_option maxRecDepth 20000
namespace Go.Proofs.Ytihlmjapddjjjab
open Go Go.Ip G

/-- The result is there, and Q holds of it. -/
def W (x : Res) (Q : PV → PHeap → Prop) : Prop := ∃ v h', x = some (v, h') ∧ Q v h'

section
variable {α : Type} {Q Q' : PV → PHeap → Prop} {P : Program} {t : TypeId} {k : IntKind}

theorem W.ret {v : PV} {h : PHeap} (hq : Q v h) : W (some (v, h)) Q := ⟨v, h, rfl, hq⟩
theorem W.mono {x : Res} (hx : W x Q') (hf : ∀ v h, Q' v h → Q v h) : W x Q := by
  obtain ⟨v, h, e, q⟩ := hx; exact ⟨v, h, e, hf v h q⟩
theorem W.of {x : Res} {v : PV} {h : PHeap} (hx : x = some (v, h)) (hq : Q v h) : W x Q := ⟨v, h, hx, hq⟩
theorem wbd {x : Option α} {v : α} {f : α → Res} (hx : x = some v) (hf : W (f v) Q) : W (x.bind f) Q := by rw [hx]; exact hf
theorem wT {x y : Res} (h : W x Q) : W (condP (.bool true) x y) Q := h
theorem wF {x y : Res} (h : W y Q) : W (condP (.bool false) x y) Q := h
theorem wg1 {b u : Bool} {x y : Option α} {f : α → Res} (hb : b = u) (hx : W (x.bind f) Q) : W ((wantV (.bool b) u).bind fun v => (bif v then x else y).bind f) Q := by
  subst hb; simpa using hx
theorem wg0 {b u : Bool} {x y : Option α} {f : α → Res} (hb : b = !u) (hy : W (y.bind f) Q) : W ((wantV (.bool b) u).bind fun v => (bif v then x else y).bind f) Q := by
  subst hb; cases u <;> simpa using hy
theorem wpT {u v : PV} {f : PV → Res} (h : W (f u) Q) : W ((pickP (.bool true) u v).bind f) Q := h
theorem wpF {u v : PV} {f : PV → Res} (h : W (f v) Q) : W ((pickP (.bool false) u v).bind f) Q := h
theorem wnT {f : PV → Res} (h : W (f (.bool false)) Q) : W ((unP .not (.bool true)).bind f) Q := h
theorem wnF {f : PV → Res} (h : W (f (.bool true)) Q) : W ((unP .not (.bool false)).bind f) Q := h
theorem wpv {x : Option PV} {h : PHeap} {f : PV × PHeap → Res} (hx : W (x.bind fun v => f (v, h)) Q) : W ((pv h x).bind f) Q := by
  cases x <;> exact hx
theorem wsm {v : α} {f : α → Res} (h : W (f v) Q) : W ((some v).bind f) Q := h
theorem wrI {a : Int} {f : PV → Res} (h : W (f (.int k a)) Q) : W ((resV (.int k a)).bind f) Q := h
theorem wrB {a : Bool} {f : PV → Res} (h : W (f (.bool a)) Q) : W ((resV (.bool a)).bind f) Q := h
theorem wck {b : Bool} {x : Res} (hb : b = true) (h : W x Q) : W (ckP b x) Q := by rw [hb]; exact h
/-! ### comparisons -/
section
variable {a b : Int} {f : PV → Res}
theorem wlssT (h : a < b) (hf : W (f (.bool true)) Q) : W ((binP P .lss t (.int k a) (.int k b)).bind f) Q := wbd (by rw [bin_lss, decide_eq_true h]) hf
theorem wlssF (h : ¬ a < b) (hf : W (f (.bool false)) Q) : W ((binP P .lss t (.int k a) (.int k b)).bind f) Q := wbd (by rw [bin_lss, decide_eq_false h]) hf
theorem wleqT (h : a ≤ b) (hf : W (f (.bool true)) Q) : W ((binP P .leq t (.int k a) (.int k b)).bind f) Q := wbd (by rw [bin_leq, decide_eq_true h]) hf
theorem wleqF (h : ¬ a ≤ b) (hf : W (f (.bool false)) Q) : W ((binP P .leq t (.int k a) (.int k b)).bind f) Q := wbd (by rw [bin_leq, decide_eq_false h]) hf
theorem wgtrT (h : b < a) (hf : W (f (.bool true)) Q) : W ((binP P .gtr t (.int k a) (.int k b)).bind f) Q := wbd (by rw [bin_gtr, decide_eq_true h]) hf
theorem wgtrF (h : ¬ b < a) (hf : W (f (.bool false)) Q) : W ((binP P .gtr t (.int k a) (.int k b)).bind f) Q := wbd (by rw [bin_gtr, decide_eq_false h]) hf
theorem wgeqT (h : b ≤ a) (hf : W (f (.bool true)) Q) : W ((binP P .geq t (.int k a) (.int k b)).bind f) Q := wbd (by rw [bin_geq, decide_eq_true h]) hf
theorem wgeqF (h : ¬ b ≤ a) (hf : W (f (.bool false)) Q) : W ((binP P .geq t (.int k a) (.int k b)).bind f) Q := wbd (by rw [bin_geq, decide_eq_false h]) hf
theorem weqlT (h : a = b) (hf : W (f (.bool true)) Q) : W ((binP P .eql t (.int k a) (.int k b)).bind f) Q := wbd (by rw [bin_eql, beq_iff_eq.2 h]) hf
theorem weqlF (h : ¬ a = b) (hf : W (f (.bool false)) Q) : W ((binP P .eql t (.int k a) (.int k b)).bind f) Q := wbd (by rw [bin_eql, beq_eq_false_iff_ne.2 h]) hf
theorem wneqF (h : a = b) (hf : W (f (.bool false)) Q) : W ((binP P .neq t (.int k a) (.int k b)).bind f) Q := wbd (by rw [bin_neq, bne, beq_iff_eq.2 h]; rfl) hf
end

/-! ### numbers -/
section
variable {a b : Int} {x y : Nat} {f : PV → Res}
theorem wadd1 (h : x < 4611686018427387904) (hf : W (f (.int .i64 ((x + 1 : Nat) : Int))) Q) : W ((binP P .add t (.int .i64 (x : Int)) (.int .i64 1)).bind f) Q := wbd (by rw [bin_add, wr (by omega)]; rfl) hf
end
end

section
variable {Q : PV → PHeap → Prop} {x y : Nat} {f : PV → Res}
/-! ### slices of integers -/
variable {h : PHeap} {p : PV} {xs : List Int}
end

/-! ### loops -/
theorem loopW {f : St → (PX → St → Res) → Res} {k : PX → St → Res} {Q : PV → PHeap → Prop} (I : Nat → St → Prop)
    (step : ∀ n m s, I m s → (∀ m' s', m' < m → I m' s' → W (kLoop f n k .normal s') Q) → W (f s (kLoop f n k)) Q) : ∀ (fuel m : Nat) (s : St), m < fuel → I m s → W (loopK f fuel s k) Q
  | 0, m, s, hm, _ => by omega
  | n + 1, m, s, hm, hI => by
    rw [loopK_succ]
    exact step n m s hI fun m' s' hm' hI' => by rw [kLoop_normal]; exact loopW I step n m' s' (by omega) hI'

/-- A list that whatever changes behind mark b leaves as it is. -/
def Fix (b : Nat) (h : PHeap) (p : PV) (xs : List Int) : Prop := ∀ h', Keep b h h' → IntSl .i64 h' p xs
theorem Fix.now {b : Nat} {h : PHeap} {p : PV} {xs : List Int} (s : Fix b h p xs) : IntSl .i64 h p xs := s h (Keep.refl _ _)
theorem Fix.keep {b : Nat} {h h' : PHeap} {p : PV} {xs : List Int} (s : Fix b h p xs) (k : Keep b h h') : Fix b h' p xs := fun h2 k2 => s h2 (k.trans k2)
theorem Fix.mono {b b' : Nat} {h : PHeap} {p : PV} {xs : List Int} (s : Fix b h p xs) (hb : b ≤ b') : Fix b' h p xs := fun h2 k2 => s h2 (k2.mono hb)

end Go.Proofs.Ytihlmjapddjjjab

/- The laws of chapter 2 over what the program's functions are asked to compute: the draws, the exact laws, and promise 9. -/
set_option maxRecDepth 20000
namespace Go.Proofs.Ytihlmjapddjjjab
open Go Go.Ip G

def TabT (g : Nat → PV) (h : PHeap) : Prop := Tab64 g h
theorem TabT.keep {g : Nat → PV} {h h' : PHeap} (t : TabT g h) (k : Keep h.length h h') : TabT g h' := Tab64.keep t k
def TabOk (g : Nat → PV) (h : PHeap) : Prop := TabT g h
theorem TabOk.keep {g : Nat → PV} {h h' : PHeap} (t : TabOk g h) (k : Keep h.length h h') : TabOk g h' := TabT.keep t k

variable (g : Nat → PV) (lf n : Nat)

/-! ### the exact laws -/
/-! ### the draws -/
end Go.Proofs.Ytihlmjapddjjjab

/- Promises 11, 12, 13 and 14 over what the program's functions are asked to compute. -/
set_option maxRecDepth 20000
namespace Go.Proofs.Ytihlmjapddjjjab
open Go Go.Ip G

/-! ### more facts on positions -/
variable (g : Nat → PV) (lf n : Nat)

/-! ### promise 12 -/
end Go.Proofs.Ytihlmjapddjjjab

/- Promises 13 and 14 over what the program's functions are asked to compute. -/
set_option maxRecDepth 20000
namespace Go.Proofs.Ytihlmjapddjjjab
open Go Go.Ip G

/-! ### the cells that close a gap -/
variable (g : Nat → PV) (lf n : Nat)

/-! ### gaps of free boards, and mirrored -/
end Go.Proofs.Ytihlmjapddjjjab

/- Promises 10 and 15 over what the program's functions are asked to compute. -/
set_option maxRecDepth 20000
namespace Go.Proofs.Ytihlmjapddjjjab
open Go Go.Ip G

/-! ### lists of sets -/
/-! ### masks -/
/-! ### groups -/
variable (g : Nat → PV) (lf n : Nat)

end Go.Proofs.Ytihlmjapddjjjab

/- Promise 15 over what the program's functions are asked to compute. -/
set_option maxRecDepth 20000
namespace Go.Proofs.Ytihlmjapddjjjab
open Go Go.Ip G

/-! ### sides -/
variable (g : Nat → PV) (lf n : Nat)

end Go.Proofs.Ytihlmjapddjjjab

/- What chapter 3's functions tell of a position (moveL, playedL, winL, winCellsL, lineL), and what holds of them. No program text. -/
set_option maxRecDepth 20000
namespace Go.Proofs.Ytihlmjapddjjjab
open Go Go.Ip G

/-! ### none -/
/-! ### sets -/
section
variable {R C : Nat} {xs : List Int} (hb : posB (R : Int) (C : Int) xs = true) (hS : Sides (R : Int) (C : Int) R C xs)
include hS
omit hS
include hb
include hS
end

/-! ### turned, mirrored -/
section
variable {R C : Nat} {xs : List Int} (hb : posB (R : Int) (C : Int) xs = true) (hS : Sides (R : Int) (C : Int) R C xs)
include hb hS
end

/-! ### moves -/
/-! ### winning cells -/
section
variable {R C : Nat} {xs : List Int} (hb : posB (R : Int) (C : Int) xs = true) (hS : Sides (R : Int) (C : Int) R C xs)
include hb hS
omit hb hS
include hb hS
end

/-! ### played on -/
section
variable {R C : Nat} {xs : List Int} (hb : posB (R : Int) (C : Int) xs = true) (hS : Sides (R : Int) (C : Int) R C xs)
include hb hS
end

end Go.Proofs.Ytihlmjapddjjjab

/- The model's table of who wins: each position has a place of its own in it. No program text. -/
set_option maxRecDepth 20000
namespace Go.Proofs.Ytihlmjapddjjjab
open Go Go.Ip G

/-- The place of a position, from its first k cells: the same number as the model reckons. -/
def keyF (a b : Nat) : Nat → Nat
  | 0 => 0
  | k + 1 => 3 * keyF a b k + (a >>> k % 2) + 2 * (b >>> k % 2)

theorem digit_le {R C a b : Nat} (h : Pos R C a b) (k : Nat) : a >>> k % 2 + 2 * (b >>> k % 2) ≤ 2 := by
  have h1 := bit_iff a k
  have h2 := bit_iff b k
  rcases Nat.mod_two_eq_zero_or_one (a >>> k) with e1 | e1 <;> rcases Nat.mod_two_eq_zero_or_one (b >>> k) with e2 | e2
  · omega
  · omega
  · omega
  · exact (h.2.2 k (h1.1 e1) (h2.1 e2)).elim
theorem key_lt {R C a b : Nat} (h : Pos R C a b) : ∀ k, keyF a b k < 3 ^ k
  | 0 => Nat.zero_lt_one
  | k + 1 => by
    have ih := key_lt h k
    have hd := digit_le h k
    rw [keyF, Nat.pow_succ]; omega
theorem key_inj {R C a b a' b' : Nat} (h : Pos R C a b) (h' : Pos R C a' b') : ∀ k, keyF a b k = keyF a' b' k → ∀ i, i < k → a.testBit i = a'.testBit i ∧ b.testBit i = b'.testBit i
  | 0, _, i, hi => by omega
  | k + 1, he, i, hi => by
    have hd := digit_le h k
    have hd' := digit_le h' k
    rw [keyF, keyF] at he
    have e1 : keyF a b k = keyF a' b' k := by omega
    have e2 : a >>> k % 2 = a' >>> k % 2 ∧ b >>> k % 2 = b' >>> k % 2 := by
      have := Nat.mod_two_eq_zero_or_one (a >>> k); have := Nat.mod_two_eq_zero_or_one (a' >>> k); omega
    by_cases hik : i = k
    · subst hik
      have t : ∀ x y : Nat, x >>> i % 2 = y >>> i % 2 → x.testBit i = y.testBit i := fun x y e => by
        rw [Bool.eq_iff_iff, ← bit_iff, ← bit_iff, e]
      exact ⟨t _ _ e2.1, t _ _ e2.2⟩
    · exact key_inj h h' k e1 i (by omega)
theorem key_pos {R C a b a' b' : Nat} (h : Pos R C a b) (h' : Pos R C a' b') (he : keyF a b (R * C) = keyF a' b' (R * C)) : a = a' ∧ b = b' := by
  have hk := key_inj h h' _ he
  have t : ∀ x y : Nat, x < 2 ^ (R * C) → y < 2 ^ (R * C) → (∀ i, i < R * C → x.testBit i = y.testBit i) → x = y := fun x y hx hy hxy => by
    apply Nat.eq_of_testBit_eq
    intro j
    by_cases hj : j < R * C
    · exact hxy j hj
    · have e1 : x.testBit j = false := Nat.testBit_lt_two_pow (Nat.lt_of_lt_of_le hx (Nat.pow_le_pow_right (by decide) (by omega)))
      have e2 : y.testBit j = false := Nat.testBit_lt_two_pow (Nat.lt_of_lt_of_le hy (Nat.pow_le_pow_right (by decide) (by omega)))
      rw [e1, e2]
  exact ⟨t _ _ h.1 h'.1 fun i hi => (hk i hi).1, t _ _ h.2.1 h'.2.1 fun i hi => (hk i hi).2⟩

def keyN (R C a b t : Nat) : Nat := 2 * keyF a b (R * C) + (t - 1)
/-- What the table holds: nothing, or who wins. -/
def Inv (R C : Nat) (T : List Int) : Prop := T.length = 2 * 3 ^ (R * C) ∧ ∀ a b t, Pos R C a b → (t = 1 ∨ t = 2) → T[keyN R C a b t]? = some 0 ∨ T[keyN R C a b t]? = some ((winN R C a b t : Nat) : Int)

theorem keyN_lt {R C a b t : Nat} (h : Pos R C a b) (ht : t = 1 ∨ t = 2) : keyN R C a b t < 2 * 3 ^ (R * C) := by
  have := key_lt h (R * C); unfold keyN; omega
theorem Inv.new (R C : Nat) : Inv R C (List.replicate (2 * 3 ^ (R * C)) 0) := by
  refine ⟨List.length_replicate, fun a b t h ht => .inl ?_⟩
  rw [List.getElem?_replicate, if_pos (keyN_lt h ht)]
theorem Inv.put {R C a b t : Nat} {T : List Int} (hi : Inv R C T) (h : Pos R C a b) (ht : t = 1 ∨ t = 2) : Inv R C (T.set (keyN R C a b t) ((winN R C a b t : Nat) : Int)) := by
  refine ⟨by rw [List.length_set]; exact hi.1, fun a' b' t' h' ht' => ?_⟩
  rw [List.getElem?_set]
  by_cases e : keyN R C a b t = keyN R C a' b' t'
  · right
    rw [if_pos e, if_pos (by rw [hi.1]; exact keyN_lt h ht)]
    unfold keyN at e
    have e1 : keyF a b (R * C) = keyF a' b' (R * C) := by omega
    have e2 : t = t' := by omega
    obtain ⟨rfl, rfl⟩ := key_pos h h' e1
    rw [e2]
  · rw [if_neg e]; exact hi.2 a' b' t' h' ht'
theorem Inv.get {R C a b t : Nat} {T : List Int} (hi : Inv R C T) (h : Pos R C a b) (ht : t = 1 ∨ t = 2) : ∃ hl : keyN R C a b t < T.length, T[keyN R C a b t] = 0 ∨ T[keyN R C a b t] = ((winN R C a b t : Nat) : Int) := by
  have hl : keyN R C a b t < T.length := by rw [hi.1]; exact keyN_lt h ht
  refine ⟨hl, ?_⟩
  have := hi.2 a b t h ht
  rw [List.getElem?_eq_getElem hl] at this
  exact this.imp Option.some.inj Option.some.inj

end Go.Proofs.Ytihlmjapddjjjab

/- Nets as lists, and the model's table of a game in which both take cells. No program text. -/
set_option maxRecDepth 20000
namespace Go.Proofs.Ytihlmjapddjjjab
open Go Go.Ip G

theorem gdigit_le {n a b : Nat} (h : gPos n a b) (k : Nat) : a >>> k % 2 + 2 * (b >>> k % 2) ≤ 2 := by
  have h1 := bit_iff a k
  have h2 := bit_iff b k
  rcases Nat.mod_two_eq_zero_or_one (a >>> k) with e1 | e1 <;> rcases Nat.mod_two_eq_zero_or_one (b >>> k) with e2 | e2
  · omega
  · omega
  · omega
  · exact (h.2.2 k (h1.1 e1) (h2.1 e2)).elim
theorem gkey_lt {n a b : Nat} (h : gPos n a b) : ∀ k, keyF a b k < 3 ^ k
  | 0 => Nat.zero_lt_one
  | k + 1 => by
    have ih := gkey_lt h k
    have hd := gdigit_le h k
    rw [keyF, Nat.pow_succ]; omega
theorem gkey_inj {n a b a' b' : Nat} (h : gPos n a b) (h' : gPos n a' b') : ∀ k, keyF a b k = keyF a' b' k → ∀ i, i < k → a.testBit i = a'.testBit i ∧ b.testBit i = b'.testBit i
  | 0, _, i, hi => by omega
  | k + 1, he, i, hi => by
    have hd := gdigit_le h k
    have hd' := gdigit_le h' k
    rw [keyF, keyF] at he
    have e1 : keyF a b k = keyF a' b' k := by omega
    have e2 : a >>> k % 2 = a' >>> k % 2 ∧ b >>> k % 2 = b' >>> k % 2 := by
      have := Nat.mod_two_eq_zero_or_one (a >>> k); have := Nat.mod_two_eq_zero_or_one (a' >>> k); omega
    by_cases hik : i = k
    · subst hik
      have t : ∀ x y : Nat, x >>> i % 2 = y >>> i % 2 → x.testBit i = y.testBit i := fun x y e => by
        rw [Bool.eq_iff_iff, ← bit_iff, ← bit_iff, e]
      exact ⟨t _ _ e2.1, t _ _ e2.2⟩
    · exact gkey_inj h h' k e1 i (by omega)
theorem gkey_pos {n a b a' b' : Nat} (h : gPos n a b) (h' : gPos n a' b') (he : keyF a b (n) = keyF a' b' (n)) : a = a' ∧ b = b' := by
  have hk := gkey_inj h h' _ he
  have t : ∀ x y : Nat, x < 2 ^ (n) → y < 2 ^ (n) → (∀ i, i < n → x.testBit i = y.testBit i) → x = y := fun x y hx hy hxy => by
    apply Nat.eq_of_testBit_eq
    intro j
    by_cases hj : j < n
    · exact hxy j hj
    · have e1 : x.testBit j = false := Nat.testBit_lt_two_pow (Nat.lt_of_lt_of_le hx (Nat.pow_le_pow_right (by decide) (by omega)))
      have e2 : y.testBit j = false := Nat.testBit_lt_two_pow (Nat.lt_of_lt_of_le hy (Nat.pow_le_pow_right (by decide) (by omega)))
      rw [e1, e2]
  exact ⟨t _ _ h.1 h'.1 fun i hi => (hk i hi).1, t _ _ h.2.1 h'.2.1 fun i hi => (hk i hi).2⟩


def gkeyN (n a b t : Nat) : Nat := 2 * keyF a b (n) + (t - 1)
/-- What the table holds: nothing, or who wins. -/
def GInv (n : Nat) (J1 J2 : Nat → Bool) (T : List Int) : Prop := T.length = 2 * 3 ^ (n) ∧ ∀ a b t, gPos n a b → (t = 1 ∨ t = 2) → T[gkeyN n a b t]? = some 0 ∨ T[gkeyN n a b t]? = some ((gWin n J1 J2 a b t : Nat) : Int)

theorem gkeyN_lt {n a b t : Nat} (h : gPos n a b) (ht : t = 1 ∨ t = 2) : gkeyN n a b t < 2 * 3 ^ (n) := by
  have := gkey_lt h (n); unfold gkeyN; omega
theorem GInv.new (n : Nat) (J1 J2 : Nat → Bool) : GInv n J1 J2 (List.replicate (2 * 3 ^ (n)) 0) := by
  refine ⟨List.length_replicate, fun a b t h ht => .inl ?_⟩
  rw [List.getElem?_replicate, if_pos (gkeyN_lt h ht)]
theorem GInv.put {n a b t : Nat} {J1 J2 : Nat → Bool} {T : List Int} (hi : GInv n J1 J2 T) (h : gPos n a b) (ht : t = 1 ∨ t = 2) : GInv n J1 J2 (T.set (gkeyN n a b t) ((gWin n J1 J2 a b t : Nat) : Int)) := by
  refine ⟨by rw [List.length_set]; exact hi.1, fun a' b' t' h' ht' => ?_⟩
  rw [List.getElem?_set]
  by_cases e : gkeyN n a b t = gkeyN n a' b' t'
  · right
    rw [if_pos e, if_pos (by rw [hi.1]; exact gkeyN_lt h ht)]
    unfold gkeyN at e
    have e1 : keyF a b (n) = keyF a' b' (n) := by omega
    have e2 : t = t' := by omega
    obtain ⟨rfl, rfl⟩ := gkey_pos h h' e1
    rw [e2]
  · rw [if_neg e]; exact hi.2 a' b' t' h' ht'
theorem GInv.get {n a b t : Nat} {J1 J2 : Nat → Bool} {T : List Int} (hi : GInv n J1 J2 T) (h : gPos n a b) (ht : t = 1 ∨ t = 2) : ∃ hl : gkeyN n a b t < T.length, T[gkeyN n a b t] = 0 ∨ T[gkeyN n a b t] = ((gWin n J1 J2 a b t : Nat) : Int) := by
  have hl : gkeyN n a b t < T.length := by rw [hi.1]; exact gkeyN_lt h ht
  refine ⟨hl, ?_⟩
  have := hi.2 a b t h ht
  rw [List.getElem?_eq_getElem hl] at this
  exact this.imp Option.some.inj Option.some.inj

/-! ### nets as lists -/
/-- A wire between two different nodes. -/
def goodW (nodes : Int) (w : Int × Int) : Bool := decide (0 ≤ w.1 ∧ w.1 < nodes ∧ 0 ≤ w.2 ∧ w.2 < nodes ∧ w.1 ≠ w.2)
def wiresB (nodes : Int) (ws : List (Int × Int)) : Bool := ws.all (goodW nodes) && (decide (2 ≤ nodes ∧ nodes ≤ 5) && decide (ws.length ≤ 8))
end Go.Proofs.Ytihlmjapddjjjab

/- Slices of wires (pairs of integers) on the interpreter's heap: how they are read, made, written and appended to. -/
set_option maxRecDepth 20000
namespace Go.Proofs.Ytihlmjapddjjjab
open Go Go.Ip G

/-- The cells of a list of wires. -/
def wc : List (Int × Int) → List PV
  | [] => []
  | w :: l => .int .i64 w.1 :: .int .i64 w.2 :: wc l
theorem wc_length : ∀ ws, (wc ws).length = 2 * ws.length
  | [] => rfl
  | w :: l => by rw [wc, List.length_cons, List.length_cons, wc_length l, List.length_cons]; omega
theorem wc_at : ∀ (ws : List (Int × Int)) (i : Nat) (hi : i < ws.length), (wc ws)[i * 2]? = some (.int .i64 ws[i].1) ∧ (wc ws)[i * 2 + 1]? = some (.int .i64 ws[i].2)
  | [], _, h => by simp at h
  | w :: l, 0, _ => ⟨rfl, rfl⟩
  | w :: l, i + 1, h => by
    have := wc_at l i (by simpa using h)
    rw [wc, show (i + 1) * 2 = i * 2 + 1 + 1 by omega]
    exact this
theorem wc_set0 : ∀ (ws : List (Int × Int)) (i : Nat) (x : Int) (hi : i < ws.length), (wc ws).set (i * 2) (.int .i64 x) = wc (ws.set i (x, ws[i].2))
  | [], _, _, h => by simp at h
  | w :: l, 0, _, _ => rfl
  | w :: l, i + 1, x, h => by
    have := wc_set0 l i x (by simpa using h)
    rw [wc, show (i + 1) * 2 = i * 2 + 1 + 1 by omega, List.set_cons_succ, List.set_cons_succ, this]
    rfl
theorem wc_set1 : ∀ (ws : List (Int × Int)) (i : Nat) (x : Int) (hi : i < ws.length), (wc ws).set (i * 2 + 1) (.int .i64 x) = wc (ws.set i (ws[i].1, x))
  | [], _, _, h => by simp at h
  | w :: l, 0, _, _ => rfl
  | w :: l, i + 1, x, h => by
    have := wc_set1 l i x (by simpa using h)
    rw [wc, show (i + 1) * 2 + 1 = i * 2 + 1 + 1 + 1 by omega, List.set_cons_succ, List.set_cons_succ, this]
    rfl

/-- A slice of wires. -/
def WSl (h : PHeap) (p : PV) (ws : List (Int × Int)) : Prop :=
  (p = .nilsl ∧ ws = []) ∨ ∃ id off, p = .sl id off ws.length ∧ (off = 0 ∨ ws ≠ []) ∧ ∀ i x, (wc ws)[i]? = some x → (cellsAt h id)[off + i]? = some x
theorem WSl.keep {h h' : PHeap} {p : PV} {ws : List (Int × Int)} (s : WSl h p ws) (hk : Keep h.length h h') : WSl h' p ws := by
  rcases s with s | ⟨id, off, hp, hz, hc⟩
  · exact .inl s
  · exact .inr ⟨id, off, hp, hz, fun i x hx => by rw [cellsAt_keep hk (lt_of_cell (hc i x hx))]; exact hc i x hx⟩
theorem WSl.plain1 {h : PHeap} {p : PV} {ws : List (Int × Int)} (s : WSl h p ws) : plain1 p p = true := by
  rcases s with ⟨rfl, _⟩ | ⟨id, off, rfl, hz, _⟩
  · rfl
  · have h0 : off = 0 ∨ 0 < ws.length := hz.imp (fun e => e) fun e => List.length_pos_iff.2 e
    simp only [Ip.plain1, decide_true, Bool.true_and, Bool.or_eq_true, decide_eq_true_eq]
    exact h0
/-- One that the call itself made, from object n on. -/
def OwnW (n : Nat) (h : PHeap) (p : PV) (ws : List (Int × Int)) : Prop :=
  (p = .nilsl ∧ ws = []) ∨ ∃ id, n ≤ id ∧ p = .sl id 0 ws.length ∧ h[id]? = some (.own 2 (wc ws))
theorem OwnW.sl {n : Nat} {h : PHeap} {p : PV} {ws : List (Int × Int)} (s : OwnW n h p ws) : WSl h p ws := by
  rcases s with s | ⟨id, _, hp, ho⟩
  · exact .inl s
  · refine .inr ⟨id, 0, hp, .inl rfl, fun i x hx => ?_⟩
    simp [cellsAt, ho, PObj.get, hx]
theorem OwnW.mono {n m : Nat} {h : PHeap} {p : PV} {ws : List (Int × Int)} (s : OwnW n h p ws) (hm : m ≤ n) : OwnW m h p ws := by
  rcases s with s | ⟨id, h1, h2⟩
  · exact .inl s
  · exact .inr ⟨id, by omega, h2⟩
theorem OwnW.keep {n : Nat} {h h' : PHeap} {p : PV} {ws : List (Int × Int)} (s : OwnW n h p ws) (hk : Keep h.length h h') : OwnW n h' p ws := by
  rcases s with s | ⟨id, h1, h2, h3⟩
  · exact .inl s
  · exact .inr ⟨id, h1, h2, by rw [hk.2 id (List.getElem?_eq_some_iff.1 h3).1]; exact h3⟩
theorem OwnW.nil (n : Nat) (h : PHeap) : OwnW n h .nilsl [] := .inl ⟨rfl, rfl⟩
/-- A list of wires that whatever changes behind mark b leaves as it is. -/
def FixW (b : Nat) (h : PHeap) (p : PV) (ws : List (Int × Int)) : Prop := ∀ h', Keep b h h' → WSl h' p ws
theorem FixW.now {b : Nat} {h : PHeap} {p : PV} {ws : List (Int × Int)} (s : FixW b h p ws) : WSl h p ws := s h (Keep.refl _ _)
theorem FixW.keep {b : Nat} {h h' : PHeap} {p : PV} {ws : List (Int × Int)} (s : FixW b h p ws) (k : Keep b h h') : FixW b h' p ws := fun h2 k2 => s h2 (k.trans k2)
theorem FixW.mono {b b' : Nat} {h : PHeap} {p : PV} {ws : List (Int × Int)} (s : FixW b h p ws) (hb : b ≤ b') : FixW b' h p ws := fun h2 k2 => s h2 (k2.mono hb)
theorem FixW.get {b : Nat} {h h' : PHeap} {p : PV} {ws : List (Int × Int)} (s : FixW b h p ws) (k : Keep b h h') : WSl h' p ws := s h' k

theorem twS : Try.prog.underlying 25 = some (.slice 30) := by kernel_rfl
theorem twSize : sizeT Try.prog 30 = some 2 := by kernel_rfl
theorem twAgg : isAggT Try.prog 30 = some true := by kernel_rfl
theorem twElem : elemT Try.prog 25 = some 30 := by kernel_rfl
theorem twZero : zeroCellsT Try.prog 30 = some [.int .i64 0, .int .i64 0] := by kernel_rfl
theorem twSmall : smallT Try.prog 30 = true := by kernel_rfl
theorem twFA (id off : Nat) : fieldAddrP Try.prog 30 (.ptr id off) 0 = some (.ptr id (off + 0)) := by kernel_rfl
theorem twFB (id off : Nat) : fieldAddrP Try.prog 30 (.ptr id off) 1 = some (.ptr id (off + 1)) := by kernel_rfl

section
variable {Q : PV → PHeap → Prop} {h : PHeap} {p : PV} {ws : List (Int × Int)}
theorem WSl.len (s : WSl h p ws) : lenP Try.prog 25 p = some (.int .i64 ws.length) := by
  rcases s with ⟨rfl, rfl⟩ | ⟨id, off, rfl, hz, hc⟩ <;> simp [lenP, twS]
/-- A wire's place, and what is read there. -/
theorem WSl.at (s : WSl h p ws) {i : Nat} (hi : i < ws.length) : ∃ id off, indexAddrP Try.prog 25 p (.int .i64 (i : Int)) = some (.ptr id off) ∧
    loadP Try.prog 30 (.ptr id off) h = some (.agg [.int .i64 ws[i].1, .int .i64 ws[i].2]) ∧
    loadP Try.prog 3 (.ptr id (off + 0)) h = some (.int .i64 ws[i].1) ∧ loadP Try.prog 3 (.ptr id (off + 1)) h = some (.int .i64 ws[i].2) := by
  rcases s with ⟨rfl, rfl⟩ | ⟨id, off, rfl, hz, hc⟩
  · simp at hi
  · obtain ⟨h0, h1⟩ := wc_at ws i hi
    have c0 := hc _ _ h0
    have c1 := hc _ _ h1
    refine ⟨id, off + i * 2, ?_, ?_, ?_, ?_⟩
    · simp [indexAddrP, twS, twSize, hi]
    · simp only [loadP, twAgg, twSize]
      have hl := (List.getElem?_eq_some_iff.1 c1).1
      rw [if_pos (by omega)]
      congr 2
      obtain ⟨_, c0⟩ := List.getElem?_eq_some_iff.1 c0
      obtain ⟨_, c1⟩ := List.getElem?_eq_some_iff.1 c1
      rw [List.drop_eq_getElem_cons (by omega), List.drop_eq_getElem_cons (by omega)]
      simp only [List.take_succ_cons, List.take_zero]
      rw [c0]
      congr 2
    · simp only [loadP, tyAgg, Nat.add_zero]; exact c0
    · simp only [loadP, tyAgg, Nat.add_assoc]; exact c1
theorem wfa0 {id off : Nat} {f : PV → Res} (hf : W (f (.ptr id (off + 0))) Q) : W ((fieldAddrP Try.prog 30 (.ptr id off) 0).bind f) Q := wbd (twFA id off) hf
theorem wfa1 {id off : Nat} {f : PV → Res} (hf : W (f (.ptr id (off + 1))) Q) : W ((fieldAddrP Try.prog 30 (.ptr id off) 1).bind f) Q := wbd (twFB id off) hf
theorem wresW {n : Nat} (s : OwnW n h p ws) {f : PV → Res} (hf : W (f p) Q) : W ((resV p).bind f) Q := by
  rcases s with ⟨rfl, rfl⟩ | ⟨id, _, rfl, _⟩ <;> exact hf
/-- A wire of its own: an object of two cells. -/
def AtW (h : PHeap) (id : Nat) (a b : Int) : Prop := h[id]? = some (.own 1 [.int .i64 a, .int .i64 b])
theorem AtW.lt {id : Nat} {a b : Int} (s : AtW h id a b) : id < h.length := (List.getElem?_eq_some_iff.1 s).1
theorem AtW.keep {h' : PHeap} {id : Nat} {a b : Int} (s : AtW h id a b) (k : Keep h.length h h') : AtW h' id a b := by unfold AtW; rw [k.2 id s.lt]; exact s
theorem AtW.l0 {id : Nat} {a b : Int} (s : AtW h id a b) : loadP Try.prog 3 (.ptr id (0 + 0)) h = some (.int .i64 a) := by
  simp only [loadP, tyAgg, cellsAt]; rw [show h[id]? = _ from s]; rfl
theorem AtW.l1 {id : Nat} {a b : Int} (s : AtW h id a b) : loadP Try.prog 3 (.ptr id (0 + 1)) h = some (.int .i64 b) := by
  simp only [loadP, tyAgg, cellsAt]; rw [show h[id]? = _ from s]; rfl
theorem AtW.all {id : Nat} {a b : Int} (s : AtW h id a b) : loadP Try.prog 30 (.ptr id 0) h = some (.agg [.int .i64 a, .int .i64 b]) := by
  have hc : cellsAt h id = [.int .i64 a, .int .i64 b] := by unfold cellsAt; rw [show h[id]? = _ from s]; rfl
  simp only [loadP, twAgg, twSize, hc]; rfl
theorem walW {F : PV × PHeap → Res} (hf : ∀ h' id, AtW h' id 0 0 → Keep h.length h h' → h.length ≤ id → W (F (.ptr id 0, h')) Q) : W ((allocP Try.prog 30 h).bind F) Q := by
  have : allocP Try.prog 30 h = some (.ptr h.length 0, h ++ [.own 1 [.int .i64 0, .int .i64 0]]) := by unfold allocP; rw [twZero]; rfl
  exact wbd this (hf _ _ (by unfold AtW; simp) (Keep.append _ _ _ (Nat.le_refl _)) (Nat.le_refl _))
theorem wboxW {a b : Int} {F : PV × PHeap → Res} (hf : ∀ h' id, AtW h' id a b → Keep h.length h h' → h.length ≤ id → W (F (.ptr id 0, h')) Q) : W ((boxP (.agg [.int .i64 a, .int .i64 b]) h).bind F) Q :=
  wbd (show boxP (.agg [.int .i64 a, .int .i64 b]) h = some (.ptr h.length 0, h ++ [.own 1 [.int .i64 a, .int .i64 b]]) from rfl) (hf _ _ (by unfold AtW; simp) (Keep.append _ _ _ (Nat.le_refl _)) (Nat.le_refl _))
/-- The whole wire is written. -/
theorem wstW {id n : Nat} {a b x y : Int} (s : AtW h id x y) (hn : n ≤ id) {F : PHeap → Res} (hf : ∀ h', AtW h' id a b → Keep n h h' → h'.length = h.length → W (F h') Q) : W ((storeP Try.prog 30 (.ptr id 0) (.agg [.int .i64 a, .int .i64 b]) h).bind F) Q := by
  have hl := s.lt
  have : storeP Try.prog 30 (.ptr id 0) (.agg [.int .i64 a, .int .i64 b]) h = some (h.set id (.own 1 [.int .i64 a, .int .i64 b])) := by
    simp only [storeP]; rw [show h[id]? = _ from s, twSize]; rfl
  exact wbd this (hf _ (by unfold AtW; rw [List.getElem?_set_self hl]) (Keep.set _ _ _ _ hn) (by simp))
theorem wst0 {id n : Nat} {a x y : Int} (s : AtW h id x y) (hn : n ≤ id) {F : PHeap → Res} (hf : ∀ h', AtW h' id a y → Keep n h h' → h'.length = h.length → W (F h') Q) : W ((storeP Try.prog 3 (.ptr id (0 + 0)) (.int .i64 a) h).bind F) Q := by
  have hl := s.lt
  have : storeP Try.prog 3 (.ptr id (0 + 0)) (.int .i64 a) h = some (h.set id (.own 1 [.int .i64 a, .int .i64 y])) := by
    simp only [storeP]; rw [show h[id]? = _ from s, tySize]; rfl
  exact wbd this (hf _ (by unfold AtW; rw [List.getElem?_set_self hl]) (Keep.set _ _ _ _ hn) (by simp))
theorem wst1w {id n : Nat} {a x y : Int} (s : AtW h id x y) (hn : n ≤ id) {F : PHeap → Res} (hf : ∀ h', AtW h' id x a → Keep n h h' → h'.length = h.length → W (F h') Q) : W ((storeP Try.prog 3 (.ptr id (0 + 1)) (.int .i64 a) h).bind F) Q := by
  have hl := s.lt
  have : storeP Try.prog 3 (.ptr id (0 + 1)) (.int .i64 a) h = some (h.set id (.own 1 [.int .i64 x, .int .i64 a])) := by
    simp only [storeP]; rw [show h[id]? = _ from s, tySize]; rfl
  exact wbd this (hf _ (by unfold AtW; rw [List.getElem?_set_self hl]) (Keep.set _ _ _ _ hn) (by simp))

/-- A wire of a slice is written: whole, or one of its ends. -/
theorem OwnW.store {n : Nat} (s : OwnW n h p ws) {i : Nat} (hi : i < ws.length) : ∃ id, n ≤ id ∧ indexAddrP Try.prog 25 p (.int .i64 (i : Int)) = some (.ptr id (i * 2)) ∧
    (∀ a b, ∃ h', storeP Try.prog 30 (.ptr id (i * 2)) (.agg [.int .i64 a, .int .i64 b]) h = some h' ∧ OwnW n h' p (ws.set i (a, b)) ∧ Keep n h h' ∧ h'.length = h.length) ∧
    (∀ a, ∃ h', storeP Try.prog 3 (.ptr id (i * 2 + 0)) (.int .i64 a) h = some h' ∧ OwnW n h' p (ws.set i (a, ws[i].2)) ∧ Keep n h h' ∧ h'.length = h.length) ∧
    (∀ b, ∃ h', storeP Try.prog 3 (.ptr id (i * 2 + 1)) (.int .i64 b) h = some h' ∧ OwnW n h' p (ws.set i (ws[i].1, b)) ∧ Keep n h h' ∧ h'.length = h.length) := by
  rcases s with ⟨rfl, rfl⟩ | ⟨id, h1, rfl, h3⟩
  · simp at hi
  · have hid : id < h.length := (List.getElem?_eq_some_iff.1 h3).1
    have hwl := wc_length ws
    refine ⟨id, h1, by simp [indexAddrP, twS, twSize, hi], fun a b => ?_, fun a => ?_, fun b => ?_⟩
    · refine ⟨h.set id (.own 2 (wc (ws.set i (a, b)))), ?_, .inr ⟨id, h1, by simp, by rw [List.getElem?_set_self hid]⟩, Keep.set _ _ _ _ h1, by simp⟩
      have e1 := wc_set0 ws i a hi
      have e2 := wc_set1 (ws.set i (a, ws[i].2)) i b (by rw [List.length_set]; exact hi)
      rw [← e1, List.getElem_set_self, List.set_set] at e2
      simp only [storeP, h3, twSize]
      show (if 2 = 2 ∧ i * 2 + 2 ≤ (wc ws).length then some (h.set id (.own 2 (setCells (wc ws) (i * 2) [.int .i64 a, .int .i64 b]))) else none) = _
      rw [if_pos ⟨rfl, by omega⟩]
      simp only [setCells]
      rw [e2]
    · refine ⟨h.set id (.own 2 (wc (ws.set i (a, ws[i].2)))), ?_, .inr ⟨id, h1, by simp, by rw [List.getElem?_set_self hid]⟩, Keep.set _ _ _ _ h1, by simp⟩
      simp only [storeP, h3, tySize]
      show (if 1 = 1 ∧ i * 2 + 0 + 1 ≤ (wc ws).length then some (h.set id (.own 2 (setCells (wc ws) (i * 2 + 0) [.int .i64 a]))) else none) = _
      rw [if_pos ⟨rfl, by omega⟩]
      simp only [setCells, Nat.add_zero]
      rw [wc_set0 ws i a hi]
    · refine ⟨h.set id (.own 2 (wc (ws.set i (ws[i].1, b)))), ?_, .inr ⟨id, h1, by simp, by rw [List.getElem?_set_self hid]⟩, Keep.set _ _ _ _ h1, by simp⟩
      simp only [storeP, h3, tySize]
      show (if 1 = 1 ∧ i * 2 + 1 + 1 ≤ (wc ws).length then some (h.set id (.own 2 (setCells (wc ws) (i * 2 + 1) [.int .i64 b]))) else none) = _
      rw [if_pos ⟨rfl, by omega⟩]
      simp only [setCells]
      rw [wc_set1 ws i b hi]
theorem wmakeW {m : Nat} (hm : m ≤ 2 ^ 36) {F : PV × PHeap → Res} (hf : ∀ p h', OwnW h.length h' p (List.replicate m (0, 0)) → Keep h.length h h' → W (F (p, h')) Q) :
    W ((makeP Try.prog 25 (.int .i64 (m : Int)) (.int .i64 (m : Int)) h).bind F) Q := by
  have hrep : ∀ k : Nat, repeatCells [PV.int .i64 0, .int .i64 0] k = wc (List.replicate k ((0 : Int), (0 : Int))) := by
    intro k
    induction k with
    | zero => rfl
    | succ k ih => rw [repeatCells, ih, List.replicate_succ]; rfl
  have hm' : (m : Int) ≤ 68719476736 := by omega
  refine wbd (v := (.sl h.length 0 m, h ++ [.own 2 (wc (List.replicate m (0, 0)))])) ?_ (hf _ _ (.inr ⟨h.length, Nat.le_refl _, by simp, by simp⟩) (Keep.append _ _ _ (Nat.le_refl _)))
  simp [makeP, twElem, twSize, twZero, twSmall, hm', hrep]
end

end Go.Proofs.Ytihlmjapddjjjab

/- The model's chapter 3: what MoveOk, Played, WinnerOf, WinningCells and LinePlayed of it compute. -/
set_option maxRecDepth 20000
namespace Go.Proofs.Ytihlmjapddjjjab
open Go Go.Ip G

variable (g : Nat → PV) (lf n : Nat)

/-! ### the solver -/
end Go.Proofs.Ytihlmjapddjjjab

/- The model's chapter 9, first part: nets, what is come to, links, owners and who has won. -/
set_option maxRecDepth 20000
namespace Go.Proofs.Ytihlmjapddjjjab
open Go Go.Ip G

section
variable {Q : PV → PHeap → Prop} {x : Nat} {f : PV → Res}
end
variable (g : Nat → PV) (lf n : Nat)

theorem specWiresOk_calls {ws : List (Int × Int)} {p : PV} {h : PHeap} (N : Nat) (hN : 3 ≤ N) (nodes : Int) (hp : WSl h p ws) (hl : ws.length ≤ 2 ^ 35) (hf : ws.length < lf) :
    ∃ h', CL g lf N fn_spec_WiresOk [.int .i64 nodes, p] h = some (.bool (wiresB nodes ws), h') ∧ Keep h.length h h' := by
  obtain ⟨n, rfl⟩ : ∃ n, N = n + 1 := ⟨N - 1, by omega⟩
  have : W (CL g lf (n + 1) fn_spec_WiresOk [.int .i64 nodes, p] h) fun v h' => v = .bool (wiresB nodes ws) ∧ Keep h.length h h' := by
    rw [spec_WiresOk.call_eq]
    unfold spec_WiresOk.main
    simp only [env_lf]
    refine loopW (fun m s => ∃ (k : Nat) (h1 : PHeap), s = spec_WiresOk.st0 (.int .i64 nodes) p (.int .i64 (k : Int)) h1 ∧ k + m = ws.length ∧ (ws.all (goodW nodes) = (ws.drop k).all (goodW nodes)) ∧ Keep h.length h h1) ?_ lf ws.length _ hf ⟨0, h, rfl, by omega, rfl, Keep.refl _ _⟩
    rintro n1 m s ⟨k, h1, rfl, hkm, hall, k1⟩ next
    have hp1 := hp.keep k1
    have hlen := hp1.len
    rw [spec_WiresOk.body0_eq]
    unfold spec_WiresOk.body0
    simp only [env_pick, env_alloc, env_load, env_store, env_bin, env_fieldAddr, env_indexAddr, env_len]
    cases m with
    | zero =>
      have hin : ∀ hh, CL g lf n fn_spec_l1In [.int .i64 nodes, .int .i64 2, .int .i64 5] hh = some (.bool (decide (2 ≤ nodes ∧ nodes ≤ 5)), hh) := fun hh => l1In_N g lf n (by omega) hh nodes 2 5
      have hin1 := hin h1
      rw [List.drop_eq_nil_of_le (by omega), List.all_nil] at hall
      cases hd : decide (2 ≤ nodes ∧ nodes ≤ 5) with
      | false =>
        rw [hd] at hin1
        repeat (first | with_reducible refine wF ?_ | with_reducible refine wg0 rfl ?_ | with_reducible refine wpF ?_ | with_reducible refine wsm ?_ | with_reducible refine wrB ?_ | with_reducible refine wbd (by assumption) ?_ | with_reducible refine wlssF (by omega) ?_ | rw [kLoop_exit] | rw [spec_WiresOk.after0_se0_0_1_5_10] | dsimp only | simp only [env_C, env_Y, env_g, env_lf, env_pick, env_alloc, env_box, env_build, env_buildSlice, env_load, env_store, env_ptr, env_bin, env_un, env_conv, env_make, env_slice, env_fieldAddr, env_field, env_indexAddr, env_index, env_extract, env_len, env_append, env_max, env_min, env_makeMap, env_lookup, env_update, env_clos, env_bstr])
        exact W.ret ⟨by unfold wiresB; rw [hall, hd]; rfl, k1⟩
      | true =>
        rw [hd] at hin1
        by_cases h8 : ws.length ≤ 8
        · repeat (first | with_reducible refine wF ?_ | with_reducible refine wg1 rfl ?_ | with_reducible refine wpT ?_ | with_reducible refine wpv ?_ | with_reducible refine wsm ?_ | with_reducible refine wrB ?_ | with_reducible refine wbd (by assumption) ?_ | with_reducible refine wlssF (by omega) ?_ | with_reducible refine wleqT (by omega) ?_ | rw [kLoop_exit] | rw [spec_WiresOk.after0_se0_0_1_5_10] | dsimp only | simp only [env_C, env_Y, env_g, env_lf, env_pick, env_alloc, env_box, env_build, env_buildSlice, env_load, env_store, env_ptr, env_bin, env_un, env_conv, env_make, env_slice, env_fieldAddr, env_field, env_indexAddr, env_index, env_extract, env_len, env_append, env_max, env_min, env_makeMap, env_lookup, env_update, env_clos, env_bstr])
          exact W.ret ⟨by unfold wiresB; rw [hall, hd, decide_eq_true h8]; rfl, k1⟩
        · repeat (first | with_reducible refine wF ?_ | with_reducible refine wg1 rfl ?_ | with_reducible refine wpT ?_ | with_reducible refine wpv ?_ | with_reducible refine wsm ?_ | with_reducible refine wrB ?_ | with_reducible refine wbd (by assumption) ?_ | with_reducible refine wlssF (by omega) ?_ | with_reducible refine wleqF (by omega) ?_ | rw [kLoop_exit] | rw [spec_WiresOk.after0_se0_0_1_5_10] | dsimp only | simp only [env_C, env_Y, env_g, env_lf, env_pick, env_alloc, env_box, env_build, env_buildSlice, env_load, env_store, env_ptr, env_bin, env_un, env_conv, env_make, env_slice, env_fieldAddr, env_field, env_indexAddr, env_index, env_extract, env_len, env_append, env_max, env_min, env_makeMap, env_lookup, env_update, env_clos, env_bstr])
          exact W.ret ⟨by unfold wiresB; rw [hall, hd, decide_eq_false h8]; rfl, k1⟩
    | succ m =>
      have hk : k < ws.length := by omega
      have hdx : ws.drop k = ws[k] :: ws.drop (k + 1) := List.drop_eq_getElem_cons hk
      obtain ⟨id, off, e0, l0, _, _⟩ := hp1.at hk
      obtain ⟨⟨A, B⟩, hw⟩ : ∃ w, w = ws[k] := ⟨_, rfl⟩
      rw [← hw] at l0 hdx
      rw [hdx, List.all_cons] at hall
      repeat (first | with_reducible refine wT ?_ | with_reducible refine wbd (by assumption) ?_ | (refine walW fun h2 i2 a2 k2 ii2 => ?_) | (refine wstW a2 ii2 fun h3 a3 k3 hl3 => ?_) | with_reducible refine wlssT (by omega) ?_ | dsimp only)
      have l3 := a3.l0
      have l4 := a3.l1
      have K3 : Keep h.length h h3 := k1.trans ((k2.trans k3).mono k1.1)
      have done : ∀ b, goodW nodes (A, B) = b → (b = false → W (spec_WiresOk.K0 (env g lf n) (kTop Try.prog Try.f5) .ret (spec_WiresOk.sr_4 (.bool false) h3)) fun v h' => v = .bool (wiresB nodes ws) ∧ Keep h.length h h') := by
        intro b hb hbf
        rw [hb, hbf, Bool.false_and] at hall
        rw [spec_WiresOk.K0_ret, spec_WiresOk.top_sr_4]
        repeat (first | with_reducible refine wrB ?_)
        exact W.ret ⟨by unfold wiresB; rw [hall]; rfl, K3⟩
      by_cases c1 : A < 0
      · repeat (first | with_reducible refine wT ?_ | with_reducible refine wg0 rfl ?_ | with_reducible refine wpT ?_ | with_reducible refine wsm ?_ | with_reducible refine wbd (by assumption) ?_ | (with_reducible refine wfa0 ?_) | with_reducible refine wlssT (by omega) ?_ | rw [kLoop_ret] | dsimp only)
        exact done false (decide_eq_false (fun hh => by have := hh.1; simp only at this; omega)) rfl
      · by_cases c2 : nodes ≤ A
        · repeat (first | with_reducible refine wT ?_ | with_reducible refine wg1 rfl ?_ | with_reducible refine wg0 rfl ?_ | with_reducible refine wpT ?_ | with_reducible refine wpF ?_ | with_reducible refine wpv ?_ | with_reducible refine wsm ?_ | with_reducible refine wbd (by assumption) ?_ | (with_reducible refine wfa0 ?_) | with_reducible refine wlssF (by omega) ?_ | with_reducible refine wgeqT (by omega) ?_ | rw [kLoop_ret] | dsimp only)
          exact done false (decide_eq_false (fun hh => by have := hh.2.1; simp only at this; omega)) rfl
        · by_cases c3 : B < 0
          · repeat (first | with_reducible refine wT ?_ | with_reducible refine wg1 rfl ?_ | with_reducible refine wg0 rfl ?_ | with_reducible refine wpT ?_ | with_reducible refine wpF ?_ | with_reducible refine wpv ?_ | with_reducible refine wsm ?_ | with_reducible refine wbd (by assumption) ?_ | (with_reducible refine wfa0 ?_) | (with_reducible refine wfa1 ?_) | with_reducible refine wlssT (by omega) ?_ | with_reducible refine wlssF (by omega) ?_ | with_reducible refine wgeqF (by omega) ?_ | rw [kLoop_ret] | dsimp only)
            exact done false (decide_eq_false (fun hh => by have := hh.2.2.1; simp only at this; omega)) rfl
          · by_cases c4 : nodes ≤ B
            · repeat (first | with_reducible refine wT ?_ | with_reducible refine wg1 rfl ?_ | with_reducible refine wg0 rfl ?_ | with_reducible refine wpT ?_ | with_reducible refine wpF ?_ | with_reducible refine wpv ?_ | with_reducible refine wsm ?_ | with_reducible refine wbd (by assumption) ?_ | (with_reducible refine wfa0 ?_) | (with_reducible refine wfa1 ?_) | with_reducible refine wlssF (by omega) ?_ | with_reducible refine wgeqT (by omega) ?_ | with_reducible refine wgeqF (by omega) ?_ | rw [kLoop_ret] | dsimp only)
              exact done false (decide_eq_false (fun hh => by have := hh.2.2.2.1; simp only at this; omega)) rfl
            · by_cases c5 : A = B
              · repeat (first | with_reducible refine wT ?_ | with_reducible refine wg1 rfl ?_ | with_reducible refine wpF ?_ | with_reducible refine wpv ?_ | with_reducible refine wsm ?_ | with_reducible refine wbd (by assumption) ?_ | (with_reducible refine wfa0 ?_) | (with_reducible refine wfa1 ?_) | with_reducible refine wlssF (by omega) ?_ | with_reducible refine wgeqF (by omega) ?_ | with_reducible refine weqlT (by omega) ?_ | rw [kLoop_ret] | dsimp only)
                exact done false (decide_eq_false (fun hh => hh.2.2.2.2 c5)) rfl
              · repeat (first | with_reducible refine wF ?_ | with_reducible refine wg1 rfl ?_ | with_reducible refine wpF ?_ | with_reducible refine wpv ?_ | with_reducible refine wsm ?_ | with_reducible refine wbd (by assumption) ?_ | (with_reducible refine wfa0 ?_) | (with_reducible refine wfa1 ?_) | with_reducible refine wadd1 (by omega) ?_ | with_reducible refine wlssF (by omega) ?_ | with_reducible refine wgeqF (by omega) ?_ | with_reducible refine weqlF (by omega) ?_ | dsimp only)
                refine next _ _ (Nat.lt_succ_self m) ⟨k + 1, h3, rfl, by omega, ?_, K3⟩
                have hg : goodW nodes (A, B) = true := decide_eq_true ⟨by simp only; omega, by simp only; omega, by simp only; omega, by simp only; omega, c5⟩
                rw [hall, hg, Bool.true_and]
  obtain ⟨_, h', e, rfl, k⟩ := this
  exact ⟨h', e, k⟩

/-! ### what is come to -/
/-! ### links, owners, who has won -/
end Go.Proofs.Ytihlmjapddjjjab

/- The model's chapter 9, second part: who wins, which wires win, least links and cuts, the gap. -/
set_option maxRecDepth 20000
namespace Go.Proofs.Ytihlmjapddjjjab
open Go Go.Ip G

variable (g : Nat → PV) (lf n : Nat)

/-! ### wires that win -/
end Go.Proofs.Ytihlmjapddjjjab

/- The model's chapter 9, third part: least links and cuts, and the gap. -/
set_option maxRecDepth 20000
namespace Go.Proofs.Ytihlmjapddjjjab
open Go Go.Ip G

variable (g : Nat → PV) (lf n : Nat)

/-! ### the gap -/
end Go.Proofs.Ytihlmjapddjjjab

/- The draws of chapter 9: nodes, wires, owners, sets. -/
set_option maxRecDepth 20000
namespace Go.Proofs.Ytihlmjapddjjjab
open Go Go.Ip G

variable (g : Nat → PV) (lf n : Nat)

end Go.Proofs.Ytihlmjapddjjjab

/- The laws' helpers on slices of wires: copied, compared, marked. -/
set_option maxRecDepth 20000
namespace Go.Proofs.Ytihlmjapddjjjab
open Go Go.Ip G

theorem plain_agg2 {k : IntKind} {a b : Int} : plainEq (.agg [.int k a, .int k b]) (.agg [.int k a, .int k b]) = true := by simp [plainEq, plainL, plain1]
theorem wsubV {Q : PV → PHeap → Prop} {P : Program} {t : TypeId} {a b : Int} {f : PV → Res} (h : -9223372036854775808 ≤ a - b ∧ a - b ≤ 9223372036854775807) (hf : W (f (.int .i64 (a - b))) Q) : W ((binP P .sub t (.int .i64 a) (.int .i64 b)).bind f) Q := wbd (by rw [bin_sub, wr (by omega)]) hf
theorem tlS : Try.prog.underlying 22 = some (.slice 33) := by kernel_rfl
theorem tlSize : sizeT Try.prog 33 = some 2 := by kernel_rfl
theorem tlAgg : isAggT Try.prog 33 = some true := by kernel_rfl
theorem tlFA (id off : Nat) : fieldAddrP Try.prog 33 (.ptr id off) 0 = some (.ptr id (off + 0)) := by kernel_rfl
theorem tlFB (id off : Nat) : fieldAddrP Try.prog 33 (.ptr id off) 1 = some (.ptr id (off + 1)) := by kernel_rfl
section
variable {Q : PV → PHeap → Prop} {h : PHeap} {p : PV} {ws : List (Int × Int)}
theorem wla0 {id off : Nat} {f : PV → Res} (hf : W (f (.ptr id (off + 0))) Q) : W ((fieldAddrP Try.prog 33 (.ptr id off) 0).bind f) Q := wbd (tlFA id off) hf
theorem wla1 {id off : Nat} {f : PV → Res} (hf : W (f (.ptr id (off + 1))) Q) : W ((fieldAddrP Try.prog 33 (.ptr id off) 1).bind f) Q := wbd (tlFB id off) hf
theorem WSl.lenL (s : WSl h p ws) : lenP Try.prog 22 p = some (.int .i64 ws.length) := by
  rcases s with ⟨rfl, rfl⟩ | ⟨id, off, rfl, hz, hc⟩ <;> simp [lenP, tlS]
theorem WSl.atL (s : WSl h p ws) {i : Nat} (hi : i < ws.length) : ∃ a, indexAddrP Try.prog 22 p (.int .i64 (i : Int)) = some a ∧
    loadP Try.prog 33 a h = some (.agg [.int .i64 ws[i].1, .int .i64 ws[i].2]) := by
  obtain ⟨id, off, e0, l0, _, _⟩ := s.at hi
  rcases s with ⟨rfl, rfl⟩ | ⟨id', off', rfl, hz, hc⟩
  · simp at hi
  · refine ⟨.ptr id off, ?_, ?_⟩
    · simp only [indexAddrP, twS, twSize] at e0
      simp only [indexAddrP, tlS, tlSize]
      exact e0
    · simp only [loadP, twAgg, twSize] at l0
      simp only [loadP, tlAgg, tlSize]
      exact l0
end

theorem AtW.keepN {h h' : PHeap} {id m : Nat} {a b : Int} (s : AtW h id a b) (k : Keep m h h') (hm : id < m) : AtW h' id a b := by unfold AtW; rw [k.2 id hm]; exact s

variable (g : Nat → PV) (lf n : Nat)

theorem toWire_W {a b : Int} (h : PHeap) (N : Nat) (hN : 1 ≤ N) : ∃ h', CL g lf N fn_laws_toWire [.agg [.int .i64 a, .int .i64 b]] h = some (.agg [.int .i64 a, .int .i64 b], h') ∧ Keep h.length h h' := by
  obtain ⟨n, rfl⟩ : ∃ n, N = n + 1 := ⟨N - 1, by omega⟩
  have : W (CL g lf (n + 1) fn_laws_toWire [.agg [.int .i64 a, .int .i64 b]] h) fun v h' => v = .agg [.int .i64 a, .int .i64 b] ∧ Keep h.length h h' := by
    rw [laws_toWire.call_eq]
    unfold laws_toWire.main
    simp only [env_alloc, env_box, env_load, env_store, env_fieldAddr]
    refine wboxW fun h1 i1 a1 k1 j1 => ?_
    dsimp only
    refine walW fun h2 i2 a2 k2 j2 => ?_
    dsimp only
    refine walW fun h3 i3 a3 k3 j3 => ?_
    dsimp only
    have hi1 : i1 < h2.length := (a1.keep k2).lt
    have hi2 : i2 < h2.length := a2.lt
    have a13 := (a1.keep k2).keep k3
    have a23 := a2.keep k3
    have l1 := a13.l0
    have hl01 : h.length ≤ h1.length := k1.1
    have hl12 : h1.length ≤ h2.length := k2.1
    have K3 : Keep h.length h h3 := (k1.trans (k2.mono k1.1)).trans (k3.mono (Nat.le_trans k1.1 k2.1))
    repeat (first | with_reducible refine wbd (by assumption) ?_ | (with_reducible refine wla0 ?_) | (with_reducible refine wfa0 ?_))
    refine wst0 a3 j3 fun h4 a4 k4 hl4 => ?_
    have l2 := (a13.keepN k4 hi1).l1
    repeat (first | with_reducible refine wbd (by assumption) ?_ | (with_reducible refine wla1 ?_) | (with_reducible refine wfa1 ?_))
    refine wst1w a4 j3 fun h5 a5 k5 hl5 => ?_
    have a25 := (a23.keepN k4 hi2).keepN k5 hi2
    have l3 := a5.all
    repeat (first | with_reducible refine wbd (by assumption) ?_)
    refine wstW a25 j2 fun h6 a6 k6 hl6 => ?_
    have l4 := a6.all
    repeat (first | with_reducible refine wbd (by assumption) ?_)
    exact W.ret ⟨rfl, ((K3.trans (k4.mono (by omega))).trans (k5.mono (by omega))).trans (k6.mono hl01)⟩
  obtain ⟨_, h', e, rfl, k⟩ := this
  exact ⟨h', e, k⟩

theorem toWireS_calls {ws : List (Int × Int)} {p : PV} {h : PHeap} (N : Nat) (hN : 2 ≤ N) (hp : WSl h p ws) (hl : ws.length ≤ 2 ^ 36) (hf : ws.length < lf) :
    ∃ q h', CL g lf N fn_laws_toWireS [p] h = some (q, h') ∧ OwnW h.length h' q ws ∧ Keep h.length h h' := by
  obtain ⟨n, rfl⟩ : ∃ n, N = n + 1 := ⟨N - 1, by omega⟩
  suffices this : W (CL g lf (n + 1) fn_laws_toWireS [p] h) fun q h' => OwnW h.length h' q ws ∧ Keep h.length h h' by
    obtain ⟨q, h', e, o, k⟩ := this
    exact ⟨q, h', e, o, k⟩
  have hlen := hp.lenL
  rw [laws_toWireS.call_eq]
  unfold laws_toWireS.main
  simp only [env_lf, env_make, env_len]
  repeat (first | with_reducible refine wbd (by assumption) ?_ | (refine wmakeW hl fun q h1 o1 k1 => ?_) | dsimp only)
  refine loopW (fun m s => ∃ (k : Nat) (zs : List (Int × Int)) (h2 : PHeap), s = laws_toWireS.st0 p q (.int .i64 (k : Int)) h2 ∧ k + m = ws.length ∧ zs.length = ws.length ∧ (∀ i, i < k → zs[i]? = ws[i]?) ∧ OwnW h.length h2 q zs ∧ Keep h.length h h2) ?_ lf ws.length _ hf ⟨0, _, h1, rfl, by omega, by simp, (fun i hi => by omega), o1, k1⟩
  rintro n1 m s ⟨k, zs, h2, rfl, hkm, hz, hzi, o2, k2⟩ next
  rw [laws_toWireS.body0_eq]
  unfold laws_toWireS.body0
  simp only [env_C, env_load, env_store, env_bin, env_indexAddr, env_len]
  cases m with
  | zero =>
    have hzw : zs = ws := by
      apply List.ext_getElem?
      intro i
      by_cases hi : i < k
      · exact hzi i hi
      · rw [List.getElem?_eq_none (by omega), List.getElem?_eq_none (by omega)]
    subst hzw
    repeat (first | with_reducible refine wF ?_ | with_reducible refine wbd (by assumption) ?_ | (with_reducible refine wresW o2 ?_) | with_reducible refine wlssF (by omega) ?_ | rw [kLoop_exit] | rw [laws_toWireS.after0_se0_0_3_4_11])
    exact W.ret ⟨o2, k2⟩
  | succ m =>
    have hk : k < ws.length := by omega
    obtain ⟨a, ea, la⟩ := (hp.keep k2).atL hk
    obtain ⟨h3, e3, k3⟩ := toWire_W g lf (a := ws[k].1) (b := ws[k].2) h2 n (by omega)
    have o3 := o2.keep k3
    obtain ⟨id, j1, e4, st, _, _⟩ := o3.store (i := k) (by omega)
    obtain ⟨h4, e5, o4, k4, hl4⟩ := st ws[k].1 ws[k].2
    repeat (first | with_reducible refine wT ?_ | with_reducible refine wbd (by assumption) ?_ | with_reducible refine wadd1 (by omega) ?_ | with_reducible refine wlssT (by omega) ?_)
    refine next _ _ (Nat.lt_succ_self m) ⟨k + 1, _, h4, rfl, by omega, by rw [List.length_set]; exact hz, fun i hi => ?_, o4, (k2.trans (k3.mono k2.1)).trans k4⟩
    by_cases hik : i = k
    · subst hik
      rw [List.getElem?_set_self (by omega), List.getElem?_eq_getElem hk]
    · rw [List.getElem?_set_ne (by omega)]; exact hzi i (by omega)

theorem szWireS_N {ws : List (Int × Int)} {p : PV} {h : PHeap} (N : Nat) (hN : 1 ≤ N) (hp : WSl h p ws) (hl : ws.length ≤ 9223372036854775807) :
    CL g lf N fn_laws_szWireS [p, .int .i64 1048576] h = some (.int .i64 (if (1048576 : Int) < (ws.length : Int) then -1 else 1048576 - (ws.length : Int)), h) := by
  obtain ⟨n, rfl⟩ : ∃ n, N = n + 1 := ⟨N - 1, by omega⟩
  have hlen := hp.lenL
  have : W (CL g lf (n + 1) fn_laws_szWireS [p, .int .i64 1048576] h) fun v h' => v = .int .i64 (if (1048576 : Int) < (ws.length : Int) then -1 else 1048576 - (ws.length : Int)) ∧ h' = h := by
    rw [laws_szWireS.call_eq]
    unfold laws_szWireS.main
    simp only [env_bin, env_len]
    by_cases hb : (1048576 : Int) < (ws.length : Int)
    · rw [if_pos hb]
      repeat (first | with_reducible refine wT ?_ | with_reducible refine wrI ?_ | with_reducible refine wbd (by assumption) ?_ | (with_reducible refine wsubV (by omega) ?_) | with_reducible refine wlssT (by omega) ?_)
      exact W.ret ⟨rfl, rfl⟩
    · rw [if_neg hb]
      repeat (first | with_reducible refine wF ?_ | with_reducible refine wrI ?_ | with_reducible refine wbd (by assumption) ?_ | (with_reducible refine wsubV (by omega) ?_) | with_reducible refine wlssF (by omega) ?_)
      exact W.ret ⟨rfl, rfl⟩
  obtain ⟨_, _, e, rfl, rfl⟩ := this
  exact e

theorem eqWire_W (a b : Int) (h : PHeap) (N : Nat) (hN : 1 ≤ N) : ∃ h', CL g lf N fn_laws_eqWire [.agg [.int .i64 a, .int .i64 b], .agg [.int .i64 a, .int .i64 b]] h = some (.bool true, h') ∧ Keep h.length h h' := by
  obtain ⟨n, rfl⟩ : ∃ n, N = n + 1 := ⟨N - 1, by omega⟩
  have : W (CL g lf (n + 1) fn_laws_eqWire [.agg [.int .i64 a, .int .i64 b], .agg [.int .i64 a, .int .i64 b]] h) fun v h' => v = .bool true ∧ Keep h.length h h' := by
    rw [laws_eqWire.call_eq]
    unfold laws_eqWire.main
    simp only [env_box, env_load, env_bin, env_fieldAddr]
    refine wboxW fun h1 i1 a1 k1 j1 => ?_
    dsimp only
    refine wboxW fun h2 i2 a2 k2 j2 => ?_
    dsimp only
    have a12 := a1.keep k2
    have l1 := a12.l0
    have l2 := a12.l1
    have l3 := a2.l0
    have l4 := a2.l1
    repeat (first | with_reducible refine wF ?_ | with_reducible refine wrB ?_ | with_reducible refine wbd (by assumption) ?_ | (with_reducible refine wfa0 ?_) | (with_reducible refine wfa1 ?_) | with_reducible refine wneqF (by omega) ?_)
    exact W.ret ⟨rfl, k1.trans (k2.mono k1.1)⟩
  obtain ⟨_, h', e, rfl, k⟩ := this
  exact ⟨h', e, k⟩

theorem eqWireS_calls {ws : List (Int × Int)} {p q : PV} {h : PHeap} (N : Nat) (hN : 2 ≤ N) (hp : WSl h p ws) (hq : WSl h q ws) (hf : ws.length < lf) (hl : ws.length ≤ 2 ^ 40) :
    ∃ h', CL g lf N fn_laws_eqWireS [p, q] h = some (.bool true, h') ∧ Keep h.length h h' := by
  obtain ⟨n, rfl⟩ : ∃ n, N = n + 1 := ⟨N - 1, by omega⟩
  have hlen := hp.len
  have hlen2 := hq.len
  have : W (CL g lf (n + 1) fn_laws_eqWireS [p, q] h) fun v h' => v = .bool true ∧ Keep h.length h h' := by
    rw [laws_eqWireS.call_eq]
    unfold laws_eqWireS.main
    simp only [env_lf, env_bin, env_len]
    repeat (first | with_reducible refine wF ?_ | with_reducible refine wbd (by assumption) ?_ | with_reducible refine wneqF (by omega) ?_)
    refine loopW (fun m s => ∃ (k : Nat) (h1 : PHeap), s = laws_eqWireS.st0 p q (.int .i64 (k : Int)) h1 ∧ k + m = ws.length ∧ Keep h.length h h1) ?_ lf ws.length _ hf ⟨0, h, rfl, by omega, Keep.refl _ _⟩
    rintro n1 m s ⟨k, h1, rfl, hkm, k1⟩ next
    rw [laws_eqWireS.body0_eq]
    unfold laws_eqWireS.body0
    simp only [env_C, env_load, env_bin, env_un, env_indexAddr, env_len]
    cases m with
    | zero =>
      repeat (first | with_reducible refine wF ?_ | with_reducible refine wrB ?_ | with_reducible refine wbd (by assumption) ?_ | with_reducible refine wlssF (by omega) ?_ | rw [kLoop_exit] | rw [laws_eqWireS.after0_se0_0_1_5_14])
      exact W.ret ⟨rfl, k1⟩
    | succ m =>
      have hk : k < ws.length := by omega
      obtain ⟨i1, f1, ea, la, _, _⟩ := (hp.keep k1).at hk
      obtain ⟨i2, f2, eb, lb, _, _⟩ := (hq.keep k1).at hk
      obtain ⟨h2, e2, k2⟩ := eqWire_W g lf ws[k].1 ws[k].2 h1 n (by omega)
      have K2 : Keep h.length h h2 := k1.trans (k2.mono k1.1)
      obtain ⟨i3, f3, ec, lc, _, _⟩ := (hp.keep K2).at hk
      obtain ⟨i4, f4, ed, ld, _, _⟩ := (hq.keep K2).at hk
      rw [ea] at ec; cases ec
      rw [eb] at ed; cases ed
      repeat (first | with_reducible refine wT ?_ | with_reducible refine wF ?_ | with_reducible refine wnT ?_ | with_reducible refine wbd (by assumption) ?_ | (with_reducible refine wck plain_agg2 ?_) | with_reducible refine wadd1 (by omega) ?_ | with_reducible refine wlssT (by omega) ?_ | dsimp only)
      exact next _ _ (Nat.lt_succ_self m) ⟨k + 1, h2, rfl, by omega, K2⟩
  obtain ⟨_, h', e, rfl, k⟩ := this
  exact ⟨h', e, k⟩

/-- Between two marks. -/
def OwnWB (n m : Nat) (h : PHeap) (p : PV) (ws : List (Int × Int)) : Prop := (p = .nilsl ∧ ws = []) ∨ ∃ id, n ≤ id ∧ id < m ∧ p = .sl id 0 ws.length ∧ h[id]? = some (.own 2 (wc ws))
theorem OwnW.b {n : Nat} {h : PHeap} {p : PV} {ws : List (Int × Int)} (s : OwnW n h p ws) : OwnWB n h.length h p ws := by
  rcases s with s | ⟨id, h1, h2, h3⟩
  · exact .inl s
  · exact .inr ⟨id, h1, (List.getElem?_eq_some_iff.1 h3).1, h2, h3⟩
theorem OwnWB.sl {n m : Nat} {h : PHeap} {p : PV} {ws : List (Int × Int)} (s : OwnWB n m h p ws) : OwnW n h p ws := by
  rcases s with s | ⟨id, h1, _, h2, h3⟩
  · exact .inl s
  · exact .inr ⟨id, h1, h2, h3⟩
theorem OwnWB.keep {n m : Nat} {h h' : PHeap} {p : PV} {ws : List (Int × Int)} (s : OwnWB n m h p ws) (k : Keep m h h') : OwnWB n m h' p ws := by
  rcases s with s | ⟨id, h1, h2, h3, h4⟩
  · exact .inl s
  · exact .inr ⟨id, h1, h2, h3, by rw [k.2 id h2]; exact h4⟩
end Go.Proofs.Ytihlmjapddjjjab

/- The model's chapter 3, on: the winning cells and the moves played on. -/
set_option maxRecDepth 20000
namespace Go.Proofs.Ytihlmjapddjjjab
open Go Go.Ip G

/-! ### two lists at once: one between two marks, that is written to, and one apart from it, that grows -/
def Apart (b0 b1 b2 : Nat) (h : PHeap) (q : PV) (ys : List Int) : Prop := ∃ n m, OwnB n m h q ys ∧ b0 ≤ n ∧ (m ≤ b1 ∨ b2 ≤ n) ∧ m ≤ h.length
theorem Apart.keep {b0 b1 b2 : Nat} {h h' : PHeap} {q : PV} {ys : List Int} (s : Apart b0 b1 b2 h q ys) (k : Keep h.length h h') : Apart b0 b1 b2 h' q ys := by
  obtain ⟨n, m, o, h1, h2, h3⟩ := s
  exact ⟨n, m, o.keep (k.mono h3), h1, h2, Nat.le_trans h3 k.1⟩
theorem Apart.only {b0 b1 b2 : Nat} {h h' : PHeap} {q : PV} {ys : List Int} (s : Apart b0 b1 b2 h q ys) (k : Only b1 b2 h h') : Apart b0 b1 b2 h' q ys := by
  obtain ⟨n, m, o, h1, h2, h3⟩ := s
  exact ⟨n, m, o.only k (h2.imp id id), h1, h2, by rw [k.1]; exact h3⟩
theorem Apart.sl {b0 b1 b2 : Nat} {h : PHeap} {q : PV} {ys : List Int} (s : Apart b0 b1 b2 h q ys) : OwnSl b0 h q ys := by
  obtain ⟨n, m, o, h1, h2, h3⟩ := s
  exact o.sl.mono h1

section
variable {Q : PV → PHeap → Prop} {h : PHeap} {p r : PV} {xs zs : List Int} {b0 b1 b2 : Nat}
end

/-! ### winning cells -/
variable (g : Nat → PV) (lf n : Nat)

/-! ### played on -/
end Go.Proofs.Ytihlmjapddjjjab

/- Chapter 3's laws over what the program's functions are asked to compute: the draws, and the exact laws. -/
set_option maxRecDepth 20000
namespace Go.Proofs.Ytihlmjapddjjjab
open Go Go.Ip G

theorem W.yes {x : Res} (hx : W x fun v _ => v = .bool true) : ∃ h', x = some (.bool true, h') := by
  obtain ⟨_, h', e, rfl⟩ := hx; exact ⟨h', e⟩
section
variable {Q : PV → PHeap → Prop} {b : Bool} {f : PV → Res}
theorem wneqBB (hf : W (f (.bool false)) Q) : W ((binP Try.prog .neq 4 (.bool b) (.bool b)).bind f) Q := wbd (by rw [neqB]; simp) hf
end
theorem Fix.re {m : Nat} {h h' : PHeap} {p : PV} {xs : List Int} (s : Fix m h p xs) (k : Keep m h h') (hm : m ≤ h.length) : Fix h'.length h' p xs := fun h2 k2 => s h2 (k.trans (k2.mono (Nat.le_trans hm k.1)))
variable (g : Nat → PV) (lf n : Nat)

/-! ### the draws -/
end Go.Proofs.Ytihlmjapddjjjab

/- What is asked of the program's functions of chapter 9, and their exact laws. -/
set_option maxRecDepth 20000
namespace Go.Proofs.Ytihlmjapddjjjab
open Go Go.Ip G

def WiresOkOk (g : Nat → PV) (lf : Nat) : Prop := ∀ (N : Nat), 40 ≤ N → ∀ (nodes : Int) {ws : List (Int × Int)} {p : PV} {h : PHeap}, TabOk g h → WSl h p ws → ws.length ≤ 2 ^ 35 → ws.length < lf →
  ∃ h', CL g lf N fn_impl_WiresOk [.int .i64 nodes, p] h = some (.bool (wiresB nodes ws), h') ∧ Keep h.length h h'
variable (g : Nat → PV) (lf n : Nat)

theorem exactWiresOk_calls (hok : WiresOkOk g lf) {ws : List (Int × Int)} {p : PV} {h : PHeap} (N : Nat) (hN : 41 ≤ N) (nodes : Int) (ht : TabOk g h) (hp : WSl h p ws) (hpl : ws.length ≤ 9223372036854775807) (hf : 1048576 < lf) :
    ∃ h', CL g lf N fn_laws_FnExactWiresOk [.int .i64 nodes, p] h = some (.bool true, h') := by
  obtain ⟨n, rfl⟩ : ∃ n, N = n + 1 := ⟨N - 1, by omega⟩
  apply W.yes
  rw [laws_FnExactWiresOk.call_eq]
  unfold laws_FnExactWiresOk.main
  simp only [env_C, env_bin, env_un]
  have e0 := szWireS_N g lf n (by omega) hp hpl
  by_cases hbig : (1048576 : Int) < (ws.length : Int)
  · rw [if_pos hbig] at e0
    repeat (first | with_reducible refine wT ?_ | with_reducible refine wrB ?_ | with_reducible refine wbd (by assumption) ?_ | with_reducible refine wlssT (by omega) ?_ | dsimp only)
    exact W.ret rfl
  rw [if_neg hbig] at e0
  obtain ⟨q1, h1, e1, o1, k1⟩ := toWireS_calls g lf n (by omega) hp (by omega) (by omega)
  obtain ⟨h3, e3, k3⟩ := specWiresOk_calls g lf n (by omega) nodes o1.sl (by omega) (by omega)
  have K3 : Keep h.length h h3 := k1.trans (k3.mono k1.1)
  obtain ⟨q4, h4, e4, o4, k4⟩ := toWireS_calls g lf n (by omega) (hp.keep K3) (by omega) (by omega)
  have K4 : Keep h.length h h4 := K3.trans (k4.mono K3.1)
  obtain ⟨h6, e6, k6⟩ := hok n (by omega) nodes (ht.keep K4) o4.sl (by omega) (by omega)
  have K6 : Keep h.length h h6 := K4.trans (k6.mono K4.1)
  obtain ⟨q7, h7, e7, o7, k7⟩ := toWireS_calls g lf n (by omega) (hp.keep K6) (by omega) (by omega)
  obtain ⟨h8, e8, k8⟩ := eqWireS_calls g lf n (by omega) ((o4.keep k6).keep k7).sl o7.sl (by omega) (by omega)
  repeat (first | with_reducible refine wF ?_ | with_reducible refine wnT ?_ | with_reducible refine wrB ?_ | with_reducible refine wbd (by assumption) ?_ | (with_reducible refine wneqBB ?_) | with_reducible refine wlssF (by omega) ?_ | dsimp only)
  exact W.ret rfl

end Go.Proofs.Ytihlmjapddjjjab

/- What the program's functions on nets and owners compute: those that ask no table. -/
set_option maxRecDepth 20000
namespace Go.Proofs.Ytihlmjapddjjjab
open Go Go.Ip G

variable (g : Nat → PV) (lf n : Nat)

theorem nodeOk_W (N : Nat) (hN : 1 ≤ N) (h : PHeap) (nodes x : Int) : CL g lf N fn_impl_nodeOk [.int .i64 nodes, .int .i64 x] h = some (.bool (decide (0 ≤ x ∧ x < nodes)), h) := by
  obtain ⟨n, rfl⟩ : ∃ n, N = n + 1 := ⟨N - 1, by omega⟩
  have : W (CL g lf (n + 1) fn_impl_nodeOk [.int .i64 nodes, .int .i64 x] h) fun v h' => v = .bool (decide (0 ≤ x ∧ x < nodes)) ∧ h' = h := by
    rw [impl_nodeOk.call_eq]
    unfold impl_nodeOk.main
    simp only [env_pick, env_bin]
    by_cases c1 : 0 ≤ x
    · by_cases c2 : x < nodes
      · repeat (first | with_reducible refine wg1 rfl ?_ | with_reducible refine wpT ?_ | with_reducible refine wpv ?_ | with_reducible refine wsm ?_ | with_reducible refine wrB ?_ | with_reducible refine wlssT (by omega) ?_ | with_reducible refine wgeqT (by omega) ?_ | dsimp only)
        exact W.ret ⟨by rw [decide_eq_true ⟨c1, c2⟩], rfl⟩
      · repeat (first | with_reducible refine wg1 rfl ?_ | with_reducible refine wpT ?_ | with_reducible refine wpv ?_ | with_reducible refine wsm ?_ | with_reducible refine wrB ?_ | with_reducible refine wlssF (by omega) ?_ | with_reducible refine wgeqT (by omega) ?_ | dsimp only)
        exact W.ret ⟨by rw [decide_eq_false (fun hh => c2 hh.2)], rfl⟩
    · repeat (first | with_reducible refine wg0 rfl ?_ | with_reducible refine wpF ?_ | with_reducible refine wsm ?_ | with_reducible refine wrB ?_ | with_reducible refine wgeqF (by omega) ?_ | dsimp only)
      exact W.ret ⟨by rw [decide_eq_false (fun hh => c1 hh.1)], rfl⟩
  obtain ⟨_, _, e, rfl, rfl⟩ := this
  exact e

theorem wiresOk_W {ws : List (Int × Int)} {p : PV} {h : PHeap} (N : Nat) (hN : 3 ≤ N) (nodes : Int) (hp : WSl h p ws) (hl : ws.length ≤ 2 ^ 35) (hf : ws.length < lf) :
    ∃ h', CL g lf N fn_impl_WiresOk [.int .i64 nodes, p] h = some (.bool (wiresB nodes ws), h') ∧ Keep h.length h h' := by
  obtain ⟨n, rfl⟩ : ∃ n, N = n + 1 := ⟨N - 1, by omega⟩
  have hlen0 := hp.len
  have : W (CL g lf (n + 1) fn_impl_WiresOk [.int .i64 nodes, p] h) fun v h' => v = .bool (wiresB nodes ws) ∧ Keep h.length h h' := by
    rw [impl_WiresOk.call_eq]
    unfold impl_WiresOk.main
    simp only [env_lf, env_pick, env_bin, env_len]
    by_cases n1 : nodes < 2
    · repeat (first | with_reducible refine wT ?_ | with_reducible refine wg0 rfl ?_ | with_reducible refine wpT ?_ | with_reducible refine wsm ?_ | with_reducible refine wrB ?_ | with_reducible refine wlssT (by omega) ?_ | dsimp only)
      exact W.ret ⟨by unfold wiresB; rw [decide_eq_false (show ¬ (2 ≤ nodes ∧ nodes ≤ 5) by omega), Bool.false_and, Bool.and_false], Keep.refl _ _⟩
    by_cases n2 : 5 < nodes
    · repeat (first | with_reducible refine wT ?_ | with_reducible refine wg1 rfl ?_ | with_reducible refine wg0 rfl ?_ | with_reducible refine wpT ?_ | with_reducible refine wpF ?_ | with_reducible refine wpv ?_ | with_reducible refine wsm ?_ | with_reducible refine wrB ?_ | with_reducible refine wlssF (by omega) ?_ | with_reducible refine wgtrT (by omega) ?_ | dsimp only)
      exact W.ret ⟨by unfold wiresB; rw [decide_eq_false (show ¬ (2 ≤ nodes ∧ nodes ≤ 5) by omega), Bool.false_and, Bool.and_false], Keep.refl _ _⟩
    by_cases n3 : 8 < ws.length
    · repeat (first | with_reducible refine wT ?_ | with_reducible refine wg1 rfl ?_ | with_reducible refine wpF ?_ | with_reducible refine wpv ?_ | with_reducible refine wsm ?_ | with_reducible refine wrB ?_ | with_reducible refine wbd (by assumption) ?_ | with_reducible refine wlssF (by omega) ?_ | with_reducible refine wgtrT (by omega) ?_ | with_reducible refine wgtrF (by omega) ?_ | dsimp only)
      exact W.ret ⟨by unfold wiresB; rw [decide_eq_false (show ¬ ws.length ≤ 8 by omega), Bool.and_false, Bool.and_false], Keep.refl _ _⟩
    repeat (first | with_reducible refine wF ?_ | with_reducible refine wg1 rfl ?_ | with_reducible refine wpF ?_ | with_reducible refine wpv ?_ | with_reducible refine wsm ?_ | with_reducible refine wbd (by assumption) ?_ | with_reducible refine wlssF (by omega) ?_ | with_reducible refine wgtrF (by omega) ?_ | dsimp only)
    refine loopW (fun m s => ∃ (k : Nat) (h1 : PHeap), s = impl_WiresOk.st0 (.int .i64 nodes) p (.int .i64 (ws.length : Int)) (.int .i64 (k : Int)) h1 ∧ k + m = ws.length ∧ (ws.all (goodW nodes) = (ws.drop k).all (goodW nodes)) ∧ Keep h.length h h1) ?_ lf ws.length _ hf ⟨0, h, rfl, by omega, rfl, Keep.refl _ _⟩
    rintro n1' m s ⟨k, h1, rfl, hkm, hall, k1⟩ next
    have hp1 := hp.keep k1
    rw [impl_WiresOk.body0_eq]
    unfold impl_WiresOk.body0
    simp only [env_C, env_pick, env_alloc, env_load, env_store, env_bin, env_un, env_fieldAddr, env_indexAddr]
    cases m with
    | zero =>
      rw [List.drop_eq_nil_of_le (by omega), List.all_nil] at hall
      repeat (first | with_reducible refine wF ?_ | with_reducible refine wrB ?_ | with_reducible refine wlssF (by omega) ?_ | rw [kLoop_exit] | rw [impl_WiresOk.after0_se0_0_18_19_20_21])
      exact W.ret ⟨by unfold wiresB; rw [hall, decide_eq_true (show 2 ≤ nodes ∧ nodes ≤ 5 by omega), decide_eq_true (show ws.length ≤ 8 by omega)]; rfl, k1⟩
    | succ m =>
      have hk : k < ws.length := by omega
      have hdx : ws.drop k = ws[k] :: ws.drop (k + 1) := List.drop_eq_getElem_cons hk
      obtain ⟨id, off, e0, l0, _, _⟩ := hp1.at hk
      obtain ⟨⟨A, B⟩, hw⟩ : ∃ w, w = ws[k] := ⟨_, rfl⟩
      rw [← hw] at l0 hdx
      rw [hdx, List.all_cons] at hall
      repeat (first | with_reducible refine wT ?_ | with_reducible refine wbd (by assumption) ?_ | (refine walW fun h2 i2 a2 k2 ii2 => ?_) | (refine wstW a2 ii2 fun h3 a3 k3 hl3 => ?_) | with_reducible refine wlssT (by omega) ?_ | dsimp only)
      have l3 := a3.l0
      have l4 := a3.l1
      have K3 : Keep h.length h h3 := k1.trans ((k2.trans k3).mono k1.1)
      have e1 := nodeOk_W g lf n (by omega) h3 nodes A
      have e2 := nodeOk_W g lf n (by omega) h3 nodes B
      by_cases c5 : A = B
      · rw [show goodW nodes (A, B) = false from decide_eq_false (fun hh => hh.2.2.2.2 c5), Bool.false_and] at hall
        repeat (first | with_reducible refine wT ?_ | with_reducible refine wg0 rfl ?_ | with_reducible refine wpT ?_ | with_reducible refine wsm ?_ | with_reducible refine wrB ?_ | with_reducible refine wbd (by assumption) ?_ | (with_reducible refine wfa0 ?_) | (with_reducible refine wfa1 ?_) | with_reducible refine weqlT (by omega) ?_ | rw [kLoop_ret] | rw [impl_WiresOk.K0_ret] | rw [impl_WiresOk.top_sr_4] | dsimp only)
        exact W.ret ⟨by unfold wiresB; rw [hall]; rfl, K3⟩
      · cases d1 : decide (0 ≤ A ∧ A < nodes) with
        | false =>
          rw [d1] at e1
          have d1 := of_decide_eq_false d1
          rw [show goodW nodes (A, B) = false from decide_eq_false (fun hh => d1 ⟨hh.1, hh.2.1⟩), Bool.false_and] at hall
          repeat (first | with_reducible refine wT ?_ | with_reducible refine wg1 rfl ?_ | with_reducible refine wg0 rfl ?_ | with_reducible refine wpT ?_ | with_reducible refine wpF ?_ | with_reducible refine wnF ?_ | with_reducible refine wpv ?_ | with_reducible refine wsm ?_ | with_reducible refine wrB ?_ | with_reducible refine wbd (by assumption) ?_ | (with_reducible refine wfa0 ?_) | (with_reducible refine wfa1 ?_) | with_reducible refine weqlF (by omega) ?_ | rw [kLoop_ret] | rw [impl_WiresOk.K0_ret] | rw [impl_WiresOk.top_sr_4] | dsimp only)
          exact W.ret ⟨by unfold wiresB; rw [hall]; rfl, K3⟩
        | true =>
          rw [d1] at e1
          have d1 := of_decide_eq_true d1
          cases d2 : decide (0 ≤ B ∧ B < nodes) with
          | false =>
            rw [d2] at e2
            have d2 := of_decide_eq_false d2
            rw [show goodW nodes (A, B) = false from decide_eq_false (fun hh => d2 ⟨hh.2.2.1, hh.2.2.2.1⟩), Bool.false_and] at hall
            repeat (first | with_reducible refine wT ?_ | with_reducible refine wg1 rfl ?_ | with_reducible refine wpF ?_ | with_reducible refine wnT ?_ | with_reducible refine wnF ?_ | with_reducible refine wpv ?_ | with_reducible refine wsm ?_ | with_reducible refine wrB ?_ | with_reducible refine wbd (by assumption) ?_ | (with_reducible refine wfa0 ?_) | (with_reducible refine wfa1 ?_) | with_reducible refine weqlF (by omega) ?_ | rw [kLoop_ret] | rw [impl_WiresOk.K0_ret] | rw [impl_WiresOk.top_sr_4] | dsimp only)
            exact W.ret ⟨by unfold wiresB; rw [hall]; rfl, K3⟩
          | true =>
            rw [d2] at e2
            have d2 := of_decide_eq_true d2
            have hg : goodW nodes (A, B) = true := decide_eq_true ⟨d1.1, d1.2, d2.1, d2.2, c5⟩
            repeat (first | with_reducible refine wF ?_ | with_reducible refine wg1 rfl ?_ | with_reducible refine wpF ?_ | with_reducible refine wnT ?_ | with_reducible refine wpv ?_ | with_reducible refine wsm ?_ | with_reducible refine wbd (by assumption) ?_ | (with_reducible refine wfa0 ?_) | (with_reducible refine wfa1 ?_) | with_reducible refine wadd1 (by omega) ?_ | with_reducible refine weqlF (by omega) ?_ | dsimp only)
            exact next _ _ (Nat.lt_succ_self m) ⟨k + 1, h3, rfl, by omega, by rw [hall, hg, Bool.true_and], K3⟩
  obtain ⟨_, h', e, rfl, k⟩ := this
  exact ⟨h', e, k⟩

theorem wiresOkOk : WiresOkOk g lf := fun N hN nodes _ _ _ _ hp hl hf => wiresOk_W g lf N (by omega) nodes hp hl hf
end Go.Proofs.Ytihlmjapddjjjab

