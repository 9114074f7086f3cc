/- Texts of this seat, in their order, put together by program. -/
import Derived.Test.YtpaehbfknlpkbaeDoorK8
import Derived.IntWalk
import Derived.Test.YtpaehbfknlpkbaeDoorProg
import Derived.KernelRfl
set_option linter.unusedSimpArgs false
set_option linter.unusedVariables false
set_option linter.unusedSectionVars false
/- What the operations come to on values that are written out: rules for the simplifier; and the types of this program. -/
set_option maxRecDepth 20000
namespace Go.Proofs.YtpaehbfknlpkbaeDoor
open Go Go.Ip

section
variable {P : Program} {t : TypeId} {k : IntKind} {a b : Int} {h : PHeap}

@[simp] theorem bin_add : binP P .add t (.int k a) (.int k b) = some (.int k (k.wrap (a + b))) := by simp [binP, binI]
@[simp] theorem bin_sub : binP P .sub t (.int k a) (.int k b) = some (.int k (k.wrap (a - b))) := by simp [binP, binI]
@[simp] theorem bin_mul : binP P .mul t (.int k a) (.int k b) = some (.int k (k.wrap (a * b))) := by simp [binP, binI]
theorem bin_quo (hb : b ≠ 0) : binP P .quo t (.int k a) (.int k b) = some (.int k (k.wrap (a.tdiv b))) := by simp [binP, binI, hb]
theorem bin_rem (hb : b ≠ 0) : binP P .rem t (.int k a) (.int k b) = some (.int k (a.tmod b)) := by simp [binP, binI, hb]
@[simp] theorem bin_eql : binP P .eql t (.int k a) (.int k b) = some (.bool (a == b)) := by simp [binP, binI]
@[simp] theorem bin_neq : binP P .neq t (.int k a) (.int k b) = some (.bool (a != b)) := by simp [binP, binI]
@[simp] theorem bin_lss : binP P .lss t (.int k a) (.int k b) = some (.bool (decide (a < b))) := by simp [binP, binI]
@[simp] theorem bin_leq : binP P .leq t (.int k a) (.int k b) = some (.bool (decide (a ≤ b))) := by simp [binP, binI]
@[simp] theorem bin_gtr : binP P .gtr t (.int k a) (.int k b) = some (.bool (decide (b < a))) := by simp [binP, binI]
@[simp] theorem bin_geq : binP P .geq t (.int k a) (.int k b) = some (.bool (decide (b ≤ a))) := by simp [binP, binI]
@[simp] theorem un_not {x : Bool} : unP .not (.bool x) = some (.bool (!x)) := rfl
@[simp] theorem un_neg : unP .neg (.int k a) = some (.int k (k.wrap (0 - a))) := rfl
@[simp] theorem pick_bool {x : Bool} {u v : PV} : pickP (.bool x) u v = some (bif x then u else v) := rfl
@[simp] theorem want_bool {x y : Bool} : wantV (.bool x) y = some (x == y) := rfl
@[simp] theorem want_undef {y : Bool} : wantV (.tup []) y = some false := rfl
@[simp] theorem cond_bool {x : Bool} {u v : Res} : condP (.bool x) u v = bif x then u else v := rfl
@[simp] theorem res_int : resV (.int k a) = some (.int k a) := rfl
@[simp] theorem res_bool {x : Bool} : resV (.bool x) = some (.bool x) := rfl
@[simp] theorem res_sl {i o l : Nat} : resV (.sl i o l) = some (.sl i o l) := rfl
@[simp] theorem res_nilsl : resV .nilsl = some .nilsl := rfl
@[simp] theorem res_ptr {i o : Nat} : resV (.ptr i o) = some (.ptr i o) := rfl
@[simp] theorem pv_some' {v : PV} : pv h (some v) = some (v, h) := rfl
@[simp] theorem ptr_ptr {i o : Nat} : ptrP (.ptr i o) = some (.ptr i o) := rfl
@[simp] theorem extract_tup {l : List PV} {i : Nat} : extractP (.tup l) i = l[i]? := rfl
@[simp] theorem fold_nil {f : PV → PV → Option PV} {x : PV} : foldP f x [] = some x := rfl
@[simp] theorem fold_cons {f : PV → PV → Option PV} {x y : PV} {ys : List PV} : foldP f x (y :: ys) = (f x y).bind fun z => foldP f z ys := rfl
@[simp] theorem max2_int {k' : IntKind} : maxP2 (.int k a) (.int k' b) = some (.int k (if b > a then b else a)) := rfl
@[simp] theorem min2_int {k' : IntKind} : minP2 (.int k a) (.int k' b) = some (.int k (if b < a then b else a)) := rfl
theorem wr {x : Int} (hx : -9223372036854775808 ≤ x ∧ x ≤ 9223372036854775807) : IntKind.i64.wrap x = x := by rw [IntKind.wrap_i64]; omega

theorem bin_eqlB {x y : Bool} (ht : isBoolT P t = true) : binP P .eql t (.bool x) (.bool y) = some (.bool (x == y)) := by simp [binP, ht]
theorem bin_neqB {x y : Bool} (ht : isBoolT P t = true) : binP P .neq t (.bool x) (.bool y) = some (.bool (!(x == y))) := by simp [binP, ht]
end

@[simp] theorem ty_bool : isBoolT Tryd.prog 4 = true := by kernel_rfl
@[simp] theorem neqB {x y : Bool} : binP Tryd.prog .neq 4 (.bool x) (.bool y) = some (.bool (!(x == y))) := bin_neqB ty_bool
@[simp] theorem eqlB {x y : Bool} : binP Tryd.prog .eql 4 (.bool x) (.bool y) = some (.bool (x == y)) := bin_eqlB ty_bool

end Go.Proofs.YtpaehbfknlpkbaeDoor

/- Slices of integers on the interpreter's heap: how they are read, made, written and appended to. -/
set_option maxRecDepth 20000
namespace Go.Proofs.YtpaehbfknlpkbaeDoor
open Go Go.Ip G

def kLoop (f : St → (PX → St → Res) → Res) (n : Nat) (k : PX → St → Res) : PX → St → Res := fun x s => match x with | .normal => loopK f n s k | x => k x s
theorem loopK_succ (f : St → (PX → St → Res) → Res) (n : Nat) (s : St) (k : PX → St → Res) : loopK f (n + 1) s k = f s (kLoop f n k) := rfl
@[simp] theorem kLoop_normal (f : St → (PX → St → Res) → Res) (n : Nat) (s : St) (k : PX → St → Res) : kLoop f n k .normal s = loopK f n s k := rfl
@[simp] theorem kLoop_exit (f : St → (PX → St → Res) → Res) (n i : Nat) (s : St) (k : PX → St → Res) : kLoop f n k (.exit i) s = k (.exit i) s := rfl
@[simp] theorem kLoop_ret (f : St → (PX → St → Res) → Res) (n : Nat) (s : St) (k : PX → St → Res) : kLoop f n k .ret s = k .ret s := rfl

/-- The first n objects are as they were. -/
def Keep (n : Nat) (h h' : PHeap) : Prop := h.length ≤ h'.length ∧ ∀ i, i < n → h'[i]? = h[i]?

theorem Keep.refl (n : Nat) (h : PHeap) : Keep n h h := ⟨Nat.le_refl _, fun _ _ => rfl⟩
theorem Keep.trans {n : Nat} {a b c : PHeap} (h : Keep n a b) (k : Keep n b c) : Keep n a c := ⟨Nat.le_trans h.1 k.1, fun i hi => (k.2 i hi).trans (h.2 i hi)⟩
theorem Keep.mono {n m : Nat} {a b : PHeap} (h : Keep n a b) (hm : m ≤ n) : Keep m a b := ⟨h.1, fun i hi => h.2 i (by omega)⟩
theorem Keep.append (n : Nat) (h E : PHeap) (hn : n ≤ h.length) : Keep n h (h ++ E) := ⟨by simp, fun i hi => List.getElem?_append_left (by omega)⟩
theorem Keep.set (n : Nat) (h : PHeap) (i : Nat) (o : PObj) (hi : n ≤ i) : Keep n h (h.set i o) := ⟨by simp, fun j hj => List.getElem?_set_ne (by omega)⟩

theorem cellsAt_keep {n : Nat} {h h' : PHeap} (k : Keep n h h') {id : Nat} (hi : id < n) : cellsAt h' id = cellsAt h id := by
  unfold cellsAt; rw [k.2 id hi]

theorem lt_of_cell {h : PHeap} {id j : Nat} {v : PV} (hv : (cellsAt h id)[j]? = some v) : id < h.length := by
  unfold cellsAt at hv
  cases ho : h[id]? with
  | none => rw [ho] at hv; simp at hv
  | some o => exact (List.getElem?_eq_some_iff.1 ho).1

theorem IntSl.keep {k : IntKind} {h h' : PHeap} {p : PV} {xs : List Int} (s : IntSl k h p xs) (hk : Keep h.length h h') : IntSl k h' p xs := by
  rcases s with s | ⟨id, off, hp, hc⟩
  · exact .inl s
  · exact .inr ⟨id, off, hp, fun i x hx => by rw [cellsAt_keep hk (lt_of_cell (hc i x hx))]; exact hc i x hx⟩

theorem IntSl.nil (k : IntKind) (h : PHeap) : IntSl k h .nilsl [] := .inl ⟨rfl, rfl⟩

section
variable {P : Program} {T I : TypeId}

theorem IntSl.len {k : IntKind} {h : PHeap} {p : PV} {xs : List Int} (s : IntSl k h p xs) (hT : P.underlying T = some (.slice I)) : lenP P T p = some (.int .i64 xs.length) := by
  rcases s with ⟨rfl, rfl⟩ | ⟨id, off, rfl, hc⟩ <;> simp [lenP, hT]

theorem IntSl.at {k : IntKind} {h : PHeap} {p : PV} {xs : List Int} (s : IntSl k h p xs) (hT : P.underlying T = some (.slice I)) (hS : sizeT P I = some 1) (hA : isAggT P I = some false) {i : Nat} (hi : i < xs.length) :
    ∃ a, indexAddrP P T p (.int .i64 i) = some a ∧ loadP P I a h = some (.int k xs[i]) := by
  rcases s with ⟨rfl, rfl⟩ | ⟨id, off, rfl, hc⟩
  · simp at hi
  · refine ⟨.ptr id (off + i), ?_, ?_⟩
    · simp [indexAddrP, hT, hS, hi]
    · simp only [loadP, hA]
      exact hc i _ (List.getElem?_eq_getElem hi)
end

/-- A slice of integers that the call itself made, from object n on. -/
def OwnSl (n : Nat) (h : PHeap) (p : PV) (xs : List Int) : Prop :=
  (p = .nilsl ∧ xs = []) ∨ ∃ id, n ≤ id ∧ p = .sl id 0 xs.length ∧ h[id]? = some (.own 1 (xs.map (.int .i64)))

theorem OwnSl.int {n : Nat} {h : PHeap} {p : PV} {xs : List Int} (s : OwnSl n h p xs) : IntSl .i64 h p xs := by
  rcases s with s | ⟨id, _, hp, ho⟩
  · exact .inl s
  · refine .inr ⟨id, 0, hp, fun i x hx => ?_⟩
    simp [cellsAt, ho, PObj.get, hx]

theorem OwnSl.mono {n m : Nat} {h : PHeap} {p : PV} {xs : List Int} (s : OwnSl n h p xs) (hm : m ≤ n) : OwnSl m h p xs := by
  rcases s with s | ⟨id, h1, h2⟩
  · exact .inl s
  · exact .inr ⟨id, by omega, h2⟩

theorem OwnSl.keep {n : Nat} {h h' : PHeap} {p : PV} {xs : List Int} (s : OwnSl n h p xs) (hk : Keep h.length h h') : OwnSl n h' p xs := by
  rcases s with s | ⟨id, h1, h2, h3⟩
  · exact .inl s
  · exact .inr ⟨id, h1, h2, by rw [hk.2 id (List.getElem?_eq_some_iff.1 h3).1]; exact h3⟩

theorem OwnSl.nil (n : Nat) (h : PHeap) : OwnSl n h .nilsl [] := .inl ⟨rfl, rfl⟩

theorem tyS : Tryd.prog.underlying 22 = some (.slice 3) := by kernel_rfl
theorem tySize : sizeT Tryd.prog 3 = some 1 := by kernel_rfl
theorem tyAgg : isAggT Tryd.prog 3 = some false := by kernel_rfl
theorem tyElem : elemT Tryd.prog 22 = some 3 := by kernel_rfl
theorem tyZero : zeroCellsT Tryd.prog 3 = some [.int .i64 0] := by kernel_rfl
theorem tySmall : smallT Tryd.prog 3 = true := by kernel_rfl

theorem IntSl.len' {k : IntKind} {h : PHeap} {p : PV} {xs : List Int} (s : IntSl k h p xs) : lenP Tryd.prog 22 p = some (.int .i64 xs.length) := s.len tyS
theorem IntSl.at' {k : IntKind} {h : PHeap} {p : PV} {xs : List Int} (s : IntSl k h p xs) {i : Nat} (hi : i < xs.length) :
    ∃ a, indexAddrP Tryd.prog 22 p (.int .i64 i) = some a ∧ loadP Tryd.prog 3 a h = some (.int k xs[i]) := s.at tyS tySize tyAgg hi

theorem OwnSl.store {n : Nat} {h : PHeap} {p : PV} {xs : List Int} (s : OwnSl n h p xs) {i : Nat} (hi : i < xs.length) (x : Int) :
    ∃ a h', indexAddrP Tryd.prog 22 p (.int .i64 i) = some a ∧ storeP Tryd.prog 3 a (.int .i64 x) h = some h' ∧ OwnSl n h' p (xs.set i x) ∧ Keep n h h' ∧ h'.length = h.length := by
  rcases s with ⟨rfl, rfl⟩ | ⟨id, h1, rfl, h3⟩
  · simp at hi
  · have hid : id < h.length := (List.getElem?_eq_some_iff.1 h3).1
    refine ⟨.ptr id (0 + i), h.set id (.own 1 ((xs.set i x).map (.int .i64))), by simp [indexAddrP, tySize, hi], ?_, .inr ⟨id, h1, by simp, by rw [List.getElem?_set_self hid]⟩, Keep.set _ _ _ _ h1, by simp⟩
    simp only [storeP, h3, PV.cells, tySize, Nat.zero_add]
    rw [if_pos ⟨rfl, by simp; omega⟩]
    simp [setCells, List.map_set]

/-- What 'make' gives. -/
theorem made {h : PHeap} {m : Nat} (hm : m ≤ 2 ^ 36) : ∃ p h', makeP Tryd.prog 22 (.int .i64 m) (.int .i64 m) h = some (p, h') ∧ OwnSl h.length h' p (List.replicate m 0) ∧ Keep h.length h h' := by
  refine ⟨.sl h.length 0 m, h ++ [.own 1 ((List.replicate m 0).map (.int .i64))], ?_, .inr ⟨h.length, Nat.le_refl _, by simp, by simp⟩, Keep.append _ _ _ (Nat.le_refl _)⟩
  have hrep : ∀ k : Nat, repeatCells [PV.int .i64 0] k = (List.replicate k (0 : Int)).map (.int .i64) := by
    intro k
    induction k with
    | zero => rfl
    | succ k ih => rw [repeatCells, ih, List.replicate_succ]; rfl
  have hm' : (m : Int) ≤ 68719476736 := by omega
  simp [makeP, tyElem, tySize, tyZero, tySmall, hm', hrep]

/-- One element more. -/
theorem OwnSl.append {n : Nat} {h : PHeap} {p : PV} {xs : List Int} (s : OwnSl n h p xs) (hn : n ≤ h.length) (x : Int) (hl : xs.length + 1 ≤ 2 ^ 36) :
    ∃ v p' h', buildSliceP Tryd.prog 22 1 [(0, .int .i64 x)] h = some v ∧ appendP Tryd.prog 22 22 p v.1 v.2 = some (p', h') ∧ OwnSl n h' p' (xs ++ [x]) ∧ Keep n h h' := by
  have hb : buildSliceP Tryd.prog 22 1 [(0, .int .i64 x)] h = some (.sl h.length 0 1, h ++ [.own 1 [.int .i64 x]]) := by
    simp [buildSliceP, tyElem, tySize, tyZero, repeatCells, fillP, PV.cells, setCells]
  have hsrc : srcP (h ++ [.own 1 [.int .i64 x]]) 1 (.sl h.length 0 1) = some (1, [.int .i64 x]) := by
    simp [srcP, cellsAt, PObj.get]
  rcases s with ⟨rfl, rfl⟩ | ⟨id, h1, rfl, h3⟩
  · refine ⟨_, .sl (h.length + 1) 0 1, h ++ [.own 1 [.int .i64 x]] ++ [.own 1 [.int .i64 x]], hb, ?_, .inr ⟨h.length + 1, by omega, rfl, ?_⟩, ?_⟩
    · simp [appendP, tyElem, tySize, tySmall, hsrc]
    · rw [List.getElem?_append_right (by simp)]; simp
    · rw [List.append_assoc]; exact Keep.append _ _ _ hn
  · have hid : id < h.length := (List.getElem?_eq_some_iff.1 h3).1
    have h3' : (h ++ [PObj.own 1 [.int .i64 x]])[id]? = some (.own 1 (xs.map (.int .i64))) := by rw [List.getElem?_append_left hid]; exact h3
    refine ⟨_, .sl (h.length + 1) 0 (xs.length + 1), ((h ++ [PObj.own 1 [.int .i64 x]]).set id .dead ++ [PObj.own 1 (xs.map (.int .i64) ++ [.int .i64 x])]), hb, ?_, .inr ⟨h.length + 1, by omega, by simp, ?_⟩, ?_⟩
    · simp [appendP, tyElem, tySize, tySmall, hsrc, h3', hl]
    · rw [List.getElem?_append_right (by simp)]; simp
    · exact ((Keep.append n h _ hn).trans (Keep.set n _ id .dead h1)).trans (Keep.append _ _ _ (by simp; omega))

/-- An empty literal. -/
theorem empty_lit {h : PHeap} : ∃ p h', buildSliceP Tryd.prog 22 0 [] h = some (p, h') ∧ OwnSl h.length h' p [] ∧ Keep h.length h h' := by
  refine ⟨.sl h.length 0 0, h ++ [.own 1 []], by simp [buildSliceP, tyElem, tySize, tyZero, repeatCells, fillP], .inr ⟨h.length, Nat.le_refl _, rfl, by simp⟩, Keep.append _ _ _ (Nat.le_refl _)⟩

theorem nx {i : Nat} (hi : i < 2 ^ 40) : IntKind.i64.wrap ((i : Int) + 1) = ((i + 1 : Nat) : Int) := by
  rw [wr (by omega)]; rfl

end Go.Proofs.YtpaehbfknlpkbaeDoor

/- Of each function of this seat's program its plain form over the interpreter, written by program; each equation is the kernel's. -/
set_option linter.unusedVariables false
set_option maxRecDepth 100000
namespace Go.Proofs.YtpaehbfknlpkbaeDoor.G
open Go Go.Ip Go.Proofs

namespace laws_FnExactBestRecord
noncomputable def main (E : Env) (x0 x1 : PV) (h : PHeap) : Res :=
    (E.C fn_spec_BestRecord [x0, x1] h).bind fun v1 =>
    (E.C fn_impl_BestRecord [x0, x1] v1.2).bind fun v2 =>
    (E.C fn_laws_eqIntS [v2.1, v1.1] v2.2).bind fun v3 =>
    (E.p.un .not v3.1).bind fun v4 =>
    condP v4
     (
      (resV (.bool false)).bind fun v5 =>
      some (v5, v3.2))
     (
      (E.C fn_laws_markIntS [v2.1, (.int .i64 1)] v3.2).bind fun v6 =>
      (E.C fn_laws_heldIntS [v2.1, (.int .i64 1)] v6.2).bind fun v7 =>
      (E.p.bin .lss 3 v7.1 (.int .i64 0)).bind fun v8 =>
      condP v8
       (
        (resV (.bool false)).bind fun v9 =>
        some (v9, v7.2))
       (
        (E.p.bin .neq 3 v7.1 v6.1).bind fun v10 =>
        condP v10
         (
          (resV (.bool false)).bind fun v11 =>
          some (v11, v7.2))
         (
          (E.C fn_impl_BestRecord [x0, x1] v7.2).bind fun v12 =>
          (E.C fn_laws_eqIntS [v12.1, v1.1] v12.2).bind fun v13 =>
          (E.p.un .not v13.1).bind fun v14 =>
          condP v14
           (
            (resV (.bool false)).bind fun v15 =>
            some (v15, v13.2))
           (
            (E.C fn_laws_heldIntS [v2.1, (.int .i64 1)] v13.2).bind fun v16 =>
            (E.p.bin .lss 3 v16.1 (.int .i64 0)).bind fun v17 =>
            condP v17
             (
              (resV (.bool false)).bind fun v18 =>
              some (v18, v16.2))
             (
              (E.p.bin .neq 3 v16.1 v6.1).bind fun v19 =>
              condP v19
               (
                (resV (.bool false)).bind fun v20 =>
                some (v20, v16.2))
               (
                (resV (.bool true)).bind fun v21 =>
                some (v21, v16.2)))))))
theorem main_eq (E : Env) (x0 x1 : PV) (h : PHeap) : runBody (E.cx Tryd.prog kl) Tryd.f3 [x0, x1] h = main E x0 x1 h := by kernel_rfl
theorem call_eq (g : Nat → PV) (lf n : Nat) (x0 x1 : PV) (h : PHeap) : CL g lf (n + 1) fn_laws_FnExactBestRecord [x0, x1] h = main (env g lf n) x0 x1 h := by
  rw [← main_eq]
  show call Tryd.prog g KL lf (n + 1) 3 [x0, x1] h = _
  rw [call_succ, Tryd.func3]
  kernel_rfl
end laws_FnExactBestRecord
namespace spec_BestRecord
noncomputable def main (E : Env) (x0 x1 : PV) (h : PHeap) : Res :=
    (E.C fn_spec_BoardOk [x0, x1] h).bind fun v1 =>
    (E.p.un .not v1.1).bind fun v2 =>
    (wantV v2 false).bind fun v3 =>
    (bif v3 then some (x0, v1.2) else some (.tup [], v1.2)).bind fun v4 =>
    (wantV v2 false).bind fun v5 =>
    (bif v5 then some (x1, v4.2) else some (.tup [], v4.2)).bind fun v6 =>
    (wantV v2 false).bind fun v7 =>
    (bif v7 then pv v6.2 (E.p.bin .mul 3 v4.1 v6.1) else some (.tup [], v6.2)).bind fun v8 =>
    (wantV v2 false).bind fun v9 =>
    (bif v9 then pv v8.2 (E.p.bin .gtr 3 v8.1 (.int .i64 6)) else some (.tup [], v8.2)).bind fun v10 =>
    (E.p.pick v2 (.bool true) v10.1).bind fun v11 =>
    condP v11
     (
      (E.p.buildSlice 22 0 [] v10.2).bind fun v12 =>
      (resV v12.1).bind fun v13 =>
      some (v13, v12.2))
     (
      (E.p.bin .mul 3 x0 x1).bind fun v14 =>
      (E.p.make 22 v14 v14 v10.2).bind fun v15 =>
      (E.C fn_spec_LinePlayed [x0, x1, v15.1, (.int .i64 1)] v15.2).bind fun v16 =>
      (resV v16.1).bind fun v17 =>
      some (v17, v16.2))
theorem main_eq (E : Env) (x0 x1 : PV) (h : PHeap) : runBody (E.cx Tryd.prog kl) Tryd.f4 [x0, x1] h = main E x0 x1 h := by kernel_rfl
theorem call_eq (g : Nat → PV) (lf n : Nat) (x0 x1 : PV) (h : PHeap) : CL g lf (n + 1) fn_spec_BestRecord [x0, x1] h = main (env g lf n) x0 x1 h := by
  rw [← main_eq]
  show call Tryd.prog g KL lf (n + 1) 4 [x0, x1] h = _
  rw [call_succ, Tryd.func4]
  kernel_rfl
end spec_BestRecord
namespace impl_BestRecord
noncomputable def main (E : Env) (x0 x1 : PV) (h : PHeap) : Res :=
    (E.C fn_impl_smallOk [x0, x1] h).bind fun v1 =>
    (E.p.un .not v1.1).bind fun v2 =>
    condP v2
     (
      (resV .nilsl).bind fun v3 =>
      some (v3, v1.2))
     (
      (E.C fn_impl_freeBoard [x0, x1] v1.2).bind fun v4 =>
      (E.C fn_impl_LinePlayed [x0, x1, v4.1, (.int .i64 1)] v4.2).bind fun v5 =>
      (resV v5.1).bind fun v6 =>
      some (v6, v5.2))
theorem main_eq (E : Env) (x0 x1 : PV) (h : PHeap) : runBody (E.cx Tryd.prog kl) Tryd.f5 [x0, x1] h = main E x0 x1 h := by kernel_rfl
theorem call_eq (g : Nat → PV) (lf n : Nat) (x0 x1 : PV) (h : PHeap) : CL g lf (n + 1) fn_impl_BestRecord [x0, x1] h = main (env g lf n) x0 x1 h := by
  rw [← main_eq]
  show call Tryd.prog g KL lf (n + 1) 5 [x0, x1] h = _
  rw [call_succ, Tryd.func5]
  kernel_rfl
end impl_BestRecord
namespace laws_eqIntS
noncomputable def lp0 : Code := (codeAt (bodyOf Tryd.f6) [1, 1, 0, 1, 0, 0])
def st0 (x0 x1 x5 : PV) (h : PHeap) : St := ⟨[x0, x1, .junk, .junk, .junk, x5, .junk, .junk, .junk, .junk, .junk, .junk, .junk, .junk, .junk, .junk, .junk, .junk, .junk, .junk, .junk, .junk, .junk, .junk, .junk, .junk], h⟩
def sr_4 (x4 : PV) (h : PHeap) : St := ⟨[.junk, .junk, .junk, .junk, x4, .junk, .junk, .junk, .junk, .junk, .junk, .junk, .junk, .junk, .junk, .junk, .junk, .junk, .junk, .junk, .junk, .junk, .junk, .junk, .junk, .junk], h⟩
def se0_0_1_5_14 (x0 x1 x5 x14 : PV) (h : PHeap) : St := ⟨[x0, x1, .junk, .junk, .junk, x5, .junk, .junk, .junk, .junk, .junk, .junk, .junk, .junk, x14, .junk, .junk, .junk, .junk, .junk, .junk, .junk, .junk, .junk, .junk, .junk], h⟩
noncomputable def K0 (E : Env) (K : PX → St → Res) : PX → St → Res := (kBlock 0 (kSeq (ev (E.cx Tryd.prog kl) (codeAt (bodyOf Tryd.f6) [1, 1, 1])) K))
@[simp] theorem K0_ret (E : Env) (K : PX → St → Res) (s : St) : K0 E K .ret s = K .ret s := by kernel_rfl
noncomputable def body0 (E : Env) (K : PX → St → Res) (x0 x1 x5 : PV) (h : PHeap) : Res :=
    (E.p.len 22 x0).bind fun v14 =>
    (E.p.bin .lss 3 x5 v14).bind fun v15 =>
    condP v15
     (
      (E.p.indexAddr 22 x0 x5).bind fun v16 =>
      (E.p.load 3 v16 h).bind fun v17 =>
      (E.p.indexAddr 22 x1 x5).bind fun v18 =>
      (E.p.load 3 v18 h).bind fun v19 =>
      (E.p.bin .neq 3 v17 v19).bind fun v20 =>
      condP v20
       (
        K .ret (sr_4 (.bool false) h))
       (
        (E.p.bin .add 3 x5 (.int .i64 1)).bind fun v21 =>
        K .normal (st0 x0 x1 v21 h)))
     (
      K (.exit 0) (se0_0_1_5_14 x0 x1 x5 v15 h))
theorem body0_eq (E : Env) (K : PX → St → Res) (x0 x1 x5 : PV) (h : PHeap) : ev (E.cx Tryd.prog kl) lp0 (st0 x0 x1 x5 h) K = body0 E K x0 x1 x5 h := by kernel_rfl
theorem after0_se0_0_1_5_14 (E : Env) (x0 x1 x5 x14 : PV) (h : PHeap) : K0 E (kTop Tryd.prog Tryd.f6) (.exit 0) (se0_0_1_5_14 x0 x1 x5 x14 h) =
    (resV (.bool true)).bind fun v13 =>
    some (v13, h) := by kernel_rfl
theorem top_sr_4 (x4 : PV) (h : PHeap) : kTop Tryd.prog Tryd.f6 .ret (sr_4 x4 h) =
    (resV x4).bind fun v22 =>
    some (v22, h) := by kernel_rfl
noncomputable def main (E : Env) (x0 x1 : PV) (h : PHeap) : Res :=
    (E.p.len 22 x0).bind fun v1 =>
    (E.p.len 22 x1).bind fun v2 =>
    (E.p.bin .neq 3 v1 v2).bind fun v3 =>
    condP v3
     (
      (resV (.bool false)).bind fun v4 =>
      some (v4, h))
     (
      loopK (ev (E.cx Tryd.prog laws_eqIntS.kl) laws_eqIntS.lp0) E.lf (laws_eqIntS.st0 x0 x1 (.int .i64 0) h) (laws_eqIntS.K0 E (kTop Tryd.prog Tryd.f6)))
theorem main_eq (E : Env) (x0 x1 : PV) (h : PHeap) : runBody (E.cx Tryd.prog kl) Tryd.f6 [x0, x1] h = main E x0 x1 h := by kernel_rfl
theorem call_eq (g : Nat → PV) (lf n : Nat) (x0 x1 : PV) (h : PHeap) : CL g lf (n + 1) fn_laws_eqIntS [x0, x1] h = main (env g lf n) x0 x1 h := by
  rw [← main_eq]
  show call Tryd.prog g KL lf (n + 1) 6 [x0, x1] h = _
  rw [call_succ, Tryd.func6]
  kernel_rfl
end laws_eqIntS
namespace laws_markIntS
noncomputable def lp0 : Code := (codeAt (bodyOf Tryd.f7) [1, 0, 1, 0, 0])
def st0 (x0 x1 x5 : PV) (h : PHeap) : St := ⟨[x0, x1, .junk, .junk, .junk, x5, .junk, .junk, .junk, .junk, .junk, .junk, .junk, .junk, .junk, .junk, .junk, .junk, .junk], h⟩
def se0_0_1_5_9 (x0 x1 x5 x9 : PV) (h : PHeap) : St := ⟨[x0, x1, .junk, .junk, .junk, x5, .junk, .junk, .junk, x9, .junk, .junk, .junk, .junk, .junk, .junk, .junk, .junk, .junk], h⟩
noncomputable def K0 (E : Env) (K : PX → St → Res) : PX → St → Res := (kBlock 0 (kSeq (ev (E.cx Tryd.prog kl) (codeAt (bodyOf Tryd.f7) [1, 1])) K))
@[simp] theorem K0_ret (E : Env) (K : PX → St → Res) (s : St) : K0 E K .ret s = K .ret s := by kernel_rfl
noncomputable def body0 (E : Env) (K : PX → St → Res) (x0 x1 x5 : PV) (h : PHeap) : Res :=
    (E.p.len 22 x0).bind fun v8 =>
    (E.p.bin .lss 3 x5 v8).bind fun v9 =>
    condP v9
     (
      (E.p.indexAddr 22 x0 x5).bind fun v10 =>
      (E.p.store 3 v10 x1 h).bind fun v11 =>
      (E.p.bin .add 3 x1 (.int .i64 1)).bind fun v12 =>
      (E.p.bin .add 3 x5 (.int .i64 1)).bind fun v13 =>
      K .normal (st0 x0 v12 v13 v11))
     (
      K (.exit 0) (se0_0_1_5_9 x0 x1 x5 v9 h))
theorem body0_eq (E : Env) (K : PX → St → Res) (x0 x1 x5 : PV) (h : PHeap) : ev (E.cx Tryd.prog kl) lp0 (st0 x0 x1 x5 h) K = body0 E K x0 x1 x5 h := by kernel_rfl
theorem after0_se0_0_1_5_9 (E : Env) (x0 x1 x5 x9 : PV) (h : PHeap) : K0 E (kTop Tryd.prog Tryd.f7) (.exit 0) (se0_0_1_5_9 x0 x1 x5 x9 h) =
    (resV x1).bind fun v7 =>
    some (v7, h) := by kernel_rfl
noncomputable def main (E : Env) (x0 x1 : PV) (h : PHeap) : Res :=
    loopK (ev (E.cx Tryd.prog laws_markIntS.kl) laws_markIntS.lp0) E.lf (laws_markIntS.st0 x0 x1 (.int .i64 0) h) (laws_markIntS.K0 E (kTop Tryd.prog Tryd.f7))
theorem main_eq (E : Env) (x0 x1 : PV) (h : PHeap) : runBody (E.cx Tryd.prog kl) Tryd.f7 [x0, x1] h = main E x0 x1 h := by kernel_rfl
theorem call_eq (g : Nat → PV) (lf n : Nat) (x0 x1 : PV) (h : PHeap) : CL g lf (n + 1) fn_laws_markIntS [x0, x1] h = main (env g lf n) x0 x1 h := by
  rw [← main_eq]
  show call Tryd.prog g KL lf (n + 1) 7 [x0, x1] h = _
  rw [call_succ, Tryd.func7]
  kernel_rfl
end laws_markIntS
namespace laws_heldIntS
noncomputable def lp0 : Code := (codeAt (bodyOf Tryd.f8) [1, 0, 1, 0, 0])
def st0 (x0 x1 x5 : PV) (h : PHeap) : St := ⟨[x0, x1, .junk, .junk, .junk, x5, .junk, .junk, .junk, .junk, .junk, .junk, .junk, .junk, .junk, .junk, .junk, .junk, .junk, .junk, .junk], h⟩
def sr_4 (x4 : PV) (h : PHeap) : St := ⟨[.junk, .junk, .junk, .junk, x4, .junk, .junk, .junk, .junk, .junk, .junk, .junk, .junk, .junk, .junk, .junk, .junk, .junk, .junk, .junk, .junk], h⟩
def se0_0_1_5_9 (x0 x1 x5 x9 : PV) (h : PHeap) : St := ⟨[x0, x1, .junk, .junk, .junk, x5, .junk, .junk, .junk, x9, .junk, .junk, .junk, .junk, .junk, .junk, .junk, .junk, .junk, .junk, .junk], h⟩
noncomputable def K0 (E : Env) (K : PX → St → Res) : PX → St → Res := (kBlock 0 (kSeq (ev (E.cx Tryd.prog kl) (codeAt (bodyOf Tryd.f8) [1, 1])) K))
@[simp] theorem K0_ret (E : Env) (K : PX → St → Res) (s : St) : K0 E K .ret s = K .ret s := by kernel_rfl
noncomputable def body0 (E : Env) (K : PX → St → Res) (x0 x1 x5 : PV) (h : PHeap) : Res :=
    (E.p.len 22 x0).bind fun v9 =>
    (E.p.bin .lss 3 x5 v9).bind fun v10 =>
    condP v10
     (
      (E.p.indexAddr 22 x0 x5).bind fun v11 =>
      (E.p.load 3 v11 h).bind fun v12 =>
      (E.p.bin .neq 3 v12 x1).bind fun v13 =>
      condP v13
       (
        K .ret (sr_4 (.int .i64 (-1)) h))
       (
        (E.p.bin .add 3 x1 (.int .i64 1)).bind fun v14 =>
        (E.p.bin .add 3 x5 (.int .i64 1)).bind fun v15 =>
        K .normal (st0 x0 v14 v15 h)))
     (
      K (.exit 0) (se0_0_1_5_9 x0 x1 x5 v10 h))
theorem body0_eq (E : Env) (K : PX → St → Res) (x0 x1 x5 : PV) (h : PHeap) : ev (E.cx Tryd.prog kl) lp0 (st0 x0 x1 x5 h) K = body0 E K x0 x1 x5 h := by kernel_rfl
theorem after0_se0_0_1_5_9 (E : Env) (x0 x1 x5 x9 : PV) (h : PHeap) : K0 E (kTop Tryd.prog Tryd.f8) (.exit 0) (se0_0_1_5_9 x0 x1 x5 x9 h) =
    (resV x1).bind fun v8 =>
    some (v8, h) := by kernel_rfl
theorem top_sr_4 (x4 : PV) (h : PHeap) : kTop Tryd.prog Tryd.f8 .ret (sr_4 x4 h) =
    (resV x4).bind fun v16 =>
    some (v16, h) := by kernel_rfl
noncomputable def main (E : Env) (x0 x1 : PV) (h : PHeap) : Res :=
    loopK (ev (E.cx Tryd.prog laws_heldIntS.kl) laws_heldIntS.lp0) E.lf (laws_heldIntS.st0 x0 x1 (.int .i64 0) h) (laws_heldIntS.K0 E (kTop Tryd.prog Tryd.f8))
theorem main_eq (E : Env) (x0 x1 : PV) (h : PHeap) : runBody (E.cx Tryd.prog kl) Tryd.f8 [x0, x1] h = main E x0 x1 h := by kernel_rfl
theorem call_eq (g : Nat → PV) (lf n : Nat) (x0 x1 : PV) (h : PHeap) : CL g lf (n + 1) fn_laws_heldIntS [x0, x1] h = main (env g lf n) x0 x1 h := by
  rw [← main_eq]
  show call Tryd.prog g KL lf (n + 1) 8 [x0, x1] h = _
  rw [call_succ, Tryd.func8]
  kernel_rfl
end laws_heldIntS
namespace spec_BoardOk
noncomputable def main (E : Env) (x0 x1 : PV) (h : PHeap) : Res :=
    (E.C fn_spec_l1In [x0, (.int .i64 1), (.int .i64 4)] h).bind fun v1 =>
    (wantV v1.1 true).bind fun v2 =>
    (bif v2 then some (x1, v1.2) else some (.tup [], v1.2)).bind fun v3 =>
    (wantV v1.1 true).bind fun v4 =>
    (bif v4 then E.C fn_spec_l1In [v3.1, (.int .i64 1), (.int .i64 4)] v3.2 else some (.tup [], v3.2)).bind fun v5 =>
    (E.p.pick v1.1 v5.1 (.bool false)).bind fun v6 =>
    (wantV v6 true).bind fun v7 =>
    (bif v7 then some (x0, v5.2) else some (.tup [], v5.2)).bind fun v8 =>
    (wantV v6 true).bind fun v9 =>
    (bif v9 then some (x1, v8.2) else some (.tup [], v8.2)).bind fun v10 =>
    (wantV v6 true).bind fun v11 =>
    (bif v11 then pv v10.2 (E.p.bin .mul 3 v8.1 v10.1) else some (.tup [], v10.2)).bind fun v12 =>
    (wantV v6 true).bind fun v13 =>
    (bif v13 then pv v12.2 (E.p.bin .leq 3 v12.1 (.int .i64 9)) else some (.tup [], v12.2)).bind fun v14 =>
    (E.p.pick v6 v14.1 (.bool false)).bind fun v15 =>
    (resV v15).bind fun v16 =>
    some (v16, v14.2)
theorem main_eq (E : Env) (x0 x1 : PV) (h : PHeap) : runBody (E.cx Tryd.prog kl) Tryd.f9 [x0, x1] h = main E x0 x1 h := by kernel_rfl
theorem call_eq (g : Nat → PV) (lf n : Nat) (x0 x1 : PV) (h : PHeap) : CL g lf (n + 1) fn_spec_BoardOk [x0, x1] h = main (env g lf n) x0 x1 h := by
  rw [← main_eq]
  show call Tryd.prog g KL lf (n + 1) 9 [x0, x1] h = _
  rw [call_succ, Tryd.func9]
  kernel_rfl
end spec_BoardOk
namespace spec_LinePlayed
noncomputable def lp0 : Code := (codeAt (bodyOf Tryd.f10) [1, 1, 1, 1, 0, 0, 0])
def st0 (x0 x1 x3 x9 x10 : PV) (h : PHeap) : St := ⟨[x0, x1, .junk, x3, .junk, .junk, .junk, .junk, .junk, x9, x10, .junk, .junk, .junk, .junk, .junk, .junk, .junk, .junk, .junk, .junk, .junk, .junk, .junk, .junk, .junk, .junk, .junk, .junk, .junk, .junk, .junk, .junk, .junk, .junk, .junk, .junk, .junk, .junk, .junk, .junk, .junk, .junk, .junk, .junk, .junk, .junk, .junk, .junk, .junk, .junk, .junk, .junk, .junk, .junk, .junk, .junk, .junk, .junk, .junk, .junk, .junk, .junk, .junk, .junk, .junk, .junk, .junk, .junk, .junk, .junk, .junk], h⟩
def se0_0_1_3_9_10_44 (x0 x1 x3 x9 x10 x44 : PV) (h : PHeap) : St := ⟨[x0, x1, .junk, x3, .junk, .junk, .junk, .junk, .junk, x9, x10, .junk, .junk, .junk, .junk, .junk, .junk, .junk, .junk, .junk, .junk, .junk, .junk, .junk, .junk, .junk, .junk, .junk, .junk, .junk, .junk, .junk, .junk, .junk, .junk, .junk, .junk, .junk, .junk, .junk, .junk, .junk, .junk, .junk, x44, .junk, .junk, .junk, .junk, .junk, .junk, .junk, .junk, .junk, .junk, .junk, .junk, .junk, .junk, .junk, .junk, .junk, .junk, .junk, .junk, .junk, .junk, .junk, .junk, .junk, .junk, .junk], h⟩
noncomputable def K0 (E : Env) (K : PX → St → Res) : PX → St → Res := (kBlock 0 (kSeq (ev (E.cx Tryd.prog kl) (codeAt (bodyOf Tryd.f10) [1, 1, 1, 1, 1])) K))
@[simp] theorem K0_ret (E : Env) (K : PX → St → Res) (s : St) : K0 E K .ret s = K .ret s := by kernel_rfl
noncomputable def body0 (E : Env) (K : PX → St → Res) (x0 x1 x3 x9 x10 : PV) (h : PHeap) : Res :=
    (E.C fn_spec_l2Set [x10, (.int .i64 0)] h).bind fun v58 =>
    (E.p.bin .neq 3 v58.1 (.int .i64 0)).bind fun v59 =>
    (wantV v59 true).bind fun v60 =>
    (bif v60 then some (x0, v58.2) else some (.tup [], v58.2)).bind fun v61 =>
    (wantV v59 true).bind fun v62 =>
    (bif v62 then some (x1, v61.2) else some (.tup [], v61.2)).bind fun v63 =>
    (wantV v59 true).bind fun v64 =>
    (bif v64 then some (x10, v63.2) else some (.tup [], v63.2)).bind fun v65 =>
    (wantV v59 true).bind fun v66 =>
    (bif v66 then E.C fn_spec_Joins [v61.1, v63.1, v65.1, (.int .i64 1)] v65.2 else some (.tup [], v65.2)).bind fun v67 =>
    (wantV v59 true).bind fun v68 =>
    (bif v68 then pv v67.2 (E.p.un .not v67.1) else some (.tup [], v67.2)).bind fun v69 =>
    (E.p.pick v59 v69.1 (.bool false)).bind fun v70 =>
    (wantV v70 true).bind fun v71 =>
    (bif v71 then some (x0, v69.2) else some (.tup [], v69.2)).bind fun v72 =>
    (wantV v70 true).bind fun v73 =>
    (bif v73 then some (x1, v72.2) else some (.tup [], v72.2)).bind fun v74 =>
    (wantV v70 true).bind fun v75 =>
    (bif v75 then some (x10, v74.2) else some (.tup [], v74.2)).bind fun v76 =>
    (wantV v70 true).bind fun v77 =>
    (bif v77 then E.C fn_spec_Joins [v72.1, v74.1, v76.1, (.int .i64 2)] v76.2 else some (.tup [], v76.2)).bind fun v78 =>
    (wantV v70 true).bind fun v79 =>
    (bif v79 then pv v78.2 (E.p.un .not v78.1) else some (.tup [], v78.2)).bind fun v80 =>
    (E.p.pick v70 v80.1 (.bool false)).bind fun v81 =>
    condP v81
     (
      (E.C fn_spec_l2Set [x10, (.int .i64 0)] v80.2).bind fun v82 =>
      (E.C fn_spec_l2List [v82.1] v82.2).bind fun v83 =>
      (E.p.indexAddr 22 v83.1 (.int .i64 0)).bind fun v84 =>
      (E.p.load 3 v84 v83.2).bind fun v85 =>
      (E.C fn_spec_WinningCells [x0, x1, x10, x3] v83.2).bind fun v86 =>
      (E.p.len 22 v86.1).bind fun v87 =>
      (E.p.bin .gtr 3 v87 (.int .i64 0)).bind fun v88 =>
      condP v88
       (
        (E.p.indexAddr 22 v86.1 (.int .i64 0)).bind fun v89 =>
        (E.p.load 3 v89 v86.2).bind fun v90 =>
        (E.p.buildSlice 22 1 [(0, v90)] v86.2).bind fun v91 =>
        (E.p.append 22 22 x9 v91.1 v91.2).bind fun v92 =>
        (E.p.indexAddr 22 x10 v90).bind fun v93 =>
        (E.p.store 3 v93 x3 v92.2).bind fun v94 =>
        (E.C fn_spec_l1Other [x3] v94).bind fun v95 =>
        K .normal (st0 x0 x1 v95.1 v92.1 x10 v95.2))
       (
        (E.p.buildSlice 22 1 [(0, v85)] v86.2).bind fun v96 =>
        (E.p.append 22 22 x9 v96.1 v96.2).bind fun v97 =>
        (E.p.indexAddr 22 x10 v85).bind fun v98 =>
        (E.p.store 3 v98 x3 v97.2).bind fun v99 =>
        (E.C fn_spec_l1Other [x3] v99).bind fun v100 =>
        K .normal (st0 x0 x1 v100.1 v97.1 x10 v100.2)))
     (
      K (.exit 0) (se0_0_1_3_9_10_44 x0 x1 x3 x9 x10 v81 v80.2))
theorem body0_eq (E : Env) (K : PX → St → Res) (x0 x1 x3 x9 x10 : PV) (h : PHeap) : ev (E.cx Tryd.prog kl) lp0 (st0 x0 x1 x3 x9 x10 h) K = body0 E K x0 x1 x3 x9 x10 h := by kernel_rfl
theorem after0_se0_0_1_3_9_10_44 (E : Env) (x0 x1 x3 x9 x10 x44 : PV) (h : PHeap) : K0 E (kTop Tryd.prog Tryd.f10) (.exit 0) (se0_0_1_3_9_10_44 x0 x1 x3 x9 x10 x44 h) =
    (resV x9).bind fun v57 =>
    some (v57, h) := by kernel_rfl
noncomputable def main (E : Env) (x0 x1 x2 x3 : PV) (h : PHeap) : Res :=
    (E.p.buildSlice 22 0 [] h).bind fun v1 =>
    (E.C fn_spec_PositionOk [x0, x1, x2] v1.2).bind fun v2 =>
    (E.p.un .not v2.1).bind fun v3 =>
    (wantV v3 false).bind fun v4 =>
    (bif v4 then some (x3, v2.2) else some (.tup [], v2.2)).bind fun v5 =>
    (wantV v3 false).bind fun v6 =>
    (bif v6 then E.C fn_spec_l1In [v5.1, (.int .i64 1), (.int .i64 2)] v5.2 else some (.tup [], v5.2)).bind fun v7 =>
    (wantV v3 false).bind fun v8 =>
    (bif v8 then pv v7.2 (E.p.un .not v7.1) else some (.tup [], v7.2)).bind fun v9 =>
    (E.p.pick v3 (.bool true) v9.1).bind fun v10 =>
    condP v10
     (
      (resV v1.1).bind fun v11 =>
      some (v11, v9.2))
     (
      (E.p.buildSlice 22 0 [] v9.2).bind fun v12 =>
      (E.p.append 22 22 v12.1 x2 v12.2).bind fun v13 =>
      loopK (ev (E.cx Tryd.prog spec_LinePlayed.kl) spec_LinePlayed.lp0) E.lf (spec_LinePlayed.st0 x0 x1 x3 v1.1 v13.1 v13.2) (spec_LinePlayed.K0 E (kTop Tryd.prog Tryd.f10)))
theorem main_eq (E : Env) (x0 x1 x2 x3 : PV) (h : PHeap) : runBody (E.cx Tryd.prog kl) Tryd.f10 [x0, x1, x2, x3] h = main E x0 x1 x2 x3 h := by kernel_rfl
theorem call_eq (g : Nat → PV) (lf n : Nat) (x0 x1 x2 x3 : PV) (h : PHeap) : CL g lf (n + 1) fn_spec_LinePlayed [x0, x1, x2, x3] h = main (env g lf n) x0 x1 x2 x3 h := by
  rw [← main_eq]
  show call Tryd.prog g KL lf (n + 1) 10 [x0, x1, x2, x3] h = _
  rw [call_succ, Tryd.func10]
  kernel_rfl
end spec_LinePlayed
namespace impl_smallOk
noncomputable def main (E : Env) (x0 x1 : PV) (h : PHeap) : Res :=
    (E.C fn_impl_BoardOk [x0, x1] h).bind fun v1 =>
    (wantV v1.1 true).bind fun v2 =>
    (bif v2 then some (x0, v1.2) else some (.tup [], v1.2)).bind fun v3 =>
    (wantV v1.1 true).bind fun v4 =>
    (bif v4 then some (x1, v3.2) else some (.tup [], v3.2)).bind fun v5 =>
    (wantV v1.1 true).bind fun v6 =>
    (bif v6 then pv v5.2 (E.p.bin .mul 3 v3.1 v5.1) else some (.tup [], v5.2)).bind fun v7 =>
    (wantV v1.1 true).bind fun v8 =>
    (bif v8 then pv v7.2 (E.p.bin .leq 3 v7.1 (.int .i64 6)) else some (.tup [], v7.2)).bind fun v9 =>
    (E.p.pick v1.1 v9.1 (.bool false)).bind fun v10 =>
    (resV v10).bind fun v11 =>
    some (v11, v9.2)
theorem main_eq (E : Env) (x0 x1 : PV) (h : PHeap) : runBody (E.cx Tryd.prog kl) Tryd.f11 [x0, x1] h = main E x0 x1 h := by kernel_rfl
theorem call_eq (g : Nat → PV) (lf n : Nat) (x0 x1 : PV) (h : PHeap) : CL g lf (n + 1) fn_impl_smallOk [x0, x1] h = main (env g lf n) x0 x1 h := by
  rw [← main_eq]
  show call Tryd.prog g KL lf (n + 1) 11 [x0, x1] h = _
  rw [call_succ, Tryd.func11]
  kernel_rfl
end impl_smallOk
namespace impl_LinePlayed
noncomputable def lp0 : Code := (codeAt (bodyOf Tryd.f12) [1, 1, 1, 1, 0, 1, 0, 0])
def st0 (x9 x10 x11 : PV) (h : PHeap) : St := ⟨[.junk, .junk, .junk, .junk, .junk, .junk, .junk, .junk, .junk, x9, x10, x11, .junk, .junk, .junk, .junk, .junk, .junk, .junk, .junk, .junk, .junk, .junk, .junk, .junk, .junk, .junk, .junk, .junk, .junk, .junk, .junk, .junk, .junk, .junk, .junk, .junk, .junk, .junk, .junk, .junk, .junk, .junk, .junk, .junk, .junk, .junk, .junk, .junk, .junk, .junk, .junk, .junk, .junk, .junk, .junk, .junk, .junk, .junk], h⟩
def se0_9_10_11_39 (x9 x10 x11 x39 : PV) (h : PHeap) : St := ⟨[.junk, .junk, .junk, .junk, .junk, .junk, .junk, .junk, .junk, x9, x10, x11, .junk, .junk, .junk, .junk, .junk, .junk, .junk, .junk, .junk, .junk, .junk, .junk, .junk, .junk, .junk, .junk, .junk, .junk, .junk, .junk, .junk, .junk, .junk, .junk, .junk, .junk, .junk, x39, .junk, .junk, .junk, .junk, .junk, .junk, .junk, .junk, .junk, .junk, .junk, .junk, .junk, .junk, .junk, .junk, .junk, .junk, .junk], h⟩
noncomputable def K0 (E : Env) (K : PX → St → Res) : PX → St → Res := (kBlock 0 (kSeq (ev (E.cx Tryd.prog kl) (codeAt (bodyOf Tryd.f12) [1, 1, 1, 1, 1])) K))
@[simp] theorem K0_ret (E : Env) (K : PX → St → Res) (s : St) : K0 E K .ret s = K .ret s := by kernel_rfl
noncomputable def body0 (E : Env) (K : PX → St → Res) (x9 x10 x11 : PV) (h : PHeap) : Res :=
    (E.p.fieldAddr 38 x11 0).bind fun v53 =>
    (E.p.indexAddr 36 v53 (.int .i64 0)).bind fun v54 =>
    (E.p.load 3 v54 h).bind fun v55 =>
    (E.p.bin .neq 3 v55 (.int .i64 0)).bind fun v56 =>
    (wantV v56 true).bind fun v57 =>
    (bif v57 then some (x9, h) else some (.tup [], h)).bind fun v58 =>
    (wantV v56 true).bind fun v59 =>
    (bif v59 then pv v58.2 (E.p.load 38 x11 v58.2) else some (.tup [], v58.2)).bind fun v60 =>
    (wantV v56 true).bind fun v61 =>
    (bif v61 then E.C fn_impl_search_joined [v58.1, v60.1] v60.2 else some (.tup [], v60.2)).bind fun v62 =>
    (wantV v56 true).bind fun v63 =>
    (bif v63 then pv v62.2 (E.p.bin .eql 3 v62.1 (.int .i64 0)) else some (.tup [], v62.2)).bind fun v64 =>
    (E.p.pick v56 v64.1 (.bool false)).bind fun v65 =>
    condP v65
     (
      (E.p.load 38 x11 v64.2).bind fun v66 =>
      (E.C fn_impl_search_winning [x9, v66] v64.2).bind fun v67 =>
      (E.p.bin .eql 3 v67.1 (.int .i64 0)).bind fun v68 =>
      condP v68
       (
        (E.p.fieldAddr 38 x11 0).bind fun v69 =>
        (E.p.indexAddr 36 v69 (.int .i64 0)).bind fun v70 =>
        (E.p.load 3 v70 v67.2).bind fun v71 =>
        (E.C fn_impl_leastIn [v71] v67.2).bind fun v72 =>
        (E.p.buildSlice 22 1 [(0, v72.1)] v72.2).bind fun v73 =>
        (E.p.append 22 22 x10 v73.1 v73.2).bind fun v74 =>
        (E.p.load 38 x11 v74.2).bind fun v75 =>
        (E.C fn_impl_standing_after [v75, v72.1] v74.2).bind fun v76 =>
        (E.p.store 38 x11 v76.1 v76.2).bind fun v77 =>
        (E.p.load 38 x11 v77).bind fun v78 =>
        (E.p.alloc 38 v77).bind fun v79 =>
        (E.p.store 38 v79.1 v78 v79.2).bind fun v80 =>
        K .normal (st0 x9 v74.1 v79.1 v80))
       (
        (E.C fn_impl_leastIn [v67.1] v67.2).bind fun v81 =>
        (E.p.buildSlice 22 1 [(0, v81.1)] v81.2).bind fun v82 =>
        (E.p.append 22 22 x10 v82.1 v82.2).bind fun v83 =>
        (E.p.load 38 x11 v83.2).bind fun v84 =>
        (E.C fn_impl_standing_after [v84, v81.1] v83.2).bind fun v85 =>
        (E.p.store 38 x11 v85.1 v85.2).bind fun v86 =>
        (E.p.load 38 x11 v86).bind fun v87 =>
        (E.p.alloc 38 v86).bind fun v88 =>
        (E.p.store 38 v88.1 v87 v88.2).bind fun v89 =>
        K .normal (st0 x9 v83.1 v88.1 v89)))
     (
      K (.exit 0) (se0_9_10_11_39 x9 x10 x11 v65 v64.2))
theorem body0_eq (E : Env) (K : PX → St → Res) (x9 x10 x11 : PV) (h : PHeap) : ev (E.cx Tryd.prog kl) lp0 (st0 x9 x10 x11 h) K = body0 E K x9 x10 x11 h := by kernel_rfl
theorem after0_se0_9_10_11_39 (E : Env) (x9 x10 x11 x39 : PV) (h : PHeap) : K0 E (kTop Tryd.prog Tryd.f12) (.exit 0) (se0_9_10_11_39 x9 x10 x11 x39 h) =
    (resV x10).bind fun v52 =>
    some (v52, h) := by kernel_rfl
noncomputable def main (E : Env) (x0 x1 x2 x3 : PV) (h : PHeap) : Res :=
    (E.C fn_impl_PositionOk [x0, x1, x2] h).bind fun v1 =>
    (E.p.un .not v1.1).bind fun v2 =>
    (wantV v2 false).bind fun v3 =>
    (bif v3 then some (x3, v1.2) else some (.tup [], v1.2)).bind fun v4 =>
    (wantV v2 false).bind fun v5 =>
    (bif v5 then E.C fn_impl_playerOk [v4.1] v4.2 else some (.tup [], v4.2)).bind fun v6 =>
    (wantV v2 false).bind fun v7 =>
    (bif v7 then pv v6.2 (E.p.un .not v6.1) else some (.tup [], v6.2)).bind fun v8 =>
    (E.p.pick v2 (.bool true) v8.1).bind fun v9 =>
    condP v9
     (
      (resV .nilsl).bind fun v10 =>
      some (v10, v8.2))
     (
      (E.C fn_impl_newSearch [x0, x1] v8.2).bind fun v11 =>
      (E.C fn_impl_standingOf [x2, x3] v11.2).bind fun v12 =>
      (E.p.alloc 38 v12.2).bind fun v13 =>
      (E.p.store 38 v13.1 v12.1 v13.2).bind fun v14 =>
      loopK (ev (E.cx Tryd.prog impl_LinePlayed.kl) impl_LinePlayed.lp0) E.lf (impl_LinePlayed.st0 v11.1 .nilsl v13.1 v14) (impl_LinePlayed.K0 E (kTop Tryd.prog Tryd.f12)))
theorem main_eq (E : Env) (x0 x1 x2 x3 : PV) (h : PHeap) : runBody (E.cx Tryd.prog kl) Tryd.f12 [x0, x1, x2, x3] h = main E x0 x1 x2 x3 h := by kernel_rfl
theorem call_eq (g : Nat → PV) (lf n : Nat) (x0 x1 x2 x3 : PV) (h : PHeap) : CL g lf (n + 1) fn_impl_LinePlayed [x0, x1, x2, x3] h = main (env g lf n) x0 x1 x2 x3 h := by
  rw [← main_eq]
  show call Tryd.prog g KL lf (n + 1) 12 [x0, x1, x2, x3] h = _
  rw [call_succ, Tryd.func12]
  kernel_rfl
end impl_LinePlayed
namespace impl_freeBoard
noncomputable def main (E : Env) (x0 x1 : PV) (h : PHeap) : Res :=
    (E.C fn_impl_BoardOk [x0, x1] h).bind fun v1 =>
    (E.p.un .not v1.1).bind fun v2 =>
    condP v2
     (
      (resV .nilsl).bind fun v3 =>
      some (v3, v1.2))
     (
      (E.p.bin .mul 3 x0 x1).bind fun v4 =>
      (E.p.make 22 v4 v4 v1.2).bind fun v5 =>
      (resV v5.1).bind fun v6 =>
      some (v6, v5.2))
theorem main_eq (E : Env) (x0 x1 : PV) (h : PHeap) : runBody (E.cx Tryd.prog kl) Tryd.f13 [x0, x1] h = main E x0 x1 h := by kernel_rfl
theorem call_eq (g : Nat → PV) (lf n : Nat) (x0 x1 : PV) (h : PHeap) : CL g lf (n + 1) fn_impl_freeBoard [x0, x1] h = main (env g lf n) x0 x1 h := by
  rw [← main_eq]
  show call Tryd.prog g KL lf (n + 1) 13 [x0, x1] h = _
  rw [call_succ, Tryd.func13]
  kernel_rfl
end impl_freeBoard
namespace spec_l1In
noncomputable def main (E : Env) (x0 x1 x2 : PV) (h : PHeap) : Res :=
    (E.p.bin .geq 3 x0 x1).bind fun v1 =>
    (wantV v1 true).bind fun v2 =>
    (bif v2 then some (x0, h) else some (.tup [], h)).bind fun v3 =>
    (wantV v1 true).bind fun v4 =>
    (bif v4 then some (x2, v3.2) else some (.tup [], v3.2)).bind fun v5 =>
    (wantV v1 true).bind fun v6 =>
    (bif v6 then pv v5.2 (E.p.bin .leq 3 v3.1 v5.1) else some (.tup [], v5.2)).bind fun v7 =>
    (E.p.pick v1 v7.1 (.bool false)).bind fun v8 =>
    (resV v8).bind fun v9 =>
    some (v9, v7.2)
theorem main_eq (E : Env) (x0 x1 x2 : PV) (h : PHeap) : runBody (E.cx Tryd.prog kl) Tryd.f14 [x0, x1, x2] h = main E x0 x1 x2 h := by kernel_rfl
theorem call_eq (g : Nat → PV) (lf n : Nat) (x0 x1 x2 : PV) (h : PHeap) : CL g lf (n + 1) fn_spec_l1In [x0, x1, x2] h = main (env g lf n) x0 x1 x2 h := by
  rw [← main_eq]
  show call Tryd.prog g KL lf (n + 1) 14 [x0, x1, x2] h = _
  rw [call_succ, Tryd.func14]
  kernel_rfl
end spec_l1In
namespace spec_PositionOk
noncomputable def lp0 : Code := (codeAt (bodyOf Tryd.f15) [1, 0, 1, 0, 0])
def st0 (x0 x1 x2 x7 : PV) (h : PHeap) : St := ⟨[x0, x1, x2, .junk, .junk, .junk, .junk, x7, .junk, .junk, .junk, .junk, .junk, .junk, .junk, .junk, .junk, .junk, .junk, .junk, .junk, .junk, .junk, .junk, .junk, .junk, .junk, .junk, .junk, .junk, .junk], h⟩
def sr_6 (x6 : PV) (h : PHeap) : St := ⟨[.junk, .junk, .junk, .junk, .junk, .junk, x6, .junk, .junk, .junk, .junk, .junk, .junk, .junk, .junk, .junk, .junk, .junk, .junk, .junk, .junk, .junk, .junk, .junk, .junk, .junk, .junk, .junk, .junk, .junk, .junk], h⟩
def se0_0_1_2_7_11 (x0 x1 x2 x7 x11 : PV) (h : PHeap) : St := ⟨[x0, x1, x2, .junk, .junk, .junk, .junk, x7, .junk, .junk, .junk, x11, .junk, .junk, .junk, .junk, .junk, .junk, .junk, .junk, .junk, .junk, .junk, .junk, .junk, .junk, .junk, .junk, .junk, .junk, .junk], h⟩
noncomputable def K0 (E : Env) (K : PX → St → Res) : PX → St → Res := (kBlock 0 (kSeq (ev (E.cx Tryd.prog kl) (codeAt (bodyOf Tryd.f15) [1, 1])) K))
@[simp] theorem K0_ret (E : Env) (K : PX → St → Res) (s : St) : K0 E K .ret s = K .ret s := by kernel_rfl
noncomputable def body0 (E : Env) (K : PX → St → Res) (x0 x1 x2 x7 : PV) (h : PHeap) : Res :=
    (E.p.len 22 x2).bind fun v23 =>
    (E.p.bin .lss 3 x7 v23).bind fun v24 =>
    condP v24
     (
      (E.p.indexAddr 22 x2 x7).bind fun v25 =>
      (E.p.load 3 v25 h).bind fun v26 =>
      (E.C fn_spec_l1In [v26, (.int .i64 0), (.int .i64 2)] h).bind fun v27 =>
      (E.p.un .not v27.1).bind fun v28 =>
      condP v28
       (
        K .ret (sr_6 (.bool false) v27.2))
       (
        (E.p.bin .add 3 x7 (.int .i64 1)).bind fun v29 =>
        K .normal (st0 x0 x1 x2 v29 v27.2)))
     (
      K (.exit 0) (se0_0_1_2_7_11 x0 x1 x2 x7 v24 h))
theorem body0_eq (E : Env) (K : PX → St → Res) (x0 x1 x2 x7 : PV) (h : PHeap) : ev (E.cx Tryd.prog kl) lp0 (st0 x0 x1 x2 x7 h) K = body0 E K x0 x1 x2 x7 h := by kernel_rfl
theorem after0_se0_0_1_2_7_11 (E : Env) (x0 x1 x2 x7 x11 : PV) (h : PHeap) : K0 E (kTop Tryd.prog Tryd.f15) (.exit 0) (se0_0_1_2_7_11 x0 x1 x2 x7 x11 h) =
    (E.C fn_spec_BoardOk [x0, x1] h).bind fun v8 =>
    (wantV v8.1 true).bind fun v9 =>
    (bif v9 then some (x2, v8.2) else some (.tup [], v8.2)).bind fun v10 =>
    (wantV v8.1 true).bind fun v11 =>
    (bif v11 then pv v10.2 (E.p.len 22 v10.1) else some (.tup [], v10.2)).bind fun v12 =>
    (wantV v8.1 true).bind fun v13 =>
    (bif v13 then some (x0, v12.2) else some (.tup [], v12.2)).bind fun v14 =>
    (wantV v8.1 true).bind fun v15 =>
    (bif v15 then some (x1, v14.2) else some (.tup [], v14.2)).bind fun v16 =>
    (wantV v8.1 true).bind fun v17 =>
    (bif v17 then pv v16.2 (E.p.bin .mul 3 v14.1 v16.1) else some (.tup [], v16.2)).bind fun v18 =>
    (wantV v8.1 true).bind fun v19 =>
    (bif v19 then pv v18.2 (E.p.bin .eql 3 v12.1 v18.1) else some (.tup [], v18.2)).bind fun v20 =>
    (E.p.pick v8.1 v20.1 (.bool false)).bind fun v21 =>
    (resV v21).bind fun v22 =>
    some (v22, v20.2) := by kernel_rfl
theorem top_sr_6 (x6 : PV) (h : PHeap) : kTop Tryd.prog Tryd.f15 .ret (sr_6 x6 h) =
    (resV x6).bind fun v30 =>
    some (v30, h) := by kernel_rfl
noncomputable def main (E : Env) (x0 x1 x2 : PV) (h : PHeap) : Res :=
    loopK (ev (E.cx Tryd.prog spec_PositionOk.kl) spec_PositionOk.lp0) E.lf (spec_PositionOk.st0 x0 x1 x2 (.int .i64 0) h) (spec_PositionOk.K0 E (kTop Tryd.prog Tryd.f15))
theorem main_eq (E : Env) (x0 x1 x2 : PV) (h : PHeap) : runBody (E.cx Tryd.prog kl) Tryd.f15 [x0, x1, x2] h = main E x0 x1 x2 h := by kernel_rfl
theorem call_eq (g : Nat → PV) (lf n : Nat) (x0 x1 x2 : PV) (h : PHeap) : CL g lf (n + 1) fn_spec_PositionOk [x0, x1, x2] h = main (env g lf n) x0 x1 x2 h := by
  rw [← main_eq]
  show call Tryd.prog g KL lf (n + 1) 15 [x0, x1, x2] h = _
  rw [call_succ, Tryd.func15]
  kernel_rfl
end spec_PositionOk
namespace spec_l2Set
noncomputable def lp0 : Code := (codeAt (bodyOf Tryd.f16) [1, 1, 0, 1, 0, 0])
def st0 (x0 x1 x5 x6 : PV) (h : PHeap) : St := ⟨[x0, x1, .junk, .junk, .junk, x5, x6, .junk, .junk, .junk, .junk, .junk, .junk, .junk, .junk, .junk, .junk, .junk, .junk, .junk, .junk, .junk, .junk, .junk], h⟩
def se0_0_1_5_6_10 (x0 x1 x5 x6 x10 : PV) (h : PHeap) : St := ⟨[x0, x1, .junk, .junk, .junk, x5, x6, .junk, .junk, .junk, x10, .junk, .junk, .junk, .junk, .junk, .junk, .junk, .junk, .junk, .junk, .junk, .junk, .junk], h⟩
noncomputable def K0 (E : Env) (K : PX → St → Res) : PX → St → Res := (kBlock 0 (kSeq (ev (E.cx Tryd.prog kl) (codeAt (bodyOf Tryd.f16) [1, 1, 1])) K))
@[simp] theorem K0_ret (E : Env) (K : PX → St → Res) (s : St) : K0 E K .ret s = K .ret s := by kernel_rfl
noncomputable def body0 (E : Env) (K : PX → St → Res) (x0 x1 x5 x6 : PV) (h : PHeap) : Res :=
    (E.p.len 22 x0).bind fun v11 =>
    (E.p.bin .lss 3 x6 v11).bind fun v12 =>
    condP v12
     (
      (E.p.indexAddr 22 x0 x6).bind fun v13 =>
      (E.p.load 3 v13 h).bind fun v14 =>
      (E.p.bin .eql 3 v14 x1).bind fun v15 =>
      condP v15
       (
        (E.p.bin .shl 3 (.int .i64 1) x6).bind fun v16 =>
        (E.p.bin .or 3 x5 v16).bind fun v17 =>
        (E.p.bin .add 3 x6 (.int .i64 1)).bind fun v18 =>
        K .normal (st0 x0 x1 v17 v18 h))
       (
        (E.p.bin .add 3 x6 (.int .i64 1)).bind fun v19 =>
        K .normal (st0 x0 x1 x5 v19 h)))
     (
      K (.exit 0) (se0_0_1_5_6_10 x0 x1 x5 x6 v12 h))
theorem body0_eq (E : Env) (K : PX → St → Res) (x0 x1 x5 x6 : PV) (h : PHeap) : ev (E.cx Tryd.prog kl) lp0 (st0 x0 x1 x5 x6 h) K = body0 E K x0 x1 x5 x6 h := by kernel_rfl
theorem after0_se0_0_1_5_6_10 (E : Env) (x0 x1 x5 x6 x10 : PV) (h : PHeap) : K0 E (kTop Tryd.prog Tryd.f16) (.exit 0) (se0_0_1_5_6_10 x0 x1 x5 x6 x10 h) =
    (resV x5).bind fun v10 =>
    some (v10, h) := by kernel_rfl
noncomputable def main (E : Env) (x0 x1 : PV) (h : PHeap) : Res :=
    loopK (ev (E.cx Tryd.prog spec_l2Set.kl) spec_l2Set.lp0) E.lf (spec_l2Set.st0 x0 x1 (.int .i64 0) (.int .i64 0) h) (spec_l2Set.K0 E (kTop Tryd.prog Tryd.f16))
theorem main_eq (E : Env) (x0 x1 : PV) (h : PHeap) : runBody (E.cx Tryd.prog kl) Tryd.f16 [x0, x1] h = main E x0 x1 h := by kernel_rfl
theorem call_eq (g : Nat → PV) (lf n : Nat) (x0 x1 : PV) (h : PHeap) : CL g lf (n + 1) fn_spec_l2Set [x0, x1] h = main (env g lf n) x0 x1 h := by
  rw [← main_eq]
  show call Tryd.prog g KL lf (n + 1) 16 [x0, x1] h = _
  rw [call_succ, Tryd.func16]
  kernel_rfl
end spec_l2Set
namespace spec_Joins
noncomputable def main (E : Env) (x0 x1 x2 x3 : PV) (h : PHeap) : Res :=
    (E.C fn_spec_PositionOk [x0, x1, x2] h).bind fun v1 =>
    (E.p.un .not v1.1).bind fun v2 =>
    (wantV v2 false).bind fun v3 =>
    (bif v3 then some (x3, v1.2) else some (.tup [], v1.2)).bind fun v4 =>
    (wantV v2 false).bind fun v5 =>
    (bif v5 then E.C fn_spec_l1In [v4.1, (.int .i64 1), (.int .i64 2)] v4.2 else some (.tup [], v4.2)).bind fun v6 =>
    (wantV v2 false).bind fun v7 =>
    (bif v7 then pv v6.2 (E.p.un .not v6.1) else some (.tup [], v6.2)).bind fun v8 =>
    (E.p.pick v2 (.bool true) v8.1).bind fun v9 =>
    condP v9
     (
      (resV (.bool false)).bind fun v10 =>
      some (v10, v8.2))
     (
      (E.C fn_spec_l2Masks [x0, x1] v8.2).bind fun v11 =>
      (E.C fn_spec_l2Set [x2, x3] v11.2).bind fun v12 =>
      (E.C fn_spec_l2Joins [x0, x1, v11.1, v12.1, x3] v12.2).bind fun v13 =>
      (resV v13.1).bind fun v14 =>
      some (v14, v13.2))
theorem main_eq (E : Env) (x0 x1 x2 x3 : PV) (h : PHeap) : runBody (E.cx Tryd.prog kl) Tryd.f17 [x0, x1, x2, x3] h = main E x0 x1 x2 x3 h := by kernel_rfl
theorem call_eq (g : Nat → PV) (lf n : Nat) (x0 x1 x2 x3 : PV) (h : PHeap) : CL g lf (n + 1) fn_spec_Joins [x0, x1, x2, x3] h = main (env g lf n) x0 x1 x2 x3 h := by
  rw [← main_eq]
  show call Tryd.prog g KL lf (n + 1) 17 [x0, x1, x2, x3] h = _
  rw [call_succ, Tryd.func17]
  kernel_rfl
end spec_Joins
namespace spec_l2List
noncomputable def lp0 : Code := (codeAt (bodyOf Tryd.f18) [1, 1, 0, 1, 0, 0])
def st0 (x0 x3 x4 : PV) (h : PHeap) : St := ⟨[x0, .junk, .junk, x3, x4, .junk, .junk, .junk, .junk, .junk, .junk, .junk, .junk, .junk, .junk, .junk, .junk, .junk, .junk, .junk, .junk, .junk], h⟩
def se0_0_3_4_9 (x0 x3 x4 x9 : PV) (h : PHeap) : St := ⟨[x0, .junk, .junk, x3, x4, .junk, .junk, .junk, .junk, x9, .junk, .junk, .junk, .junk, .junk, .junk, .junk, .junk, .junk, .junk, .junk, .junk], h⟩
noncomputable def K0 (E : Env) (K : PX → St → Res) : PX → St → Res := (kBlock 0 (kSeq (ev (E.cx Tryd.prog kl) (codeAt (bodyOf Tryd.f18) [1, 1, 1])) K))
@[simp] theorem K0_ret (E : Env) (K : PX → St → Res) (s : St) : K0 E K .ret s = K .ret s := by kernel_rfl
noncomputable def body0 (E : Env) (K : PX → St → Res) (x0 x3 x4 : PV) (h : PHeap) : Res :=
    (E.p.bin .shr 3 x0 x4).bind fun v12 =>
    (E.p.bin .gtr 3 v12 (.int .i64 0)).bind fun v13 =>
    condP v13
     (
      (E.p.bin .shr 3 x0 x4).bind fun v14 =>
      (E.p.bin .rem 3 v14 (.int .i64 2)).bind fun v15 =>
      (E.p.bin .eql 3 v15 (.int .i64 1)).bind fun v16 =>
      condP v16
       (
        (E.p.buildSlice 22 1 [(0, x4)] h).bind fun v17 =>
        (E.p.append 22 22 x3 v17.1 v17.2).bind fun v18 =>
        (E.p.bin .add 3 x4 (.int .i64 1)).bind fun v19 =>
        K .normal (st0 x0 v18.1 v19 v18.2))
       (
        (E.p.bin .add 3 x4 (.int .i64 1)).bind fun v20 =>
        K .normal (st0 x0 x3 v20 h)))
     (
      K (.exit 0) (se0_0_3_4_9 x0 x3 x4 v13 h))
theorem body0_eq (E : Env) (K : PX → St → Res) (x0 x3 x4 : PV) (h : PHeap) : ev (E.cx Tryd.prog kl) lp0 (st0 x0 x3 x4 h) K = body0 E K x0 x3 x4 h := by kernel_rfl
theorem after0_se0_0_3_4_9 (E : Env) (x0 x3 x4 x9 : PV) (h : PHeap) : K0 E (kTop Tryd.prog Tryd.f18) (.exit 0) (se0_0_3_4_9 x0 x3 x4 x9 h) =
    (resV x3).bind fun v11 =>
    some (v11, h) := by kernel_rfl
noncomputable def main (E : Env) (x0 : PV) (h : PHeap) : Res :=
    (E.p.buildSlice 22 0 [] h).bind fun v1 =>
    loopK (ev (E.cx Tryd.prog spec_l2List.kl) spec_l2List.lp0) E.lf (spec_l2List.st0 x0 v1.1 (.int .i64 0) v1.2) (spec_l2List.K0 E (kTop Tryd.prog Tryd.f18))
theorem main_eq (E : Env) (x0 : PV) (h : PHeap) : runBody (E.cx Tryd.prog kl) Tryd.f18 [x0] h = main E x0 h := by kernel_rfl
theorem call_eq (g : Nat → PV) (lf n : Nat) (x0 : PV) (h : PHeap) : CL g lf (n + 1) fn_spec_l2List [x0] h = main (env g lf n) x0 h := by
  rw [← main_eq]
  show call Tryd.prog g KL lf (n + 1) 18 [x0] h = _
  rw [call_succ, Tryd.func18]
  kernel_rfl
end spec_l2List
namespace spec_WinningCells
noncomputable def lp0 : Code := (codeAt (bodyOf Tryd.f19) [1, 1, 0, 1, 0, 0])
def st0 (x0 x1 x2 x3 x9 x10 : PV) (h : PHeap) : St := ⟨[x0, x1, x2, x3, .junk, .junk, .junk, .junk, .junk, x9, x10, .junk, .junk, .junk, .junk, .junk, .junk, .junk, .junk, .junk, .junk, .junk, .junk, .junk, .junk, .junk, .junk, .junk, .junk, .junk, .junk, .junk, .junk, .junk, .junk, .junk, .junk, .junk, .junk, .junk, .junk, .junk, .junk, .junk, .junk], h⟩
def se0_0_1_2_3_9_10_17 (x0 x1 x2 x3 x9 x10 x17 : PV) (h : PHeap) : St := ⟨[x0, x1, x2, x3, .junk, .junk, .junk, .junk, .junk, x9, x10, .junk, .junk, .junk, .junk, .junk, .junk, x17, .junk, .junk, .junk, .junk, .junk, .junk, .junk, .junk, .junk, .junk, .junk, .junk, .junk, .junk, .junk, .junk, .junk, .junk, .junk, .junk, .junk, .junk, .junk, .junk, .junk, .junk, .junk], h⟩
noncomputable def K0 (E : Env) (K : PX → St → Res) : PX → St → Res := (kBlock 0 (kSeq (ev (E.cx Tryd.prog kl) (codeAt (bodyOf Tryd.f19) [1, 1, 1])) K))
@[simp] theorem K0_ret (E : Env) (K : PX → St → Res) (s : St) : K0 E K .ret s = K .ret s := by kernel_rfl
noncomputable def body0 (E : Env) (K : PX → St → Res) (x0 x1 x2 x3 x9 x10 : PV) (h : PHeap) : Res :=
    (E.p.len 22 x2).bind fun v29 =>
    (E.p.bin .lss 3 x10 v29).bind fun v30 =>
    condP v30
     (
      (E.C fn_spec_Played [x0, x1, x2, x10, x3] h).bind fun v31 =>
      (E.p.extract v31.1 0).bind fun v32 =>
      (E.p.extract v31.1 1).bind fun v33 =>
      (wantV v33 true).bind fun v34 =>
      (bif v34 then some (x0, v31.2) else some (.tup [], v31.2)).bind fun v35 =>
      (wantV v33 true).bind fun v36 =>
      (bif v36 then some (x1, v35.2) else some (.tup [], v35.2)).bind fun v37 =>
      (wantV v33 true).bind fun v38 =>
      (bif v38 then some (v32, v37.2) else some (.tup [], v37.2)).bind fun v39 =>
      (wantV v33 true).bind fun v40 =>
      (bif v40 then some (x3, v39.2) else some (.tup [], v39.2)).bind fun v41 =>
      (wantV v33 true).bind fun v42 =>
      (bif v42 then E.C fn_spec_l1Other [v41.1] v41.2 else some (.tup [], v41.2)).bind fun v43 =>
      (wantV v33 true).bind fun v44 =>
      (bif v44 then E.C fn_spec_l3Winner [v35.1, v37.1, v39.1, v43.1] v43.2 else some (.tup [], v43.2)).bind fun v45 =>
      (wantV v33 true).bind fun v46 =>
      (bif v46 then some (x3, v45.2) else some (.tup [], v45.2)).bind fun v47 =>
      (wantV v33 true).bind fun v48 =>
      (bif v48 then pv v47.2 (E.p.bin .eql 3 v45.1 v47.1) else some (.tup [], v47.2)).bind fun v49 =>
      (E.p.pick v33 v49.1 (.bool false)).bind fun v50 =>
      condP v50
       (
        (E.p.buildSlice 22 1 [(0, x10)] v49.2).bind fun v51 =>
        (E.p.append 22 22 x9 v51.1 v51.2).bind fun v52 =>
        (E.p.bin .add 3 x10 (.int .i64 1)).bind fun v53 =>
        K .normal (st0 x0 x1 x2 x3 v52.1 v53 v52.2))
       (
        (E.p.bin .add 3 x10 (.int .i64 1)).bind fun v54 =>
        K .normal (st0 x0 x1 x2 x3 x9 v54 v49.2)))
     (
      K (.exit 0) (se0_0_1_2_3_9_10_17 x0 x1 x2 x3 x9 x10 v30 h))
theorem body0_eq (E : Env) (K : PX → St → Res) (x0 x1 x2 x3 x9 x10 : PV) (h : PHeap) : ev (E.cx Tryd.prog kl) lp0 (st0 x0 x1 x2 x3 x9 x10 h) K = body0 E K x0 x1 x2 x3 x9 x10 h := by kernel_rfl
theorem after0_se0_0_1_2_3_9_10_17 (E : Env) (x0 x1 x2 x3 x9 x10 x17 : PV) (h : PHeap) : K0 E (kTop Tryd.prog Tryd.f19) (.exit 0) (se0_0_1_2_3_9_10_17 x0 x1 x2 x3 x9 x10 x17 h) =
    (resV x9).bind fun v28 =>
    some (v28, h) := by kernel_rfl
noncomputable def main (E : Env) (x0 x1 x2 x3 : PV) (h : PHeap) : Res :=
    (E.p.buildSlice 22 0 [] h).bind fun v1 =>
    loopK (ev (E.cx Tryd.prog spec_WinningCells.kl) spec_WinningCells.lp0) E.lf (spec_WinningCells.st0 x0 x1 x2 x3 v1.1 (.int .i64 0) v1.2) (spec_WinningCells.K0 E (kTop Tryd.prog Tryd.f19))
theorem main_eq (E : Env) (x0 x1 x2 x3 : PV) (h : PHeap) : runBody (E.cx Tryd.prog kl) Tryd.f19 [x0, x1, x2, x3] h = main E x0 x1 x2 x3 h := by kernel_rfl
theorem call_eq (g : Nat → PV) (lf n : Nat) (x0 x1 x2 x3 : PV) (h : PHeap) : CL g lf (n + 1) fn_spec_WinningCells [x0, x1, x2, x3] h = main (env g lf n) x0 x1 x2 x3 h := by
  rw [← main_eq]
  show call Tryd.prog g KL lf (n + 1) 19 [x0, x1, x2, x3] h = _
  rw [call_succ, Tryd.func19]
  kernel_rfl
end spec_WinningCells
namespace spec_l1Other
noncomputable def main (E : Env) (x0 : PV) (h : PHeap) : Res :=
    (E.p.bin .eql 3 x0 (.int .i64 0)).bind fun v1 =>
    condP v1
     (
      (resV (.int .i64 0)).bind fun v2 =>
      some (v2, h))
     (
      (E.p.bin .sub 3 (.int .i64 3) x0).bind fun v3 =>
      (resV v3).bind fun v4 =>
      some (v4, h))
theorem main_eq (E : Env) (x0 : PV) (h : PHeap) : runBody (E.cx Tryd.prog kl) Tryd.f20 [x0] h = main E x0 h := by kernel_rfl
theorem call_eq (g : Nat → PV) (lf n : Nat) (x0 : PV) (h : PHeap) : CL g lf (n + 1) fn_spec_l1Other [x0] h = main (env g lf n) x0 h := by
  rw [← main_eq]
  show call Tryd.prog g KL lf (n + 1) 20 [x0] h = _
  rw [call_succ, Tryd.func20]
  kernel_rfl
end spec_l1Other
namespace impl_BoardOk
noncomputable def main (E : Env) (x0 x1 : PV) (h : PHeap) : Res :=
    (E.C fn_impl_sizeOk [x0] h).bind fun v1 =>
    (wantV v1.1 true).bind fun v2 =>
    (bif v2 then some (x1, v1.2) else some (.tup [], v1.2)).bind fun v3 =>
    (wantV v1.1 true).bind fun v4 =>
    (bif v4 then E.C fn_impl_sizeOk [v3.1] v3.2 else some (.tup [], v3.2)).bind fun v5 =>
    (E.p.pick v1.1 v5.1 (.bool false)).bind fun v6 =>
    (wantV v6 true).bind fun v7 =>
    (bif v7 then some (x0, v5.2) else some (.tup [], v5.2)).bind fun v8 =>
    (wantV v6 true).bind fun v9 =>
    (bif v9 then some (x1, v8.2) else some (.tup [], v8.2)).bind fun v10 =>
    (wantV v6 true).bind fun v11 =>
    (bif v11 then pv v10.2 (E.p.bin .mul 3 v8.1 v10.1) else some (.tup [], v10.2)).bind fun v12 =>
    (wantV v6 true).bind fun v13 =>
    (bif v13 then pv v12.2 (E.p.bin .leq 3 v12.1 (.int .i64 9)) else some (.tup [], v12.2)).bind fun v14 =>
    (E.p.pick v6 v14.1 (.bool false)).bind fun v15 =>
    (resV v15).bind fun v16 =>
    some (v16, v14.2)
theorem main_eq (E : Env) (x0 x1 : PV) (h : PHeap) : runBody (E.cx Tryd.prog kl) Tryd.f21 [x0, x1] h = main E x0 x1 h := by kernel_rfl
theorem call_eq (g : Nat → PV) (lf n : Nat) (x0 x1 : PV) (h : PHeap) : CL g lf (n + 1) fn_impl_BoardOk [x0, x1] h = main (env g lf n) x0 x1 h := by
  rw [← main_eq]
  show call Tryd.prog g KL lf (n + 1) 21 [x0, x1] h = _
  rw [call_succ, Tryd.func21]
  kernel_rfl
end impl_BoardOk
namespace impl_PositionOk
noncomputable def lp0 : Code := (codeAt (bodyOf Tryd.f22) [1, 1, 0, 1, 0, 0])
def st0 (x21 x22 x23 : PV) (h : PHeap) : St := ⟨[.junk, .junk, .junk, .junk, .junk, .junk, .junk, .junk, .junk, .junk, .junk, .junk, .junk, .junk, .junk, .junk, .junk, .junk, .junk, .junk, .junk, x21, x22, x23, .junk, .junk, .junk, .junk, .junk, .junk, .junk], h⟩
def sr_6 (x6 : PV) (h : PHeap) : St := ⟨[.junk, .junk, .junk, .junk, .junk, .junk, x6, .junk, .junk, .junk, .junk, .junk, .junk, .junk, .junk, .junk, .junk, .junk, .junk, .junk, .junk, .junk, .junk, .junk, .junk, .junk, .junk, .junk, .junk, .junk, .junk], h⟩
def se0_21_22_23_24 (x21 x22 x23 x24 : PV) (h : PHeap) : St := ⟨[.junk, .junk, .junk, .junk, .junk, .junk, .junk, .junk, .junk, .junk, .junk, .junk, .junk, .junk, .junk, .junk, .junk, .junk, .junk, .junk, .junk, x21, x22, x23, x24, .junk, .junk, .junk, .junk, .junk, .junk], h⟩
noncomputable def K0 (E : Env) (K : PX → St → Res) : PX → St → Res := (kBlock 0 (kSeq (ev (E.cx Tryd.prog kl) (codeAt (bodyOf Tryd.f22) [1, 1, 1])) K))
@[simp] theorem K0_ret (E : Env) (K : PX → St → Res) (s : St) : K0 E K .ret s = K .ret s := by kernel_rfl
noncomputable def body0 (E : Env) (K : PX → St → Res) (x21 x22 x23 : PV) (h : PHeap) : Res :=
    (E.p.bin .lss 3 x23 x22).bind fun v25 =>
    condP v25
     (
      (E.p.indexAddr 22 x21 x23).bind fun v26 =>
      (E.p.load 3 v26 h).bind fun v27 =>
      (E.C fn_impl_contentOk [v27] h).bind fun v28 =>
      (E.p.un .not v28.1).bind fun v29 =>
      condP v29
       (
        K .ret (sr_6 (.bool false) v28.2))
       (
        (E.p.bin .add 3 x23 (.int .i64 1)).bind fun v30 =>
        K .normal (st0 x21 x22 v30 v28.2)))
     (
      K (.exit 0) (se0_21_22_23_24 x21 x22 x23 v25 h))
theorem body0_eq (E : Env) (K : PX → St → Res) (x21 x22 x23 : PV) (h : PHeap) : ev (E.cx Tryd.prog kl) lp0 (st0 x21 x22 x23 h) K = body0 E K x21 x22 x23 h := by kernel_rfl
theorem after0_se0_21_22_23_24 (E : Env) (x21 x22 x23 x24 : PV) (h : PHeap) : K0 E (kTop Tryd.prog Tryd.f22) (.exit 0) (se0_21_22_23_24 x21 x22 x23 x24 h) =
    (resV (.bool true)).bind fun v24 =>
    some (v24, h) := by kernel_rfl
theorem top_sr_6 (x6 : PV) (h : PHeap) : kTop Tryd.prog Tryd.f22 .ret (sr_6 x6 h) =
    (resV x6).bind fun v31 =>
    some (v31, h) := by kernel_rfl
noncomputable def main (E : Env) (x0 x1 x2 : PV) (h : PHeap) : Res :=
    (E.C fn_impl_BoardOk [x0, x1] h).bind fun v1 =>
    (E.p.un .not v1.1).bind fun v2 =>
    (wantV v2 false).bind fun v3 =>
    (bif v3 then some (x2, v1.2) else some (.tup [], v1.2)).bind fun v4 =>
    (wantV v2 false).bind fun v5 =>
    (bif v5 then pv v4.2 (E.p.len 22 v4.1) else some (.tup [], v4.2)).bind fun v6 =>
    (wantV v2 false).bind fun v7 =>
    (bif v7 then some (x0, v6.2) else some (.tup [], v6.2)).bind fun v8 =>
    (wantV v2 false).bind fun v9 =>
    (bif v9 then some (x1, v8.2) else some (.tup [], v8.2)).bind fun v10 =>
    (wantV v2 false).bind fun v11 =>
    (bif v11 then pv v10.2 (E.p.bin .mul 3 v8.1 v10.1) else some (.tup [], v10.2)).bind fun v12 =>
    (wantV v2 false).bind fun v13 =>
    (bif v13 then pv v12.2 (E.p.bin .neq 3 v6.1 v12.1) else some (.tup [], v12.2)).bind fun v14 =>
    (E.p.pick v2 (.bool true) v14.1).bind fun v15 =>
    condP v15
     (
      (resV (.bool false)).bind fun v16 =>
      some (v16, v14.2))
     (
      (E.p.len 22 x2).bind fun v17 =>
      loopK (ev (E.cx Tryd.prog impl_PositionOk.kl) impl_PositionOk.lp0) E.lf (impl_PositionOk.st0 x2 v17 (.int .i64 0) v14.2) (impl_PositionOk.K0 E (kTop Tryd.prog Tryd.f22)))
theorem main_eq (E : Env) (x0 x1 x2 : PV) (h : PHeap) : runBody (E.cx Tryd.prog kl) Tryd.f22 [x0, x1, x2] h = main E x0 x1 x2 h := by kernel_rfl
theorem call_eq (g : Nat → PV) (lf n : Nat) (x0 x1 x2 : PV) (h : PHeap) : CL g lf (n + 1) fn_impl_PositionOk [x0, x1, x2] h = main (env g lf n) x0 x1 x2 h := by
  rw [← main_eq]
  show call Tryd.prog g KL lf (n + 1) 22 [x0, x1, x2] h = _
  rw [call_succ, Tryd.func22]
  kernel_rfl
end impl_PositionOk
namespace impl_playerOk
noncomputable def main (E : Env) (x0 : PV) (h : PHeap) : Res :=
    (E.p.bin .eql 3 x0 (.int .i64 1)).bind fun v1 =>
    (wantV v1 false).bind fun v2 =>
    (bif v2 then some (x0, h) else some (.tup [], h)).bind fun v3 =>
    (wantV v1 false).bind fun v4 =>
    (bif v4 then pv v3.2 (E.p.bin .eql 3 v3.1 (.int .i64 2)) else some (.tup [], v3.2)).bind fun v5 =>
    (E.p.pick v1 (.bool true) v5.1).bind fun v6 =>
    (resV v6).bind fun v7 =>
    some (v7, v5.2)
theorem main_eq (E : Env) (x0 : PV) (h : PHeap) : runBody (E.cx Tryd.prog kl) Tryd.f23 [x0] h = main E x0 h := by kernel_rfl
theorem call_eq (g : Nat → PV) (lf n : Nat) (x0 : PV) (h : PHeap) : CL g lf (n + 1) fn_impl_playerOk [x0] h = main (env g lf n) x0 h := by
  rw [← main_eq]
  show call Tryd.prog g KL lf (n + 1) 23 [x0] h = _
  rw [call_succ, Tryd.func23]
  kernel_rfl
end impl_playerOk
namespace impl_newSearch
noncomputable def lp0 : Code := (codeAt (bodyOf Tryd.f24) [1, 1, 0, 1, 0, 0])
def st0 (x0 x1 x5 x13 x14 : PV) (h : PHeap) : St := ⟨[x0, x1, .junk, .junk, .junk, x5, .junk, .junk, .junk, .junk, .junk, .junk, .junk, x13, x14, .junk, .junk, .junk, .junk, .junk, .junk, .junk, .junk, .junk, .junk, .junk, .junk, .junk, .junk, .junk, .junk, .junk, .junk, .junk, .junk, .junk, .junk, .junk, .junk, .junk, .junk, .junk, .junk, .junk, .junk, .junk, .junk, .junk, .junk, .junk], h⟩
noncomputable def lp1 : Code := (codeAt (bodyOf Tryd.f24) [1, 1, 1, 0, 1, 0, 0])
def st1 (x0 x1 x5 x7 : PV) (h : PHeap) : St := ⟨[x0, x1, .junk, .junk, .junk, x5, .junk, x7, .junk, .junk, .junk, .junk, .junk, .junk, .junk, .junk, .junk, .junk, .junk, .junk, .junk, .junk, .junk, .junk, .junk, .junk, .junk, .junk, .junk, .junk, .junk, .junk, .junk, .junk, .junk, .junk, .junk, .junk, .junk, .junk, .junk, .junk, .junk, .junk, .junk, .junk, .junk, .junk, .junk, .junk], h⟩
def se0_0_1_5_13_14_15 (x0 x1 x5 x13 x14 x15 : PV) (h : PHeap) : St := ⟨[x0, x1, .junk, .junk, .junk, x5, .junk, .junk, .junk, .junk, .junk, .junk, .junk, x13, x14, x15, .junk, .junk, .junk, .junk, .junk, .junk, .junk, .junk, .junk, .junk, .junk, .junk, .junk, .junk, .junk, .junk, .junk, .junk, .junk, .junk, .junk, .junk, .junk, .junk, .junk, .junk, .junk, .junk, .junk, .junk, .junk, .junk, .junk, .junk], h⟩
def se2_0_1_5_7_29 (x0 x1 x5 x7 x29 : PV) (h : PHeap) : St := ⟨[x0, x1, .junk, .junk, .junk, x5, .junk, x7, .junk, .junk, .junk, .junk, .junk, .junk, .junk, .junk, .junk, .junk, .junk, .junk, .junk, .junk, .junk, .junk, .junk, .junk, .junk, .junk, .junk, x29, .junk, .junk, .junk, .junk, .junk, .junk, .junk, .junk, .junk, .junk, .junk, .junk, .junk, .junk, .junk, .junk, .junk, .junk, .junk, .junk], h⟩
noncomputable def K0 (E : Env) (K : PX → St → Res) : PX → St → Res := (kBlock 0 (kSeq (ev (E.cx Tryd.prog kl) (codeAt (bodyOf Tryd.f24) [1, 1, 1])) K))
@[simp] theorem K0_ret (E : Env) (K : PX → St → Res) (s : St) : K0 E K .ret s = K .ret s := by kernel_rfl
noncomputable def K1 (E : Env) (K : PX → St → Res) : PX → St → Res := (kBlock 2 (kSeq (ev (E.cx Tryd.prog kl) (codeAt (bodyOf Tryd.f24) [1, 1, 1, 1])) K))
@[simp] theorem K1_ret (E : Env) (K : PX → St → Res) (s : St) : K1 E K .ret s = K .ret s := by kernel_rfl
noncomputable def body0 (E : Env) (K : PX → St → Res) (x0 x1 x5 x13 x14 : PV) (h : PHeap) : Res :=
    (E.p.bin .lss 3 x14 x13).bind fun v27 =>
    condP v27
     (
      (E.p.bin .shl 3 (.int .i64 1) x14).bind fun v28 =>
      (E.p.ptr x5).bind fun v29 =>
      (E.p.fieldAddr 49 v29 0).bind fun v30 =>
      (E.C fn_impl_withNear [x0, x1, v28] h).bind fun v31 =>
      (E.p.indexAddr 47 v30 x14).bind fun v32 =>
      (E.p.store 3 v32 v31.1 v31.2).bind fun v33 =>
      (E.p.bin .add 3 x14 (.int .i64 1)).bind fun v34 =>
      K .normal (st0 x0 x1 x5 x13 v34 v33))
     (
      K (.exit 0) (se0_0_1_5_13_14_15 x0 x1 x5 x13 x14 v27 h))
theorem body0_eq (E : Env) (K : PX → St → Res) (x0 x1 x5 x13 x14 : PV) (h : PHeap) : ev (E.cx Tryd.prog kl) lp0 (st0 x0 x1 x5 x13 x14 h) K = body0 E K x0 x1 x5 x13 x14 h := by kernel_rfl
noncomputable def body1 (E : Env) (K : PX → St → Res) (x0 x1 x5 x7 : PV) (h : PHeap) : Res :=
    (E.p.bin .leq 3 x7 (.int .i64 2)).bind fun v35 =>
    condP v35
     (
      (E.p.ptr x5).bind fun v36 =>
      (E.p.fieldAddr 49 v36 1).bind fun v37 =>
      (E.p.ptr x5).bind fun v38 =>
      (E.p.fieldAddr 49 v38 2).bind fun v39 =>
      (E.C fn_impl_sidesOf [x0, x1, x7] h).bind fun v40 =>
      (E.p.extract v40.1 0).bind fun v41 =>
      (E.p.extract v40.1 1).bind fun v42 =>
      (E.p.indexAddr 36 v37 x7).bind fun v43 =>
      (E.p.store 3 v43 v41 v40.2).bind fun v44 =>
      (E.p.indexAddr 36 v39 x7).bind fun v45 =>
      (E.p.store 3 v45 v42 v44).bind fun v46 =>
      (E.p.bin .add 3 x7 (.int .i64 1)).bind fun v47 =>
      K .normal (st1 x0 x1 x5 v47 v46))
     (
      K (.exit 2) (se2_0_1_5_7_29 x0 x1 x5 x7 v35 h))
theorem body1_eq (E : Env) (K : PX → St → Res) (x0 x1 x5 x7 : PV) (h : PHeap) : ev (E.cx Tryd.prog kl) lp1 (st1 x0 x1 x5 x7 h) K = body1 E K x0 x1 x5 x7 h := by kernel_rfl
theorem after0_se0_0_1_5_13_14_15 (E : Env) (x0 x1 x5 x13 x14 x15 : PV) (h : PHeap) : K0 E (kTop Tryd.prog Tryd.f24) (.exit 0) (se0_0_1_5_13_14_15 x0 x1 x5 x13 x14 x15 h) =
    loopK (ev (E.cx Tryd.prog impl_newSearch.kl) impl_newSearch.lp1) E.lf (impl_newSearch.st1 x0 x1 x5 (.int .i64 1) h) (impl_newSearch.K1 E (kTop Tryd.prog Tryd.f24)) := by kernel_rfl
theorem after1_se2_0_1_5_7_29 (E : Env) (x0 x1 x5 x7 x29 : PV) (h : PHeap) : K1 E (kTop Tryd.prog Tryd.f24) (.exit 2) (se2_0_1_5_7_29 x0 x1 x5 x7 x29 h) =
    (resV x5).bind fun v26 =>
    some (v26, h) := by kernel_rfl
noncomputable def main (E : Env) (x0 x1 : PV) (h : PHeap) : Res :=
    (E.p.makeMap none h).bind fun v1 =>
    (E.p.build 49 [(3, v1.1)]).bind fun v2 =>
    (E.p.box v2 v1.2).bind fun v3 =>
    (E.p.bin .mul 3 x0 x1).bind fun v4 =>
    loopK (ev (E.cx Tryd.prog impl_newSearch.kl) impl_newSearch.lp0) E.lf (impl_newSearch.st0 x0 x1 v3.1 v4 (.int .i64 0) v3.2) (impl_newSearch.K0 E (kTop Tryd.prog Tryd.f24))
theorem main_eq (E : Env) (x0 x1 : PV) (h : PHeap) : runBody (E.cx Tryd.prog kl) Tryd.f24 [x0, x1] h = main E x0 x1 h := by kernel_rfl
theorem call_eq (g : Nat → PV) (lf n : Nat) (x0 x1 : PV) (h : PHeap) : CL g lf (n + 1) fn_impl_newSearch [x0, x1] h = main (env g lf n) x0 x1 h := by
  rw [← main_eq]
  show call Tryd.prog g KL lf (n + 1) 24 [x0, x1] h = _
  rw [call_succ, Tryd.func24]
  kernel_rfl
end impl_newSearch
namespace impl_standingOf
noncomputable def lp0 : Code := (codeAt (bodyOf Tryd.f25) [1, 1, 0, 1, 0, 0])
def st0 (x0 x4 x5 x9 : PV) (h : PHeap) : St := ⟨[x0, .junk, .junk, .junk, x4, x5, .junk, .junk, .junk, x9, .junk, .junk, .junk, .junk, .junk, .junk, .junk, .junk, .junk, .junk], h⟩
def se0_0_4_5_9_10 (x0 x4 x5 x9 x10 : PV) (h : PHeap) : St := ⟨[x0, .junk, .junk, .junk, x4, x5, .junk, .junk, .junk, x9, x10, .junk, .junk, .junk, .junk, .junk, .junk, .junk, .junk, .junk], h⟩
noncomputable def K0 (E : Env) (K : PX → St → Res) : PX → St → Res := (kBlock 0 (kSeq (ev (E.cx Tryd.prog kl) (codeAt (bodyOf Tryd.f25) [1, 1, 1])) K))
@[simp] theorem K0_ret (E : Env) (K : PX → St → Res) (s : St) : K0 E K .ret s = K .ret s := by kernel_rfl
noncomputable def body0 (E : Env) (K : PX → St → Res) (x0 x4 x5 x9 : PV) (h : PHeap) : Res :=
    (E.p.bin .lss 3 x9 (.int .i64 3)).bind fun v14 =>
    condP v14
     (
      (E.C fn_impl_setOf [x0, x9] h).bind fun v15 =>
      (E.p.fieldAddr 38 x5 0).bind fun v16 =>
      (E.p.indexAddr 36 v16 x9).bind fun v17 =>
      (E.p.store 3 v17 v15.1 v15.2).bind fun v18 =>
      (E.p.bin .add 3 x9 (.int .i64 1)).bind fun v19 =>
      K .normal (st0 x0 x4 x5 v19 v18))
     (
      K (.exit 0) (se0_0_4_5_9_10 x0 x4 x5 x9 v14 h))
theorem body0_eq (E : Env) (K : PX → St → Res) (x0 x4 x5 x9 : PV) (h : PHeap) : ev (E.cx Tryd.prog kl) lp0 (st0 x0 x4 x5 x9 h) K = body0 E K x0 x4 x5 x9 h := by kernel_rfl
theorem after0_se0_0_4_5_9_10 (E : Env) (x0 x4 x5 x9 x10 : PV) (h : PHeap) : K0 E (kTop Tryd.prog Tryd.f25) (.exit 0) (se0_0_4_5_9_10 x0 x4 x5 x9 x10 h) =
    (E.p.load 38 x5 h).bind fun v11 =>
    (E.p.store 38 x4 v11 h).bind fun v12 =>
    (loadP Tryd.prog 38 x4 v12).bind fun v13 =>
    some (v13, v12) := by kernel_rfl
noncomputable def main (E : Env) (x0 x1 : PV) (h : PHeap) : Res :=
    (E.p.alloc 38 h).bind fun v1 =>
    (E.p.build 38 [(1, x1)]).bind fun v2 =>
    (E.p.alloc 38 v1.2).bind fun v3 =>
    (E.p.store 38 v3.1 v2 v3.2).bind fun v4 =>
    loopK (ev (E.cx Tryd.prog impl_standingOf.kl) impl_standingOf.lp0) E.lf (impl_standingOf.st0 x0 v1.1 v3.1 (.int .i64 0) v4) (impl_standingOf.K0 E (kTop Tryd.prog Tryd.f25))
theorem main_eq (E : Env) (x0 x1 : PV) (h : PHeap) : runBody (E.cx Tryd.prog kl) Tryd.f25 [x0, x1] h = main E x0 x1 h := by kernel_rfl
theorem call_eq (g : Nat → PV) (lf n : Nat) (x0 x1 : PV) (h : PHeap) : CL g lf (n + 1) fn_impl_standingOf [x0, x1] h = main (env g lf n) x0 x1 h := by
  rw [← main_eq]
  show call Tryd.prog g KL lf (n + 1) 25 [x0, x1] h = _
  rw [call_succ, Tryd.func25]
  kernel_rfl
end impl_standingOf
namespace impl_search_joined
noncomputable def lp0 : Code := (codeAt (bodyOf Tryd.f26) [1, 0, 1, 0, 0])
def st0 (x0 x3 x5 : PV) (h : PHeap) : St := ⟨[x0, .junk, .junk, x3, .junk, x5, .junk, .junk, .junk, .junk, .junk, .junk, .junk, .junk, .junk, .junk, .junk, .junk], h⟩
def sr_4 (x4 : PV) (h : PHeap) : St := ⟨[.junk, .junk, .junk, .junk, x4, .junk, .junk, .junk, .junk, .junk, .junk, .junk, .junk, .junk, .junk, .junk, .junk, .junk], h⟩
def se0_0_3_5_7 (x0 x3 x5 x7 : PV) (h : PHeap) : St := ⟨[x0, .junk, .junk, x3, .junk, x5, .junk, x7, .junk, .junk, .junk, .junk, .junk, .junk, .junk, .junk, .junk, .junk], h⟩
noncomputable def K0 (E : Env) (K : PX → St → Res) : PX → St → Res := (kBlock 0 (kSeq (ev (E.cx Tryd.prog kl) (codeAt (bodyOf Tryd.f26) [1, 1])) K))
@[simp] theorem K0_ret (E : Env) (K : PX → St → Res) (s : St) : K0 E K .ret s = K .ret s := by kernel_rfl
noncomputable def body0 (E : Env) (K : PX → St → Res) (x0 x3 x5 : PV) (h : PHeap) : Res :=
    (E.p.bin .leq 3 x5 (.int .i64 2)).bind fun v9 =>
    condP v9
     (
      (E.p.fieldAddr 38 x3 0).bind fun v10 =>
      (E.p.indexAddr 36 v10 x5).bind fun v11 =>
      (E.p.load 3 v11 h).bind fun v12 =>
      (E.C fn_impl_search_joins [x0, v12, x5] h).bind fun v13 =>
      condP v13.1
       (
        K .ret (sr_4 x5 v13.2))
       (
        (E.p.bin .add 3 x5 (.int .i64 1)).bind fun v14 =>
        K .normal (st0 x0 x3 v14 v13.2)))
     (
      K (.exit 0) (se0_0_3_5_7 x0 x3 x5 v9 h))
theorem body0_eq (E : Env) (K : PX → St → Res) (x0 x3 x5 : PV) (h : PHeap) : ev (E.cx Tryd.prog kl) lp0 (st0 x0 x3 x5 h) K = body0 E K x0 x3 x5 h := by kernel_rfl
theorem after0_se0_0_3_5_7 (E : Env) (x0 x3 x5 x7 : PV) (h : PHeap) : K0 E (kTop Tryd.prog Tryd.f26) (.exit 0) (se0_0_3_5_7 x0 x3 x5 x7 h) =
    (resV (.int .i64 0)).bind fun v8 =>
    some (v8, h) := by kernel_rfl
theorem top_sr_4 (x4 : PV) (h : PHeap) : kTop Tryd.prog Tryd.f26 .ret (sr_4 x4 h) =
    (resV x4).bind fun v15 =>
    some (v15, h) := by kernel_rfl
noncomputable def main (E : Env) (x0 x1 : PV) (h : PHeap) : Res :=
    (E.p.box x1 h).bind fun v1 =>
    loopK (ev (E.cx Tryd.prog impl_search_joined.kl) impl_search_joined.lp0) E.lf (impl_search_joined.st0 x0 v1.1 (.int .i64 1) v1.2) (impl_search_joined.K0 E (kTop Tryd.prog Tryd.f26))
theorem main_eq (E : Env) (x0 x1 : PV) (h : PHeap) : runBody (E.cx Tryd.prog kl) Tryd.f26 [x0, x1] h = main E x0 x1 h := by kernel_rfl
theorem call_eq (g : Nat → PV) (lf n : Nat) (x0 x1 : PV) (h : PHeap) : CL g lf (n + 1) fn_impl_search_joined [x0, x1] h = main (env g lf n) x0 x1 h := by
  rw [← main_eq]
  show call Tryd.prog g KL lf (n + 1) 26 [x0, x1] h = _
  rw [call_succ, Tryd.func26]
  kernel_rfl
end impl_search_joined
namespace impl_search_winning
noncomputable def lp0 : Code := (codeAt (bodyOf Tryd.f27) [1, 1, 1, 0, 1, 0, 0])
def st0 (x0 x3 x5 x6 : PV) (h : PHeap) : St := ⟨[x0, .junk, .junk, x3, .junk, x5, x6, .junk, .junk, .junk, .junk, .junk, .junk, .junk, .junk, .junk, .junk, .junk, .junk, .junk, .junk, .junk, .junk, .junk, .junk, .junk, .junk, .junk, .junk, .junk, .junk, .junk, .junk, .junk, .junk, .junk], h⟩
def se0_0_3_5_6_16 (x0 x3 x5 x6 x16 : PV) (h : PHeap) : St := ⟨[x0, .junk, .junk, x3, .junk, x5, x6, .junk, .junk, .junk, .junk, .junk, .junk, .junk, .junk, .junk, x16, .junk, .junk, .junk, .junk, .junk, .junk, .junk, .junk, .junk, .junk, .junk, .junk, .junk, .junk, .junk, .junk, .junk, .junk, .junk], h⟩
noncomputable def K0 (E : Env) (K : PX → St → Res) : PX → St → Res := (kBlock 0 (kSeq (ev (E.cx Tryd.prog kl) (codeAt (bodyOf Tryd.f27) [1, 1, 1, 1])) K))
@[simp] theorem K0_ret (E : Env) (K : PX → St → Res) (s : St) : K0 E K .ret s = K .ret s := by kernel_rfl
noncomputable def body0 (E : Env) (K : PX → St → Res) (x0 x3 x5 x6 : PV) (h : PHeap) : Res :=
    (E.p.bin .neq 3 x6 (.int .i64 0)).bind fun v28 =>
    condP v28
     (
      (E.C fn_impl_leastIn [x6] h).bind fun v29 =>
      (E.p.load 38 x3 v29.2).bind fun v30 =>
      (E.p.fieldAddr 38 x3 1).bind fun v31 =>
      (E.p.load 3 v31 v29.2).bind fun v32 =>
      (E.C fn_impl_standing_after [v30, v29.1] v29.2).bind fun v33 =>
      (E.p.load 3 v31 v33.2).bind fun v34 =>
      ckP (plainEq v32 v34) (
      (E.p.load 38 x3 v33.2).bind fun v35 =>
      ckP (plainEq v30 v35) (
      (E.C fn_impl_search_winner [x0, v33.1] v33.2).bind fun v36 =>
      (E.p.load 3 v31 v36.2).bind fun v37 =>
      ckP (plainEq v32 v37) (
      (E.p.load 38 x3 v36.2).bind fun v38 =>
      ckP (plainEq v30 v38) (
      (E.p.bin .eql 3 v36.1 v32).bind fun v39 =>
      condP v39
       (
        (E.p.bin .shl 3 (.int .i64 1) v29.1).bind fun v40 =>
        (E.p.bin .or 3 x5 v40).bind fun v41 =>
        (E.p.bin .sub 3 x6 (.int .i64 1)).bind fun v42 =>
        (E.p.bin .and 3 x6 v42).bind fun v43 =>
        K .normal (st0 x0 x3 v41 v43 v36.2))
       (
        (E.p.bin .sub 3 x6 (.int .i64 1)).bind fun v44 =>
        (E.p.bin .and 3 x6 v44).bind fun v45 =>
        K .normal (st0 x0 x3 x5 v45 v36.2)))))))
     (
      K (.exit 0) (se0_0_3_5_6_16 x0 x3 x5 x6 v28 h))
theorem body0_eq (E : Env) (K : PX → St → Res) (x0 x3 x5 x6 : PV) (h : PHeap) : ev (E.cx Tryd.prog kl) lp0 (st0 x0 x3 x5 x6 h) K = body0 E K x0 x3 x5 x6 h := by kernel_rfl
theorem after0_se0_0_3_5_6_16 (E : Env) (x0 x3 x5 x6 x16 : PV) (h : PHeap) : K0 E (kTop Tryd.prog Tryd.f27) (.exit 0) (se0_0_3_5_6_16 x0 x3 x5 x6 x16 h) =
    (resV x5).bind fun v27 =>
    some (v27, h) := by kernel_rfl
noncomputable def main (E : Env) (x0 x1 : PV) (h : PHeap) : Res :=
    (E.p.box x1 h).bind fun v1 =>
    (E.p.load 38 v1.1 v1.2).bind fun v2 =>
    (E.C fn_impl_search_joined [x0, v2] v1.2).bind fun v3 =>
    (E.p.bin .neq 3 v3.1 (.int .i64 0)).bind fun v4 =>
    condP v4
     (
      (resV (.int .i64 0)).bind fun v5 =>
      some (v5, v3.2))
     (
      (E.p.fieldAddr 38 v1.1 0).bind fun v6 =>
      (E.p.indexAddr 36 v6 (.int .i64 0)).bind fun v7 =>
      (E.p.load 3 v7 v3.2).bind fun v8 =>
      loopK (ev (E.cx Tryd.prog impl_search_winning.kl) impl_search_winning.lp0) E.lf (impl_search_winning.st0 x0 v1.1 (.int .i64 0) v8 v3.2) (impl_search_winning.K0 E (kTop Tryd.prog Tryd.f27)))
theorem main_eq (E : Env) (x0 x1 : PV) (h : PHeap) : runBody (E.cx Tryd.prog kl) Tryd.f27 [x0, x1] h = main E x0 x1 h := by kernel_rfl
theorem call_eq (g : Nat → PV) (lf n : Nat) (x0 x1 : PV) (h : PHeap) : CL g lf (n + 1) fn_impl_search_winning [x0, x1] h = main (env g lf n) x0 x1 h := by
  rw [← main_eq]
  show call Tryd.prog g KL lf (n + 1) 27 [x0, x1] h = _
  rw [call_succ, Tryd.func27]
  kernel_rfl
end impl_search_winning
namespace impl_leastIn
noncomputable def main (E : Env) (x0 : PV) (h : PHeap) : Res :=
    (E.p.conv 3 54 x0).bind fun v1 =>
    (E.C fn_bits_TrailingZeros [v1] h).bind fun v2 =>
    (resV v2.1).bind fun v3 =>
    some (v3, v2.2)
theorem main_eq (E : Env) (x0 : PV) (h : PHeap) : runBody (E.cx Tryd.prog kl) Tryd.f28 [x0] h = main E x0 h := by kernel_rfl
theorem call_eq (g : Nat → PV) (lf n : Nat) (x0 : PV) (h : PHeap) : CL g lf (n + 1) fn_impl_leastIn [x0] h = main (env g lf n) x0 h := by
  rw [← main_eq]
  show call Tryd.prog g KL lf (n + 1) 28 [x0] h = _
  rw [call_succ, Tryd.func28]
  kernel_rfl
end impl_leastIn
namespace impl_standing_after
noncomputable def main (E : Env) (x0 x1 : PV) (h : PHeap) : Res :=
    (E.p.box x0 h).bind fun v1 =>
    (E.p.alloc 38 v1.2).bind fun v2 =>
    (E.p.fieldAddr 38 v1.1 0).bind fun v3 =>
    (E.p.indexAddr 36 v3 (.int .i64 0)).bind fun v4 =>
    (E.p.bin .shl 3 (.int .i64 1) x1).bind fun v5 =>
    (E.p.fieldAddr 38 v1.1 0).bind fun v6 =>
    (E.p.load 3 v4 v2.2).bind fun v7 =>
    (E.p.bin .andNot 3 v7 v5).bind fun v8 =>
    (E.p.indexAddr 36 v6 (.int .i64 0)).bind fun v9 =>
    (E.p.store 3 v9 v8 v2.2).bind fun v10 =>
    (E.p.fieldAddr 38 v1.1 1).bind fun v11 =>
    (E.p.fieldAddr 38 v1.1 0).bind fun v12 =>
    (E.p.bin .shl 3 (.int .i64 1) x1).bind fun v13 =>
    (E.p.fieldAddr 38 v1.1 0).bind fun v14 =>
    (E.p.load 3 v11 v10).bind fun v15 =>
    (E.p.indexAddr 36 v12 v15).bind fun v16 =>
    (E.p.load 3 v16 v10).bind fun v17 =>
    (E.p.bin .or 3 v17 v13).bind fun v18 =>
    (E.p.indexAddr 36 v14 v15).bind fun v19 =>
    (E.p.store 3 v19 v18 v10).bind fun v20 =>
    (E.p.fieldAddr 38 v1.1 1).bind fun v21 =>
    (E.p.load 3 v21 v20).bind fun v22 =>
    (E.C fn_impl_exchanged [v22] v20).bind fun v23 =>
    (E.p.fieldAddr 38 v1.1 1).bind fun v24 =>
    (E.p.store 3 v24 v23.1 v23.2).bind fun v25 =>
    (E.p.load 38 v1.1 v25).bind fun v26 =>
    (E.p.store 38 v2.1 v26 v25).bind fun v27 =>
    (loadP Tryd.prog 38 v2.1 v27).bind fun v28 =>
    some (v28, v27)
theorem main_eq (E : Env) (x0 x1 : PV) (h : PHeap) : runBody (E.cx Tryd.prog kl) Tryd.f29 [x0, x1] h = main E x0 x1 h := by kernel_rfl
theorem call_eq (g : Nat → PV) (lf n : Nat) (x0 x1 : PV) (h : PHeap) : CL g lf (n + 1) fn_impl_standing_after [x0, x1] h = main (env g lf n) x0 x1 h := by
  rw [← main_eq]
  show call Tryd.prog g KL lf (n + 1) 29 [x0, x1] h = _
  rw [call_succ, Tryd.func29]
  kernel_rfl
end impl_standing_after
namespace spec_l2Joins
noncomputable def main (E : Env) (x0 x1 x2 x3 x4 : PV) (h : PHeap) : Res :=
    (E.C fn_spec_l2Side [x0, x1, x4, (.bool false)] h).bind fun v1 =>
    (E.C fn_spec_l2Grow [x2, x3, v1.1] v1.2).bind fun v2 =>
    (E.C fn_spec_l2Side [x0, x1, x4, (.bool true)] v2.2).bind fun v3 =>
    (E.p.bin .and 3 v2.1 v3.1).bind fun v4 =>
    (E.p.bin .neq 3 v4 (.int .i64 0)).bind fun v5 =>
    (resV v5).bind fun v6 =>
    some (v6, v3.2)
theorem main_eq (E : Env) (x0 x1 x2 x3 x4 : PV) (h : PHeap) : runBody (E.cx Tryd.prog kl) Tryd.f30 [x0, x1, x2, x3, x4] h = main E x0 x1 x2 x3 x4 h := by kernel_rfl
theorem call_eq (g : Nat → PV) (lf n : Nat) (x0 x1 x2 x3 x4 : PV) (h : PHeap) : CL g lf (n + 1) fn_spec_l2Joins [x0, x1, x2, x3, x4] h = main (env g lf n) x0 x1 x2 x3 x4 h := by
  rw [← main_eq]
  show call Tryd.prog g KL lf (n + 1) 30 [x0, x1, x2, x3, x4] h = _
  rw [call_succ, Tryd.func30]
  kernel_rfl
end spec_l2Joins
namespace spec_l2Masks
noncomputable def lp0 : Code := (codeAt (bodyOf Tryd.f31) [1, 1, 0, 1, 0, 0])
def st0 (x0 x1 x5 x6 : PV) (h : PHeap) : St := ⟨[x0, x1, .junk, .junk, .junk, x5, x6, .junk, .junk, .junk, .junk, .junk, .junk, .junk, .junk, .junk, .junk, .junk, .junk, .junk, .junk, .junk, .junk, .junk, .junk, .junk, .junk, .junk, .junk, .junk, .junk, .junk, .junk, .junk, .junk, .junk, .junk, .junk, .junk, .junk], h⟩
noncomputable def lp1 : Code := (codeAt (bodyOf Tryd.f31) [1, 1, 0, 1, 0, 0, 1, 0, 0, 1, 1, 0, 1, 0, 0])
def st1 (x0 x1 x5 x6 x7 x8 x9 : PV) (h : PHeap) : St := ⟨[x0, x1, .junk, .junk, .junk, x5, x6, x7, x8, x9, .junk, .junk, .junk, .junk, .junk, .junk, .junk, .junk, .junk, .junk, .junk, .junk, .junk, .junk, .junk, .junk, .junk, .junk, .junk, .junk, .junk, .junk, .junk, .junk, .junk, .junk, .junk, .junk, .junk, .junk], h⟩
def se0_0_1_5_6_15 (x0 x1 x5 x6 x15 : PV) (h : PHeap) : St := ⟨[x0, x1, .junk, .junk, .junk, x5, x6, .junk, .junk, .junk, .junk, .junk, .junk, .junk, .junk, x15, .junk, .junk, .junk, .junk, .junk, .junk, .junk, .junk, .junk, .junk, .junk, .junk, .junk, .junk, .junk, .junk, .junk, .junk, .junk, .junk, .junk, .junk, .junk, .junk], h⟩
def se2_0_1_5_6_7_8_9_25 (x0 x1 x5 x6 x7 x8 x9 x25 : PV) (h : PHeap) : St := ⟨[x0, x1, .junk, .junk, .junk, x5, x6, x7, x8, x9, .junk, .junk, .junk, .junk, .junk, .junk, .junk, .junk, .junk, .junk, .junk, .junk, .junk, .junk, .junk, x25, .junk, .junk, .junk, .junk, .junk, .junk, .junk, .junk, .junk, .junk, .junk, .junk, .junk, .junk], h⟩
noncomputable def K0 (E : Env) (K : PX → St → Res) : PX → St → Res := (kBlock 0 (kSeq (ev (E.cx Tryd.prog kl) (codeAt (bodyOf Tryd.f31) [1, 1, 1])) K))
@[simp] theorem K0_ret (E : Env) (K : PX → St → Res) (s : St) : K0 E K .ret s = K .ret s := by kernel_rfl
noncomputable def K1 (E : Env) (K : PX → St → Res) : PX → St → Res := (kBlock 2 (kSeq (ev (E.cx Tryd.prog kl) (codeAt (bodyOf Tryd.f31) [1, 1, 0, 1, 0, 0, 1, 0, 0, 1, 1, 1])) (kBlock 1 (kSeq (ev (E.cx Tryd.prog kl) (codeAt (bodyOf Tryd.f31) [1, 1, 0, 1, 0, 0, 1, 1])) K))))
@[simp] theorem K1_ret (E : Env) (K : PX → St → Res) (s : St) : K1 E K .ret s = K .ret s := by kernel_rfl
noncomputable def body0 (E : Env) (K : PX → St → Res) (x0 x1 x5 x6 : PV) (h : PHeap) : Res :=
    (E.p.bin .mul 3 x0 x1).bind fun v16 =>
    (E.p.bin .lss 3 x6 v16).bind fun v17 =>
    condP v17
     (
      (E.C fn_spec_l1Near [x0, x1, x6] h).bind fun v18 =>
      loopK (ev (E.cx Tryd.prog spec_l2Masks.kl) spec_l2Masks.lp1) E.lf (spec_l2Masks.st1 x0 x1 x5 x6 (.int .i64 0) v18.1 (.int .i64 0) v18.2) (spec_l2Masks.K1 E K))
     (
      K (.exit 0) (se0_0_1_5_6_15 x0 x1 x5 x6 v17 h))
theorem body0_eq (E : Env) (K : PX → St → Res) (x0 x1 x5 x6 : PV) (h : PHeap) : ev (E.cx Tryd.prog kl) lp0 (st0 x0 x1 x5 x6 h) K = body0 E K x0 x1 x5 x6 h := by kernel_rfl
noncomputable def body1 (E : Env) (K : PX → St → Res) (x0 x1 x5 x6 x7 x8 x9 : PV) (h : PHeap) : Res :=
    (E.p.len 22 x8).bind fun v19 =>
    (E.p.bin .lss 3 x9 v19).bind fun v20 =>
    condP v20
     (
      (E.p.indexAddr 22 x8 x9).bind fun v21 =>
      (E.p.load 3 v21 h).bind fun v22 =>
      (E.p.bin .shl 3 (.int .i64 1) v22).bind fun v23 =>
      (E.p.bin .or 3 x7 v23).bind fun v24 =>
      (E.p.bin .add 3 x9 (.int .i64 1)).bind fun v25 =>
      K .normal (st1 x0 x1 x5 x6 v24 x8 v25 h))
     (
      K (.exit 2) (se2_0_1_5_6_7_8_9_25 x0 x1 x5 x6 x7 x8 x9 v20 h))
theorem body1_eq (E : Env) (K : PX → St → Res) (x0 x1 x5 x6 x7 x8 x9 : PV) (h : PHeap) : ev (E.cx Tryd.prog kl) lp1 (st1 x0 x1 x5 x6 x7 x8 x9 h) K = body1 E K x0 x1 x5 x6 x7 x8 x9 h := by kernel_rfl
theorem after0_se0_0_1_5_6_15 (E : Env) (x0 x1 x5 x6 x15 : PV) (h : PHeap) : K0 E (kTop Tryd.prog Tryd.f31) (.exit 0) (se0_0_1_5_6_15 x0 x1 x5 x6 x15 h) =
    (resV x5).bind fun v12 =>
    some (v12, h) := by kernel_rfl
theorem after1_se2_0_1_5_6_7_8_9_25 (E : Env) (K : PX → St → Res) (x0 x1 x5 x6 x7 x8 x9 x25 : PV) (h : PHeap) : K1 E K (.exit 2) (se2_0_1_5_6_7_8_9_25 x0 x1 x5 x6 x7 x8 x9 x25 h) =
    (E.p.buildSlice 22 1 [(0, x7)] h).bind fun v13 =>
    (E.p.append 22 22 x5 v13.1 v13.2).bind fun v14 =>
    (E.p.bin .add 3 x6 (.int .i64 1)).bind fun v15 =>
    K .normal (st0 x0 x1 v14.1 v15 v14.2) := by kernel_rfl
noncomputable def main (E : Env) (x0 x1 : PV) (h : PHeap) : Res :=
    (E.p.buildSlice 22 0 [] h).bind fun v1 =>
    loopK (ev (E.cx Tryd.prog spec_l2Masks.kl) spec_l2Masks.lp0) E.lf (spec_l2Masks.st0 x0 x1 v1.1 (.int .i64 0) v1.2) (spec_l2Masks.K0 E (kTop Tryd.prog Tryd.f31))
theorem main_eq (E : Env) (x0 x1 : PV) (h : PHeap) : runBody (E.cx Tryd.prog kl) Tryd.f31 [x0, x1] h = main E x0 x1 h := by kernel_rfl
theorem call_eq (g : Nat → PV) (lf n : Nat) (x0 x1 : PV) (h : PHeap) : CL g lf (n + 1) fn_spec_l2Masks [x0, x1] h = main (env g lf n) x0 x1 h := by
  rw [← main_eq]
  show call Tryd.prog g KL lf (n + 1) 31 [x0, x1] h = _
  rw [call_succ, Tryd.func31]
  kernel_rfl
end spec_l2Masks
namespace spec_Played
noncomputable def main (E : Env) (x0 x1 x2 x3 x4 : PV) (h : PHeap) : Res :=
    (E.C fn_spec_MoveOk [x0, x1, x2, x3, x4] h).bind fun v1 =>
    (E.p.un .not v1.1).bind fun v2 =>
    condP v2
     (
      (E.p.buildSlice 22 0 [] v1.2).bind fun v3 =>
      (resV v3.1).bind fun v4 =>
      (resV (.bool false)).bind fun v5 =>
      some (.tup [v4, v5], v3.2))
     (
      (E.p.buildSlice 22 0 [] v1.2).bind fun v6 =>
      (E.p.append 22 22 v6.1 x2 v6.2).bind fun v7 =>
      (E.p.indexAddr 22 v7.1 x3).bind fun v8 =>
      (E.p.store 3 v8 x4 v7.2).bind fun v9 =>
      (resV v7.1).bind fun v10 =>
      (resV (.bool true)).bind fun v11 =>
      some (.tup [v10, v11], v9))
theorem main_eq (E : Env) (x0 x1 x2 x3 x4 : PV) (h : PHeap) : runBody (E.cx Tryd.prog kl) Tryd.f32 [x0, x1, x2, x3, x4] h = main E x0 x1 x2 x3 x4 h := by kernel_rfl
theorem call_eq (g : Nat → PV) (lf n : Nat) (x0 x1 x2 x3 x4 : PV) (h : PHeap) : CL g lf (n + 1) fn_spec_Played [x0, x1, x2, x3, x4] h = main (env g lf n) x0 x1 x2 x3 x4 h := by
  rw [← main_eq]
  show call Tryd.prog g KL lf (n + 1) 32 [x0, x1, x2, x3, x4] h = _
  rw [call_succ, Tryd.func32]
  kernel_rfl
end spec_Played
namespace spec_l3Winner
noncomputable def main (E : Env) (x0 x1 x2 x3 : PV) (h : PHeap) : Res :=
    (E.C fn_spec_l2Masks [x0, x1] h).bind fun v1 =>
    (E.C fn_spec_l2Set [x2, (.int .i64 1)] v1.2).bind fun v2 =>
    (E.C fn_spec_l2Set [x2, (.int .i64 2)] v2.2).bind fun v3 =>
    (E.p.len 22 v1.1).bind fun v4 =>
    (E.C fn_spec_l3Table [v4] v3.2).bind fun v5 =>
    (E.C fn_spec_l3Solve [x0, x1, v1.1, v2.1, v3.1, x3, v5.1] v5.2).bind fun v6 =>
    (resV v6.1).bind fun v7 =>
    some (v7, v6.2)
theorem main_eq (E : Env) (x0 x1 x2 x3 : PV) (h : PHeap) : runBody (E.cx Tryd.prog kl) Tryd.f33 [x0, x1, x2, x3] h = main E x0 x1 x2 x3 h := by kernel_rfl
theorem call_eq (g : Nat → PV) (lf n : Nat) (x0 x1 x2 x3 : PV) (h : PHeap) : CL g lf (n + 1) fn_spec_l3Winner [x0, x1, x2, x3] h = main (env g lf n) x0 x1 x2 x3 h := by
  rw [← main_eq]
  show call Tryd.prog g KL lf (n + 1) 33 [x0, x1, x2, x3] h = _
  rw [call_succ, Tryd.func33]
  kernel_rfl
end spec_l3Winner
namespace impl_sizeOk
noncomputable def main (E : Env) (x0 : PV) (h : PHeap) : Res :=
    (E.p.bin .geq 3 x0 (.int .i64 1)).bind fun v1 =>
    (wantV v1 true).bind fun v2 =>
    (bif v2 then some (x0, h) else some (.tup [], h)).bind fun v3 =>
    (wantV v1 true).bind fun v4 =>
    (bif v4 then pv v3.2 (E.p.bin .leq 3 v3.1 (.int .i64 4)) else some (.tup [], v3.2)).bind fun v5 =>
    (E.p.pick v1 v5.1 (.bool false)).bind fun v6 =>
    (resV v6).bind fun v7 =>
    some (v7, v5.2)
theorem main_eq (E : Env) (x0 : PV) (h : PHeap) : runBody (E.cx Tryd.prog kl) Tryd.f34 [x0] h = main E x0 h := by kernel_rfl
theorem call_eq (g : Nat → PV) (lf n : Nat) (x0 : PV) (h : PHeap) : CL g lf (n + 1) fn_impl_sizeOk [x0] h = main (env g lf n) x0 h := by
  rw [← main_eq]
  show call Tryd.prog g KL lf (n + 1) 34 [x0] h = _
  rw [call_succ, Tryd.func34]
  kernel_rfl
end impl_sizeOk
namespace impl_contentOk
noncomputable def main (E : Env) (x0 : PV) (h : PHeap) : Res :=
    (E.p.bin .eql 3 x0 (.int .i64 0)).bind fun v1 =>
    (wantV v1 false).bind fun v2 =>
    (bif v2 then some (x0, h) else some (.tup [], h)).bind fun v3 =>
    (wantV v1 false).bind fun v4 =>
    (bif v4 then pv v3.2 (E.p.bin .eql 3 v3.1 (.int .i64 1)) else some (.tup [], v3.2)).bind fun v5 =>
    (E.p.pick v1 (.bool true) v5.1).bind fun v6 =>
    (wantV v6 false).bind fun v7 =>
    (bif v7 then some (x0, v5.2) else some (.tup [], v5.2)).bind fun v8 =>
    (wantV v6 false).bind fun v9 =>
    (bif v9 then pv v8.2 (E.p.bin .eql 3 v8.1 (.int .i64 2)) else some (.tup [], v8.2)).bind fun v10 =>
    (E.p.pick v6 (.bool true) v10.1).bind fun v11 =>
    (resV v11).bind fun v12 =>
    some (v12, v10.2)
theorem main_eq (E : Env) (x0 : PV) (h : PHeap) : runBody (E.cx Tryd.prog kl) Tryd.f35 [x0] h = main E x0 h := by kernel_rfl
theorem call_eq (g : Nat → PV) (lf n : Nat) (x0 : PV) (h : PHeap) : CL g lf (n + 1) fn_impl_contentOk [x0] h = main (env g lf n) x0 h := by
  rw [← main_eq]
  show call Tryd.prog g KL lf (n + 1) 35 [x0] h = _
  rw [call_succ, Tryd.func35]
  kernel_rfl
end impl_contentOk
namespace impl_withNear
noncomputable def lp0 : Code := (codeAt (bodyOf Tryd.f36) [1, 1, 0, 1, 0, 0])
def st0 (x0 x1 x2 x7 x14 x15 : PV) (h : PHeap) : St := ⟨[x0, x1, x2, .junk, .junk, .junk, .junk, x7, .junk, .junk, .junk, .junk, .junk, .junk, x14, x15, .junk, .junk, .junk, .junk, .junk, .junk, .junk, .junk, .junk, .junk, .junk, .junk, .junk, .junk, .junk, .junk, .junk, .junk, .junk, .junk, .junk, .junk, .junk], h⟩
noncomputable def lp1 : Code := (codeAt (bodyOf Tryd.f36) [1, 1, 0, 1, 0, 0, 1, 1, 0, 0, 1, 1, 1, 0, 0])
def st1 (x0 x1 x2 x7 x14 x15 x26 x27 x28 : PV) (h : PHeap) : St := ⟨[x0, x1, x2, .junk, .junk, .junk, .junk, x7, .junk, .junk, .junk, .junk, .junk, .junk, x14, x15, .junk, .junk, .junk, .junk, .junk, .junk, .junk, .junk, .junk, .junk, x26, x27, x28, .junk, .junk, .junk, .junk, .junk, .junk, .junk, .junk, .junk, .junk], h⟩
def se0_0_1_2_7_14_15_16 (x0 x1 x2 x7 x14 x15 x16 : PV) (h : PHeap) : St := ⟨[x0, x1, x2, .junk, .junk, .junk, .junk, x7, .junk, .junk, .junk, .junk, .junk, .junk, x14, x15, x16, .junk, .junk, .junk, .junk, .junk, .junk, .junk, .junk, .junk, .junk, .junk, .junk, .junk, .junk, .junk, .junk, .junk, .junk, .junk, .junk, .junk, .junk], h⟩
def se2_0_1_2_7_14_15_26_27_28_29 (x0 x1 x2 x7 x14 x15 x26 x27 x28 x29 : PV) (h : PHeap) : St := ⟨[x0, x1, x2, .junk, .junk, .junk, .junk, x7, .junk, .junk, .junk, .junk, .junk, .junk, x14, x15, .junk, .junk, .junk, .junk, .junk, .junk, .junk, .junk, .junk, .junk, x26, x27, x28, x29, .junk, .junk, .junk, .junk, .junk, .junk, .junk, .junk, .junk], h⟩
noncomputable def K0 (E : Env) (K : PX → St → Res) : PX → St → Res := (kBlock 0 (kSeq (ev (E.cx Tryd.prog kl) (codeAt (bodyOf Tryd.f36) [1, 1, 1])) K))
@[simp] theorem K0_ret (E : Env) (K : PX → St → Res) (s : St) : K0 E K .ret s = K .ret s := by kernel_rfl
noncomputable def K1 (E : Env) (K : PX → St → Res) : PX → St → Res := (kBlock 2 (kBlock 1 (kSeq (ev (E.cx Tryd.prog kl) (codeAt (bodyOf Tryd.f36) [1, 1, 0, 1, 0, 0, 1, 1, 1])) K)))
@[simp] theorem K1_ret (E : Env) (K : PX → St → Res) (s : St) : K1 E K .ret s = K .ret s := by kernel_rfl
noncomputable def body0 (E : Env) (K : PX → St → Res) (x0 x1 x2 x7 x14 x15 : PV) (h : PHeap) : Res :=
    (E.p.bin .lss 3 x15 x14).bind fun v17 =>
    condP v17
     (
      (E.p.bin .shr 3 x2 x15).bind fun v18 =>
      (E.p.bin .and 3 v18 (.int .i64 1)).bind fun v19 =>
      (E.p.bin .eql 3 v19 (.int .i64 0)).bind fun v20 =>
      condP v20
       (
        (E.p.bin .add 3 x15 (.int .i64 1)).bind fun v21 =>
        K .normal (st0 x0 x1 x2 x7 x14 v21 h))
       (
        (E.C fn_impl_NearCells [x0, x1, x15] h).bind fun v22 =>
        (E.p.len 22 v22.1).bind fun v23 =>
        loopK (ev (E.cx Tryd.prog impl_withNear.kl) impl_withNear.lp1) E.lf (impl_withNear.st1 x0 x1 x2 x7 x14 x15 v22.1 v23 (.int .i64 0) v22.2) (impl_withNear.K1 E K)))
     (
      K (.exit 0) (se0_0_1_2_7_14_15_16 x0 x1 x2 x7 x14 x15 v17 h))
theorem body0_eq (E : Env) (K : PX → St → Res) (x0 x1 x2 x7 x14 x15 : PV) (h : PHeap) : ev (E.cx Tryd.prog kl) lp0 (st0 x0 x1 x2 x7 x14 x15 h) K = body0 E K x0 x1 x2 x7 x14 x15 h := by kernel_rfl
noncomputable def body1 (E : Env) (K : PX → St → Res) (x0 x1 x2 x7 x14 x15 x26 x27 x28 : PV) (h : PHeap) : Res :=
    (E.p.bin .lss 3 x28 x27).bind fun v24 =>
    condP v24
     (
      (E.p.indexAddr 22 x26 x28).bind fun v25 =>
      (E.p.load 3 v25 h).bind fun v26 =>
      (E.p.bin .shl 3 (.int .i64 1) v26).bind fun v27 =>
      (E.p.bin .or 3 x7 v27).bind fun v28 =>
      (E.p.bin .add 3 x28 (.int .i64 1)).bind fun v29 =>
      K .normal (st1 x0 x1 x2 v28 x14 x15 x26 x27 v29 h))
     (
      K (.exit 2) (se2_0_1_2_7_14_15_26_27_28_29 x0 x1 x2 x7 x14 x15 x26 x27 x28 v24 h))
theorem body1_eq (E : Env) (K : PX → St → Res) (x0 x1 x2 x7 x14 x15 x26 x27 x28 : PV) (h : PHeap) : ev (E.cx Tryd.prog kl) lp1 (st1 x0 x1 x2 x7 x14 x15 x26 x27 x28 h) K = body1 E K x0 x1 x2 x7 x14 x15 x26 x27 x28 h := by kernel_rfl
theorem after0_se0_0_1_2_7_14_15_16 (E : Env) (x0 x1 x2 x7 x14 x15 x16 : PV) (h : PHeap) : K0 E (kTop Tryd.prog Tryd.f36) (.exit 0) (se0_0_1_2_7_14_15_16 x0 x1 x2 x7 x14 x15 x16 h) =
    (resV x7).bind fun v15 =>
    some (v15, h) := by kernel_rfl
theorem after1_se2_0_1_2_7_14_15_26_27_28_29 (E : Env) (K : PX → St → Res) (x0 x1 x2 x7 x14 x15 x26 x27 x28 x29 : PV) (h : PHeap) : K1 E K (.exit 2) (se2_0_1_2_7_14_15_26_27_28_29 x0 x1 x2 x7 x14 x15 x26 x27 x28 x29 h) =
    (E.p.bin .add 3 x15 (.int .i64 1)).bind fun v16 =>
    K .normal (st0 x0 x1 x2 x7 x14 v16 h) := by kernel_rfl
noncomputable def main (E : Env) (x0 x1 x2 : PV) (h : PHeap) : Res :=
    (E.p.bin .mul 3 x0 x1).bind fun v1 =>
    loopK (ev (E.cx Tryd.prog impl_withNear.kl) impl_withNear.lp0) E.lf (impl_withNear.st0 x0 x1 x2 x2 v1 (.int .i64 0) h) (impl_withNear.K0 E (kTop Tryd.prog Tryd.f36))
theorem main_eq (E : Env) (x0 x1 x2 : PV) (h : PHeap) : runBody (E.cx Tryd.prog kl) Tryd.f36 [x0, x1, x2] h = main E x0 x1 x2 h := by kernel_rfl
theorem call_eq (g : Nat → PV) (lf n : Nat) (x0 x1 x2 : PV) (h : PHeap) : CL g lf (n + 1) fn_impl_withNear [x0, x1, x2] h = main (env g lf n) x0 x1 x2 h := by
  rw [← main_eq]
  show call Tryd.prog g KL lf (n + 1) 36 [x0, x1, x2] h = _
  rw [call_succ, Tryd.func36]
  kernel_rfl
end impl_withNear
namespace impl_sidesOf
noncomputable def lp0 : Code := (codeAt (bodyOf Tryd.f37) [1, 1, 0, 1, 0, 0])
def st0 (x0 x1 x2 x8 x9 x15 x16 : PV) (h : PHeap) : St := ⟨[x0, x1, x2, .junk, .junk, .junk, .junk, .junk, x8, x9, .junk, .junk, .junk, .junk, .junk, x15, x16, .junk, .junk, .junk, .junk, .junk, .junk, .junk, .junk, .junk, .junk, .junk, .junk, .junk, .junk, .junk, .junk, .junk, .junk, .junk, .junk, .junk, .junk, .junk, .junk, .junk, .junk, .junk, .junk, .junk, .junk], h⟩
def se0_0_1_2_8_9_15_16_17 (x0 x1 x2 x8 x9 x15 x16 x17 : PV) (h : PHeap) : St := ⟨[x0, x1, x2, .junk, .junk, .junk, .junk, .junk, x8, x9, .junk, .junk, .junk, .junk, .junk, x15, x16, x17, .junk, .junk, .junk, .junk, .junk, .junk, .junk, .junk, .junk, .junk, .junk, .junk, .junk, .junk, .junk, .junk, .junk, .junk, .junk, .junk, .junk, .junk, .junk, .junk, .junk, .junk, .junk, .junk, .junk], h⟩
noncomputable def K0 (E : Env) (K : PX → St → Res) : PX → St → Res := (kBlock 0 (kSeq (ev (E.cx Tryd.prog kl) (codeAt (bodyOf Tryd.f37) [1, 1, 1])) K))
@[simp] theorem K0_ret (E : Env) (K : PX → St → Res) (s : St) : K0 E K .ret s = K .ret s := by kernel_rfl
noncomputable def body0 (E : Env) (K : PX → St → Res) (x0 x1 x2 x8 x9 x15 x16 : PV) (h : PHeap) : Res :=
    (E.p.bin .lss 3 x16 x15).bind fun v36 =>
    condP v36
     (
      (E.p.bin .quo 3 x16 x1).bind fun v37 =>
      (E.p.bin .sub 3 x0 (.int .i64 1)).bind fun v38 =>
      (E.p.bin .eql 3 x2 (.int .i64 2)).bind fun v39 =>
      condP v39
       (
        (E.p.bin .rem 3 x16 x1).bind fun v40 =>
        (E.p.bin .sub 3 x1 (.int .i64 1)).bind fun v41 =>
        (E.p.bin .eql 3 v40 (.int .i64 0)).bind fun v42 =>
        condP v42
         (
          (E.p.bin .shl 3 (.int .i64 1) x16).bind fun v43 =>
          (E.p.bin .or 3 x8 v43).bind fun v44 =>
          (E.p.bin .eql 3 v40 v41).bind fun v45 =>
          condP v45
           (
            (E.p.bin .shl 3 (.int .i64 1) x16).bind fun v46 =>
            (E.p.bin .or 3 x9 v46).bind fun v47 =>
            (E.p.bin .add 3 x16 (.int .i64 1)).bind fun v48 =>
            K .normal (st0 x0 x1 x2 v44 v47 x15 v48 h))
           (
            (E.p.bin .add 3 x16 (.int .i64 1)).bind fun v49 =>
            K .normal (st0 x0 x1 x2 v44 x9 x15 v49 h)))
         (
          (E.p.bin .eql 3 v40 v41).bind fun v50 =>
          condP v50
           (
            (E.p.bin .shl 3 (.int .i64 1) x16).bind fun v51 =>
            (E.p.bin .or 3 x9 v51).bind fun v52 =>
            (E.p.bin .add 3 x16 (.int .i64 1)).bind fun v53 =>
            K .normal (st0 x0 x1 x2 x8 v52 x15 v53 h))
           (
            (E.p.bin .add 3 x16 (.int .i64 1)).bind fun v54 =>
            K .normal (st0 x0 x1 x2 x8 x9 x15 v54 h))))
       (
        (E.p.bin .eql 3 v37 (.int .i64 0)).bind fun v55 =>
        condP v55
         (
          (E.p.bin .shl 3 (.int .i64 1) x16).bind fun v56 =>
          (E.p.bin .or 3 x8 v56).bind fun v57 =>
          (E.p.bin .eql 3 v37 v38).bind fun v58 =>
          condP v58
           (
            (E.p.bin .shl 3 (.int .i64 1) x16).bind fun v59 =>
            (E.p.bin .or 3 x9 v59).bind fun v60 =>
            (E.p.bin .add 3 x16 (.int .i64 1)).bind fun v61 =>
            K .normal (st0 x0 x1 x2 v57 v60 x15 v61 h))
           (
            (E.p.bin .add 3 x16 (.int .i64 1)).bind fun v62 =>
            K .normal (st0 x0 x1 x2 v57 x9 x15 v62 h)))
         (
          (E.p.bin .eql 3 v37 v38).bind fun v63 =>
          condP v63
           (
            (E.p.bin .shl 3 (.int .i64 1) x16).bind fun v64 =>
            (E.p.bin .or 3 x9 v64).bind fun v65 =>
            (E.p.bin .add 3 x16 (.int .i64 1)).bind fun v66 =>
            K .normal (st0 x0 x1 x2 x8 v65 x15 v66 h))
           (
            (E.p.bin .add 3 x16 (.int .i64 1)).bind fun v67 =>
            K .normal (st0 x0 x1 x2 x8 x9 x15 v67 h)))))
     (
      K (.exit 0) (se0_0_1_2_8_9_15_16_17 x0 x1 x2 x8 x9 x15 x16 v36 h))
theorem body0_eq (E : Env) (K : PX → St → Res) (x0 x1 x2 x8 x9 x15 x16 : PV) (h : PHeap) : ev (E.cx Tryd.prog kl) lp0 (st0 x0 x1 x2 x8 x9 x15 x16 h) K = body0 E K x0 x1 x2 x8 x9 x15 x16 h := by kernel_rfl
theorem after0_se0_0_1_2_8_9_15_16_17 (E : Env) (x0 x1 x2 x8 x9 x15 x16 x17 : PV) (h : PHeap) : K0 E (kTop Tryd.prog Tryd.f37) (.exit 0) (se0_0_1_2_8_9_15_16_17 x0 x1 x2 x8 x9 x15 x16 x17 h) =
    (resV x8).bind fun v34 =>
    (resV x9).bind fun v35 =>
    some (.tup [v34, v35], h) := by kernel_rfl
noncomputable def main (E : Env) (x0 x1 x2 : PV) (h : PHeap) : Res :=
    (E.p.bin .mul 3 x0 x1).bind fun v1 =>
    loopK (ev (E.cx Tryd.prog impl_sidesOf.kl) impl_sidesOf.lp0) E.lf (impl_sidesOf.st0 x0 x1 x2 (.int .i64 0) (.int .i64 0) v1 (.int .i64 0) h) (impl_sidesOf.K0 E (kTop Tryd.prog Tryd.f37))
theorem main_eq (E : Env) (x0 x1 x2 : PV) (h : PHeap) : runBody (E.cx Tryd.prog kl) Tryd.f37 [x0, x1, x2] h = main E x0 x1 x2 h := by kernel_rfl
theorem call_eq (g : Nat → PV) (lf n : Nat) (x0 x1 x2 : PV) (h : PHeap) : CL g lf (n + 1) fn_impl_sidesOf [x0, x1, x2] h = main (env g lf n) x0 x1 x2 h := by
  rw [← main_eq]
  show call Tryd.prog g KL lf (n + 1) 37 [x0, x1, x2] h = _
  rw [call_succ, Tryd.func37]
  kernel_rfl
end impl_sidesOf
namespace impl_setOf
noncomputable def lp0 : Code := (codeAt (bodyOf Tryd.f38) [1, 1, 0, 1, 0, 0])
def st0 (x1 x5 x8 x9 x10 : PV) (h : PHeap) : St := ⟨[.junk, x1, .junk, .junk, .junk, x5, .junk, .junk, x8, x9, x10, .junk, .junk, .junk, .junk, .junk, .junk, .junk, .junk, .junk, .junk, .junk, .junk, .junk], h⟩
def se0_1_5_8_9_10_11 (x1 x5 x8 x9 x10 x11 : PV) (h : PHeap) : St := ⟨[.junk, x1, .junk, .junk, .junk, x5, .junk, .junk, x8, x9, x10, x11, .junk, .junk, .junk, .junk, .junk, .junk, .junk, .junk, .junk, .junk, .junk, .junk], h⟩
noncomputable def K0 (E : Env) (K : PX → St → Res) : PX → St → Res := (kBlock 0 (kSeq (ev (E.cx Tryd.prog kl) (codeAt (bodyOf Tryd.f38) [1, 1, 1])) K))
@[simp] theorem K0_ret (E : Env) (K : PX → St → Res) (s : St) : K0 E K .ret s = K .ret s := by kernel_rfl
noncomputable def body0 (E : Env) (K : PX → St → Res) (x1 x5 x8 x9 x10 : PV) (h : PHeap) : Res :=
    (E.p.bin .lss 3 x10 x9).bind fun v11 =>
    condP v11
     (
      (E.p.indexAddr 22 x8 x10).bind fun v12 =>
      (E.p.load 3 v12 h).bind fun v13 =>
      (E.p.bin .eql 3 v13 x1).bind fun v14 =>
      condP v14
       (
        (E.p.bin .shl 3 (.int .i64 1) x10).bind fun v15 =>
        (E.p.bin .or 3 x5 v15).bind fun v16 =>
        (E.p.bin .add 3 x10 (.int .i64 1)).bind fun v17 =>
        K .normal (st0 x1 v16 x8 x9 v17 h))
       (
        (E.p.bin .add 3 x10 (.int .i64 1)).bind fun v18 =>
        K .normal (st0 x1 x5 x8 x9 v18 h)))
     (
      K (.exit 0) (se0_1_5_8_9_10_11 x1 x5 x8 x9 x10 v11 h))
theorem body0_eq (E : Env) (K : PX → St → Res) (x1 x5 x8 x9 x10 : PV) (h : PHeap) : ev (E.cx Tryd.prog kl) lp0 (st0 x1 x5 x8 x9 x10 h) K = body0 E K x1 x5 x8 x9 x10 h := by kernel_rfl
theorem after0_se0_1_5_8_9_10_11 (E : Env) (x1 x5 x8 x9 x10 x11 : PV) (h : PHeap) : K0 E (kTop Tryd.prog Tryd.f38) (.exit 0) (se0_1_5_8_9_10_11 x1 x5 x8 x9 x10 x11 h) =
    (resV x5).bind fun v10 =>
    some (v10, h) := by kernel_rfl
noncomputable def main (E : Env) (x0 x1 : PV) (h : PHeap) : Res :=
    (E.p.len 22 x0).bind fun v1 =>
    loopK (ev (E.cx Tryd.prog impl_setOf.kl) impl_setOf.lp0) E.lf (impl_setOf.st0 x1 (.int .i64 0) x0 v1 (.int .i64 0) h) (impl_setOf.K0 E (kTop Tryd.prog Tryd.f38))
theorem main_eq (E : Env) (x0 x1 : PV) (h : PHeap) : runBody (E.cx Tryd.prog kl) Tryd.f38 [x0, x1] h = main E x0 x1 h := by kernel_rfl
theorem call_eq (g : Nat → PV) (lf n : Nat) (x0 x1 : PV) (h : PHeap) : CL g lf (n + 1) fn_impl_setOf [x0, x1] h = main (env g lf n) x0 x1 h := by
  rw [← main_eq]
  show call Tryd.prog g KL lf (n + 1) 38 [x0, x1] h = _
  rw [call_succ, Tryd.func38]
  kernel_rfl
end impl_setOf
namespace impl_search_joins
noncomputable def lp0 : Code := (codeAt (bodyOf Tryd.f39) [1, 1, 0, 1, 0, 0])
def st0 (x0 x1 x2 x7 x8 : PV) (h : PHeap) : St := ⟨[x0, x1, x2, .junk, .junk, .junk, .junk, x7, x8, .junk, .junk, .junk, .junk, .junk, .junk, .junk, .junk, .junk, .junk, .junk, .junk, .junk, .junk, .junk, .junk, .junk, .junk, .junk, .junk, .junk, .junk, .junk, .junk, .junk, .junk, .junk, .junk, .junk, .junk, .junk, .junk, .junk, .junk, .junk, .junk, .junk, .junk, .junk, .junk, .junk, .junk, .junk, .junk, .junk, .junk], h⟩
noncomputable def lp1 : Code := (codeAt (bodyOf Tryd.f39) [1, 1, 0, 1, 0, 0, 1, 0, 1, 0, 1, 0, 0])
def st1 (x0 x1 x2 x7 x9 x10 : PV) (h : PHeap) : St := ⟨[x0, x1, x2, .junk, .junk, .junk, .junk, x7, .junk, x9, x10, .junk, .junk, .junk, .junk, .junk, .junk, .junk, .junk, .junk, .junk, .junk, .junk, .junk, .junk, .junk, .junk, .junk, .junk, .junk, .junk, .junk, .junk, .junk, .junk, .junk, .junk, .junk, .junk, .junk, .junk, .junk, .junk, .junk, .junk, .junk, .junk, .junk, .junk, .junk, .junk, .junk, .junk, .junk, .junk], h⟩
def se0_0_1_2_7_8_21 (x0 x1 x2 x7 x8 x21 : PV) (h : PHeap) : St := ⟨[x0, x1, x2, .junk, .junk, .junk, .junk, x7, x8, .junk, .junk, .junk, .junk, .junk, .junk, .junk, .junk, .junk, .junk, .junk, .junk, x21, .junk, .junk, .junk, .junk, .junk, .junk, .junk, .junk, .junk, .junk, .junk, .junk, .junk, .junk, .junk, .junk, .junk, .junk, .junk, .junk, .junk, .junk, .junk, .junk, .junk, .junk, .junk, .junk, .junk, .junk, .junk, .junk, .junk], h⟩
def se2_0_1_2_7_9_10_24 (x0 x1 x2 x7 x9 x10 x24 : PV) (h : PHeap) : St := ⟨[x0, x1, x2, .junk, .junk, .junk, .junk, x7, .junk, x9, x10, .junk, .junk, .junk, .junk, .junk, .junk, .junk, .junk, .junk, .junk, .junk, .junk, .junk, x24, .junk, .junk, .junk, .junk, .junk, .junk, .junk, .junk, .junk, .junk, .junk, .junk, .junk, .junk, .junk, .junk, .junk, .junk, .junk, .junk, .junk, .junk, .junk, .junk, .junk, .junk, .junk, .junk, .junk, .junk], h⟩
noncomputable def K0 (E : Env) (K : PX → St → Res) : PX → St → Res := (kBlock 0 (kSeq (ev (E.cx Tryd.prog kl) (codeAt (bodyOf Tryd.f39) [1, 1, 1])) K))
@[simp] theorem K0_ret (E : Env) (K : PX → St → Res) (s : St) : K0 E K .ret s = K .ret s := by kernel_rfl
noncomputable def K1 (E : Env) (K : PX → St → Res) : PX → St → Res := (kBlock 2 (kSeq (ev (E.cx Tryd.prog kl) (codeAt (bodyOf Tryd.f39) [1, 1, 0, 1, 0, 0, 1, 0, 1, 1])) (kBlock 1 K)))
@[simp] theorem K1_ret (E : Env) (K : PX → St → Res) (s : St) : K1 E K .ret s = K .ret s := by kernel_rfl
noncomputable def body0 (E : Env) (K : PX → St → Res) (x0 x1 x2 x7 x8 : PV) (h : PHeap) : Res :=
    (E.p.bin .neq 3 x8 (.int .i64 0)).bind fun v26 =>
    condP v26
     (
      loopK (ev (E.cx Tryd.prog impl_search_joins.kl) impl_search_joins.lp1) E.lf (impl_search_joins.st1 x0 x1 x2 x7 (.int .i64 0) x8 h) (impl_search_joins.K1 E K))
     (
      K (.exit 0) (se0_0_1_2_7_8_21 x0 x1 x2 x7 x8 v26 h))
theorem body0_eq (E : Env) (K : PX → St → Res) (x0 x1 x2 x7 x8 : PV) (h : PHeap) : ev (E.cx Tryd.prog kl) lp0 (st0 x0 x1 x2 x7 x8 h) K = body0 E K x0 x1 x2 x7 x8 h := by kernel_rfl
noncomputable def body1 (E : Env) (K : PX → St → Res) (x0 x1 x2 x7 x9 x10 : PV) (h : PHeap) : Res :=
    (E.p.bin .neq 3 x10 (.int .i64 0)).bind fun v27 =>
    condP v27
     (
      (E.p.ptr x0).bind fun v28 =>
      (E.p.fieldAddr 49 v28 0).bind fun v29 =>
      (E.C fn_impl_leastIn [x10] h).bind fun v30 =>
      (E.p.indexAddr 47 v29 v30.1).bind fun v31 =>
      (E.p.load 3 v31 v30.2).bind fun v32 =>
      (E.p.bin .or 3 x9 v32).bind fun v33 =>
      (E.p.bin .sub 3 x10 (.int .i64 1)).bind fun v34 =>
      (E.p.bin .and 3 x10 v34).bind fun v35 =>
      K .normal (st1 x0 x1 x2 x7 v33 v35 v30.2))
     (
      K (.exit 2) (se2_0_1_2_7_9_10_24 x0 x1 x2 x7 x9 x10 v27 h))
theorem body1_eq (E : Env) (K : PX → St → Res) (x0 x1 x2 x7 x9 x10 : PV) (h : PHeap) : ev (E.cx Tryd.prog kl) lp1 (st1 x0 x1 x2 x7 x9 x10 h) K = body1 E K x0 x1 x2 x7 x9 x10 h := by kernel_rfl
theorem after0_se0_0_1_2_7_8_21 (E : Env) (x0 x1 x2 x7 x8 x21 : PV) (h : PHeap) : K0 E (kTop Tryd.prog Tryd.f39) (.exit 0) (se0_0_1_2_7_8_21 x0 x1 x2 x7 x8 x21 h) =
    (E.p.ptr x0).bind fun v16 =>
    (E.p.fieldAddr 49 v16 2).bind fun v17 =>
    (E.p.indexAddr 36 v17 x2).bind fun v18 =>
    (E.p.load 3 v18 h).bind fun v19 =>
    (E.p.bin .and 3 x7 v19).bind fun v20 =>
    (E.p.bin .neq 3 v20 (.int .i64 0)).bind fun v21 =>
    (resV v21).bind fun v22 =>
    some (v22, h) := by kernel_rfl
theorem after1_se2_0_1_2_7_9_10_24 (E : Env) (K : PX → St → Res) (x0 x1 x2 x7 x9 x10 x24 : PV) (h : PHeap) : K1 E K (.exit 2) (se2_0_1_2_7_9_10_24 x0 x1 x2 x7 x9 x10 x24 h) =
    (E.p.bin .and 3 x9 x1).bind fun v23 =>
    (E.p.bin .andNot 3 v23 x7).bind fun v24 =>
    (E.p.bin .or 3 x7 v24).bind fun v25 =>
    K .normal (st0 x0 x1 x2 v25 v24 h) := by kernel_rfl
noncomputable def main (E : Env) (x0 x1 x2 : PV) (h : PHeap) : Res :=
    (E.p.ptr x0).bind fun v1 =>
    (E.p.fieldAddr 49 v1 1).bind fun v2 =>
    (E.p.indexAddr 36 v2 x2).bind fun v3 =>
    (E.p.load 3 v3 h).bind fun v4 =>
    (E.p.bin .and 3 x1 v4).bind fun v5 =>
    loopK (ev (E.cx Tryd.prog impl_search_joins.kl) impl_search_joins.lp0) E.lf (impl_search_joins.st0 x0 x1 x2 v5 v5 h) (impl_search_joins.K0 E (kTop Tryd.prog Tryd.f39))
theorem main_eq (E : Env) (x0 x1 x2 : PV) (h : PHeap) : runBody (E.cx Tryd.prog kl) Tryd.f39 [x0, x1, x2] h = main E x0 x1 x2 h := by kernel_rfl
theorem call_eq (g : Nat → PV) (lf n : Nat) (x0 x1 x2 : PV) (h : PHeap) : CL g lf (n + 1) fn_impl_search_joins [x0, x1, x2] h = main (env g lf n) x0 x1 x2 h := by
  rw [← main_eq]
  show call Tryd.prog g KL lf (n + 1) 39 [x0, x1, x2] h = _
  rw [call_succ, Tryd.func39]
  kernel_rfl
end impl_search_joins
namespace impl_search_winner
noncomputable def main (E : Env) (x0 x1 : PV) (h : PHeap) : Res :=
    (E.p.box x1 h).bind fun v1 =>
    (E.p.ptr x0).bind fun v2 =>
    (E.p.fieldAddr 49 v2 3).bind fun v3 =>
    (E.p.load 46 v3 v1.2).bind fun v4 =>
    (E.p.load 38 v1.1 v1.2).bind fun v5 =>
    (E.p.lookup 46 v4 v5 true v1.2).bind fun v6 =>
    (E.p.extract v6 0).bind fun v7 =>
    (E.p.extract v6 1).bind fun v8 =>
    (E.p.un .not v8).bind fun v9 =>
    condP v9
     (
      (E.p.load 38 v1.1 v1.2).bind fun v10 =>
      (E.C fn_impl_search_solved [x0, v10] v1.2).bind fun v11 =>
      (E.p.ptr x0).bind fun v12 =>
      (E.p.fieldAddr 49 v12 3).bind fun v13 =>
      (E.p.load 46 v13 v11.2).bind fun v14 =>
      (E.p.load 38 v1.1 v11.2).bind fun v15 =>
      (E.p.update 46 v14 v15 v11.1 v11.2).bind fun v16 =>
      (resV v11.1).bind fun v17 =>
      some (v17, v16))
     (
      (resV v7).bind fun v18 =>
      some (v18, v1.2))
theorem main_eq (E : Env) (x0 x1 : PV) (h : PHeap) : runBody (E.cx Tryd.prog kl) Tryd.f40 [x0, x1] h = main E x0 x1 h := by kernel_rfl
theorem call_eq (g : Nat → PV) (lf n : Nat) (x0 x1 : PV) (h : PHeap) : CL g lf (n + 1) fn_impl_search_winner [x0, x1] h = main (env g lf n) x0 x1 h := by
  rw [← main_eq]
  show call Tryd.prog g KL lf (n + 1) 40 [x0, x1] h = _
  rw [call_succ, Tryd.func40]
  kernel_rfl
end impl_search_winner
namespace bits_TrailingZeros
noncomputable def main (E : Env) (x0 : PV) (h : PHeap) : Res :=
    condP (.bool false)
     (
      (E.p.conv 54 61 x0).bind fun v1 =>
      (E.C fn_bits_TrailingZeros32 [v1] h).bind fun v2 =>
      (resV v2.1).bind fun v3 =>
      some (v3, v2.2))
     (
      (E.C fn_bits_TrailingZeros64 [x0] h).bind fun v4 =>
      (resV v4.1).bind fun v5 =>
      some (v5, v4.2))
theorem main_eq (E : Env) (x0 : PV) (h : PHeap) : runBody (E.cx Tryd.prog kl) Tryd.f41 [x0] h = main E x0 h := by kernel_rfl
theorem call_eq (g : Nat → PV) (lf n : Nat) (x0 : PV) (h : PHeap) : CL g lf (n + 1) fn_bits_TrailingZeros [x0] h = main (env g lf n) x0 h := by
  rw [← main_eq]
  show call Tryd.prog g KL lf (n + 1) 41 [x0] h = _
  rw [call_succ, Tryd.func41]
  kernel_rfl
end bits_TrailingZeros
namespace impl_exchanged
noncomputable def main (E : Env) (x0 : PV) (h : PHeap) : Res :=
    (E.p.bin .eql 3 x0 (.int .i64 1)).bind fun v1 =>
    condP v1
     (
      (resV (.int .i64 2)).bind fun v2 =>
      some (v2, h))
     (
      (E.p.bin .eql 3 x0 (.int .i64 2)).bind fun v3 =>
      condP v3
       (
        (resV (.int .i64 1)).bind fun v4 =>
        some (v4, h))
       (
        (resV x0).bind fun v5 =>
        some (v5, h)))
theorem main_eq (E : Env) (x0 : PV) (h : PHeap) : runBody (E.cx Tryd.prog kl) Tryd.f42 [x0] h = main E x0 h := by kernel_rfl
theorem call_eq (g : Nat → PV) (lf n : Nat) (x0 : PV) (h : PHeap) : CL g lf (n + 1) fn_impl_exchanged [x0] h = main (env g lf n) x0 h := by
  rw [← main_eq]
  show call Tryd.prog g KL lf (n + 1) 42 [x0] h = _
  rw [call_succ, Tryd.func42]
  kernel_rfl
end impl_exchanged
namespace spec_l2Grow
noncomputable def lp0 : Code := (codeAt (bodyOf Tryd.f43) [1, 1, 0, 1, 0, 0])
def st0 (x0 x1 x7 x8 : PV) (h : PHeap) : St := ⟨[x0, x1, .junk, .junk, .junk, .junk, .junk, x7, x8, .junk, .junk, .junk, .junk, .junk, .junk, .junk, .junk, .junk, .junk, .junk, .junk, .junk, .junk, .junk, .junk, .junk, .junk, .junk, .junk, .junk, .junk, .junk, .junk, .junk, .junk, .junk, .junk, .junk, .junk, .junk], h⟩
noncomputable def lp1 : Code := (codeAt (bodyOf Tryd.f43) [1, 1, 0, 1, 0, 0, 1, 0, 1, 0, 1, 0, 0])
def st1 (x0 x1 x7 x9 x10 : PV) (h : PHeap) : St := ⟨[x0, x1, .junk, .junk, .junk, .junk, .junk, x7, .junk, x9, x10, .junk, .junk, .junk, .junk, .junk, .junk, .junk, .junk, .junk, .junk, .junk, .junk, .junk, .junk, .junk, .junk, .junk, .junk, .junk, .junk, .junk, .junk, .junk, .junk, .junk, .junk, .junk, .junk, .junk], h⟩
def se0_0_1_7_14 (x0 x1 x7 x14 : PV) (h : PHeap) : St := ⟨[x0, x1, .junk, .junk, .junk, .junk, .junk, x7, .junk, .junk, .junk, .junk, .junk, .junk, x14, .junk, .junk, .junk, .junk, .junk, .junk, .junk, .junk, .junk, .junk, .junk, .junk, .junk, .junk, .junk, .junk, .junk, .junk, .junk, .junk, .junk, .junk, .junk, .junk, .junk], h⟩
def se2_0_1_7_9_10_19 (x0 x1 x7 x9 x10 x19 : PV) (h : PHeap) : St := ⟨[x0, x1, .junk, .junk, .junk, .junk, .junk, x7, .junk, x9, x10, .junk, .junk, .junk, .junk, .junk, .junk, .junk, .junk, x19, .junk, .junk, .junk, .junk, .junk, .junk, .junk, .junk, .junk, .junk, .junk, .junk, .junk, .junk, .junk, .junk, .junk, .junk, .junk, .junk], h⟩
noncomputable def K0 (E : Env) (K : PX → St → Res) : PX → St → Res := (kBlock 0 (kSeq (ev (E.cx Tryd.prog kl) (codeAt (bodyOf Tryd.f43) [1, 1, 1])) K))
@[simp] theorem K0_ret (E : Env) (K : PX → St → Res) (s : St) : K0 E K .ret s = K .ret s := by kernel_rfl
noncomputable def K1 (E : Env) (K : PX → St → Res) : PX → St → Res := (kBlock 2 (kSeq (ev (E.cx Tryd.prog kl) (codeAt (bodyOf Tryd.f43) [1, 1, 0, 1, 0, 0, 1, 0, 1, 1])) (kBlock 1 K)))
@[simp] theorem K1_ret (E : Env) (K : PX → St → Res) (s : St) : K1 E K .ret s = K .ret s := by kernel_rfl
noncomputable def body0 (E : Env) (K : PX → St → Res) (x0 x1 x7 x8 : PV) (h : PHeap) : Res :=
    condP x8
     (
      loopK (ev (E.cx Tryd.prog spec_l2Grow.kl) spec_l2Grow.lp1) E.lf (spec_l2Grow.st1 x0 x1 x7 x7 (.int .i64 0) h) (spec_l2Grow.K1 E K))
     (
      K (.exit 0) (se0_0_1_7_14 x0 x1 x7 x8 h))
theorem body0_eq (E : Env) (K : PX → St → Res) (x0 x1 x7 x8 : PV) (h : PHeap) : ev (E.cx Tryd.prog kl) lp0 (st0 x0 x1 x7 x8 h) K = body0 E K x0 x1 x7 x8 h := by kernel_rfl
noncomputable def body1 (E : Env) (K : PX → St → Res) (x0 x1 x7 x9 x10 : PV) (h : PHeap) : Res :=
    (E.p.len 22 x0).bind fun v15 =>
    (E.p.bin .lss 3 x10 v15).bind fun v16 =>
    condP v16
     (
      (E.p.bin .shr 3 x7 x10).bind fun v17 =>
      (E.p.bin .rem 3 v17 (.int .i64 2)).bind fun v18 =>
      (E.p.bin .eql 3 v18 (.int .i64 1)).bind fun v19 =>
      condP v19
       (
        (E.p.indexAddr 22 x0 x10).bind fun v20 =>
        (E.p.load 3 v20 h).bind fun v21 =>
        (E.p.bin .and 3 v21 x1).bind fun v22 =>
        (E.p.bin .or 3 x9 v22).bind fun v23 =>
        (E.p.bin .add 3 x10 (.int .i64 1)).bind fun v24 =>
        K .normal (st1 x0 x1 x7 v23 v24 h))
       (
        (E.p.bin .add 3 x10 (.int .i64 1)).bind fun v25 =>
        K .normal (st1 x0 x1 x7 x9 v25 h)))
     (
      K (.exit 2) (se2_0_1_7_9_10_19 x0 x1 x7 x9 x10 v16 h))
theorem body1_eq (E : Env) (K : PX → St → Res) (x0 x1 x7 x9 x10 : PV) (h : PHeap) : ev (E.cx Tryd.prog kl) lp1 (st1 x0 x1 x7 x9 x10 h) K = body1 E K x0 x1 x7 x9 x10 h := by kernel_rfl
theorem after0_se0_0_1_7_14 (E : Env) (x0 x1 x7 x14 : PV) (h : PHeap) : K0 E (kTop Tryd.prog Tryd.f43) (.exit 0) (se0_0_1_7_14 x0 x1 x7 x14 h) =
    (resV x7).bind fun v13 =>
    some (v13, h) := by kernel_rfl
theorem after1_se2_0_1_7_9_10_19 (E : Env) (K : PX → St → Res) (x0 x1 x7 x9 x10 x19 : PV) (h : PHeap) : K1 E K (.exit 2) (se2_0_1_7_9_10_19 x0 x1 x7 x9 x10 x19 h) =
    (E.p.bin .neq 3 x9 x7).bind fun v14 =>
    K .normal (st0 x0 x1 x9 v14 h) := by kernel_rfl
noncomputable def main (E : Env) (x0 x1 x2 : PV) (h : PHeap) : Res :=
    (E.p.bin .and 3 x2 x1).bind fun v1 =>
    loopK (ev (E.cx Tryd.prog spec_l2Grow.kl) spec_l2Grow.lp0) E.lf (spec_l2Grow.st0 x0 x1 v1 (.bool true) h) (spec_l2Grow.K0 E (kTop Tryd.prog Tryd.f43))
theorem main_eq (E : Env) (x0 x1 x2 : PV) (h : PHeap) : runBody (E.cx Tryd.prog kl) Tryd.f43 [x0, x1, x2] h = main E x0 x1 x2 h := by kernel_rfl
theorem call_eq (g : Nat → PV) (lf n : Nat) (x0 x1 x2 : PV) (h : PHeap) : CL g lf (n + 1) fn_spec_l2Grow [x0, x1, x2] h = main (env g lf n) x0 x1 x2 h := by
  rw [← main_eq]
  show call Tryd.prog g KL lf (n + 1) 43 [x0, x1, x2] h = _
  rw [call_succ, Tryd.func43]
  kernel_rfl
end spec_l2Grow
namespace spec_l2Side
noncomputable def lp0 : Code := (codeAt (bodyOf Tryd.f44) [1, 1, 0, 1, 0, 0])
def st0 (x0 x1 x2 x3 x9 x10 : PV) (h : PHeap) : St := ⟨[x0, x1, x2, x3, .junk, .junk, .junk, .junk, .junk, x9, x10, .junk, .junk, .junk, .junk, .junk, .junk, .junk, .junk, .junk, .junk, .junk, .junk, .junk, .junk, .junk, .junk, .junk, .junk, .junk, .junk, .junk, .junk, .junk, .junk, .junk, .junk, .junk, .junk, .junk, .junk, .junk, .junk, .junk, .junk, .junk, .junk, .junk, .junk, .junk, .junk], h⟩
def se0_0_1_2_3_9_10_17 (x0 x1 x2 x3 x9 x10 x17 : PV) (h : PHeap) : St := ⟨[x0, x1, x2, x3, .junk, .junk, .junk, .junk, .junk, x9, x10, .junk, .junk, .junk, .junk, .junk, .junk, x17, .junk, .junk, .junk, .junk, .junk, .junk, .junk, .junk, .junk, .junk, .junk, .junk, .junk, .junk, .junk, .junk, .junk, .junk, .junk, .junk, .junk, .junk, .junk, .junk, .junk, .junk, .junk, .junk, .junk, .junk, .junk, .junk, .junk], h⟩
noncomputable def K0 (E : Env) (K : PX → St → Res) : PX → St → Res := (kBlock 0 (kSeq (ev (E.cx Tryd.prog kl) (codeAt (bodyOf Tryd.f44) [1, 1, 1])) K))
@[simp] theorem K0_ret (E : Env) (K : PX → St → Res) (s : St) : K0 E K .ret s = K .ret s := by kernel_rfl
noncomputable def body0 (E : Env) (K : PX → St → Res) (x0 x1 x2 x3 x9 x10 : PV) (h : PHeap) : Res :=
    (E.p.bin .mul 3 x0 x1).bind fun v57 =>
    (E.p.bin .lss 3 x10 v57).bind fun v58 =>
    condP v58
     (
      (E.p.bin .quo 3 x10 x1).bind fun v59 =>
      (E.p.bin .sub 3 x0 (.int .i64 1)).bind fun v60 =>
      (E.p.bin .eql 3 x2 (.int .i64 2)).bind fun v61 =>
      condP v61
       (
        (E.p.bin .rem 3 x10 x1).bind fun v62 =>
        (E.p.bin .sub 3 x1 (.int .i64 1)).bind fun v63 =>
        (wantV x3 true).bind fun v64 =>
        (bif v64 then some (v62, h) else some (.tup [], h)).bind fun v65 =>
        (wantV x3 true).bind fun v66 =>
        (bif v66 then some (v63, v65.2) else some (.tup [], v65.2)).bind fun v67 =>
        (wantV x3 true).bind fun v68 =>
        (bif v68 then pv v67.2 (E.p.bin .eql 3 v65.1 v67.1) else some (.tup [], v67.2)).bind fun v69 =>
        (E.p.pick x3 v69.1 (.bool false)).bind fun v70 =>
        (wantV v70 false).bind fun v71 =>
        (bif v71 then some (x3, v69.2) else some (.tup [], v69.2)).bind fun v72 =>
        (wantV v70 false).bind fun v73 =>
        (bif v73 then pv v72.2 (E.p.un .not v72.1) else some (.tup [], v72.2)).bind fun v74 =>
        (wantV v70 false).bind fun v75 =>
        (bif v75 then some (v74.1, v74.2) else some (.tup [], v74.2)).bind fun v76 =>
        (wantV v76.1 true).bind fun v77 =>
        (bif v77 then some (v62, v76.2) else some (.tup [], v76.2)).bind fun v78 =>
        (wantV v76.1 true).bind fun v79 =>
        (bif v79 then pv v78.2 (E.p.bin .eql 3 v78.1 (.int .i64 0)) else some (.tup [], v78.2)).bind fun v80 =>
        (wantV v70 false).bind fun v81 =>
        (bif v81 then pv v80.2 (E.p.pick v76.1 v80.1 (.bool false)) else some (.tup [], v80.2)).bind fun v82 =>
        (E.p.pick v70 (.bool true) v82.1).bind fun v83 =>
        condP v83
         (
          (E.p.bin .shl 3 (.int .i64 1) x10).bind fun v84 =>
          (E.p.bin .or 3 x9 v84).bind fun v85 =>
          (E.p.bin .add 3 x10 (.int .i64 1)).bind fun v86 =>
          K .normal (st0 x0 x1 x2 x3 v85 v86 v82.2))
         (
          (E.p.bin .add 3 x10 (.int .i64 1)).bind fun v87 =>
          K .normal (st0 x0 x1 x2 x3 x9 v87 v82.2)))
       (
        (wantV x3 true).bind fun v88 =>
        (bif v88 then some (v59, h) else some (.tup [], h)).bind fun v89 =>
        (wantV x3 true).bind fun v90 =>
        (bif v90 then some (v60, v89.2) else some (.tup [], v89.2)).bind fun v91 =>
        (wantV x3 true).bind fun v92 =>
        (bif v92 then pv v91.2 (E.p.bin .eql 3 v89.1 v91.1) else some (.tup [], v91.2)).bind fun v93 =>
        (E.p.pick x3 v93.1 (.bool false)).bind fun v94 =>
        (wantV v94 false).bind fun v95 =>
        (bif v95 then some (x3, v93.2) else some (.tup [], v93.2)).bind fun v96 =>
        (wantV v94 false).bind fun v97 =>
        (bif v97 then pv v96.2 (E.p.un .not v96.1) else some (.tup [], v96.2)).bind fun v98 =>
        (wantV v94 false).bind fun v99 =>
        (bif v99 then some (v98.1, v98.2) else some (.tup [], v98.2)).bind fun v100 =>
        (wantV v100.1 true).bind fun v101 =>
        (bif v101 then some (v59, v100.2) else some (.tup [], v100.2)).bind fun v102 =>
        (wantV v100.1 true).bind fun v103 =>
        (bif v103 then pv v102.2 (E.p.bin .eql 3 v102.1 (.int .i64 0)) else some (.tup [], v102.2)).bind fun v104 =>
        (wantV v94 false).bind fun v105 =>
        (bif v105 then pv v104.2 (E.p.pick v100.1 v104.1 (.bool false)) else some (.tup [], v104.2)).bind fun v106 =>
        (E.p.pick v94 (.bool true) v106.1).bind fun v107 =>
        condP v107
         (
          (E.p.bin .shl 3 (.int .i64 1) x10).bind fun v108 =>
          (E.p.bin .or 3 x9 v108).bind fun v109 =>
          (E.p.bin .add 3 x10 (.int .i64 1)).bind fun v110 =>
          K .normal (st0 x0 x1 x2 x3 v109 v110 v106.2))
         (
          (E.p.bin .add 3 x10 (.int .i64 1)).bind fun v111 =>
          K .normal (st0 x0 x1 x2 x3 x9 v111 v106.2))))
     (
      K (.exit 0) (se0_0_1_2_3_9_10_17 x0 x1 x2 x3 x9 x10 v58 h))
theorem body0_eq (E : Env) (K : PX → St → Res) (x0 x1 x2 x3 x9 x10 : PV) (h : PHeap) : ev (E.cx Tryd.prog kl) lp0 (st0 x0 x1 x2 x3 x9 x10 h) K = body0 E K x0 x1 x2 x3 x9 x10 h := by kernel_rfl
theorem after0_se0_0_1_2_3_9_10_17 (E : Env) (x0 x1 x2 x3 x9 x10 x17 : PV) (h : PHeap) : K0 E (kTop Tryd.prog Tryd.f44) (.exit 0) (se0_0_1_2_3_9_10_17 x0 x1 x2 x3 x9 x10 x17 h) =
    (resV x9).bind fun v56 =>
    some (v56, h) := by kernel_rfl
noncomputable def main (E : Env) (x0 x1 x2 x3 : PV) (h : PHeap) : Res :=
    loopK (ev (E.cx Tryd.prog spec_l2Side.kl) spec_l2Side.lp0) E.lf (spec_l2Side.st0 x0 x1 x2 x3 (.int .i64 0) (.int .i64 0) h) (spec_l2Side.K0 E (kTop Tryd.prog Tryd.f44))
theorem main_eq (E : Env) (x0 x1 x2 x3 : PV) (h : PHeap) : runBody (E.cx Tryd.prog kl) Tryd.f44 [x0, x1, x2, x3] h = main E x0 x1 x2 x3 h := by kernel_rfl
theorem call_eq (g : Nat → PV) (lf n : Nat) (x0 x1 x2 x3 : PV) (h : PHeap) : CL g lf (n + 1) fn_spec_l2Side [x0, x1, x2, x3] h = main (env g lf n) x0 x1 x2 x3 h := by
  rw [← main_eq]
  show call Tryd.prog g KL lf (n + 1) 44 [x0, x1, x2, x3] h = _
  rw [call_succ, Tryd.func44]
  kernel_rfl
end spec_l2Side
namespace spec_l1Near
noncomputable def lp0 : Code := (codeAt (bodyOf Tryd.f45) [1, 1, 1, 1, 0, 1, 0, 0])
def st0 (x0 x1 x7 x8 x9 x10 : PV) (h : PHeap) : St := ⟨[x0, x1, .junk, .junk, .junk, .junk, .junk, x7, x8, x9, x10, .junk, .junk, .junk, .junk, .junk, .junk, .junk, .junk, .junk, .junk, .junk, .junk, .junk, .junk, .junk, .junk, .junk, .junk, .junk, .junk, .junk, .junk, .junk, .junk, .junk, .junk, .junk, .junk, .junk, .junk, .junk, .junk, .junk, .junk, .junk, .junk, .junk, .junk, .junk, .junk, .junk, .junk, .junk, .junk, .junk, .junk, .junk, .junk, .junk, .junk, .junk, .junk], h⟩
noncomputable def lp1 : Code := (codeAt (bodyOf Tryd.f45) [1, 1, 1, 1, 0, 1, 0, 0, 1, 0, 0, 1, 0, 0])
def st1 (x0 x1 x7 x8 x9 x10 x11 : PV) (h : PHeap) : St := ⟨[x0, x1, .junk, .junk, .junk, .junk, .junk, x7, x8, x9, x10, x11, .junk, .junk, .junk, .junk, .junk, .junk, .junk, .junk, .junk, .junk, .junk, .junk, .junk, .junk, .junk, .junk, .junk, .junk, .junk, .junk, .junk, .junk, .junk, .junk, .junk, .junk, .junk, .junk, .junk, .junk, .junk, .junk, .junk, .junk, .junk, .junk, .junk, .junk, .junk, .junk, .junk, .junk, .junk, .junk, .junk, .junk, .junk, .junk, .junk, .junk, .junk], h⟩
def se0_0_1_7_8_9_10_24 (x0 x1 x7 x8 x9 x10 x24 : PV) (h : PHeap) : St := ⟨[x0, x1, .junk, .junk, .junk, .junk, .junk, x7, x8, x9, x10, .junk, .junk, .junk, .junk, .junk, .junk, .junk, .junk, .junk, .junk, .junk, .junk, .junk, x24, .junk, .junk, .junk, .junk, .junk, .junk, .junk, .junk, .junk, .junk, .junk, .junk, .junk, .junk, .junk, .junk, .junk, .junk, .junk, .junk, .junk, .junk, .junk, .junk, .junk, .junk, .junk, .junk, .junk, .junk, .junk, .junk, .junk, .junk, .junk, .junk, .junk, .junk], h⟩
def se2_0_1_7_8_9_10_11_32 (x0 x1 x7 x8 x9 x10 x11 x32 : PV) (h : PHeap) : St := ⟨[x0, x1, .junk, .junk, .junk, .junk, .junk, x7, x8, x9, x10, x11, .junk, .junk, .junk, .junk, .junk, .junk, .junk, .junk, .junk, .junk, .junk, .junk, .junk, .junk, .junk, .junk, .junk, .junk, .junk, .junk, x32, .junk, .junk, .junk, .junk, .junk, .junk, .junk, .junk, .junk, .junk, .junk, .junk, .junk, .junk, .junk, .junk, .junk, .junk, .junk, .junk, .junk, .junk, .junk, .junk, .junk, .junk, .junk, .junk, .junk, .junk], h⟩
noncomputable def K0 (E : Env) (K : PX → St → Res) : PX → St → Res := (kBlock 0 (kSeq (ev (E.cx Tryd.prog kl) (codeAt (bodyOf Tryd.f45) [1, 1, 1, 1, 1])) K))
@[simp] theorem K0_ret (E : Env) (K : PX → St → Res) (s : St) : K0 E K .ret s = K .ret s := by kernel_rfl
noncomputable def K1 (E : Env) (K : PX → St → Res) : PX → St → Res := (kBlock 2 (kBlock 1 (kSeq (ev (E.cx Tryd.prog kl) (codeAt (bodyOf Tryd.f45) [1, 1, 1, 1, 0, 1, 0, 0, 1, 1])) K)))
@[simp] theorem K1_ret (E : Env) (K : PX → St → Res) (s : St) : K1 E K .ret s = K .ret s := by kernel_rfl
noncomputable def body0 (E : Env) (K : PX → St → Res) (x0 x1 x7 x8 x9 x10 : PV) (h : PHeap) : Res :=
    (E.p.bin .add 3 x8 (.int .i64 1)).bind fun v39 =>
    (E.p.bin .leq 3 x10 v39).bind fun v40 =>
    condP v40
     (
      (E.p.bin .sub 3 x9 (.int .i64 1)).bind fun v41 =>
      loopK (ev (E.cx Tryd.prog spec_l1Near.kl) spec_l1Near.lp1) E.lf (spec_l1Near.st1 x0 x1 x7 x8 x9 x10 v41 h) (spec_l1Near.K1 E K))
     (
      K (.exit 0) (se0_0_1_7_8_9_10_24 x0 x1 x7 x8 x9 x10 v40 h))
theorem body0_eq (E : Env) (K : PX → St → Res) (x0 x1 x7 x8 x9 x10 : PV) (h : PHeap) : ev (E.cx Tryd.prog kl) lp0 (st0 x0 x1 x7 x8 x9 x10 h) K = body0 E K x0 x1 x7 x8 x9 x10 h := by kernel_rfl
noncomputable def body1 (E : Env) (K : PX → St → Res) (x0 x1 x7 x8 x9 x10 x11 : PV) (h : PHeap) : Res :=
    (E.p.bin .add 3 x9 (.int .i64 1)).bind fun v42 =>
    (E.p.bin .leq 3 x11 v42).bind fun v43 =>
    condP v43
     (
      (E.p.bin .sub 3 x10 x8).bind fun v44 =>
      (E.p.bin .sub 3 x11 x9).bind fun v45 =>
      (E.p.bin .neq 3 v44 v45).bind fun v46 =>
      (wantV v46 true).bind fun v47 =>
      (bif v47 then some (x10, h) else some (.tup [], h)).bind fun v48 =>
      (wantV v46 true).bind fun v49 =>
      (bif v49 then some (x0, v48.2) else some (.tup [], v48.2)).bind fun v50 =>
      (wantV v46 true).bind fun v51 =>
      (bif v51 then pv v50.2 (E.p.bin .sub 3 v50.1 (.int .i64 1)) else some (.tup [], v50.2)).bind fun v52 =>
      (wantV v46 true).bind fun v53 =>
      (bif v53 then E.C fn_spec_l1In [v48.1, (.int .i64 0), v52.1] v52.2 else some (.tup [], v52.2)).bind fun v54 =>
      (E.p.pick v46 v54.1 (.bool false)).bind fun v55 =>
      (wantV v55 true).bind fun v56 =>
      (bif v56 then some (x11, v54.2) else some (.tup [], v54.2)).bind fun v57 =>
      (wantV v55 true).bind fun v58 =>
      (bif v58 then some (x1, v57.2) else some (.tup [], v57.2)).bind fun v59 =>
      (wantV v55 true).bind fun v60 =>
      (bif v60 then pv v59.2 (E.p.bin .sub 3 v59.1 (.int .i64 1)) else some (.tup [], v59.2)).bind fun v61 =>
      (wantV v55 true).bind fun v62 =>
      (bif v62 then E.C fn_spec_l1In [v57.1, (.int .i64 0), v61.1] v61.2 else some (.tup [], v61.2)).bind fun v63 =>
      (E.p.pick v55 v63.1 (.bool false)).bind fun v64 =>
      condP v64
       (
        (E.p.bin .mul 3 x10 x1).bind fun v65 =>
        (E.p.bin .add 3 v65 x11).bind fun v66 =>
        (E.p.buildSlice 22 1 [(0, v66)] v63.2).bind fun v67 =>
        (E.p.append 22 22 x7 v67.1 v67.2).bind fun v68 =>
        (E.p.bin .add 3 x11 (.int .i64 1)).bind fun v69 =>
        K .normal (st1 x0 x1 v68.1 x8 x9 x10 v69 v68.2))
       (
        (E.p.bin .add 3 x11 (.int .i64 1)).bind fun v70 =>
        K .normal (st1 x0 x1 x7 x8 x9 x10 v70 v63.2)))
     (
      K (.exit 2) (se2_0_1_7_8_9_10_11_32 x0 x1 x7 x8 x9 x10 x11 v43 h))
theorem body1_eq (E : Env) (K : PX → St → Res) (x0 x1 x7 x8 x9 x10 x11 : PV) (h : PHeap) : ev (E.cx Tryd.prog kl) lp1 (st1 x0 x1 x7 x8 x9 x10 x11 h) K = body1 E K x0 x1 x7 x8 x9 x10 x11 h := by kernel_rfl
theorem after0_se0_0_1_7_8_9_10_24 (E : Env) (x0 x1 x7 x8 x9 x10 x24 : PV) (h : PHeap) : K0 E (kTop Tryd.prog Tryd.f45) (.exit 0) (se0_0_1_7_8_9_10_24 x0 x1 x7 x8 x9 x10 x24 h) =
    (resV x7).bind fun v37 =>
    some (v37, h) := by kernel_rfl
theorem after1_se2_0_1_7_8_9_10_11_32 (E : Env) (K : PX → St → Res) (x0 x1 x7 x8 x9 x10 x11 x32 : PV) (h : PHeap) : K1 E K (.exit 2) (se2_0_1_7_8_9_10_11_32 x0 x1 x7 x8 x9 x10 x11 x32 h) =
    (E.p.bin .add 3 x10 (.int .i64 1)).bind fun v38 =>
    K .normal (st0 x0 x1 x7 x8 x9 v38 h) := by kernel_rfl
noncomputable def main (E : Env) (x0 x1 x2 : PV) (h : PHeap) : Res :=
    (E.p.buildSlice 22 0 [] h).bind fun v1 =>
    (E.p.bin .quo 3 x2 x1).bind fun v2 =>
    (E.p.bin .rem 3 x2 x1).bind fun v3 =>
    (E.p.bin .sub 3 v2 (.int .i64 1)).bind fun v4 =>
    loopK (ev (E.cx Tryd.prog spec_l1Near.kl) spec_l1Near.lp0) E.lf (spec_l1Near.st0 x0 x1 v1.1 v2 v3 v4 v1.2) (spec_l1Near.K0 E (kTop Tryd.prog Tryd.f45))
theorem main_eq (E : Env) (x0 x1 x2 : PV) (h : PHeap) : runBody (E.cx Tryd.prog kl) Tryd.f45 [x0, x1, x2] h = main E x0 x1 x2 h := by kernel_rfl
theorem call_eq (g : Nat → PV) (lf n : Nat) (x0 x1 x2 : PV) (h : PHeap) : CL g lf (n + 1) fn_spec_l1Near [x0, x1, x2] h = main (env g lf n) x0 x1 x2 h := by
  rw [← main_eq]
  show call Tryd.prog g KL lf (n + 1) 45 [x0, x1, x2] h = _
  rw [call_succ, Tryd.func45]
  kernel_rfl
end spec_l1Near
namespace spec_MoveOk
noncomputable def main (E : Env) (x0 x1 x2 x3 x4 : PV) (h : PHeap) : Res :=
    (E.C fn_spec_PositionOk [x0, x1, x2] h).bind fun v1 =>
    (E.p.un .not v1.1).bind fun v2 =>
    (wantV v2 false).bind fun v3 =>
    (bif v3 then some (x4, v1.2) else some (.tup [], v1.2)).bind fun v4 =>
    (wantV v2 false).bind fun v5 =>
    (bif v5 then E.C fn_spec_l1In [v4.1, (.int .i64 1), (.int .i64 2)] v4.2 else some (.tup [], v4.2)).bind fun v6 =>
    (wantV v2 false).bind fun v7 =>
    (bif v7 then pv v6.2 (E.p.un .not v6.1) else some (.tup [], v6.2)).bind fun v8 =>
    (E.p.pick v2 (.bool true) v8.1).bind fun v9 =>
    (wantV v9 false).bind fun v10 =>
    (bif v10 then some (x3, v8.2) else some (.tup [], v8.2)).bind fun v11 =>
    (wantV v9 false).bind fun v12 =>
    (bif v12 then some (x2, v11.2) else some (.tup [], v11.2)).bind fun v13 =>
    (wantV v9 false).bind fun v14 =>
    (bif v14 then pv v13.2 (E.p.len 22 v13.1) else some (.tup [], v13.2)).bind fun v15 =>
    (wantV v9 false).bind fun v16 =>
    (bif v16 then pv v15.2 (E.p.bin .sub 3 v15.1 (.int .i64 1)) else some (.tup [], v15.2)).bind fun v17 =>
    (wantV v9 false).bind fun v18 =>
    (bif v18 then E.C fn_spec_l1In [v11.1, (.int .i64 0), v17.1] v17.2 else some (.tup [], v17.2)).bind fun v19 =>
    (wantV v9 false).bind fun v20 =>
    (bif v20 then pv v19.2 (E.p.un .not v19.1) else some (.tup [], v19.2)).bind fun v21 =>
    (E.p.pick v9 (.bool true) v21.1).bind fun v22 =>
    condP v22
     (
      (resV (.bool false)).bind fun v23 =>
      some (v23, v21.2))
     (
      (E.p.indexAddr 22 x2 x3).bind fun v24 =>
      (E.p.load 3 v24 v21.2).bind fun v25 =>
      (E.p.bin .eql 3 v25 (.int .i64 0)).bind fun v26 =>
      (wantV v26 true).bind fun v27 =>
      (bif v27 then some (x0, v21.2) else some (.tup [], v21.2)).bind fun v28 =>
      (wantV v26 true).bind fun v29 =>
      (bif v29 then some (x1, v28.2) else some (.tup [], v28.2)).bind fun v30 =>
      (wantV v26 true).bind fun v31 =>
      (bif v31 then some (x2, v30.2) else some (.tup [], v30.2)).bind fun v32 =>
      (wantV v26 true).bind fun v33 =>
      (bif v33 then E.C fn_spec_Joins [v28.1, v30.1, v32.1, (.int .i64 1)] v32.2 else some (.tup [], v32.2)).bind fun v34 =>
      (wantV v26 true).bind fun v35 =>
      (bif v35 then pv v34.2 (E.p.un .not v34.1) else some (.tup [], v34.2)).bind fun v36 =>
      (E.p.pick v26 v36.1 (.bool false)).bind fun v37 =>
      (wantV v37 true).bind fun v38 =>
      (bif v38 then some (x0, v36.2) else some (.tup [], v36.2)).bind fun v39 =>
      (wantV v37 true).bind fun v40 =>
      (bif v40 then some (x1, v39.2) else some (.tup [], v39.2)).bind fun v41 =>
      (wantV v37 true).bind fun v42 =>
      (bif v42 then some (x2, v41.2) else some (.tup [], v41.2)).bind fun v43 =>
      (wantV v37 true).bind fun v44 =>
      (bif v44 then E.C fn_spec_Joins [v39.1, v41.1, v43.1, (.int .i64 2)] v43.2 else some (.tup [], v43.2)).bind fun v45 =>
      (wantV v37 true).bind fun v46 =>
      (bif v46 then pv v45.2 (E.p.un .not v45.1) else some (.tup [], v45.2)).bind fun v47 =>
      (E.p.pick v37 v47.1 (.bool false)).bind fun v48 =>
      (resV v48).bind fun v49 =>
      some (v49, v47.2))
theorem main_eq (E : Env) (x0 x1 x2 x3 x4 : PV) (h : PHeap) : runBody (E.cx Tryd.prog kl) Tryd.f46 [x0, x1, x2, x3, x4] h = main E x0 x1 x2 x3 x4 h := by kernel_rfl
theorem call_eq (g : Nat → PV) (lf n : Nat) (x0 x1 x2 x3 x4 : PV) (h : PHeap) : CL g lf (n + 1) fn_spec_MoveOk [x0, x1, x2, x3, x4] h = main (env g lf n) x0 x1 x2 x3 x4 h := by
  rw [← main_eq]
  show call Tryd.prog g KL lf (n + 1) 46 [x0, x1, x2, x3, x4] h = _
  rw [call_succ, Tryd.func46]
  kernel_rfl
end spec_MoveOk
namespace spec_l3Solve
noncomputable def lp0 : Code := (codeAt (bodyOf Tryd.f47) [1, 1, 1, 1, 0, 1, 0, 0])
def st0 (x0 x1 x2 x3 x4 x5 x6 x15 x16 : PV) (h : PHeap) : St := ⟨[x0, x1, x2, x3, x4, x5, x6, .junk, .junk, .junk, .junk, .junk, .junk, .junk, .junk, x15, x16, .junk, .junk, .junk, .junk, .junk, .junk, .junk, .junk, .junk, .junk, .junk, .junk, .junk, .junk, .junk, .junk, .junk, .junk, .junk, .junk, .junk, .junk, .junk, .junk, .junk, .junk, .junk, .junk, .junk, .junk, .junk, .junk, .junk, .junk, .junk, .junk, .junk, .junk, .junk, .junk, .junk, .junk, .junk, .junk, .junk, .junk, .junk, .junk, .junk, .junk, .junk, .junk, .junk, .junk, .junk, .junk, .junk, .junk, .junk, .junk, .junk, .junk, .junk, .junk, .junk, .junk, .junk, .junk, .junk, .junk, .junk, .junk, .junk, .junk, .junk, .junk, .junk, .junk, .junk, .junk, .junk, .junk, .junk, .junk, .junk, .junk, .junk, .junk, .junk, .junk, .junk, .junk, .junk, .junk, .junk, .junk, .junk], h⟩
noncomputable def lp1 : Code := (codeAt (bodyOf Tryd.f47) [1, 1, 1, 1, 1, 1, 1, 1, 0, 1, 0, 0])
def st1 (x0 x1 x2 x3 x4 x5 x6 x15 x17 x18 : PV) (h : PHeap) : St := ⟨[x0, x1, x2, x3, x4, x5, x6, .junk, .junk, .junk, .junk, .junk, .junk, .junk, .junk, x15, .junk, x17, x18, .junk, .junk, .junk, .junk, .junk, .junk, .junk, .junk, .junk, .junk, .junk, .junk, .junk, .junk, .junk, .junk, .junk, .junk, .junk, .junk, .junk, .junk, .junk, .junk, .junk, .junk, .junk, .junk, .junk, .junk, .junk, .junk, .junk, .junk, .junk, .junk, .junk, .junk, .junk, .junk, .junk, .junk, .junk, .junk, .junk, .junk, .junk, .junk, .junk, .junk, .junk, .junk, .junk, .junk, .junk, .junk, .junk, .junk, .junk, .junk, .junk, .junk, .junk, .junk, .junk, .junk, .junk, .junk, .junk, .junk, .junk, .junk, .junk, .junk, .junk, .junk, .junk, .junk, .junk, .junk, .junk, .junk, .junk, .junk, .junk, .junk, .junk, .junk, .junk, .junk, .junk, .junk, .junk, .junk, .junk], h⟩
def se0_0_1_2_3_4_5_6_15_16_33 (x0 x1 x2 x3 x4 x5 x6 x15 x16 x33 : PV) (h : PHeap) : St := ⟨[x0, x1, x2, x3, x4, x5, x6, .junk, .junk, .junk, .junk, .junk, .junk, .junk, .junk, x15, x16, .junk, .junk, .junk, .junk, .junk, .junk, .junk, .junk, .junk, .junk, .junk, .junk, .junk, .junk, .junk, .junk, x33, .junk, .junk, .junk, .junk, .junk, .junk, .junk, .junk, .junk, .junk, .junk, .junk, .junk, .junk, .junk, .junk, .junk, .junk, .junk, .junk, .junk, .junk, .junk, .junk, .junk, .junk, .junk, .junk, .junk, .junk, .junk, .junk, .junk, .junk, .junk, .junk, .junk, .junk, .junk, .junk, .junk, .junk, .junk, .junk, .junk, .junk, .junk, .junk, .junk, .junk, .junk, .junk, .junk, .junk, .junk, .junk, .junk, .junk, .junk, .junk, .junk, .junk, .junk, .junk, .junk, .junk, .junk, .junk, .junk, .junk, .junk, .junk, .junk, .junk, .junk, .junk, .junk, .junk, .junk, .junk], h⟩
def se2_0_1_2_3_4_5_6_15_17_18_73 (x0 x1 x2 x3 x4 x5 x6 x15 x17 x18 x73 : PV) (h : PHeap) : St := ⟨[x0, x1, x2, x3, x4, x5, x6, .junk, .junk, .junk, .junk, .junk, .junk, .junk, .junk, x15, .junk, x17, x18, .junk, .junk, .junk, .junk, .junk, .junk, .junk, .junk, .junk, .junk, .junk, .junk, .junk, .junk, .junk, .junk, .junk, .junk, .junk, .junk, .junk, .junk, .junk, .junk, .junk, .junk, .junk, .junk, .junk, .junk, .junk, .junk, .junk, .junk, .junk, .junk, .junk, .junk, .junk, .junk, .junk, .junk, .junk, .junk, .junk, .junk, .junk, .junk, .junk, .junk, .junk, .junk, .junk, .junk, x73, .junk, .junk, .junk, .junk, .junk, .junk, .junk, .junk, .junk, .junk, .junk, .junk, .junk, .junk, .junk, .junk, .junk, .junk, .junk, .junk, .junk, .junk, .junk, .junk, .junk, .junk, .junk, .junk, .junk, .junk, .junk, .junk, .junk, .junk, .junk, .junk, .junk, .junk, .junk, .junk], h⟩
noncomputable def K0 (E : Env) (K : PX → St → Res) : PX → St → Res := (kBlock 0 (kSeq (ev (E.cx Tryd.prog kl) (codeAt (bodyOf Tryd.f47) [1, 1, 1, 1, 1])) K))
@[simp] theorem K0_ret (E : Env) (K : PX → St → Res) (s : St) : K0 E K .ret s = K .ret s := by kernel_rfl
noncomputable def K1 (E : Env) (K : PX → St → Res) : PX → St → Res := (kBlock 2 (kSeq (ev (E.cx Tryd.prog kl) (codeAt (bodyOf Tryd.f47) [1, 1, 1, 1, 1, 1, 1, 1, 1])) K))
@[simp] theorem K1_ret (E : Env) (K : PX → St → Res) (s : St) : K1 E K .ret s = K .ret s := by kernel_rfl
noncomputable def body0 (E : Env) (K : PX → St → Res) (x0 x1 x2 x3 x4 x5 x6 x15 x16 : PV) (h : PHeap) : Res :=
    (E.p.len 22 x2).bind fun v56 =>
    (E.p.bin .lss 3 x16 v56).bind fun v57 =>
    condP v57
     (
      (E.p.bin .mul 3 (.int .i64 3) x15).bind fun v58 =>
      (E.p.bin .shr 3 x3 x16).bind fun v59 =>
      (E.p.bin .rem 3 v59 (.int .i64 2)).bind fun v60 =>
      (E.p.bin .add 3 v58 v60).bind fun v61 =>
      (E.p.bin .shr 3 x4 x16).bind fun v62 =>
      (E.p.bin .rem 3 v62 (.int .i64 2)).bind fun v63 =>
      (E.p.bin .mul 3 (.int .i64 2) v63).bind fun v64 =>
      (E.p.bin .add 3 v61 v64).bind fun v65 =>
      (E.p.bin .add 3 x16 (.int .i64 1)).bind fun v66 =>
      K .normal (st0 x0 x1 x2 x3 x4 x5 x6 v65 v66 h))
     (
      K (.exit 0) (se0_0_1_2_3_4_5_6_15_16_33 x0 x1 x2 x3 x4 x5 x6 x15 x16 v57 h))
theorem body0_eq (E : Env) (K : PX → St → Res) (x0 x1 x2 x3 x4 x5 x6 x15 x16 : PV) (h : PHeap) : ev (E.cx Tryd.prog kl) lp0 (st0 x0 x1 x2 x3 x4 x5 x6 x15 x16 h) K = body0 E K x0 x1 x2 x3 x4 x5 x6 x15 x16 h := by kernel_rfl
noncomputable def body1 (E : Env) (K : PX → St → Res) (x0 x1 x2 x3 x4 x5 x6 x15 x17 x18 : PV) (h : PHeap) : Res :=
    (E.p.len 22 x2).bind fun v67 =>
    (E.p.bin .lss 3 x18 v67).bind fun v68 =>
    (wantV v68 true).bind fun v69 =>
    (bif v69 then some (x17, h) else some (.tup [], h)).bind fun v70 =>
    (wantV v68 true).bind fun v71 =>
    (bif v71 then some (x5, v70.2) else some (.tup [], v70.2)).bind fun v72 =>
    (wantV v68 true).bind fun v73 =>
    (bif v73 then pv v72.2 (E.p.bin .neq 3 v70.1 v72.1) else some (.tup [], v72.2)).bind fun v74 =>
    (E.p.pick v68 v74.1 (.bool false)).bind fun v75 =>
    condP v75
     (
      (E.p.bin .or 3 x3 x4).bind fun v76 =>
      (E.p.bin .shr 3 v76 x18).bind fun v77 =>
      (E.p.bin .rem 3 v77 (.int .i64 2)).bind fun v78 =>
      (E.p.bin .eql 3 v78 (.int .i64 1)).bind fun v79 =>
      condP v79
       (
        (E.p.bin .add 3 x18 (.int .i64 1)).bind fun v80 =>
        K .normal (st1 x0 x1 x2 x3 x4 x5 x6 x15 x17 v80 v74.2))
       (
        (E.p.bin .eql 3 x5 (.int .i64 1)).bind fun v81 =>
        condP v81
         (
          (E.p.bin .shl 3 (.int .i64 1) x18).bind fun v82 =>
          (E.p.bin .or 3 x3 v82).bind fun v83 =>
          (E.C fn_spec_l3Solve [x0, x1, x2, v83, x4, (.int .i64 2), x6] v74.2).bind fun v84 =>
          (E.p.bin .eql 3 v84.1 x5).bind fun v85 =>
          condP v85
           (
            (E.p.bin .add 3 x18 (.int .i64 1)).bind fun v86 =>
            K .normal (st1 x0 x1 x2 x3 x4 x5 x6 x15 x5 v86 v84.2))
           (
            (E.p.bin .add 3 x18 (.int .i64 1)).bind fun v87 =>
            K .normal (st1 x0 x1 x2 x3 x4 x5 x6 x15 x17 v87 v84.2)))
         (
          (E.p.bin .shl 3 (.int .i64 1) x18).bind fun v88 =>
          (E.p.bin .or 3 x4 v88).bind fun v89 =>
          (E.C fn_spec_l3Solve [x0, x1, x2, x3, v89, (.int .i64 1), x6] v74.2).bind fun v90 =>
          (E.p.bin .eql 3 v90.1 x5).bind fun v91 =>
          condP v91
           (
            (E.p.bin .add 3 x18 (.int .i64 1)).bind fun v92 =>
            K .normal (st1 x0 x1 x2 x3 x4 x5 x6 x15 x5 v92 v90.2))
           (
            (E.p.bin .add 3 x18 (.int .i64 1)).bind fun v93 =>
            K .normal (st1 x0 x1 x2 x3 x4 x5 x6 x15 x17 v93 v90.2)))))
     (
      K (.exit 2) (se2_0_1_2_3_4_5_6_15_17_18_73 x0 x1 x2 x3 x4 x5 x6 x15 x17 x18 v75 v74.2))
theorem body1_eq (E : Env) (K : PX → St → Res) (x0 x1 x2 x3 x4 x5 x6 x15 x17 x18 : PV) (h : PHeap) : ev (E.cx Tryd.prog kl) lp1 (st1 x0 x1 x2 x3 x4 x5 x6 x15 x17 x18 h) K = body1 E K x0 x1 x2 x3 x4 x5 x6 x15 x17 x18 h := by kernel_rfl
theorem after0_se0_0_1_2_3_4_5_6_15_16_33 (E : Env) (x0 x1 x2 x3 x4 x5 x6 x15 x16 x33 : PV) (h : PHeap) : K0 E (kTop Tryd.prog Tryd.f47) (.exit 0) (se0_0_1_2_3_4_5_6_15_16_33 x0 x1 x2 x3 x4 x5 x6 x15 x16 x33 h) =
    (E.p.bin .mul 3 (.int .i64 2) x15).bind fun v16 =>
    (E.p.bin .add 3 v16 x5).bind fun v17 =>
    (E.p.bin .sub 3 v17 (.int .i64 1)).bind fun v18 =>
    (E.p.indexAddr 22 x6 v18).bind fun v19 =>
    (E.p.load 3 v19 h).bind fun v20 =>
    (E.p.bin .gtr 3 v20 (.int .i64 0)).bind fun v21 =>
    condP v21
     (
      (E.p.indexAddr 22 x6 v18).bind fun v22 =>
      (E.p.load 3 v22 h).bind fun v23 =>
      (resV v23).bind fun v24 =>
      some (v24, h))
     (
      (E.C fn_spec_l1Other [x5] h).bind fun v25 =>
      loopK (ev (E.cx Tryd.prog spec_l3Solve.kl) spec_l3Solve.lp1) E.lf (spec_l3Solve.st1 x0 x1 x2 x3 x4 x5 x6 v18 v25.1 (.int .i64 0) v25.2) (spec_l3Solve.K1 E (kTop Tryd.prog Tryd.f47))) := by kernel_rfl
theorem after1_se2_0_1_2_3_4_5_6_15_17_18_73 (E : Env) (x0 x1 x2 x3 x4 x5 x6 x15 x17 x18 x73 : PV) (h : PHeap) : K1 E (kTop Tryd.prog Tryd.f47) (.exit 2) (se2_0_1_2_3_4_5_6_15_17_18_73 x0 x1 x2 x3 x4 x5 x6 x15 x17 x18 x73 h) =
    (E.p.indexAddr 22 x6 x15).bind fun v53 =>
    (E.p.store 3 v53 x17 h).bind fun v54 =>
    (resV x17).bind fun v55 =>
    some (v55, v54) := by kernel_rfl
noncomputable def main (E : Env) (x0 x1 x2 x3 x4 x5 x6 : PV) (h : PHeap) : Res :=
    (E.C fn_spec_l2Joins [x0, x1, x2, x3, (.int .i64 1)] h).bind fun v1 =>
    condP v1.1
     (
      (resV (.int .i64 1)).bind fun v2 =>
      some (v2, v1.2))
     (
      (E.C fn_spec_l2Joins [x0, x1, x2, x4, (.int .i64 2)] v1.2).bind fun v3 =>
      condP v3.1
       (
        (resV (.int .i64 2)).bind fun v4 =>
        some (v4, v3.2))
       (
        loopK (ev (E.cx Tryd.prog spec_l3Solve.kl) spec_l3Solve.lp0) E.lf (spec_l3Solve.st0 x0 x1 x2 x3 x4 x5 x6 (.int .i64 0) (.int .i64 0) v3.2) (spec_l3Solve.K0 E (kTop Tryd.prog Tryd.f47))))
theorem main_eq (E : Env) (x0 x1 x2 x3 x4 x5 x6 : PV) (h : PHeap) : runBody (E.cx Tryd.prog kl) Tryd.f47 [x0, x1, x2, x3, x4, x5, x6] h = main E x0 x1 x2 x3 x4 x5 x6 h := by kernel_rfl
theorem call_eq (g : Nat → PV) (lf n : Nat) (x0 x1 x2 x3 x4 x5 x6 : PV) (h : PHeap) : CL g lf (n + 1) fn_spec_l3Solve [x0, x1, x2, x3, x4, x5, x6] h = main (env g lf n) x0 x1 x2 x3 x4 x5 x6 h := by
  rw [← main_eq]
  show call Tryd.prog g KL lf (n + 1) 47 [x0, x1, x2, x3, x4, x5, x6] h = _
  rw [call_succ, Tryd.func47]
  kernel_rfl
end spec_l3Solve
namespace spec_l3Table
noncomputable def lp0 : Code := (codeAt (bodyOf Tryd.f48) [1, 1, 0, 1, 0, 0])
def st0 (x0 x3 x4 : PV) (h : PHeap) : St := ⟨[x0, .junk, .junk, x3, x4, .junk, .junk, .junk, .junk, .junk, .junk, .junk, .junk, .junk], h⟩
def se0_0_3_4_7 (x0 x3 x4 x7 : PV) (h : PHeap) : St := ⟨[x0, .junk, .junk, x3, x4, .junk, .junk, x7, .junk, .junk, .junk, .junk, .junk, .junk], h⟩
noncomputable def K0 (E : Env) (K : PX → St → Res) : PX → St → Res := (kBlock 0 (kSeq (ev (E.cx Tryd.prog kl) (codeAt (bodyOf Tryd.f48) [1, 1, 1])) K))
@[simp] theorem K0_ret (E : Env) (K : PX → St → Res) (s : St) : K0 E K .ret s = K .ret s := by kernel_rfl
noncomputable def body0 (E : Env) (K : PX → St → Res) (x0 x3 x4 : PV) (h : PHeap) : Res :=
    (E.p.bin .lss 3 x4 x0).bind fun v6 =>
    condP v6
     (
      (E.p.bin .mul 3 x3 (.int .i64 3)).bind fun v7 =>
      (E.p.bin .add 3 x4 (.int .i64 1)).bind fun v8 =>
      K .normal (st0 x0 v7 v8 h))
     (
      K (.exit 0) (se0_0_3_4_7 x0 x3 x4 v6 h))
theorem body0_eq (E : Env) (K : PX → St → Res) (x0 x3 x4 : PV) (h : PHeap) : ev (E.cx Tryd.prog kl) lp0 (st0 x0 x3 x4 h) K = body0 E K x0 x3 x4 h := by kernel_rfl
theorem after0_se0_0_3_4_7 (E : Env) (x0 x3 x4 x7 : PV) (h : PHeap) : K0 E (kTop Tryd.prog Tryd.f48) (.exit 0) (se0_0_3_4_7 x0 x3 x4 x7 h) =
    (E.p.make 22 x3 x3 h).bind fun v4 =>
    (resV v4.1).bind fun v5 =>
    some (v5, v4.2) := by kernel_rfl
noncomputable def main (E : Env) (x0 : PV) (h : PHeap) : Res :=
    loopK (ev (E.cx Tryd.prog spec_l3Table.kl) spec_l3Table.lp0) E.lf (spec_l3Table.st0 x0 (.int .i64 2) (.int .i64 0) h) (spec_l3Table.K0 E (kTop Tryd.prog Tryd.f48))
theorem main_eq (E : Env) (x0 : PV) (h : PHeap) : runBody (E.cx Tryd.prog kl) Tryd.f48 [x0] h = main E x0 h := by kernel_rfl
theorem call_eq (g : Nat → PV) (lf n : Nat) (x0 : PV) (h : PHeap) : CL g lf (n + 1) fn_spec_l3Table [x0] h = main (env g lf n) x0 h := by
  rw [← main_eq]
  show call Tryd.prog g KL lf (n + 1) 48 [x0] h = _
  rw [call_succ, Tryd.func48]
  kernel_rfl
end spec_l3Table
namespace impl_NearCells
noncomputable def lp0 : Code := (codeAt (bodyOf Tryd.f49) [1, 1, 1, 0, 1, 0, 0])
def st0 (x0 x1 x2 x7 x17 x18 : PV) (h : PHeap) : St := ⟨[x0, x1, x2, .junk, .junk, .junk, .junk, x7, .junk, .junk, .junk, .junk, .junk, .junk, .junk, .junk, .junk, x17, x18, .junk, .junk, .junk, .junk, .junk, .junk, .junk, .junk, .junk, .junk, .junk, .junk, .junk, .junk, .junk, .junk, .junk, .junk, .junk, .junk, .junk, .junk, .junk, .junk, .junk, .junk, .junk, .junk, .junk, .junk, .junk, .junk, .junk, .junk, .junk, .junk, .junk, .junk, .junk, .junk], h⟩
def se0_0_1_2_7_17_18_19 (x0 x1 x2 x7 x17 x18 x19 : PV) (h : PHeap) : St := ⟨[x0, x1, x2, .junk, .junk, .junk, .junk, x7, .junk, .junk, .junk, .junk, .junk, .junk, .junk, .junk, .junk, x17, x18, x19, .junk, .junk, .junk, .junk, .junk, .junk, .junk, .junk, .junk, .junk, .junk, .junk, .junk, .junk, .junk, .junk, .junk, .junk, .junk, .junk, .junk, .junk, .junk, .junk, .junk, .junk, .junk, .junk, .junk, .junk, .junk, .junk, .junk, .junk, .junk, .junk, .junk, .junk, .junk], h⟩
noncomputable def K0 (E : Env) (K : PX → St → Res) : PX → St → Res := (kBlock 0 (kSeq (ev (E.cx Tryd.prog kl) (codeAt (bodyOf Tryd.f49) [1, 1, 1, 1])) K))
@[simp] theorem K0_ret (E : Env) (K : PX → St → Res) (s : St) : K0 E K .ret s = K .ret s := by kernel_rfl
noncomputable def body0 (E : Env) (K : PX → St → Res) (x0 x1 x2 x7 x17 x18 : PV) (h : PHeap) : Res :=
    (E.p.bin .lss 3 x18 (.int .i64 6)).bind fun v44 =>
    condP v44
     (
      (E.p.index 65 x17 x18).bind fun v45 =>
      (E.p.alloc 64 h).bind fun v46 =>
      (E.p.store 64 v46.1 v45 v46.2).bind fun v47 =>
      (E.p.bin .quo 3 x2 x1).bind fun v48 =>
      (E.p.indexAddr 64 v46.1 (.int .i64 0)).bind fun v49 =>
      (E.p.load 3 v49 v47).bind fun v50 =>
      (E.p.bin .add 3 v48 v50).bind fun v51 =>
      (E.p.bin .rem 3 x2 x1).bind fun v52 =>
      (E.p.indexAddr 64 v46.1 (.int .i64 1)).bind fun v53 =>
      (E.p.load 3 v53 v47).bind fun v54 =>
      (E.p.bin .add 3 v52 v54).bind fun v55 =>
      (E.p.bin .geq 3 v51 (.int .i64 0)).bind fun v56 =>
      (wantV v56 true).bind fun v57 =>
      (bif v57 then some (v51, v47) else some (.tup [], v47)).bind fun v58 =>
      (wantV v56 true).bind fun v59 =>
      (bif v59 then some (x0, v58.2) else some (.tup [], v58.2)).bind fun v60 =>
      (wantV v56 true).bind fun v61 =>
      (bif v61 then pv v60.2 (E.p.bin .lss 3 v58.1 v60.1) else some (.tup [], v60.2)).bind fun v62 =>
      (E.p.pick v56 v62.1 (.bool false)).bind fun v63 =>
      (wantV v63 true).bind fun v64 =>
      (bif v64 then some (v55, v62.2) else some (.tup [], v62.2)).bind fun v65 =>
      (wantV v63 true).bind fun v66 =>
      (bif v66 then pv v65.2 (E.p.bin .geq 3 v65.1 (.int .i64 0)) else some (.tup [], v65.2)).bind fun v67 =>
      (E.p.pick v63 v67.1 (.bool false)).bind fun v68 =>
      (wantV v68 true).bind fun v69 =>
      (bif v69 then some (v55, v67.2) else some (.tup [], v67.2)).bind fun v70 =>
      (wantV v68 true).bind fun v71 =>
      (bif v71 then some (x1, v70.2) else some (.tup [], v70.2)).bind fun v72 =>
      (wantV v68 true).bind fun v73 =>
      (bif v73 then pv v72.2 (E.p.bin .lss 3 v70.1 v72.1) else some (.tup [], v72.2)).bind fun v74 =>
      (E.p.pick v68 v74.1 (.bool false)).bind fun v75 =>
      condP v75
       (
        (E.p.bin .mul 3 v51 x1).bind fun v76 =>
        (E.p.bin .add 3 v76 v55).bind fun v77 =>
        (E.p.buildSlice 22 1 [(0, v77)] v74.2).bind fun v78 =>
        (E.p.append 22 22 x7 v78.1 v78.2).bind fun v79 =>
        (E.p.bin .add 3 x18 (.int .i64 1)).bind fun v80 =>
        K .normal (st0 x0 x1 x2 v79.1 x17 v80 v79.2))
       (
        (E.p.bin .add 3 x18 (.int .i64 1)).bind fun v81 =>
        K .normal (st0 x0 x1 x2 x7 x17 v81 v74.2)))
     (
      K (.exit 0) (se0_0_1_2_7_17_18_19 x0 x1 x2 x7 x17 x18 v44 h))
theorem body0_eq (E : Env) (K : PX → St → Res) (x0 x1 x2 x7 x17 x18 : PV) (h : PHeap) : ev (E.cx Tryd.prog kl) lp0 (st0 x0 x1 x2 x7 x17 x18 h) K = body0 E K x0 x1 x2 x7 x17 x18 h := by kernel_rfl
theorem after0_se0_0_1_2_7_17_18_19 (E : Env) (x0 x1 x2 x7 x17 x18 x19 : PV) (h : PHeap) : K0 E (kTop Tryd.prog Tryd.f49) (.exit 0) (se0_0_1_2_7_17_18_19 x0 x1 x2 x7 x17 x18 x19 h) =
    (resV x7).bind fun v43 =>
    some (v43, h) := by kernel_rfl
noncomputable def main (E : Env) (x0 x1 x2 : PV) (h : PHeap) : Res :=
    (E.C fn_impl_cellOk [x0, x1, x2] h).bind fun v1 =>
    (E.p.un .not v1.1).bind fun v2 =>
    condP v2
     (
      (resV .nilsl).bind fun v3 =>
      some (v3, v1.2))
     (
      (E.p.load 65 (E.g 0) v1.2).bind fun v4 =>
      loopK (ev (E.cx Tryd.prog impl_NearCells.kl) impl_NearCells.lp0) E.lf (impl_NearCells.st0 x0 x1 x2 .nilsl v4 (.int .i64 0) v1.2) (impl_NearCells.K0 E (kTop Tryd.prog Tryd.f49)))
theorem main_eq (E : Env) (x0 x1 x2 : PV) (h : PHeap) : runBody (E.cx Tryd.prog kl) Tryd.f49 [x0, x1, x2] h = main E x0 x1 x2 h := by kernel_rfl
theorem call_eq (g : Nat → PV) (lf n : Nat) (x0 x1 x2 : PV) (h : PHeap) : CL g lf (n + 1) fn_impl_NearCells [x0, x1, x2] h = main (env g lf n) x0 x1 x2 h := by
  rw [← main_eq]
  show call Tryd.prog g KL lf (n + 1) 49 [x0, x1, x2] h = _
  rw [call_succ, Tryd.func49]
  kernel_rfl
end impl_NearCells
namespace impl_search_solved
noncomputable def lp0 : Code := (codeAt (bodyOf Tryd.f50) [1, 1, 0, 1, 0, 0])
def st0 (x0 x3 x6 : PV) (h : PHeap) : St := ⟨[x0, .junk, .junk, x3, .junk, .junk, x6, .junk, .junk, .junk, .junk, .junk, .junk, .junk, .junk, .junk, .junk, .junk, .junk, .junk, .junk, .junk, .junk, .junk, .junk, .junk, .junk, .junk, .junk, .junk, .junk, .junk, .junk, .junk, .junk, .junk], h⟩
def sr_4 (x4 : PV) (h : PHeap) : St := ⟨[.junk, .junk, .junk, .junk, x4, .junk, .junk, .junk, .junk, .junk, .junk, .junk, .junk, .junk, .junk, .junk, .junk, .junk, .junk, .junk, .junk, .junk, .junk, .junk, .junk, .junk, .junk, .junk, .junk, .junk, .junk, .junk, .junk, .junk, .junk, .junk], h⟩
def se0_0_3_6_17 (x0 x3 x6 x17 : PV) (h : PHeap) : St := ⟨[x0, .junk, .junk, x3, .junk, .junk, x6, .junk, .junk, .junk, .junk, .junk, .junk, .junk, .junk, .junk, .junk, x17, .junk, .junk, .junk, .junk, .junk, .junk, .junk, .junk, .junk, .junk, .junk, .junk, .junk, .junk, .junk, .junk, .junk, .junk], h⟩
noncomputable def K0 (E : Env) (K : PX → St → Res) : PX → St → Res := (kBlock 0 (kSeq (ev (E.cx Tryd.prog kl) (codeAt (bodyOf Tryd.f50) [1, 1, 1])) K))
@[simp] theorem K0_ret (E : Env) (K : PX → St → Res) (s : St) : K0 E K .ret s = K .ret s := by kernel_rfl
noncomputable def body0 (E : Env) (K : PX → St → Res) (x0 x3 x6 : PV) (h : PHeap) : Res :=
    (E.p.bin .neq 3 x6 (.int .i64 0)).bind fun v31 =>
    condP v31
     (
      (E.p.load 38 x3 h).bind fun v32 =>
      (E.p.fieldAddr 38 x3 1).bind fun v33 =>
      (E.p.load 3 v33 h).bind fun v34 =>
      (E.C fn_impl_leastIn [x6] h).bind fun v35 =>
      (E.p.load 3 v33 v35.2).bind fun v36 =>
      ckP (plainEq v34 v36) (
      (E.p.load 38 x3 v35.2).bind fun v37 =>
      ckP (plainEq v32 v37) (
      (E.C fn_impl_standing_after [v32, v35.1] v35.2).bind fun v38 =>
      (E.p.load 3 v33 v38.2).bind fun v39 =>
      ckP (plainEq v34 v39) (
      (E.p.load 38 x3 v38.2).bind fun v40 =>
      ckP (plainEq v32 v40) (
      (E.C fn_impl_search_winner [x0, v38.1] v38.2).bind fun v41 =>
      (E.p.load 3 v33 v41.2).bind fun v42 =>
      ckP (plainEq v34 v42) (
      (E.p.load 38 x3 v41.2).bind fun v43 =>
      ckP (plainEq v32 v43) (
      (E.p.bin .eql 3 v41.1 v34).bind fun v44 =>
      condP v44
       (
        (E.p.fieldAddr 38 x3 1).bind fun v45 =>
        (E.p.load 3 v45 v41.2).bind fun v46 =>
        K .ret (sr_4 v46 v41.2))
       (
        (E.p.bin .sub 3 x6 (.int .i64 1)).bind fun v47 =>
        (E.p.bin .and 3 x6 v47).bind fun v48 =>
        K .normal (st0 x0 x3 v48 v41.2)))))))))
     (
      K (.exit 0) (se0_0_3_6_17 x0 x3 x6 v31 h))
theorem body0_eq (E : Env) (K : PX → St → Res) (x0 x3 x6 : PV) (h : PHeap) : ev (E.cx Tryd.prog kl) lp0 (st0 x0 x3 x6 h) K = body0 E K x0 x3 x6 h := by kernel_rfl
theorem after0_se0_0_3_6_17 (E : Env) (x0 x3 x6 x17 : PV) (h : PHeap) : K0 E (kTop Tryd.prog Tryd.f50) (.exit 0) (se0_0_3_6_17 x0 x3 x6 x17 h) =
    (E.p.fieldAddr 38 x3 1).bind fun v27 =>
    (E.p.load 3 v27 h).bind fun v28 =>
    (E.C fn_impl_exchanged [v28] h).bind fun v29 =>
    (resV v29.1).bind fun v30 =>
    some (v30, v29.2) := by kernel_rfl
theorem top_sr_4 (x4 : PV) (h : PHeap) : kTop Tryd.prog Tryd.f50 .ret (sr_4 x4 h) =
    (resV x4).bind fun v49 =>
    some (v49, h) := by kernel_rfl
noncomputable def main (E : Env) (x0 x1 : PV) (h : PHeap) : Res :=
    (E.p.box x1 h).bind fun v1 =>
    (E.p.load 38 v1.1 v1.2).bind fun v2 =>
    (E.C fn_impl_search_joined [x0, v2] v1.2).bind fun v3 =>
    (E.p.bin .neq 3 v3.1 (.int .i64 0)).bind fun v4 =>
    condP v4
     (
      (resV v3.1).bind fun v5 =>
      some (v5, v3.2))
     (
      (E.p.fieldAddr 38 v1.1 0).bind fun v6 =>
      (E.p.indexAddr 36 v6 (.int .i64 0)).bind fun v7 =>
      (E.p.load 3 v7 v3.2).bind fun v8 =>
      loopK (ev (E.cx Tryd.prog impl_search_solved.kl) impl_search_solved.lp0) E.lf (impl_search_solved.st0 x0 v1.1 v8 v3.2) (impl_search_solved.K0 E (kTop Tryd.prog Tryd.f50)))
theorem main_eq (E : Env) (x0 x1 : PV) (h : PHeap) : runBody (E.cx Tryd.prog kl) Tryd.f50 [x0, x1] h = main E x0 x1 h := by kernel_rfl
theorem call_eq (g : Nat → PV) (lf n : Nat) (x0 x1 : PV) (h : PHeap) : CL g lf (n + 1) fn_impl_search_solved [x0, x1] h = main (env g lf n) x0 x1 h := by
  rw [← main_eq]
  show call Tryd.prog g KL lf (n + 1) 50 [x0, x1] h = _
  rw [call_succ, Tryd.func50]
  kernel_rfl
end impl_search_solved
namespace bits_TrailingZeros32
noncomputable def main (E : Env) (x0 : PV) (h : PHeap) : Res :=
    (E.p.bin .eql 61 x0 (.int .u32 0)).bind fun v1 =>
    condP v1
     (
      (resV (.int .i64 32)).bind fun v2 =>
      some (v2, h))
     (
      (E.p.un .neg x0).bind fun v3 =>
      (E.p.bin .and 61 x0 v3).bind fun v4 =>
      (E.p.bin .mul 61 v4 (.int .u32 125613361)).bind fun v5 =>
      (E.p.bin .shr 61 v5 (.int .u64 27)).bind fun v6 =>
      (E.p.indexAddr 66 (E.g 1) v6).bind fun v7 =>
      (E.p.load 5 v7 h).bind fun v8 =>
      (E.p.conv 5 3 v8).bind fun v9 =>
      (resV v9).bind fun v10 =>
      some (v10, h))
theorem main_eq (E : Env) (x0 : PV) (h : PHeap) : runBody (E.cx Tryd.prog kl) Tryd.f51 [x0] h = main E x0 h := by kernel_rfl
theorem call_eq (g : Nat → PV) (lf n : Nat) (x0 : PV) (h : PHeap) : CL g lf (n + 1) fn_bits_TrailingZeros32 [x0] h = main (env g lf n) x0 h := by
  rw [← main_eq]
  show call Tryd.prog g KL lf (n + 1) 51 [x0] h = _
  rw [call_succ, Tryd.func51]
  kernel_rfl
end bits_TrailingZeros32
namespace bits_TrailingZeros64
noncomputable def main (E : Env) (x0 : PV) (h : PHeap) : Res :=
    (E.p.bin .eql 63 x0 (.int .u64 0)).bind fun v1 =>
    condP v1
     (
      (resV (.int .i64 64)).bind fun v2 =>
      some (v2, h))
     (
      (E.p.un .neg x0).bind fun v3 =>
      (E.p.bin .and 63 x0 v3).bind fun v4 =>
      (E.p.bin .mul 63 v4 (.int .u64 285870213051353865)).bind fun v5 =>
      (E.p.bin .shr 63 v5 (.int .u64 58)).bind fun v6 =>
      (E.p.indexAddr 67 (E.g 2) v6).bind fun v7 =>
      (E.p.load 5 v7 h).bind fun v8 =>
      (E.p.conv 5 3 v8).bind fun v9 =>
      (resV v9).bind fun v10 =>
      some (v10, h))
theorem main_eq (E : Env) (x0 : PV) (h : PHeap) : runBody (E.cx Tryd.prog kl) Tryd.f52 [x0] h = main E x0 h := by kernel_rfl
theorem call_eq (g : Nat → PV) (lf n : Nat) (x0 : PV) (h : PHeap) : CL g lf (n + 1) fn_bits_TrailingZeros64 [x0] h = main (env g lf n) x0 h := by
  rw [← main_eq]
  show call Tryd.prog g KL lf (n + 1) 52 [x0] h = _
  rw [call_succ, Tryd.func52]
  kernel_rfl
end bits_TrailingZeros64
namespace impl_cellOk
noncomputable def main (E : Env) (x0 x1 x2 : PV) (h : PHeap) : Res :=
    (E.C fn_impl_BoardOk [x0, x1] h).bind fun v1 =>
    (wantV v1.1 true).bind fun v2 =>
    (bif v2 then some (x2, v1.2) else some (.tup [], v1.2)).bind fun v3 =>
    (wantV v1.1 true).bind fun v4 =>
    (bif v4 then pv v3.2 (E.p.bin .geq 3 v3.1 (.int .i64 0)) else some (.tup [], v3.2)).bind fun v5 =>
    (E.p.pick v1.1 v5.1 (.bool false)).bind fun v6 =>
    (wantV v6 true).bind fun v7 =>
    (bif v7 then some (x2, v5.2) else some (.tup [], v5.2)).bind fun v8 =>
    (wantV v6 true).bind fun v9 =>
    (bif v9 then some (x0, v8.2) else some (.tup [], v8.2)).bind fun v10 =>
    (wantV v6 true).bind fun v11 =>
    (bif v11 then some (x1, v10.2) else some (.tup [], v10.2)).bind fun v12 =>
    (wantV v6 true).bind fun v13 =>
    (bif v13 then pv v12.2 (E.p.bin .mul 3 v10.1 v12.1) else some (.tup [], v12.2)).bind fun v14 =>
    (wantV v6 true).bind fun v15 =>
    (bif v15 then pv v14.2 (E.p.bin .lss 3 v8.1 v14.1) else some (.tup [], v14.2)).bind fun v16 =>
    (E.p.pick v6 v16.1 (.bool false)).bind fun v17 =>
    (resV v17).bind fun v18 =>
    some (v18, v16.2)
theorem main_eq (E : Env) (x0 x1 x2 : PV) (h : PHeap) : runBody (E.cx Tryd.prog kl) Tryd.f53 [x0, x1, x2] h = main E x0 x1 x2 h := by kernel_rfl
theorem call_eq (g : Nat → PV) (lf n : Nat) (x0 x1 x2 : PV) (h : PHeap) : CL g lf (n + 1) fn_impl_cellOk [x0, x1, x2] h = main (env g lf n) x0 x1 x2 h := by
  rw [← main_eq]
  show call Tryd.prog g KL lf (n + 1) 53 [x0, x1, x2] h = _
  rw [call_succ, Tryd.func53]
  kernel_rfl
end impl_cellOk
end Go.Proofs.YtpaehbfknlpkbaeDoor.G

/- Which boards there are: what the program's and the model's functions on a board's sides compute. -/
set_option maxRecDepth 20000
namespace Go.Proofs.YtpaehbfknlpkbaeDoor
open Go Go.Ip G

def boardB (r c : Int) : Bool := decide (1 ≤ r ∧ r ≤ 4 ∧ 1 ≤ c ∧ c ≤ 4 ∧ r * c ≤ 9)

theorem mul_small {r c : Int} (h1 : 1 ≤ r) (h2 : r ≤ 4) (h3 : 1 ≤ c) (h4 : c ≤ 4) : IntKind.i64.wrap (r * c) = r * c := by
  have : r = 1 ∨ r = 2 ∨ r = 3 ∨ r = 4 := by omega
  rcases this with rfl | rfl | rfl | rfl <;> exact wr (by omega)

variable (g : Nat → PV) (lf n : Nat) (h : PHeap)

theorem sizeOk_calls (a : Int) : CL g lf (n + 1) fn_impl_sizeOk [.int .i64 a] h = some (.bool (decide (1 ≤ a ∧ a ≤ 4)), h) := by
  rw [impl_sizeOk.call_eq]
  by_cases h1 : 1 ≤ a <;> simp [impl_sizeOk.main, h1]

theorem boardOk_calls (r c : Int) : CL g lf (n + 2) fn_impl_BoardOk [.int .i64 r, .int .i64 c] h = some (.bool (boardB r c), h) := by
  rw [impl_BoardOk.call_eq]
  by_cases h1 : 1 ≤ r ∧ r ≤ 4
  · by_cases h2 : 1 ≤ c ∧ c ≤ 4
    · simp [impl_BoardOk.main, sizeOk_calls, h1, h2, boardB, mul_small h1.1 h1.2 h2.1 h2.2]
    · have hb : boardB r c = false := by unfold boardB; simp; omega
      simp [impl_BoardOk.main, sizeOk_calls, h1, h2, hb]
  · have hb : boardB r c = false := by unfold boardB; simp; omega
    simp [impl_BoardOk.main, sizeOk_calls, h1, hb]

theorem l1In_calls (a lo hi : Int) : CL g lf (n + 1) fn_spec_l1In [.int .i64 a, .int .i64 lo, .int .i64 hi] h = some (.bool (decide (lo ≤ a ∧ a ≤ hi)), h) := by
  rw [spec_l1In.call_eq]
  by_cases h1 : lo ≤ a <;> simp [spec_l1In.main, h1]

theorem specBoardOk_calls (r c : Int) : CL g lf (n + 2) fn_spec_BoardOk [.int .i64 r, .int .i64 c] h = some (.bool (boardB r c), h) := by
  rw [spec_BoardOk.call_eq]
  by_cases h1 : 1 ≤ r ∧ r ≤ 4
  · by_cases h2 : 1 ≤ c ∧ c ≤ 4
    · simp [spec_BoardOk.main, l1In_calls, h1, h2, boardB, mul_small h1.1 h1.2 h2.1 h2.2]
    · have hb : boardB r c = false := by unfold boardB; simp; omega
      simp [spec_BoardOk.main, l1In_calls, h1, h2, hb]
  · have hb : boardB r c = false := by unfold boardB; simp; omega
    simp [spec_BoardOk.main, l1In_calls, h1, hb]

end Go.Proofs.YtpaehbfknlpkbaeDoor

/- What the laws' helpers on slices of integers, and both functions that check a position, compute. -/
set_option maxRecDepth 20000
namespace Go.Proofs.YtpaehbfknlpkbaeDoor
open Go Go.Ip G

variable (g : Nat → PV) (lf n : Nat)

/-! ### toIntS: a copy -/
/-! ### eqIntS: are two lists equal? -/
theorem eqIntS_loop {xs ys : List Int} {p q : PV} {h : PHeap} (hp : IntSl .i64 h p xs) (hq : IntSl .i64 h q ys) (hxy : xs.length = ys.length) (hl : xs.length ≤ 2 ^ 36) : ∀ (m i fuel : Nat), i + m = xs.length → m < fuel →
    loopK (ev ((env g lf n).cx Tryd.prog laws_eqIntS.kl) laws_eqIntS.lp0) fuel (laws_eqIntS.st0 p q (.int .i64 i) h) (laws_eqIntS.K0 (env g lf n) (kTop Tryd.prog Tryd.f6)) = some (.bool (decide (xs.drop i = ys.drop i)), h)
  | 0, i, fuel, him, hf => by
    obtain ⟨f, rfl⟩ : ∃ f, fuel = f + 1 := ⟨fuel - 1, by omega⟩
    rw [loopK_succ, laws_eqIntS.body0_eq]
    have hlt : ¬ ((i : Int) < (xs.length : Int)) := by omega
    have hd : xs.drop i = ys.drop i := by rw [List.drop_eq_nil_of_le (by omega), List.drop_eq_nil_of_le (by omega)]
    simp [laws_eqIntS.body0, hp.len', hlt, laws_eqIntS.after0_se0_0_1_5_14, hd]
  | m + 1, i, fuel, him, hf => by
    obtain ⟨f, rfl⟩ : ∃ f, fuel = f + 1 := ⟨fuel - 1, by omega⟩
    have hi : i < xs.length := by omega
    have hi' : i < ys.length := by omega
    obtain ⟨a, ha, hla⟩ := hp.at' hi
    obtain ⟨b, hb, hlb⟩ := hq.at' hi'
    have ih := eqIntS_loop hp hq hxy hl m (i + 1) f (by omega) (by omega)
    have hlt : (i : Int) < (xs.length : Int) := by omega
    rw [loopK_succ, laws_eqIntS.body0_eq]
    have hdx : xs.drop i = xs[i] :: xs.drop (i + 1) := List.drop_eq_getElem_cons hi
    have hdy : ys.drop i = ys[i] :: ys.drop (i + 1) := List.drop_eq_getElem_cons hi'
    by_cases he : xs[i] = ys[i]
    · have hne : (xs[i] != ys[i]) = false := by simp [he]
      simp only [laws_eqIntS.body0, env_len, env_bin, env_indexAddr, env_load, hp.len', bin_lss, hlt, decide_true, Option.bind_some, cond_bool, cond_true, ha, hla, hb, hlb, bin_neq, hne, cond_false, bin_add, nx (show i < 2 ^ 40 by omega), kLoop_normal, ih]
      rw [hdx, hdy, he]
      simp only [List.cons.injEq, true_and]
    · have hne : (xs[i] != ys[i]) = true := by simp [he]
      simp only [laws_eqIntS.body0, env_len, env_bin, env_indexAddr, env_load, hp.len', bin_lss, hlt, decide_true, Option.bind_some, cond_bool, cond_true, ha, hla, hb, hlb, bin_neq, hne, kLoop_ret, laws_eqIntS.K0_ret, laws_eqIntS.top_sr_4, res_bool, Option.bind_some]
      rw [hdx, hdy]
      simp only [List.cons.injEq, he, false_and, decide_false]

theorem eqIntS_calls {xs ys : List Int} {p q : PV} {h : PHeap} (hp : IntSl .i64 h p xs) (hq : IntSl .i64 h q ys) (hl : xs.length ≤ 2 ^ 36) (hf : xs.length < lf) :
    CL g lf (n + 1) fn_laws_eqIntS [p, q] h = some (.bool (decide (xs = ys)), h) := by
  rw [laws_eqIntS.call_eq]
  by_cases hxy : xs.length = ys.length
  · have := eqIntS_loop g lf n hp hq hxy hl xs.length 0 lf (by omega) hf
    simp only [laws_eqIntS.main, env_len, env_bin, env_lf, hp.len', hq.len', Option.bind_some, bin_neq, hxy, bne_self_eq_false, cond_bool, cond_false]
    simpa using this
  · have hne : ((xs.length : Int) != (ys.length : Int)) = true := by simp; omega
    have hd : ¬ xs = ys := fun e => hxy (by rw [e])
    simp [laws_eqIntS.main, hp.len', hq.len', hne, hd]

/-! ### positions -/
def contentB (x : Int) : Bool := decide (0 ≤ x ∧ x ≤ 2)
def posB (r c : Int) (xs : List Int) : Bool := boardB r c && decide ((xs.length : Int) = r * c) && xs.all contentB

theorem contentOk_calls (a : Int) (h : PHeap) : CL g lf (n + 1) fn_impl_contentOk [.int .i64 a] h = some (.bool (contentB a), h) := by
  rw [impl_contentOk.call_eq]
  by_cases h0 : a = 0
  · subst h0; simp [impl_contentOk.main, contentB]
  · by_cases h1 : a = 1
    · subst h1; simp [impl_contentOk.main, contentB]
    · by_cases h2 : a = 2
      · subst h2; simp [impl_contentOk.main, contentB]
      · have : contentB a = false := by unfold contentB; simp; omega
        have b0 : (a == 0) = false := by simp [h0]
        have b1 : (a == 1) = false := by simp [h1]
        have b2 : (a == 2) = false := by simp [h2]
        simp [impl_contentOk.main, b0, b1, b2, this]

theorem posOk_loop {xs : List Int} {p : PV} {h : PHeap} (hp : IntSl .i64 h p xs) (hl : xs.length ≤ 2 ^ 36) : ∀ (m i fuel : Nat), i + m = xs.length → m < fuel →
    loopK (ev ((env g lf (n + 1)).cx Tryd.prog impl_PositionOk.kl) impl_PositionOk.lp0) fuel (impl_PositionOk.st0 p (.int .i64 xs.length) (.int .i64 i) h) (impl_PositionOk.K0 (env g lf (n + 1)) (kTop Tryd.prog Tryd.f22)) = some (.bool ((xs.drop i).all contentB), h)
  | 0, i, fuel, him, hf => by
    obtain ⟨f, rfl⟩ : ∃ f, fuel = f + 1 := ⟨fuel - 1, by omega⟩
    rw [loopK_succ, impl_PositionOk.body0_eq]
    have hlt : ¬ ((i : Int) < (xs.length : Int)) := by omega
    simp [impl_PositionOk.body0, hlt, impl_PositionOk.after0_se0_21_22_23_24, List.drop_eq_nil_of_le (show xs.length ≤ i by omega)]
  | m + 1, i, fuel, him, hf => by
    obtain ⟨f, rfl⟩ : ∃ f, fuel = f + 1 := ⟨fuel - 1, by omega⟩
    have hi : i < xs.length := by omega
    obtain ⟨a, ha, hla⟩ := hp.at' hi
    have ih := posOk_loop hp hl m (i + 1) f (by omega) (by omega)
    have hlt : (i : Int) < (xs.length : Int) := by omega
    rw [loopK_succ, impl_PositionOk.body0_eq]
    have hdx : xs.drop i = xs[i] :: xs.drop (i + 1) := List.drop_eq_getElem_cons hi
    cases hc : contentB xs[i] with
    | true =>
      simp only [impl_PositionOk.body0, env_C, env_bin, env_indexAddr, env_load, env_un, contentOk_calls, bin_lss, hlt, decide_true, Option.bind_some, cond_bool, cond_true, ha, hla, hc, un_not, Bool.not_true, cond_false, bin_add, nx (show i < 2 ^ 40 by omega), kLoop_normal, ih]
      rw [hdx, List.all_cons, hc, Bool.true_and]
    | false =>
      simp only [impl_PositionOk.body0, env_C, env_bin, env_indexAddr, env_load, env_un, contentOk_calls, bin_lss, hlt, decide_true, Option.bind_some, cond_bool, cond_true, ha, hla, hc, un_not, Bool.not_false, kLoop_ret, impl_PositionOk.K0_ret, impl_PositionOk.top_sr_6, res_bool, Option.bind_some]
      rw [hdx, List.all_cons, hc, Bool.false_and]

theorem positionOk_calls {xs : List Int} {p : PV} {h : PHeap} (r c : Int) (hp : IntSl .i64 h p xs) (hl : xs.length ≤ 2 ^ 36) (hf : xs.length < lf) :
    CL g lf (n + 3) fn_impl_PositionOk [.int .i64 r, .int .i64 c, p] h = some (.bool (posB r c xs), h) := by
  rw [impl_PositionOk.call_eq]
  unfold posB
  cases hb : boardB r c with
  | false => simp [impl_PositionOk.main, boardOk_calls, hb]
  | true =>
    have hb' := hb
    unfold boardB at hb'
    have hm := of_decide_eq_true hb'
    have hmul := mul_small hm.1 hm.2.1 hm.2.2.1 hm.2.2.2.1
    by_cases hlen : (xs.length : Int) = r * c
    · have := posOk_loop g lf (n + 1) hp hl xs.length 0 lf (by omega) hf
      have hne : ((xs.length : Int) != r * c) = false := by simp [hlen]
      simp only [impl_PositionOk.main, env_C, env_len, env_bin, env_un, env_pick, env_lf, boardOk_calls, hb, Option.bind_some, un_not, Bool.not_true, want_bool, BEq.rfl, cond_true, hp.len', pv_some', bin_mul, hmul, bin_neq, hne, pick_bool, cond_false, cond_bool]
      simpa [hlen] using this
    · have hne : ((xs.length : Int) != r * c) = true := by simp [hlen]
      simp [impl_PositionOk.main, boardOk_calls, hb, hp.len', hmul, hne, hlen]

theorem specPos_loop {xs : List Int} {p : PV} {h : PHeap} (r c : Int) (hp : IntSl .i64 h p xs) (hl : xs.length ≤ 2 ^ 36) : ∀ (m i fuel : Nat), i + m = xs.length → m < fuel →
    loopK (ev ((env g lf (n + 2)).cx Tryd.prog spec_PositionOk.kl) spec_PositionOk.lp0) fuel (spec_PositionOk.st0 (.int .i64 r) (.int .i64 c) p (.int .i64 i) h) (spec_PositionOk.K0 (env g lf (n + 2)) (kTop Tryd.prog Tryd.f15)) =
      some (.bool ((xs.drop i).all contentB && (boardB r c && decide ((xs.length : Int) = r * c))), h)
  | 0, i, fuel, him, hf => by
    obtain ⟨f, rfl⟩ : ∃ f, fuel = f + 1 := ⟨fuel - 1, by omega⟩
    rw [loopK_succ, spec_PositionOk.body0_eq]
    have hlt : ¬ ((i : Int) < (xs.length : Int)) := by omega
    have hd : xs.drop i = [] := List.drop_eq_nil_of_le (show xs.length ≤ i by omega)
    cases hb : boardB r c with
    | false => simp [spec_PositionOk.body0, hp.len', hlt, spec_PositionOk.after0_se0_0_1_2_7_11, specBoardOk_calls, hb, hd]
    | true =>
      have hb' := hb
      unfold boardB at hb'
      have hm := of_decide_eq_true hb'
      have hmul := mul_small hm.1 hm.2.1 hm.2.2.1 hm.2.2.2.1
      simp [spec_PositionOk.body0, hp.len', hlt, spec_PositionOk.after0_se0_0_1_2_7_11, specBoardOk_calls, hb, hd, hmul]
      rfl
  | m + 1, i, fuel, him, hf => by
    obtain ⟨f, rfl⟩ : ∃ f, fuel = f + 1 := ⟨fuel - 1, by omega⟩
    have hi : i < xs.length := by omega
    obtain ⟨a, ha, hla⟩ := hp.at' hi
    have ih := specPos_loop r c hp hl m (i + 1) f (by omega) (by omega)
    have hlt : (i : Int) < (xs.length : Int) := by omega
    rw [loopK_succ, spec_PositionOk.body0_eq]
    have hdx : xs.drop i = xs[i] :: xs.drop (i + 1) := List.drop_eq_getElem_cons hi
    have hcb : contentB xs[i] = decide (0 ≤ xs[i] ∧ xs[i] ≤ 2) := rfl
    cases hc : contentB xs[i] with
    | true =>
      rw [hcb] at hc
      simp only [spec_PositionOk.body0, env_C, env_len, env_bin, env_indexAddr, env_load, env_un, l1In_calls, hp.len', bin_lss, hlt, decide_true, Option.bind_some, cond_bool, cond_true, ha, hla, hc, un_not, Bool.not_true, cond_false, bin_add, nx (show i < 2 ^ 40 by omega), kLoop_normal, ih]
      rw [hdx, List.all_cons, hcb, hc, Bool.true_and]
    | false =>
      rw [hcb] at hc
      simp only [spec_PositionOk.body0, env_C, env_len, env_bin, env_indexAddr, env_load, env_un, l1In_calls, hp.len', bin_lss, hlt, decide_true, Option.bind_some, cond_bool, cond_true, ha, hla, hc, un_not, Bool.not_false, kLoop_ret, spec_PositionOk.K0_ret, spec_PositionOk.top_sr_6, res_bool, Option.bind_some]
      rw [hdx, List.all_cons, hcb, hc, Bool.false_and, Bool.false_and]

theorem specPositionOk_calls {xs : List Int} {p : PV} {h : PHeap} (r c : Int) (hp : IntSl .i64 h p xs) (hl : xs.length ≤ 2 ^ 36) (hf : xs.length < lf) :
    CL g lf (n + 3) fn_spec_PositionOk [.int .i64 r, .int .i64 c, p] h = some (.bool (posB r c xs), h) := by
  rw [spec_PositionOk.call_eq]
  have := specPos_loop g lf n r c hp hl xs.length 0 lf (by omega) hf
  simp only [spec_PositionOk.main, env_lf]
  rw [show ((0 : Nat) : Int) = 0 from rfl] at this
  rw [this]
  unfold posB
  rw [List.drop_zero, Bool.and_comm]

end Go.Proofs.YtpaehbfknlpkbaeDoor

/- The exact law on positions. -/
set_option maxRecDepth 20000
namespace Go.Proofs.YtpaehbfknlpkbaeDoor
open Go Go.Ip G

variable (g : Nat → PV) (lf n : Nat)

end Go.Proofs.YtpaehbfknlpkbaeDoor

/- The marks that the exact laws lay and look for, and the lists that both programs make of a position. -/
set_option maxRecDepth 20000
namespace Go.Proofs.YtpaehbfknlpkbaeDoor
open Go Go.Ip G

/-- A slice of the call's own, among the objects from n up to m. -/
def OwnB (n m : Nat) (h : PHeap) (p : PV) (xs : List Int) : Prop :=
  (p = .nilsl ∧ xs = []) ∨ ∃ id, n ≤ id ∧ id < m ∧ p = .sl id 0 xs.length ∧ h[id]? = some (.own 1 (xs.map (.int .i64)))

theorem OwnSl.b {n : Nat} {h : PHeap} {p : PV} {xs : List Int} (s : OwnSl n h p xs) : OwnB n h.length h p xs := by
  rcases s with s | ⟨id, h1, h2, h3⟩
  · exact .inl s
  · exact .inr ⟨id, h1, (List.getElem?_eq_some_iff.1 h3).1, h2, h3⟩

theorem OwnB.sl {n m : Nat} {h : PHeap} {p : PV} {xs : List Int} (s : OwnB n m h p xs) : OwnSl n h p xs := by
  rcases s with s | ⟨id, h1, _, h2, h3⟩
  · exact .inl s
  · exact .inr ⟨id, h1, h2, h3⟩

theorem OwnB.int {n m : Nat} {h : PHeap} {p : PV} {xs : List Int} (s : OwnB n m h p xs) : IntSl .i64 h p xs := s.sl.int

/-- Only the objects from n up to m may have been written to. -/
def Only (n m : Nat) (h h' : PHeap) : Prop := h'.length = h.length ∧ ∀ i, (i < n ∨ m ≤ i) → h'[i]? = h[i]?

theorem Only.refl (n m : Nat) (h : PHeap) : Only n m h h := ⟨rfl, fun _ _ => rfl⟩
theorem Only.trans {n m : Nat} {a b c : PHeap} (h : Only n m a b) (k : Only n m b c) : Only n m a c := ⟨k.1.trans h.1, fun i hi => (k.2 i hi).trans (h.2 i hi)⟩
theorem Only.keep {n m : Nat} {a b : PHeap} (h : Only n m a b) : Keep n a b := ⟨by rw [h.1]; exact Nat.le_refl _, fun i hi => h.2 i (.inl hi)⟩

theorem OwnB.keep {n m : Nat} {h h' : PHeap} {p : PV} {xs : List Int} (s : OwnB n m h p xs) (k : Keep m h h') : OwnB n m h' p xs := by
  rcases s with s | ⟨id, h1, h2, h3, h4⟩
  · exact .inl s
  · exact .inr ⟨id, h1, h2, h3, by rw [k.2 id h2]; exact h4⟩

theorem OwnB.only {n m n' m' : Nat} {h h' : PHeap} {p : PV} {xs : List Int} (s : OwnB n m h p xs) (k : Only n' m' h h') (hd : m ≤ n' ∨ m' ≤ n) : OwnB n m h' p xs := by
  rcases s with s | ⟨id, h1, h2, h3, h4⟩
  · exact .inl s
  · exact .inr ⟨id, h1, h2, h3, by rw [k.2 id (by omega)]; exact h4⟩

theorem OwnB.store {n m : Nat} {h : PHeap} {p : PV} {xs : List Int} (s : OwnB n m h p xs) {i : Nat} (hi : i < xs.length) (x : Int) :
    ∃ a h', indexAddrP Tryd.prog 22 p (.int .i64 i) = some a ∧ storeP Tryd.prog 3 a (.int .i64 x) h = some h' ∧ OwnB n m h' p (xs.set i x) ∧ Only n m h h' := by
  rcases s with ⟨rfl, rfl⟩ | ⟨id, h1, h2, rfl, h3⟩
  · simp at hi
  · have hid : id < h.length := (List.getElem?_eq_some_iff.1 h3).1
    refine ⟨.ptr id (0 + i), h.set id (.own 1 ((xs.set i x).map (.int .i64))), by simp [indexAddrP, tySize, hi], ?_, .inr ⟨id, h1, h2, by simp, by rw [List.getElem?_set_self hid]⟩, ⟨by simp, fun j hj => List.getElem?_set_ne (by omega)⟩⟩
    simp only [storeP, h3, PV.cells, tySize, Nat.zero_add]
    rw [if_pos ⟨rfl, by simp; omega⟩]
    simp [setCells, List.map_set]

/-- k, k + 1, k + 2 .. -/
def marks (k : Int) : Nat → List Int
  | 0 => []
  | n + 1 => k :: marks (k + 1) n

theorem marks_length : ∀ (n : Nat) (k : Int), (marks k n).length = n
  | 0, _ => rfl
  | n + 1, k => by rw [marks, List.length_cons, marks_length n]

theorem marks_get : ∀ (n : Nat) (k : Int) (i : Nat), i < n → (marks k n)[i]? = some (k + i)
  | 0, _, _, h => by omega
  | n + 1, k, 0, _ => by simp [marks]
  | n + 1, k, i + 1, h => by rw [marks, List.getElem?_cons_succ, marks_get n (k + 1) i (by omega)]; congr 1; push_cast; omega

variable (g : Nat → PV) (lf n : Nat)

theorem nk {k : Int} (h0 : 0 ≤ k) (h1 : k < 2 ^ 41) : IntKind.i64.wrap (k + 1) = k + 1 := wr (by omega)

theorem mark_loop {a b : Nat} {p : PV} : ∀ (m i fuel : Nat) (k : Int) (xs : List Int) (h : PHeap), OwnB a b h p xs → i + m = xs.length → m < fuel → xs.length ≤ 2 ^ 36 → 0 ≤ k → k ≤ 2 ^ 40 + i →
    ∃ h' zs, loopK (ev ((env g lf n).cx Tryd.prog laws_markIntS.kl) laws_markIntS.lp0) fuel (laws_markIntS.st0 p (.int .i64 k) (.int .i64 i) h) (laws_markIntS.K0 (env g lf n) (kTop Tryd.prog Tryd.f7)) = some (.int .i64 (k + m), h') ∧
      OwnB a b h' p zs ∧ zs = xs.take i ++ marks k m ∧ Only a b h h'
  | 0, i, fuel, k, xs, h, hp, him, hf, hl, h0, hk => by
    obtain ⟨f, rfl⟩ : ∃ f, fuel = f + 1 := ⟨fuel - 1, by omega⟩
    refine ⟨h, xs, ?_, hp, ?_, Only.refl _ _ _⟩
    · rw [loopK_succ, laws_markIntS.body0_eq]
      have hlt : ¬ ((i : Int) < (xs.length : Int)) := by omega
      simp [laws_markIntS.body0, hp.int.len', hlt, laws_markIntS.after0_se0_0_1_5_9]
    · rw [marks, List.append_nil, List.take_of_length_le (by omega)]
  | m + 1, i, fuel, k, xs, h, hp, him, hf, hl, h0, hk => by
    obtain ⟨f, rfl⟩ : ∃ f, fuel = f + 1 := ⟨fuel - 1, by omega⟩
    have hi : i < xs.length := by omega
    obtain ⟨ad, h2, ha, hs, hp2, ho⟩ := hp.store hi k
    obtain ⟨h', zs, hr, hp', hz, ho'⟩ := mark_loop m (i + 1) f (k + 1) (xs.set i k) h2 hp2 (by simp; omega) (by omega) (by simpa using hl) (by omega) (by push_cast; omega)
    refine ⟨h', zs, ?_, hp', ?_, ho.trans ho'⟩
    · rw [loopK_succ, laws_markIntS.body0_eq]
      have hlt : (i : Int) < (xs.length : Int) := by omega
      simp only [laws_markIntS.body0, env_len, env_bin, env_indexAddr, env_store, hp.int.len', bin_lss, hlt, decide_true, Option.bind_some, cond_bool, cond_true, ha, hs, bin_add, nx (show i < 2 ^ 40 by omega), nk h0 (by omega), kLoop_normal]
      rw [hr]
      congr 3
      push_cast
      omega
    · rw [hz, marks]
      apply List.ext_getElem?
      intro j
      by_cases hj : j < i
      · rw [List.getElem?_append_left (by simp; omega), List.getElem?_append_left (by simp; omega)]
        simp [hj, show j < i + 1 by omega, List.getElem?_set_ne (show i ≠ j by omega)]
      · by_cases hji : j = i
        · subst hji
          rw [List.getElem?_append_left (by simp; omega), List.getElem?_append_right (by simp; omega)]
          simp [List.getElem?_set_self hi, Nat.min_eq_left (show j ≤ xs.length by omega)]
        · rw [List.getElem?_append_right (by simp; omega), List.getElem?_append_right (by simp; omega)]
          simp only [List.length_take, List.length_set]
          rw [show j - min i xs.length = (j - min (i + 1) xs.length) + 1 by omega, List.getElem?_cons_succ]

theorem markIntS_calls {a b : Nat} {p : PV} {xs : List Int} {h : PHeap} (N : Nat) (hN : 1 ≤ N) (hp : OwnB a b h p xs) (hl : xs.length ≤ 2 ^ 36) (hf : xs.length < lf) :
    ∃ h', CL g lf N fn_laws_markIntS [p, .int .i64 1] h = some (.int .i64 (1 + xs.length), h') ∧ OwnB a b h' p (marks 1 xs.length) ∧ Only a b h h' := by
  obtain ⟨n, rfl⟩ : ∃ n, N = n + 1 := ⟨N - 1, by omega⟩
  rw [laws_markIntS.call_eq]
  obtain ⟨h', zs, hr, hp', hz, ho⟩ := mark_loop g lf n xs.length 0 lf 1 xs h hp (by omega) hf hl (by omega) (by omega)
  refine ⟨h', ?_, by simp at hz; rw [hz] at hp'; exact hp', ho⟩
  simp only [laws_markIntS.main, env_lf]
  exact hr

theorem held_loop {p : PV} {h : PHeap} {xs : List Int} (hp : IntSl .i64 h p xs) (hl : xs.length ≤ 2 ^ 36) : ∀ (m i fuel : Nat) (k : Int), i + m = xs.length → m < fuel → 0 ≤ k → k ≤ 2 ^ 40 + i → (∀ j : Nat, i ≤ j → j < xs.length → xs[j]? = some (k + (j - i))) →
    loopK (ev ((env g lf n).cx Tryd.prog laws_heldIntS.kl) laws_heldIntS.lp0) fuel (laws_heldIntS.st0 p (.int .i64 k) (.int .i64 i) h) (laws_heldIntS.K0 (env g lf n) (kTop Tryd.prog Tryd.f8)) = some (.int .i64 (k + m), h)
  | 0, i, fuel, k, him, hf, h0, hk, hx => by
    obtain ⟨f, rfl⟩ : ∃ f, fuel = f + 1 := ⟨fuel - 1, by omega⟩
    rw [loopK_succ, laws_heldIntS.body0_eq]
    have hlt : ¬ ((i : Int) < (xs.length : Int)) := by omega
    simp [laws_heldIntS.body0, hp.len', hlt, laws_heldIntS.after0_se0_0_1_5_9]
  | m + 1, i, fuel, k, him, hf, h0, hk, hx => by
    obtain ⟨f, rfl⟩ : ∃ f, fuel = f + 1 := ⟨fuel - 1, by omega⟩
    have hi : i < xs.length := by omega
    obtain ⟨ad, ha, hla⟩ := hp.at' hi
    have hxi : xs[i] = k := by
      have := hx i (Nat.le_refl _) hi
      rw [List.getElem?_eq_getElem hi] at this
      have := Option.some.inj this
      omega
    have ih := held_loop hp hl m (i + 1) f (k + 1) (by omega) (by omega) (by omega) (by push_cast; omega) (fun j h1 h2 => by rw [hx j (by omega) h2]; congr 1; push_cast; omega)
    have hlt : (i : Int) < (xs.length : Int) := by omega
    have hne : (xs[i] != k) = false := by simp [hxi]
    rw [loopK_succ, laws_heldIntS.body0_eq]
    simp only [laws_heldIntS.body0, env_len, env_bin, env_indexAddr, env_load, hp.len', bin_lss, hlt, decide_true, Option.bind_some, cond_bool, cond_true, ha, hla, bin_neq, hne, cond_false, bin_add, nx (show i < 2 ^ 40 by omega), nk h0 (by omega), kLoop_normal, ih]
    congr 3
    push_cast
    omega

theorem heldIntS_calls {p : PV} {m : Nat} {h : PHeap} (N : Nat) (hN : 1 ≤ N) (hp : IntSl .i64 h p (marks 1 m)) (hl : m ≤ 2 ^ 36) (hf : m < lf) :
    CL g lf N fn_laws_heldIntS [p, .int .i64 1] h = some (.int .i64 (1 + m), h) := by
  obtain ⟨n, rfl⟩ : ∃ n, N = n + 1 := ⟨N - 1, by omega⟩
  rw [laws_heldIntS.call_eq]
  have hm := marks_length m 1
  have := held_loop g lf n hp (by omega) m 0 lf 1 (by omega) hf (by omega) (by omega) (fun j _ h2 => by rw [marks_get m 1 j (by omega)]; congr 1)
  simp only [laws_heldIntS.main, env_lf]
  exact this

end Go.Proofs.YtpaehbfknlpkbaeDoor

/- The cells of one kind, and a position turned by half a turn: both programs, and their exact laws. -/
set_option maxRecDepth 20000
namespace Go.Proofs.YtpaehbfknlpkbaeDoor
open Go Go.Ip G

variable (g : Nat → PV) (lf n : Nat)

theorem OwnSl.res {n : Nat} {h : PHeap} {p : PV} {xs : List Int} (s : OwnSl n h p xs) : resV p = some p := by
  rcases s with ⟨rfl, _⟩ | ⟨id, _, rfl, _⟩ <;> rfl

end Go.Proofs.YtpaehbfknlpkbaeDoor

/- A position turned by half a turn: both programs, and the exact law. -/
set_option maxRecDepth 20000
namespace Go.Proofs.YtpaehbfknlpkbaeDoor
open Go Go.Ip G

variable (g : Nat → PV) (lf n : Nat)

end Go.Proofs.YtpaehbfknlpkbaeDoor

/- The reader from which the model draws: what a pick may come to. -/
set_option maxRecDepth 20000
namespace Go.Proofs.YtpaehbfknlpkbaeDoor
open Go Go.Ip Go.RowKit G

/-- A slice of bytes that came in, as the interpreter's heap holds it: the first object. -/
def Arg (h : PHeap) (p : PV) (xs : List Int) : Prop :=
  (∀ h', Keep 1 h h' → IntSl .u8 h' p xs) ∧ 1 ≤ h.length ∧ (∀ id off len, p = .sl id off len → 0 < len → id = 0 ∧ eszAt h id = 1) ∧ ∀ b ∈ xs, 0 ≤ b ∧ b ≤ 255

/-- The reader: object id, over a code of at most 2000 bytes, at most m picks behind. -/
def Rd (h : PHeap) (id m : Nat) : Prop :=
  ∃ bp bs pos, h[id]? = some (.own 1 [bp, .int .i64 pos]) ∧ (∀ h', Keep id h h' → IntSl .u8 h' bp bs) ∧ (∀ b ∈ bs, (0 : Int) ≤ b ∧ b ≤ 255) ∧ bs.length ≤ 2000 ∧ 0 ≤ pos ∧ pos ≤ (m : Int)

theorem Rd.keep {h h' : PHeap} {id m n : Nat} (r : Rd h id m) (hk : Keep n h h') (hn : id < n) : Rd h' id m := by
  obtain ⟨bp, bs, pos, h1, h2, rest⟩ := r
  exact ⟨bp, bs, pos, by rw [hk.2 id hn]; exact h1, fun h3 hk3 => h2 h3 ((hk.mono (by omega)).trans hk3), rest⟩

theorem Rd.lt {h : PHeap} {id m : Nat} (r : Rd h id m) : id < h.length := by
  obtain ⟨bp, bs, pos, h1, _⟩ := r
  exact (List.getElem?_eq_some_iff.1 h1).1

variable (g : Nat → PV) (lf n : Nat)

end Go.Proofs.YtpaehbfknlpkbaeDoor

/- What a pick and a chance come to. -/
set_option maxRecDepth 20000
namespace Go.Proofs.YtpaehbfknlpkbaeDoor
open Go Go.Ip Go.RowKit G

variable (g : Nat → PV) (lf n : Nat)

theorem bd {α β : Type} {x : Option α} {v : α} {f : α → Option β} {r : Option β} (hx : x = some v) (hf : f v = r) : x.bind f = r := by rw [hx]; exact hf
theorem cdT {x y r : Res} (h : x = r) : condP (.bool true) x y = r := h
theorem cdF {x y r : Res} (h : y = r) : condP (.bool false) x y = r := h
theorem Rd.mono {h : PHeap} {id m m' : Nat} (r : Rd h id m) (hm : m ≤ m') : Rd h id m' := by
  obtain ⟨bp, bs, pos, h1, h2, h3, h4, h5, h6⟩ := r
  exact ⟨bp, bs, pos, h1, h2, h3, h4, h5, by omega⟩

end Go.Proofs.YtpaehbfknlpkbaeDoor

/- The board that the model draws: small numbers, whatever they are. -/
set_option maxRecDepth 20000
namespace Go.Proofs.YtpaehbfknlpkbaeDoor
open Go Go.Ip Go.RowKit G

/-- Below n nothing has turned but the object id. -/
def KeepX (id n : Nat) (h h' : PHeap) : Prop := h.length ≤ h'.length ∧ ∀ i, i < n → i ≠ id → h'[i]? = h[i]?

theorem KeepX.refl (id n : Nat) (h : PHeap) : KeepX id n h h := ⟨Nat.le_refl _, fun _ _ _ => rfl⟩
theorem KeepX.trans {id n : Nat} {a b c : PHeap} (h : KeepX id n a b) (k : KeepX id n b c) : KeepX id n a c := ⟨Nat.le_trans h.1 k.1, fun i hi hn => (k.2 i hi hn).trans (h.2 i hi hn)⟩
theorem KeepX.mono {id n m : Nat} {a b : PHeap} (h : KeepX id n a b) (hm : m ≤ n) : KeepX id m a b := ⟨h.1, fun i hi hn => h.2 i (by omega) hn⟩
theorem Keep.x {id n : Nat} {a b : PHeap} (h : Keep n a b) : KeepX id n a b := ⟨h.1, fun i hi _ => h.2 i hi⟩
theorem Only.x {id n : Nat} {a b : PHeap} (h : Only id (id + 1) a b) : KeepX id n a b := ⟨by rw [h.1]; exact Nat.le_refl _, fun i _ hn => h.2 i (by omega)⟩
theorem KeepX.keep {id n : Nat} {a b : PHeap} (h : KeepX id n a b) (hn : id ≤ n) : Keep id a b := ⟨h.1, fun i hi => h.2 i (by omega) (by omega)⟩

variable (g : Nat → PV) (lf n : Nat)

end Go.Proofs.YtpaehbfknlpkbaeDoor

/- Promise 1: boards are turned. -/
set_option maxRecDepth 20000
namespace Go.Proofs.YtpaehbfknlpkbaeDoor
open Go Go.Ip Go.RowKit G

variable (g : Nat → PV) (lf n : Nat)

theorem boardOk_N (N : Nat) (hN : 2 ≤ N) (h : PHeap) (r c : Int) : CL g lf N fn_impl_BoardOk [.int .i64 r, .int .i64 c] h = some (.bool (boardB r c), h) := by
  obtain ⟨n, rfl⟩ : ∃ n, N = n + 2 := ⟨N - 2, by omega⟩
  exact boardOk_calls g lf n h r c
theorem specBoardOk_N (N : Nat) (hN : 2 ≤ N) (h : PHeap) (r c : Int) : CL g lf N fn_spec_BoardOk [.int .i64 r, .int .i64 c] h = some (.bool (boardB r c), h) := by
  obtain ⟨n, rfl⟩ : ∃ n, N = n + 2 := ⟨N - 2, by omega⟩
  exact specBoardOk_calls g lf n h r c

end Go.Proofs.YtpaehbfknlpkbaeDoor

/- The position that the model draws: at most ten numbers, whatever they are. -/
set_option maxRecDepth 20000
namespace Go.Proofs.YtpaehbfknlpkbaeDoor
open Go Go.Ip Go.RowKit G

variable (g : Nat → PV) (lf n : Nat)

end Go.Proofs.YtpaehbfknlpkbaeDoor

/- Promise 3: free boards are positions. -/
set_option maxRecDepth 20000
namespace Go.Proofs.YtpaehbfknlpkbaeDoor
open Go Go.Ip Go.RowKit G

variable (g : Nat → PV) (lf n : Nat)

theorem positionOk_N {xs : List Int} {p : PV} {h : PHeap} (N : Nat) (hN : 3 ≤ N) (r c : Int) (hp : IntSl .i64 h p xs) (hl : xs.length ≤ 2 ^ 36) (hf : xs.length < lf) :
    CL g lf N fn_impl_PositionOk [.int .i64 r, .int .i64 c, p] h = some (.bool (posB r c xs), h) := by
  obtain ⟨n, rfl⟩ : ∃ n, N = n + 3 := ⟨N - 3, by omega⟩
  exact positionOk_calls g lf n r c hp hl hf
theorem specPositionOk_N {xs : List Int} {p : PV} {h : PHeap} (N : Nat) (hN : 3 ≤ N) (r c : Int) (hp : IntSl .i64 h p xs) (hl : xs.length ≤ 2 ^ 36) (hf : xs.length < lf) :
    CL g lf N fn_spec_PositionOk [.int .i64 r, .int .i64 c, p] h = some (.bool (posB r c xs), h) := by
  obtain ⟨n, rfl⟩ : ∃ n, N = n + 3 := ⟨N - 3, by omega⟩
  exact specPositionOk_calls g lf n r c hp hl hf

end Go.Proofs.YtpaehbfknlpkbaeDoor

/- Promise 5: turned by half a turn twice it is as before. -/
set_option maxRecDepth 20000
namespace Go.Proofs.YtpaehbfknlpkbaeDoor
open Go Go.Ip Go.RowKit G

variable (g : Nat → PV) (lf n : Nat)

/-! ### sameInts: are two lists equal? -/
end Go.Proofs.YtpaehbfknlpkbaeDoor

/- Promise 4: each cell is of one kind. -/
set_option maxRecDepth 20000
namespace Go.Proofs.YtpaehbfknlpkbaeDoor
open Go Go.Ip Go.RowKit G

variable (g : Nat → PV) (lf n : Nat)

/-! ### what is listed -/
/-! ### ascend -/
/-! ### the law's own loops -/
end Go.Proofs.YtpaehbfknlpkbaeDoor

/- What both functions that mirror a position compute, and the exact law on them. -/
set_option maxRecDepth 20000
namespace Go.Proofs.YtpaehbfknlpkbaeDoor
open Go Go.Ip Go.RowKit G

variable (g : Nat → PV) (lf n : Nat)

def swapI (x : Int) : Int := if x = 1 then 2 else if x = 2 then 1 else x
/-- Where the mirrored position's cell k comes from: of a board of R rows and C columns. -/
def sig (R C k : Nat) : Nat := k % R * C + k / R
/-- A board's sides, as numbers. -/
def Sides (r c : Int) (R C : Nat) (xs : List Int) : Prop := r = (R : Int) ∧ c = (C : Int) ∧ 1 ≤ R ∧ R ≤ 4 ∧ 1 ≤ C ∧ C ≤ 4 ∧ R * C ≤ 9 ∧ xs.length = R * C ∧ xs.all contentB = true

theorem sides_of {r c : Int} {xs : List Int} (h : posB r c xs = true) : ∃ R C, Sides r c R C xs := by
  unfold posB at h
  rw [Bool.and_eq_true, Bool.and_eq_true] at h
  have hb := h.1.1
  unfold boardB at hb
  have hm := of_decide_eq_true hb
  have hl := of_decide_eq_true h.1.2
  obtain ⟨R, rfl⟩ := Int.eq_ofNat_of_zero_le (show 0 ≤ r by omega)
  obtain ⟨C, rfl⟩ := Int.eq_ofNat_of_zero_le (show 0 ≤ c by omega)
  have h9 := hm.2.2.2.2
  rw [← Int.natCast_mul] at h9 hl
  exact ⟨R, C, rfl, rfl, by omega, by omega, by omega, by omega, by omega, by omega, h.2⟩

theorem f_rem (i R : Nat) (hR : 1 ≤ R) : binP Tryd.prog .rem 3 (.int .i64 (i : Int)) (.int .i64 (R : Int)) = some (.int .i64 ((i % R : Nat) : Int)) := by
  rw [bin_rem (show (R : Int) ≠ 0 by omega)]; rfl
theorem f_quo (i R : Nat) (hR : 1 ≤ R) (hi : i ≤ 1000) : binP Tryd.prog .quo 3 (.int .i64 (i : Int)) (.int .i64 (R : Int)) = some (.int .i64 ((i / R : Nat) : Int)) := by
  rw [bin_quo (show (R : Int) ≠ 0 by omega), show ((i : Int).tdiv (R : Int)) = ((i / R : Nat) : Int) from rfl]
  have := Nat.div_le_self i R
  obtain ⟨q, hq⟩ : ∃ q, q = i / R := ⟨_, rfl⟩
  rw [← hq] at this ⊢
  rw [wr (by omega)]
theorem f_mul (a b : Nat) (h : a * b ≤ 1000) : binP Tryd.prog .mul 3 (.int .i64 (a : Int)) (.int .i64 (b : Int)) = some (.int .i64 ((a * b : Nat) : Int)) := by
  rw [bin_mul, ← Int.natCast_mul, wr (by omega)]
theorem l1Other_N (N : Nat) (hN : 1 ≤ N) (h : PHeap) {x : Int} (hx : contentB x = true) : CL g lf N fn_spec_l1Other [.int .i64 x] h = some (.int .i64 (swapI x), h) := by
  obtain ⟨n, rfl⟩ : ∃ n, N = n + 1 := ⟨N - 1, by omega⟩
  rw [spec_l1Other.call_eq]
  unfold contentB at hx
  have hx := of_decide_eq_true hx
  have : x = 0 ∨ x = 1 ∨ x = 2 := by omega
  rcases this with rfl | rfl | rfl
  · simp [spec_l1Other.main, swapI]
  · simp [spec_l1Other.main, swapI, wr]
  · simp [spec_l1Other.main, swapI, wr]

end Go.Proofs.YtpaehbfknlpkbaeDoor

/- The neighbours of a cell: the program's loop over its table of steps, the model's two loops, and the exact law. -/
set_option maxRecDepth 20000
namespace Go.Proofs.YtpaehbfknlpkbaeDoor
open Go Go.Ip G

/-! ### the table of steps -/
def tabCells : List PV := [.int .i64 (-1), .int .i64 0, .int .i64 (-1), .int .i64 1, .int .i64 0, .int .i64 (-1), .int .i64 0, .int .i64 1, .int .i64 1, .int .i64 (-1), .int .i64 1, .int .i64 0]
def steps : List (Int × Int) := [(-1, 0), (-1, 1), (0, -1), (0, 1), (1, -1), (1, 0)]
def stp (i : Nat) : Int × Int := steps.getD i (0, 0)

/-- The table lies at an object that is only read. -/
def Tab (g : Nat → PV) (h : PHeap) : Prop := ∃ id, g 0 = .ptr id 0 ∧ h[id]? = some (.ro 1 tabCells)

theorem Tab.keep {g : Nat → PV} {h h' : PHeap} (t : Tab g h) (k : Keep h.length h h') : Tab g h' := by
  obtain ⟨id, e, ho⟩ := t
  exact ⟨id, e, by rw [k.2 id (List.getElem?_eq_some_iff.1 ho).1]; exact ho⟩

def tab64N : List Nat := [0, 1, 56, 2, 57, 49, 28, 3, 61, 58, 42, 50, 38, 29, 17, 4, 62, 47, 59, 36, 45, 43, 51, 22, 53, 39, 33, 30, 24, 18, 12, 5, 63, 55, 48, 27, 60, 41, 37, 16, 46, 35, 44, 21, 52, 32, 23, 11, 54, 26, 40, 15, 34, 20, 31, 10, 25, 14, 19, 9, 13, 8, 7, 6]
def tab64Cells : List PV := tab64N.map fun n : Nat => .int .u8 (n : Int)
/-- Where the library's table of 64 bytes is known to lie, it reads so. -/
def Tab64 (g : Nat → PV) (h : PHeap) : Prop := ∀ id, g 2 = .ptr id 0 → h[id]? = some (.ro 1 tab64Cells)
theorem Tab64.keep {g : Nat → PV} {h h' : PHeap} (t : Tab64 g h) (k : Keep h.length h h') : Tab64 g h' := fun id e => by have ho := t id e; rw [k.2 id (List.getElem?_eq_some_iff.1 ho).1]; exact ho

theorem tyTabAgg : isAggT Tryd.prog 65 = some true := by kernel_rfl
theorem tyTabSize : sizeT Tryd.prog 65 = some 12 := by kernel_rfl
theorem tyPairZ : zeroCellsT Tryd.prog 64 = some [.int .i64 0, .int .i64 0] := by kernel_rfl
theorem tyPairSize : sizeT Tryd.prog 64 = some 2 := by kernel_rfl
theorem tyPairU : Tryd.prog.underlying 64 = some (.array 2 3) := by kernel_rfl

theorem tab_load {g : Nat → PV} {h : PHeap} (t : Tab g h) : loadP Tryd.prog 65 (g 0) h = some (.agg tabCells) := by
  obtain ⟨id, e, ho⟩ := t
  rw [e]
  simp [loadP, tyTabAgg, tyTabSize, cellsAt, ho, PObj.get, tabCells]

theorem tab_index (i : Nat) (hi : i < 6) : indexP Tryd.prog 65 (.agg tabCells) (.int .i64 (i : Int)) = some (.agg [.int .i64 (stp i).1, .int .i64 (stp i).2]) := by
  have t0 : indexP Tryd.prog 65 (.agg tabCells) (.int .i64 ((0 : Nat) : Int)) = some (.agg [.int .i64 (stp 0).1, .int .i64 (stp 0).2]) := by kernel_rfl
  have t1 : indexP Tryd.prog 65 (.agg tabCells) (.int .i64 ((1 : Nat) : Int)) = some (.agg [.int .i64 (stp 1).1, .int .i64 (stp 1).2]) := by kernel_rfl
  have t2 : indexP Tryd.prog 65 (.agg tabCells) (.int .i64 ((2 : Nat) : Int)) = some (.agg [.int .i64 (stp 2).1, .int .i64 (stp 2).2]) := by kernel_rfl
  have t3 : indexP Tryd.prog 65 (.agg tabCells) (.int .i64 ((3 : Nat) : Int)) = some (.agg [.int .i64 (stp 3).1, .int .i64 (stp 3).2]) := by kernel_rfl
  have t4 : indexP Tryd.prog 65 (.agg tabCells) (.int .i64 ((4 : Nat) : Int)) = some (.agg [.int .i64 (stp 4).1, .int .i64 (stp 4).2]) := by kernel_rfl
  have t5 : indexP Tryd.prog 65 (.agg tabCells) (.int .i64 ((5 : Nat) : Int)) = some (.agg [.int .i64 (stp 5).1, .int .i64 (stp 5).2]) := by kernel_rfl
  have : i = 0 ∨ i = 1 ∨ i = 2 ∨ i = 3 ∨ i = 4 ∨ i = 5 := by omega
  rcases this with rfl | rfl | rfl | rfl | rfl | rfl
  · exact t0
  · exact t1
  · exact t2
  · exact t3
  · exact t4
  · exact t5

theorem stp_small (i : Nat) : -1 ≤ (stp i).1 ∧ (stp i).1 ≤ 1 ∧ -1 ≤ (stp i).2 ∧ (stp i).2 ≤ 1 := by
  by_cases hi : i < 6
  · have : i = 0 ∨ i = 1 ∨ i = 2 ∨ i = 3 ∨ i = 4 ∨ i = 5 := by omega
    rcases this with rfl | rfl | rfl | rfl | rfl | rfl <;> decide
  · have : stp i = (0, 0) := by
      unfold stp
      rw [List.getD_eq_getElem?_getD, List.getElem?_eq_none (by show 6 ≤ i; omega)]; rfl
    rw [this]; decide

theorem pair_alloc (h : PHeap) : allocP Tryd.prog 64 h = some (.ptr h.length 0, h ++ [.own 1 [.int .i64 0, .int .i64 0]]) := by simp [allocP, tyPairZ]
theorem pair_store (h : PHeap) (a b : Int) : storeP Tryd.prog 64 (.ptr h.length 0) (.agg [.int .i64 a, .int .i64 b]) (h ++ [.own 1 [.int .i64 0, .int .i64 0]]) = some (h ++ [.own 1 [.int .i64 a, .int .i64 b]]) := by
  simp [storeP, tyPairSize, PV.cells, PV.oneCell, setCells]
theorem pair_addr0 (id : Nat) : indexAddrP Tryd.prog 64 (.ptr id 0) (.int .i64 0) = some (.ptr id 0) := by simp [indexAddrP, tySize]
theorem pair_addr1 (id : Nat) : indexAddrP Tryd.prog 64 (.ptr id 0) (.int .i64 1) = some (.ptr id 1) := by simp [indexAddrP, tySize]
theorem pair_load0 (h : PHeap) (a b : PV) : loadP Tryd.prog 3 (.ptr h.length 0) (h ++ [.own 1 [a, b]]) = some a := by simp [loadP, tyAgg, cellsAt, PObj.get]
theorem pair_load1 (h : PHeap) (a b : PV) : loadP Tryd.prog 3 (.ptr h.length 1) (h ++ [.own 1 [a, b]]) = some b := by simp [loadP, tyAgg, cellsAt, PObj.get]

/-! ### what is meant -/
def rowAt (C k : Nat) (s : Int × Int) : Int := ((k / C : Nat) : Int) + s.1
def colAt (C k : Nat) (s : Int × Int) : Int := ((k % C : Nat) : Int) + s.2
def inB (R C k : Nat) (s : Int × Int) : Bool := decide (0 ≤ rowAt C k s) && decide (rowAt C k s < R) && decide (0 ≤ colAt C k s) && decide (colAt C k s < C)
def nearFrom (R C k : Nat) (ss : List (Int × Int)) : List Int := (ss.filter (inB R C k)).map fun s => rowAt C k s * C + colAt C k s
def nearN (R C k : Nat) : List Int := nearFrom R C k steps
def cellB (r c k : Int) : Bool := boardB r c && decide (0 ≤ k ∧ k < r * c)
def nearL (r c k : Int) : List Int := if cellB r c k = true then nearN r.toNat c.toNat k.toNat else []

theorem nearFrom_append (R C k : Nat) (a b : List (Int × Int)) : nearFrom R C k (a ++ b) = nearFrom R C k a ++ nearFrom R C k b := by
  unfold nearFrom; rw [List.filter_append, List.map_append]
theorem nearFrom_length (R C k : Nat) (a : List (Int × Int)) : (nearFrom R C k a).length ≤ a.length := by
  unfold nearFrom; rw [List.length_map]; exact List.length_filter_le _ _
/-- A cell of a board, as numbers. -/
def CellOf (r c k : Int) (R C K : Nat) : Prop := r = (R : Int) ∧ c = (C : Int) ∧ k = (K : Int) ∧ 1 ≤ R ∧ R ≤ 4 ∧ 1 ≤ C ∧ C ≤ 4 ∧ R * C ≤ 9 ∧ K < R * C

theorem cell_of {r c k : Int} (h : cellB r c k = true) : ∃ R C K, CellOf r c k R C K := by
  unfold cellB at h
  rw [Bool.and_eq_true] at h
  have hb := h.1
  unfold boardB at hb
  have hm := of_decide_eq_true hb
  have hk := of_decide_eq_true h.2
  obtain ⟨R, rfl⟩ := Int.eq_ofNat_of_zero_le (show 0 ≤ r by omega)
  obtain ⟨C, rfl⟩ := Int.eq_ofNat_of_zero_le (show 0 ≤ c by omega)
  obtain ⟨K, rfl⟩ := Int.eq_ofNat_of_zero_le (show 0 ≤ k by omega)
  have h9 := hm.2.2.2.2
  rw [← Int.natCast_mul] at h9 hk
  exact ⟨R, C, K, rfl, rfl, rfl, by omega, by omega, by omega, by omega, by omega, by omega⟩

theorem row_small (C k : Nat) (s : Int × Int) (hk : k ≤ 9) (hs : -1 ≤ s.1 ∧ s.1 ≤ 1 ∧ -1 ≤ s.2 ∧ s.2 ≤ 1) : -1 ≤ rowAt C k s ∧ rowAt C k s ≤ 10 ∧ -1 ≤ colAt C k s ∧ colAt C k s ≤ 10 := by
  unfold rowAt colAt
  have e1 : ((k / C : Nat) : Int) ≤ 9 := Int.ofNat_le.2 (Nat.le_trans (Nat.div_le_self k C) hk)
  have e2 : ((k % C : Nat) : Int) ≤ 9 := Int.ofNat_le.2 (Nat.le_trans (Nat.mod_le k C) hk)
  have e3 : (0 : Int) ≤ ((k / C : Nat) : Int) := Int.natCast_nonneg _
  have e4 : (0 : Int) ≤ ((k % C : Nat) : Int) := Int.natCast_nonneg _
  refine ⟨?_, ?_, ?_, ?_⟩ <;> omega

theorem mul_in {y : Int} {C : Nat} (h0 : 0 ≤ y) (h1 : y ≤ 10) (h2 : 1 ≤ C) (h3 : C ≤ 4) : 0 ≤ y * C ∧ y * C ≤ 40 := by
  have : C = 1 ∨ C = 2 ∨ C = 3 ∨ C = 4 := by omega
  rcases this with rfl | rfl | rfl | rfl <;> omega

/-- An operation under a guard. -/
theorem gd {α β : Type} {b t : Bool} {x y : Option α} {f : α → Option β} {r : Option β} (hb : b = t) (hx : x.bind f = r) : ((wantV (.bool b) t).bind fun v => (bif v then x else y).bind f) = r := by
  subst hb; simpa using hx
theorem gn {α β : Type} {b t : Bool} {x y : Option α} {f : α → Option β} {r : Option β} (hb : b = !t) (hy : y.bind f = r) : ((wantV (.bool b) t).bind fun v => (bif v then x else y).bind f) = r := by
  subst hb; cases t <;> simpa using hy

variable (g : Nat → PV) (lf n : Nat)

/-! ### the program -/
theorem near_step {R C k i : Nat} (h1 : 1 ≤ R) (h2 : R ≤ 4) (h3 : 1 ≤ C) (h4 : C ≤ 4) (hk : k ≤ 9) (hi : i < 6) (K : PX → St → Res) {q : PV} {ys : List Int} {h : PHeap} {b : Nat} (ho : OwnSl b h q ys) (hb : b ≤ h.length) (hy : ys.length ≤ 10) :
    ∃ q' h', impl_NearCells.body0 (env g lf n) K (.int .i64 (R : Int)) (.int .i64 (C : Int)) (.int .i64 (k : Int)) q (.agg tabCells) (.int .i64 (i : Int)) h = K .normal (impl_NearCells.st0 (.int .i64 (R : Int)) (.int .i64 (C : Int)) (.int .i64 (k : Int)) q' (.agg tabCells) (.int .i64 ((i + 1 : Nat) : Int)) h') ∧
      OwnSl b h' q' (ys ++ nearFrom R C k [stp i]) ∧ Keep b h h' := by
  have hs := stp_small i
  have hsm := row_small C k (stp i) hk hs
  have kp : Keep h.length h (h ++ [PObj.own 1 [.int .i64 (stp i).1, .int .i64 (stp i).2]]) := Keep.append _ _ _ (Nat.le_refl _)
  have ho1 := ho.keep kp
  have f1 : binP Tryd.prog .lss 3 (.int .i64 (i : Int)) (.int .i64 6) = some (.bool true) := by rw [bin_lss, decide_eq_true (by omega)]
  have fq := f_quo k C h3 (by omega)
  have fr := f_rem k C h3
  have fy : binP Tryd.prog .add 3 (.int .i64 ((k / C : Nat) : Int)) (.int .i64 (stp i).1) = some (.int .i64 (rowAt C k (stp i))) := by
    rw [bin_add]; unfold rowAt at hsm ⊢; rw [wr (by omega)]
  have fx : binP Tryd.prog .add 3 (.int .i64 ((k % C : Nat) : Int)) (.int .i64 (stp i).2) = some (.int .i64 (colAt C k (stp i))) := by
    rw [bin_add]; unfold colAt at hsm ⊢; rw [wr (by omega)]
  have fn' : binP Tryd.prog .add 3 (.int .i64 (i : Int)) (.int .i64 1) = some (.int .i64 ((i + 1 : Nat) : Int)) := by rw [bin_add, nx (by omega)]
  have hnf : nearFrom R C k [stp i] = if inB R C k (stp i) = true then [rowAt C k (stp i) * C + colAt C k (stp i)] else [] := by
    unfold nearFrom; cases e : inB R C k (stp i) <;> simp [List.filter_cons, e]
  obtain ⟨y, hyy⟩ : ∃ y, y = rowAt C k (stp i) := ⟨_, rfl⟩
  obtain ⟨x, hxx⟩ : ∃ x, x = colAt C k (stp i) := ⟨_, rfl⟩
  rw [← hyy] at fy; rw [← hxx] at fx; rw [← hyy, ← hxx] at hsm hnf
  have hin : inB R C k (stp i) = (decide (0 ≤ y) && decide (y < R) && decide (0 ≤ x) && decide (x < C)) := by unfold inB; rw [← hyy, ← hxx]
  have g1 : binP Tryd.prog .geq 3 (.int .i64 y) (.int .i64 0) = some (.bool (decide (0 ≤ y))) := bin_geq
  have g2 : binP Tryd.prog .lss 3 (.int .i64 y) (.int .i64 (R : Int)) = some (.bool (decide (y < R))) := bin_lss
  have g3 : binP Tryd.prog .geq 3 (.int .i64 x) (.int .i64 0) = some (.bool (decide (0 ≤ x))) := bin_geq
  have g4 : binP Tryd.prog .lss 3 (.int .i64 x) (.int .i64 (C : Int)) = some (.bool (decide (x < C))) := bin_lss
  cases hin' : (decide (0 ≤ y) && decide (y < R) && decide (0 ≤ x) && decide (x < C)) with
  | true =>
    have hc := hin'
    simp only [Bool.and_eq_true, decide_eq_true_eq] at hc
    rw [hin, hin', if_pos rfl] at hnf
    have hm := mul_in (C := C) hc.1.1.1 (show y ≤ 10 by omega) h3 h4
    obtain ⟨v, q2, h2', hb2, ha2, ho2, hk2⟩ := ho1.append (by have := kp.1; omega) (y * C + x) (by omega)
    rw [decide_eq_true hc.1.1.1] at g1
    rw [decide_eq_true hc.1.1.2] at g2
    rw [decide_eq_true hc.1.2] at g3
    rw [decide_eq_true hc.2] at g4
    have m1 : binP Tryd.prog .mul 3 (.int .i64 y) (.int .i64 (C : Int)) = some (.int .i64 (y * C)) := by rw [bin_mul, wr (by omega)]
    have m2 : binP Tryd.prog .add 3 (.int .i64 (y * C)) (.int .i64 x) = some (.int .i64 (y * C + x)) := by rw [bin_add, wr (by omega)]
    refine ⟨q2, h2', ?_, by rw [hnf]; exact ho2, (kp.mono hb).trans hk2⟩
    unfold impl_NearCells.body0
    refine bd f1 (cdT (bd (tab_index i hi) (bd (pair_alloc h) (bd (pair_store h _ _) (bd fq (bd (pair_addr0 _) (bd (pair_load0 h _ _) (bd fy (bd fr (bd (pair_addr1 _) (bd (pair_load1 h _ _) (bd fx ?_))))))))))))
    refine bd g1 (gd rfl (bd rfl (gd rfl (bd rfl (gd rfl (bd (congrArg (pv _) g2) (bd (v := PV.bool true) rfl ?_)))))))
    refine gd rfl (bd rfl (gd rfl (bd (congrArg (pv _) g3) (bd (v := PV.bool true) rfl ?_))))
    refine gd rfl (bd rfl (gd rfl (bd rfl (gd rfl (bd (congrArg (pv _) g4) (bd (v := PV.bool true) rfl (cdT ?_)))))))
    exact bd m1 (bd m2 (bd hb2 (bd ha2 (bd fn' rfl))))
  | false =>
    rw [hin, hin', if_neg (by decide), ] at hnf
    refine ⟨q, _, ?_, by rw [hnf, List.append_nil]; exact ho1, kp.mono hb⟩
    unfold impl_NearCells.body0
    refine bd f1 (cdT (bd (tab_index i hi) (bd (pair_alloc h) (bd (pair_store h _ _) (bd fq (bd (pair_addr0 _) (bd (pair_load0 h _ _) (bd fy (bd fr (bd (pair_addr1 _) (bd (pair_load1 h _ _) (bd fx ?_))))))))))))
    cases c1 : decide (0 ≤ y) with
    | false =>
      rw [c1] at g1
      refine bd g1 (gn rfl (bd rfl (gn rfl (bd rfl (gn rfl (bd rfl (bd (v := PV.bool false) rfl ?_)))))))
      refine gn rfl (bd rfl (gn rfl (bd rfl (bd (v := PV.bool false) rfl ?_))))
      refine gn rfl (bd rfl (gn rfl (bd rfl (gn rfl (bd rfl (bd (v := PV.bool false) rfl (cdF (bd fn' rfl))))))))
    | true =>
      rw [c1] at g1
      refine bd g1 (gd rfl (bd rfl (gd rfl (bd rfl (gd rfl (bd (congrArg (pv _) g2) (bd (v := PV.bool (decide (y < R))) rfl ?_)))))))
      cases c2 : decide (y < (R : Int)) with
      | false =>
        refine gn rfl (bd rfl (gn rfl (bd rfl (bd (v := PV.bool false) rfl ?_))))
        refine gn rfl (bd rfl (gn rfl (bd rfl (gn rfl (bd rfl (bd (v := PV.bool false) rfl (cdF (bd fn' rfl))))))))
      | true =>
        refine gd rfl (bd rfl (gd rfl (bd (congrArg (pv _) g3) (bd (v := PV.bool (decide (0 ≤ x))) rfl ?_))))
        cases c3 : decide (0 ≤ x) with
        | false => refine gn rfl (bd rfl (gn rfl (bd rfl (gn rfl (bd rfl (bd (v := PV.bool false) rfl (cdF (bd fn' rfl))))))))
        | true =>
          have c4 : decide (x < (C : Int)) = false := by rw [c1, c2, c3] at hin'; simpa using hin'
          rw [c4] at g4
          refine gd rfl (bd rfl (gd rfl (bd rfl (gd rfl (bd (congrArg (pv _) g4) (bd (v := PV.bool false) rfl (cdF (bd fn' rfl))))))))

theorem near_loop {R C k : Nat} (h1 : 1 ≤ R) (h2 : R ≤ 4) (h3 : 1 ≤ C) (h4 : C ≤ 4) (hk : k ≤ 9) : ∀ (m i fuel : Nat) (q : PV) (ys : List Int) (h : PHeap) (b : Nat), i + m = 6 → m < fuel → ys.length ≤ i → OwnSl b h q ys → b ≤ h.length →
    ∃ q' h', loopK (ev ((env g lf n).cx Tryd.prog impl_NearCells.kl) impl_NearCells.lp0) fuel (impl_NearCells.st0 (.int .i64 (R : Int)) (.int .i64 (C : Int)) (.int .i64 (k : Int)) q (.agg tabCells) (.int .i64 (i : Int)) h) (impl_NearCells.K0 (env g lf n) (kTop Tryd.prog Tryd.f49)) = some (q', h') ∧
      OwnSl b h' q' (ys ++ nearFrom R C k (steps.drop i)) ∧ Keep b h h'
  | 0, i, fuel, q, ys, h, b, him, hf, hy, ho, hb => by
    obtain ⟨f, rfl⟩ : ∃ f, fuel = f + 1 := ⟨fuel - 1, by omega⟩
    obtain rfl : i = 6 := by omega
    refine ⟨q, h, ?_, by rw [show steps.drop 6 = [] from rfl]; simpa [nearFrom] using ho, Keep.refl _ _⟩
    rw [loopK_succ, impl_NearCells.body0_eq]
    have f1 : binP Tryd.prog .lss 3 (.int .i64 ((6 : Nat) : Int)) (.int .i64 6) = some (.bool false) := by rw [bin_lss]; rfl
    unfold impl_NearCells.body0
    refine bd f1 (cdF ?_)
    rw [kLoop_exit, impl_NearCells.after0_se0_0_1_2_7_17_18_19]
    exact bd ho.res rfl
  | m + 1, i, fuel, q, ys, h, b, him, hf, hy, ho, hb => by
    obtain ⟨f, rfl⟩ : ∃ f, fuel = f + 1 := ⟨fuel - 1, by omega⟩
    have hi : i < 6 := by omega
    obtain ⟨q1, h', e1, o1, k1⟩ := near_step g lf n h1 h2 h3 h4 hk hi (kLoop (ev ((env g lf n).cx Tryd.prog impl_NearCells.kl) impl_NearCells.lp0) f (impl_NearCells.K0 (env g lf n) (kTop Tryd.prog Tryd.f49))) ho hb (by omega)
    have hl := nearFrom_length R C k [stp i]
    obtain ⟨q2, h'', e2, o2, k2⟩ := near_loop h1 h2 h3 h4 hk m (i + 1) f q1 (ys ++ nearFrom R C k [stp i]) h' b (by omega) (by omega) (by rw [List.length_append]; simp at hl; omega) o1 (by have := k1.1; omega)
    refine ⟨q2, h'', ?_, ?_, k1.trans k2⟩
    · rw [loopK_succ, impl_NearCells.body0_eq, e1, kLoop_normal]; exact e2
    · have hd : steps.drop i = [stp i] ++ steps.drop (i + 1) := by
        have : i = 0 ∨ i = 1 ∨ i = 2 ∨ i = 3 ∨ i = 4 ∨ i = 5 := by omega
        rcases this with rfl | rfl | rfl | rfl | rfl | rfl <;> rfl
      rw [hd, nearFrom_append, ← List.append_assoc]; exact o2

theorem cellOk_N (N : Nat) (hN : 3 ≤ N) (h : PHeap) (r c k : Int) : CL g lf N fn_impl_cellOk [.int .i64 r, .int .i64 c, .int .i64 k] h = some (.bool (cellB r c k), h) := by
  obtain ⟨n, rfl⟩ : ∃ n, N = n + 3 := ⟨N - 3, by omega⟩
  rw [impl_cellOk.call_eq]
  unfold cellB
  cases hb : boardB r c with
  | false => simp [impl_cellOk.main, boardOk_calls, hb]
  | true =>
    have hb' := hb
    unfold boardB at hb'
    have hm := of_decide_eq_true hb'
    have hmul := mul_small hm.1 hm.2.1 hm.2.2.1 hm.2.2.2.1
    by_cases h0 : 0 ≤ k <;> simp [impl_cellOk.main, boardOk_calls, hb, hmul, h0]

theorem nearCells_calls (N : Nat) (hN : 4 ≤ N) (hlf : 20 < lf) {h : PHeap} (ht : Tab g h) (r c k : Int) :
    ∃ q h', CL g lf N fn_impl_NearCells [.int .i64 r, .int .i64 c, .int .i64 k] h = some (q, h') ∧ OwnSl h.length h' q (nearL r c k) ∧ Keep h.length h h' := by
  obtain ⟨n, rfl⟩ : ∃ n, N = n + 1 := ⟨N - 1, by omega⟩
  rw [impl_NearCells.call_eq]
  have hc := cellOk_N g lf n (by omega) h r c k
  unfold nearL
  cases hb : cellB r c k with
  | false =>
    rw [hb] at hc
    refine ⟨.nilsl, h, ?_, OwnSl.nil _ _, Keep.refl _ _⟩
    unfold impl_NearCells.main
    exact bd hc (bd un_not (cdT (bd res_nilsl rfl)))
  | true =>
    rw [hb] at hc
    obtain ⟨R, C, K, rfl, rfl, rfl, h1, h2, h3, h4, h9, hK⟩ := cell_of hb
    obtain ⟨q', h', e, o, k'⟩ := near_loop g lf n h1 h2 h3 h4 (show K ≤ 9 by omega) 6 0 lf .nilsl [] h h.length (by omega) (by omega) (by simp) (OwnSl.nil _ _) (Nat.le_refl _)
    refine ⟨q', h', ?_, by rw [if_pos rfl]; simpa [nearN] using o, k'⟩
    unfold impl_NearCells.main
    exact bd hc (bd un_not (cdF (bd (tab_load ht) e)))

end Go.Proofs.YtpaehbfknlpkbaeDoor

/- The model's neighbours, 'is a number in a list', and the exact law on neighbours. -/
set_option maxRecDepth 20000
namespace Go.Proofs.YtpaehbfknlpkbaeDoor
open Go Go.Ip G

variable (g : Nat → PV) (lf n : Nat)

theorem l1In_N (N : Nat) (hN : 1 ≤ N) (h : PHeap) (a lo hi : Int) : CL g lf N fn_spec_l1In [.int .i64 a, .int .i64 lo, .int .i64 hi] h = some (.bool (decide (lo ≤ a ∧ a ≤ hi)), h) := by
  obtain ⟨n, rfl⟩ : ∃ n, N = n + 1 := ⟨N - 1, by omega⟩
  exact l1In_calls g lf n h a lo hi

def rowSteps (i : Int) : List (Int × Int) := [(i, -1), (i, 0), (i, 1)].filter fun s => s.1 != s.2
theorem rowSteps_all : rowSteps (-1) ++ rowSteps 0 ++ rowSteps 1 = steps := by decide

theorem l1_step {R C k : Nat} (hn : 1 ≤ n) (h2 : R ≤ 4) (h3 : 1 ≤ C) (h4 : C ≤ 4) (hk : k ≤ 9) (s : Int × Int) (hs : -1 ≤ s.1 ∧ s.1 ≤ 1 ∧ -1 ≤ s.2 ∧ s.2 ≤ 1) (y x x' : Int) (hy : y = rowAt C k s) (hx : x = colAt C k s) (hx' : x' = x + 1)
    (K : PX → St → Res) {q : PV} {ys : List Int} {h : PHeap} {b : Nat} (ho : OwnSl b h q ys) (hb : b ≤ h.length) (hl : ys.length ≤ 20) :
    ∃ q' h', spec_l1Near.body1 (env g lf n) K (.int .i64 (R : Int)) (.int .i64 (C : Int)) q (.int .i64 ((k / C : Nat) : Int)) (.int .i64 ((k % C : Nat) : Int)) (.int .i64 y) (.int .i64 x) h =
        K .normal (spec_l1Near.st1 (.int .i64 (R : Int)) (.int .i64 (C : Int)) q' (.int .i64 ((k / C : Nat) : Int)) (.int .i64 ((k % C : Nat) : Int)) (.int .i64 y) (.int .i64 x') h') ∧
      OwnSl b h' q' (ys ++ nearFrom R C k ([s].filter fun s => s.1 != s.2)) ∧ Keep b h h' := by
  have hsm := row_small C k s hk hs
  have e1 : ((k / C : Nat) : Int) ≤ 9 := Int.ofNat_le.2 (Nat.le_trans (Nat.div_le_self k C) hk)
  have e2 : ((k % C : Nat) : Int) ≤ 9 := Int.ofNat_le.2 (Nat.le_trans (Nat.mod_le k C) hk)
  have e3 : (0 : Int) ≤ ((k / C : Nat) : Int) := Int.natCast_nonneg _
  have e4 : (0 : Int) ≤ ((k % C : Nat) : Int) := Int.natCast_nonneg _
  have hy' : y = ((k / C : Nat) : Int) + s.1 := hy
  have hxx : x = ((k % C : Nat) : Int) + s.2 := hx
  rw [← hy, ← hx] at hsm
  have hin : inB R C k s = (decide (0 ≤ y ∧ y ≤ (R : Int) - 1) && decide (0 ≤ x ∧ x ≤ (C : Int) - 1)) := by
    unfold inB
    rw [← hy, ← hx, Bool.eq_iff_iff]
    simp only [Bool.and_eq_true, decide_eq_true_eq]
    omega
  have hnf : ∀ t : Bool, (s.1 != s.2) = t → nearFrom R C k ([s].filter fun s => s.1 != s.2) = if (t && inB R C k s) = true then [y * C + x] else [] := by
    intro t ht
    unfold nearFrom
    cases t with
    | false => simp [ht]
    | true => cases e : inB R C k s <;> simp [ht, e, hy, hx]
  obtain ⟨a, ha⟩ : ∃ a, a = ((k / C : Nat) : Int) := ⟨_, rfl⟩
  obtain ⟨c, hc⟩ : ∃ c, c = ((k % C : Nat) : Int) := ⟨_, rfl⟩
  rw [← ha, ← hc]
  rw [← ha] at e1 e3 hy'
  rw [← hc] at e2 e4 hxx
  have f1 : binP Tryd.prog .add 3 (.int .i64 c) (.int .i64 1) = some (.int .i64 (c + 1)) := by rw [bin_add, wr (by omega)]
  have f2 : binP Tryd.prog .leq 3 (.int .i64 x) (.int .i64 (c + 1)) = some (.bool true) := by rw [bin_leq, decide_eq_true (by omega)]
  have f3 : binP Tryd.prog .sub 3 (.int .i64 y) (.int .i64 a) = some (.int .i64 s.1) := by rw [bin_sub, wr (by omega), show y - a = s.1 by omega]
  have f4 : binP Tryd.prog .sub 3 (.int .i64 x) (.int .i64 c) = some (.int .i64 s.2) := by rw [bin_sub, wr (by omega), show x - c = s.2 by omega]
  have f5 : binP Tryd.prog .neq 3 (.int .i64 s.1) (.int .i64 s.2) = some (.bool (s.1 != s.2)) := bin_neq
  have f6 : binP Tryd.prog .sub 3 (.int .i64 (R : Int)) (.int .i64 1) = some (.int .i64 ((R : Int) - 1)) := by rw [bin_sub, wr (by omega)]
  have f7 : binP Tryd.prog .sub 3 (.int .i64 (C : Int)) (.int .i64 1) = some (.int .i64 ((C : Int) - 1)) := by rw [bin_sub, wr (by omega)]
  have f8 : binP Tryd.prog .add 3 (.int .i64 x) (.int .i64 1) = some (.int .i64 x') := by rw [bin_add, wr (by omega), hx']
  have l1 := l1In_N g lf n hn h y 0 ((R : Int) - 1)
  have l2 := l1In_N g lf n hn h x 0 ((C : Int) - 1)
  unfold spec_l1Near.body1
  cases c1 : (s.1 != s.2) with
  | false =>
    have := hnf false c1
    rw [Bool.false_and, if_neg (by decide)] at this
    refine ⟨q, h, ?_, by rw [this, List.append_nil]; exact ho, Keep.refl _ _⟩
    rw [c1] at f5
    refine bd f1 (bd f2 (cdT (bd f3 (bd f4 (bd f5 ?_)))))
    refine gn rfl (bd rfl (gn rfl (bd rfl (gn rfl (bd rfl (gn rfl (bd rfl (bd (v := PV.bool false) rfl ?_))))))))
    exact gn rfl (bd rfl (gn rfl (bd rfl (gn rfl (bd rfl (gn rfl (bd rfl (bd (v := PV.bool false) rfl (cdF (bd f8 rfl))))))))))
  | true =>
    have hnf := hnf true c1
    rw [Bool.true_and, hin] at hnf
    rw [c1] at f5
    cases c2 : decide (0 ≤ y ∧ y ≤ (R : Int) - 1) with
    | false =>
      rw [c2, Bool.false_and, if_neg (by decide)] at hnf
      rw [c2] at l1
      refine ⟨q, h, ?_, by rw [hnf, List.append_nil]; exact ho, Keep.refl _ _⟩
      refine bd f1 (bd f2 (cdT (bd f3 (bd f4 (bd f5 ?_)))))
      refine gd rfl (bd rfl (gd rfl (bd rfl (gd rfl (bd (congrArg (pv _) f6) (gd rfl (bd l1 (bd (v := PV.bool false) rfl ?_))))))))
      exact gn rfl (bd rfl (gn rfl (bd rfl (gn rfl (bd rfl (gn rfl (bd rfl (bd (v := PV.bool false) rfl (cdF (bd f8 rfl))))))))))
    | true =>
      rw [c2, Bool.true_and] at hnf
      rw [c2] at l1
      cases c3 : decide (0 ≤ x ∧ x ≤ (C : Int) - 1) with
      | false =>
        rw [c3, if_neg (by decide)] at hnf
        rw [c3] at l2
        refine ⟨q, h, ?_, by rw [hnf, List.append_nil]; exact ho, Keep.refl _ _⟩
        refine bd f1 (bd f2 (cdT (bd f3 (bd f4 (bd f5 ?_)))))
        refine gd rfl (bd rfl (gd rfl (bd rfl (gd rfl (bd (congrArg (pv _) f6) (gd rfl (bd l1 (bd (v := PV.bool true) rfl ?_))))))))
        exact gd rfl (bd rfl (gd rfl (bd rfl (gd rfl (bd (congrArg (pv _) f7) (gd rfl (bd l2 (bd (v := PV.bool false) rfl (cdF (bd f8 rfl))))))))))
      | true =>
        rw [c3, if_pos rfl] at hnf
        rw [c3] at l2
        have hyb := of_decide_eq_true c2
        have hxb := of_decide_eq_true c3
        have hm := mul_in (C := C) hyb.1 (show y ≤ 10 by omega) h3 h4
        have m1 : binP Tryd.prog .mul 3 (.int .i64 y) (.int .i64 (C : Int)) = some (.int .i64 (y * C)) := by rw [bin_mul, wr (by omega)]
        have m2 : binP Tryd.prog .add 3 (.int .i64 (y * C)) (.int .i64 x) = some (.int .i64 (y * C + x)) := by rw [bin_add, wr (by omega)]
        obtain ⟨v, q2, h2', hb2, ha2, ho2, hk2⟩ := ho.append hb (y * C + x) (by omega)
        refine ⟨q2, h2', ?_, by rw [hnf]; exact ho2, hk2⟩
        refine bd f1 (bd f2 (cdT (bd f3 (bd f4 (bd f5 ?_)))))
        refine gd rfl (bd rfl (gd rfl (bd rfl (gd rfl (bd (congrArg (pv _) f6) (gd rfl (bd l1 (bd (v := PV.bool true) rfl ?_))))))))
        exact gd rfl (bd rfl (gd rfl (bd rfl (gd rfl (bd (congrArg (pv _) f7) (gd rfl (bd l2 (bd (v := PV.bool true) rfl (cdT (bd m1 (bd m2 (bd hb2 (bd ha2 (bd f8 rfl))))))))))))))

theorem l1_row {R C k : Nat} (hn : 1 ≤ n) (hlf : 20 < lf) (h2 : R ≤ 4) (h3 : 1 ≤ C) (h4 : C ≤ 4) (hk : k ≤ 9) (i : Int) (hi : -1 ≤ i ∧ i ≤ 1) (y y' : Int) (hy : y = rowAt C k (i, 0)) (hy' : y' = y + 1)
    (K : PX → St → Res) {q : PV} {ys : List Int} {h : PHeap} {b : Nat} (ho : OwnSl b h q ys) (hb : b ≤ h.length) (hl : ys.length ≤ 10) :
    ∃ q' h', spec_l1Near.body0 (env g lf n) K (.int .i64 (R : Int)) (.int .i64 (C : Int)) q (.int .i64 ((k / C : Nat) : Int)) (.int .i64 ((k % C : Nat) : Int)) (.int .i64 y) h =
        K .normal (spec_l1Near.st0 (.int .i64 (R : Int)) (.int .i64 (C : Int)) q' (.int .i64 ((k / C : Nat) : Int)) (.int .i64 ((k % C : Nat) : Int)) (.int .i64 y') h') ∧
      OwnSl b h' q' (ys ++ nearFrom R C k (rowSteps i)) ∧ Keep b h h' := by
  obtain ⟨F, rfl⟩ : ∃ F, lf = F + 4 := ⟨lf - 4, by omega⟩
  have e1 : ((k / C : Nat) : Int) ≤ 9 := Int.ofNat_le.2 (Nat.le_trans (Nat.div_le_self k C) hk)
  have e2 : ((k % C : Nat) : Int) ≤ 9 := Int.ofNat_le.2 (Nat.le_trans (Nat.mod_le k C) hk)
  have e3 : (0 : Int) ≤ ((k / C : Nat) : Int) := Int.natCast_nonneg _
  have e4 : (0 : Int) ≤ ((k % C : Nat) : Int) := Int.natCast_nonneg _
  have hyv : y = ((k / C : Nat) : Int) + i := hy
  obtain ⟨L, hL⟩ : ∃ L : St → (PX → St → Res) → Res, L = ev ((env g (F + 4) n).cx Tryd.prog spec_l1Near.kl) spec_l1Near.lp1 := ⟨_, rfl⟩
  obtain ⟨q1, h1', b1, o1, k1⟩ := l1_step g (F + 4) n hn h2 h3 h4 hk (i, -1) ⟨hi.1, hi.2, (show (-1 : Int) ≤ -1 by decide), (show (-1 : Int) ≤ 1 by decide)⟩ y (((k % C : Nat) : Int) - 1) ((k % C : Nat) : Int) hy rfl (by omega) (kLoop L (F + 3) (spec_l1Near.K1 (env g (F + 4) n) K)) ho hb (by omega)
  have L1 := nearFrom_length R C k ([((i, -1) : Int × Int)].filter fun s => s.1 != s.2)
  have L1' : ([((i, -1) : Int × Int)].filter fun s => s.1 != s.2).length ≤ 1 := List.length_filter_le _ _
  obtain ⟨q2, h2', b2, o2, k2⟩ := l1_step g (F + 4) n hn h2 h3 h4 hk (i, 0) ⟨hi.1, hi.2, (show (-1 : Int) ≤ 0 by decide), (show (0 : Int) ≤ 1 by decide)⟩ y ((k % C : Nat) : Int) (((k % C : Nat) : Int) + 1) hy (by show _ = ((k % C : Nat) : Int) + 0; omega) rfl (kLoop L (F + 2) (spec_l1Near.K1 (env g (F + 4) n) K)) o1 (by have := k1.1; omega) (by rw [List.length_append]; omega)
  have L2 := nearFrom_length R C k ([((i, 0) : Int × Int)].filter fun s => s.1 != s.2)
  have L2' : ([((i, 0) : Int × Int)].filter fun s => s.1 != s.2).length ≤ 1 := List.length_filter_le _ _
  obtain ⟨q3, h3', b3, o3, k3⟩ := l1_step g (F + 4) n hn h2 h3 h4 hk (i, 1) ⟨hi.1, hi.2, (show (-1 : Int) ≤ 1 by decide), (show (1 : Int) ≤ 1 by decide)⟩ y (((k % C : Nat) : Int) + 1) (((k % C : Nat) : Int) + 2) hy rfl (by omega) (kLoop L (F + 1) (spec_l1Near.K1 (env g (F + 4) n) K)) o2 (by have := k1.1; have := k2.1; omega) (by rw [List.length_append, List.length_append]; omega)
  refine ⟨q3, h3', ?_, ?_, (k1.trans k2).trans k3⟩
  · have f1 : binP Tryd.prog .add 3 (.int .i64 ((k / C : Nat) : Int)) (.int .i64 1) = some (.int .i64 (((k / C : Nat) : Int) + 1)) := by rw [bin_add, wr (by omega)]
    have f2 : binP Tryd.prog .leq 3 (.int .i64 y) (.int .i64 (((k / C : Nat) : Int) + 1)) = some (.bool true) := by rw [bin_leq, decide_eq_true (by omega)]
    have f3 : binP Tryd.prog .sub 3 (.int .i64 ((k % C : Nat) : Int)) (.int .i64 1) = some (.int .i64 (((k % C : Nat) : Int) - 1)) := by rw [bin_sub, wr (by omega)]
    have f4 : binP Tryd.prog .add 3 (.int .i64 ((k % C : Nat) : Int)) (.int .i64 1) = some (.int .i64 (((k % C : Nat) : Int) + 1)) := by rw [bin_add, wr (by omega)]
    have f5 : binP Tryd.prog .leq 3 (.int .i64 (((k % C : Nat) : Int) + 2)) (.int .i64 (((k % C : Nat) : Int) + 1)) = some (.bool false) := by rw [bin_leq, decide_eq_false (by omega)]
    have f6 : binP Tryd.prog .add 3 (.int .i64 y) (.int .i64 1) = some (.int .i64 y') := by rw [bin_add, wr (by omega), hy']
    unfold spec_l1Near.body0
    refine bd f1 (bd f2 (cdT (bd f3 ?_)))
    rw [env_lf, loopK_succ, spec_l1Near.body1_eq, ← hL]
    rw [b1, kLoop_normal, loopK_succ, hL, spec_l1Near.body1_eq, ← hL, b2, kLoop_normal, loopK_succ, hL, spec_l1Near.body1_eq, ← hL, b3, kLoop_normal, loopK_succ, hL, spec_l1Near.body1_eq]
    unfold spec_l1Near.body1
    refine bd f4 (bd f5 (cdF ?_))
    rw [kLoop_exit, spec_l1Near.after1_se2_0_1_7_8_9_10_11_32]
    exact bd f6 rfl
  · have : rowSteps i = ([((i, -1) : Int × Int)].filter fun s => s.1 != s.2) ++ ([((i, 0) : Int × Int)].filter fun s => s.1 != s.2) ++ ([((i, 1) : Int × Int)].filter fun s => s.1 != s.2) := by
      unfold rowSteps
      rw [← List.filter_append, ← List.filter_append]; rfl
    rw [this, nearFrom_append, nearFrom_append, ← List.append_assoc, ← List.append_assoc]
    exact o3

theorem rowSteps_length (i : Int) : (rowSteps i).length ≤ 3 := List.length_filter_le _ _

theorem l1Near_calls (N : Nat) (hN : 2 ≤ N) (hlf : 20 < lf) {h : PHeap} {R C k : Nat} (h2 : R ≤ 4) (h3 : 1 ≤ C) (h4 : C ≤ 4) (hk : k ≤ 9) :
    ∃ q h', CL g lf N fn_spec_l1Near [.int .i64 (R : Int), .int .i64 (C : Int), .int .i64 (k : Int)] h = some (q, h') ∧ OwnSl h.length h' q (nearN R C k) ∧ Keep h.length h h' := by
  obtain ⟨n, rfl⟩ : ∃ n, N = n + 1 := ⟨N - 1, by omega⟩
  rw [spec_l1Near.call_eq]
  obtain ⟨F, rfl⟩ : ∃ F, lf = F + 4 := ⟨lf - 4, by omega⟩
  obtain ⟨q0, h0, e0, o0, k0⟩ := empty_lit (h := h)
  have e1 : ((k / C : Nat) : Int) ≤ 9 := Int.ofNat_le.2 (Nat.le_trans (Nat.div_le_self k C) hk)
  have e3 : (0 : Int) ≤ ((k / C : Nat) : Int) := Int.natCast_nonneg _
  obtain ⟨L, hL⟩ : ∃ L : St → (PX → St → Res) → Res, L = ev ((env g (F + 4) n).cx Tryd.prog spec_l1Near.kl) spec_l1Near.lp0 := ⟨_, rfl⟩
  obtain ⟨q1, h1', b1, o1, k1⟩ := l1_row g (F + 4) n (by omega) hlf h2 h3 h4 hk (-1) (by decide) (((k / C : Nat) : Int) - 1) ((k / C : Nat) : Int) rfl (by omega) (kLoop L (F + 3) (spec_l1Near.K0 (env g (F + 4) n) (kTop Tryd.prog Tryd.f45))) o0 k0.1 (by simp)
  have L1 := nearFrom_length R C k (rowSteps (-1))
  have L1' := rowSteps_length (-1)
  obtain ⟨q2, h2', b2, o2, k2⟩ := l1_row g (F + 4) n (by omega) hlf h2 h3 h4 hk 0 (by decide) ((k / C : Nat) : Int) (((k / C : Nat) : Int) + 1) (by show _ = ((k / C : Nat) : Int) + 0; omega) rfl (kLoop L (F + 2) (spec_l1Near.K0 (env g (F + 4) n) (kTop Tryd.prog Tryd.f45))) o1 (by have := k1.1; have := k0.1; omega) (by rw [List.length_append]; simp; omega)
  have L2 := nearFrom_length R C k (rowSteps 0)
  have L2' := rowSteps_length 0
  obtain ⟨q3, h3', b3, o3, k3⟩ := l1_row g (F + 4) n (by omega) hlf h2 h3 h4 hk 1 (by decide) (((k / C : Nat) : Int) + 1) (((k / C : Nat) : Int) + 2) rfl (by omega) (kLoop L (F + 1) (spec_l1Near.K0 (env g (F + 4) n) (kTop Tryd.prog Tryd.f45))) o2 (by have := k1.1; have := k0.1; have := k2.1; omega) (by rw [List.length_append, List.length_append]; simp; omega)
  refine ⟨q3, h3', ?_, ?_, ((k0.trans k1).trans k2).trans k3⟩
  · have f3 : binP Tryd.prog .sub 3 (.int .i64 ((k / C : Nat) : Int)) (.int .i64 1) = some (.int .i64 (((k / C : Nat) : Int) - 1)) := by rw [bin_sub, wr (by omega)]
    have f4 : binP Tryd.prog .add 3 (.int .i64 ((k / C : Nat) : Int)) (.int .i64 1) = some (.int .i64 (((k / C : Nat) : Int) + 1)) := by rw [bin_add, wr (by omega)]
    have f5 : binP Tryd.prog .leq 3 (.int .i64 (((k / C : Nat) : Int) + 2)) (.int .i64 (((k / C : Nat) : Int) + 1)) = some (.bool false) := by rw [bin_leq, decide_eq_false (by omega)]
    unfold spec_l1Near.main
    refine bd e0 (bd (f_quo k C h3 (by omega)) (bd (f_rem k C h3) (bd f3 ?_)))
    rw [env_lf, loopK_succ, spec_l1Near.body0_eq, ← hL]
    rw [b1, kLoop_normal, loopK_succ, hL, spec_l1Near.body0_eq, ← hL, b2, kLoop_normal, loopK_succ, hL, spec_l1Near.body0_eq, ← hL, b3, kLoop_normal, loopK_succ, hL, spec_l1Near.body0_eq]
    unfold spec_l1Near.body0
    refine bd f4 (bd f5 (cdF ?_))
    rw [kLoop_exit, spec_l1Near.after0_se0_0_1_7_8_9_10_24]
    exact bd o3.res rfl
  · unfold nearN
    rw [← rowSteps_all, nearFrom_append, nearFrom_append]
    simpa using o3

/-! ### hasInt -/
/-! ### the exact law -/
end Go.Proofs.YtpaehbfknlpkbaeDoor

/- Promises 2 and 8: neighbours are so both ways; all neighbours are counted by rows and columns. -/
set_option maxRecDepth 20000
namespace Go.Proofs.YtpaehbfknlpkbaeDoor
open Go Go.Ip G

/-! ### of all cells of all boards -/
def ascB : List Int → Bool
  | a :: b :: l => decide (a < b) && ascB (b :: l)
  | _ => true

def nearOk (R C K : Nat) : Bool :=
  (nearN R C K).all (fun e => decide (0 ≤ e ∧ e < ((R * C : Nat) : Int)) && decide (e ≠ (K : Int)) && decide ((K : Int) ∈ nearN R C e.toNat) && decide (((R * C : Nat) : Int) - 1 - e ∈ nearN R C (R * C - 1 - K))) &&
    ascB (nearN R C K) && decide ((nearN R C (R * C - 1 - K)).length = (nearN R C K).length)

theorem near_all : ((List.range 5).all fun R => (List.range 5).all fun C => (List.range 9).all fun K => !(decide (1 ≤ R ∧ 1 ≤ C ∧ R * C ≤ 9 ∧ K < R * C)) || nearOk R C K) = true := by kernel_rfl

theorem near_ok {R C K : Nat} (h1 : 1 ≤ R) (h2 : R ≤ 4) (h3 : 1 ≤ C) (h4 : C ≤ 4) (h9 : R * C ≤ 9) (hK : K < R * C) : nearOk R C K = true := by
  have := List.all_eq_true.1 near_all R (by rw [List.mem_range]; omega)
  have := List.all_eq_true.1 this C (by rw [List.mem_range]; omega)
  have := List.all_eq_true.1 this K (by rw [List.mem_range]; omega)
  rwa [decide_eq_true ⟨h1, h3, h9, hK⟩, Bool.not_true, Bool.false_or] at this

theorem nearN_length (R C i : Nat) : (nearN R C i).length ≤ 6 := nearFrom_length R C i steps
theorem nearL_cell {r c k : Int} {R C K : Nat} (h : CellOf r c k R C K) : nearL r c k = nearN R C K := by
  obtain ⟨rfl, rfl, rfl, h1, h2, h3, h4, h9, hK⟩ := h
  unfold nearL cellB boardB
  have e : ((R : Int) * (C : Int)) = ((R * C : Nat) : Int) := by rw [Int.natCast_mul]
  rw [decide_eq_true ⟨by omega, by omega, by omega, by omega, by omega⟩, decide_eq_true ⟨by omega, by omega⟩, Bool.true_and, if_pos rfl]; rfl

variable (g : Nat → PV) (lf n : Nat)

/-! ### promise 8 -/
end Go.Proofs.YtpaehbfknlpkbaeDoor

/- Promise 7 and the exact law on it: how far cells are from each other. -/
set_option maxRecDepth 20000
namespace Go.Proofs.YtpaehbfknlpkbaeDoor
open Go Go.Ip G

/-! ### sets of cells as numbers -/
theorem f_shr (a i : Nat) (hi : i ≤ 60) : binP Tryd.prog .shr 3 (.int .i64 (a : Int)) (.int .i64 (i : Int)) = some (.int .i64 ((a >>> i : Nat) : Int)) := by
  have h0 : ¬ ((i : Int) < 0) := by omega
  have hm : min ((i : Int).toNat) (IntKind.i64.bits) = i := by
    have : IntKind.i64.bits = 64 := rfl
    rw [this]; omega
  simp only [binP, shI, if_neg h0, hm]
  congr 2
  rw [Nat.shiftRight_eq_div_pow]
  have : ((2 : Int) ^ i) = ((2 ^ i : Nat) : Int) := by simp
  rw [this, ← Int.ofNat_fdiv]

theorem f_shl (i : Nat) (hi : i ≤ 30) : binP Tryd.prog .shl 3 (.int .i64 1) (.int .i64 (i : Int)) = some (.int .i64 ((1 <<< i : Nat) : Int)) := by
  have h0 : ¬ ((i : Int) < 0) := by omega
  have hm : min ((i : Int).toNat) (IntKind.i64.bits) = i := by
    have : IntKind.i64.bits = 64 := rfl
    rw [this]; omega
  simp only [binP, shI, if_neg h0, hm]
  congr 2
  rw [Nat.one_shiftLeft]
  have : ((2 : Int) ^ i) = ((2 ^ i : Nat) : Int) := by simp
  rw [Int.one_mul, this]
  have hle : 2 ^ i ≤ 2 ^ 30 := Nat.pow_le_pow_right (by decide) hi
  obtain ⟨z, hz⟩ : ∃ z : Nat, z = 2 ^ i := ⟨_, rfl⟩
  rw [← hz] at hle ⊢
  exact wr (by omega)

theorem natEq (y k : Nat) : ((y : Int) == (k : Int)) = decide (y = k) := by rw [Bool.eq_iff_iff, beq_iff_eq, decide_eq_true_iff, Int.ofNat_inj]

theorem f_and {a b : Nat} (ha : a < 2 ^ 62) (hb : b < 2 ^ 62) : binP Tryd.prog .and 3 (.int .i64 (a : Int)) (.int .i64 (b : Int)) = some (.int .i64 ((a &&& b : Nat) : Int)) := by
  have hz : a &&& b < 2 ^ 62 := Nat.and_lt_two_pow a hb
  have e : (BitVec.ofInt IntKind.i64.bits (a : Int) &&& BitVec.ofInt IntKind.i64.bits (b : Int)).toNat = a &&& b := by
    have hbits : IntKind.i64.bits = 64 := rfl
    rw [BitVec.toNat_and, BitVec.toNat_ofInt, BitVec.toNat_ofInt, hbits]
    congr 1 <;> omega
  have : binP Tryd.prog .and 3 (.int .i64 (a : Int)) (.int .i64 (b : Int)) = some (.int .i64 (IntKind.i64.wrap ((BitVec.ofInt IntKind.i64.bits (a : Int) &&& BitVec.ofInt IntKind.i64.bits (b : Int)).toNat : Int))) := by simp only [binP, binI, if_true]
  rw [this, e, wr (by omega)]

theorem f_or {a b : Nat} (ha : a < 2 ^ 62) (hb : b < 2 ^ 62) : binP Tryd.prog .or 3 (.int .i64 (a : Int)) (.int .i64 (b : Int)) = some (.int .i64 ((a ||| b : Nat) : Int)) := by
  have hz : a ||| b < 2 ^ 62 := Nat.or_lt_two_pow ha hb
  have e : (BitVec.ofInt IntKind.i64.bits (a : Int) ||| BitVec.ofInt IntKind.i64.bits (b : Int)).toNat = a ||| b := by
    have hbits : IntKind.i64.bits = 64 := rfl
    rw [BitVec.toNat_or, BitVec.toNat_ofInt, BitVec.toNat_ofInt, hbits]
    congr 1 <;> omega
  have : binP Tryd.prog .or 3 (.int .i64 (a : Int)) (.int .i64 (b : Int)) = some (.int .i64 (IntKind.i64.wrap ((BitVec.ofInt IntKind.i64.bits (a : Int) ||| BitVec.ofInt IntKind.i64.bits (b : Int)).toNat : Int))) := by simp only [binP, binI, if_true]
  rw [this, e, wr (by omega)]

def orAll (w : Nat) : List Int → Nat
  | [] => w
  | e :: l => orAll (w ||| (1 <<< e.toNat)) l
def wideFrom (R C S : Nat) : Nat → Nat → Nat → Nat
  | 0, _, w => w
  | m + 1, i, w => wideFrom R C S m (i + 1) (if (S >>> i) &&& 1 = 0 then w else orAll w (nearN R C i))
def wideN (R C S : Nat) : Nat := wideFrom R C S (R * C) 0 S
theorem shl_lt {i : Nat} (hi : i < 9) : 1 <<< i < 2 ^ 9 := by
  rw [Nat.one_shiftLeft]; exact Nat.pow_lt_pow_right (by decide) hi

theorem orAll_lt : ∀ (L : List Int) (w : Nat), (∀ e ∈ L, 0 ≤ e ∧ e < 9) → w < 2 ^ 9 → orAll w L < 2 ^ 9
  | [], w, _, hw => hw
  | e :: l, w, h, hw => by
    have he := h e (by simp)
    exact orAll_lt l _ (fun x hx => h x (by simp [hx])) (Nat.or_lt_two_pow hw (shl_lt (by omega)))

theorem near_in {R C K : Nat} (h1 : 1 ≤ R) (h2 : R ≤ 4) (h3 : 1 ≤ C) (h4 : C ≤ 4) (h9 : R * C ≤ 9) (hK : K < R * C) : ∀ e ∈ nearN R C K, 0 ≤ e ∧ e < ((R * C : Nat) : Int) := by
  intro e he
  have hok := near_ok h1 h2 h3 h4 h9 hK
  unfold nearOk at hok
  simp only [Bool.and_eq_true, decide_eq_true_eq] at hok
  have hall := List.all_eq_true.1 hok.1.1 e he
  simp only [Bool.and_eq_true, decide_eq_true_eq] at hall
  exact hall.1.1.1

theorem wideFrom_lt {R C S : Nat} (h1 : 1 ≤ R) (h2 : R ≤ 4) (h3 : 1 ≤ C) (h4 : C ≤ 4) (h9 : R * C ≤ 9) : ∀ (m i w : Nat), i + m = R * C → w < 2 ^ 9 → wideFrom R C S m i w < 2 ^ 9
  | 0, _, _, _, hw => hw
  | m + 1, i, w, him, hw => by
    rw [wideFrom]
    refine wideFrom_lt h1 h2 h3 h4 h9 m (i + 1) _ (by omega) ?_
    split
    · exact hw
    · exact orAll_lt _ _ (fun e he => by have := near_in h1 h2 h3 h4 h9 (show i < R * C by omega) e he; omega) hw

/-! ### what the model says -/
variable (g : Nat → PV) (lf n : Nat)

/-! ### the program -/
theorem wide_inner {L : List Int} {p : PV} {h : PHeap} (hp : IntSl .i64 h p L) (hL : ∀ e ∈ L, 0 ≤ e ∧ e < 9) (hl : L.length ≤ 10) (R C S : PV) (M : PV) (i : Nat) (hi : i ≤ 10) (K : PX → St → Res) : ∀ (m j fuel w : Nat), j + m = L.length → m < fuel → w < 2 ^ 9 →
    loopK (ev ((env g lf n).cx Tryd.prog impl_withNear.kl) impl_withNear.lp1) fuel (impl_withNear.st1 R C S (.int .i64 (w : Int)) M (.int .i64 (i : Int)) p (.int .i64 (L.length : Int)) (.int .i64 (j : Int)) h) (impl_withNear.K1 (env g lf n) K) =
      K .normal (impl_withNear.st0 R C S (.int .i64 (orAll w (L.drop j) : Int)) M (.int .i64 ((i + 1 : Nat) : Int)) h)
  | 0, j, fuel, w, hjm, hf, hw => by
    obtain ⟨f, rfl⟩ : ∃ f, fuel = f + 1 := ⟨fuel - 1, by omega⟩
    rw [loopK_succ, impl_withNear.body1_eq]
    have f1 : binP Tryd.prog .lss 3 (.int .i64 (j : Int)) (.int .i64 (L.length : Int)) = some (.bool false) := by rw [bin_lss, decide_eq_false (by omega)]
    have f2 : binP Tryd.prog .add 3 (.int .i64 (i : Int)) (.int .i64 1) = some (.int .i64 ((i + 1 : Nat) : Int)) := by rw [bin_add, nx (by omega)]
    have hd : L.drop j = [] := List.drop_eq_nil_of_le (by omega)
    unfold impl_withNear.body1
    refine bd f1 (cdF ?_)
    rw [kLoop_exit, impl_withNear.after1_se2_0_1_2_7_14_15_26_27_28_29, hd]
    exact bd f2 rfl
  | m + 1, j, fuel, w, hjm, hf, hw => by
    obtain ⟨f, rfl⟩ : ∃ f, fuel = f + 1 := ⟨fuel - 1, by omega⟩
    have hj : j < L.length := by omega
    obtain ⟨a, ha, hla⟩ := hp.at' hj
    have he := hL _ (List.getElem_mem hj)
    obtain ⟨E, hE⟩ := Int.eq_ofNat_of_zero_le he.1
    rw [hE] at hla
    have hE9 : E < 9 := by omega
    have ih := wide_inner hp hL hl R C S M i hi K m (j + 1) f (w ||| (1 <<< E)) (by omega) (by omega) (Nat.or_lt_two_pow hw (shl_lt hE9))
    have f1 : binP Tryd.prog .lss 3 (.int .i64 (j : Int)) (.int .i64 (L.length : Int)) = some (.bool true) := by rw [bin_lss, decide_eq_true (by omega)]
    have f2 := f_shl E (by omega)
    have f3 := f_or (a := w) (b := 1 <<< E) (by omega) (by have := shl_lt hE9; omega)
    have f4 : binP Tryd.prog .add 3 (.int .i64 (j : Int)) (.int .i64 1) = some (.int .i64 ((j + 1 : Nat) : Int)) := by rw [bin_add, nx (by omega)]
    have hdx : L.drop j = L[j] :: L.drop (j + 1) := List.drop_eq_getElem_cons hj
    rw [loopK_succ, impl_withNear.body1_eq, hdx, orAll, hE, show ((E : Int).toNat) = E from rfl]
    unfold impl_withNear.body1
    exact bd f1 (cdT (bd ha (bd hla (bd f2 (bd f3 (bd f4 ih))))))

theorem wide_loop {R C S : Nat} (h1 : 1 ≤ R) (h2 : R ≤ 4) (h3 : 1 ≤ C) (h4 : C ≤ 4) (h9 : R * C ≤ 9) (hS : S < 2 ^ 9) (hn : 4 ≤ n) (hlf : 20 < lf) : ∀ (m i fuel w : Nat) (h : PHeap), i + m = R * C → m < fuel → w < 2 ^ 9 → Tab g h →
    ∃ h', loopK (ev ((env g lf n).cx Tryd.prog impl_withNear.kl) impl_withNear.lp0) fuel (impl_withNear.st0 (.int .i64 (R : Int)) (.int .i64 (C : Int)) (.int .i64 (S : Int)) (.int .i64 (w : Int)) (.int .i64 ((R * C : Nat) : Int)) (.int .i64 (i : Int)) h) (impl_withNear.K0 (env g lf n) (kTop Tryd.prog Tryd.f36)) = some (.int .i64 (wideFrom R C S m i w : Int), h') ∧ Keep h.length h h'
  | 0, i, fuel, w, h, him, hf, hw, ht => by
    obtain ⟨f, rfl⟩ : ∃ f, fuel = f + 1 := ⟨fuel - 1, by omega⟩
    refine ⟨h, ?_, Keep.refl _ _⟩
    rw [loopK_succ, impl_withNear.body0_eq]
    have f1 : binP Tryd.prog .lss 3 (.int .i64 (i : Int)) (.int .i64 ((R * C : Nat) : Int)) = some (.bool false) := by rw [bin_lss, decide_eq_false (by omega)]
    unfold impl_withNear.body0
    refine bd f1 (cdF ?_)
    rw [kLoop_exit, impl_withNear.after0_se0_0_1_2_7_14_15_16]
    exact bd res_int rfl
  | m + 1, i, fuel, w, h, him, hf, hw, ht => by
    obtain ⟨f, rfl⟩ : ∃ f, fuel = f + 1 := ⟨fuel - 1, by omega⟩
    have f1 : binP Tryd.prog .lss 3 (.int .i64 (i : Int)) (.int .i64 ((R * C : Nat) : Int)) = some (.bool true) := by rw [bin_lss, decide_eq_true (by omega)]
    have f2 := f_shr S i (by omega)
    have hsh : S >>> i < 2 ^ 62 := by
      have : S >>> i ≤ S := by rw [Nat.shiftRight_eq_div_pow]; exact Nat.div_le_self _ _
      omega
    have f3 := f_and (a := S >>> i) (b := 1) hsh (by decide)
    have f4 : binP Tryd.prog .eql 3 (.int .i64 ((S >>> i &&& 1 : Nat) : Int)) (.int .i64 0) = some (.bool (decide (S >>> i &&& 1 = 0))) := by
      rw [bin_eql]; exact congrArg (fun z => some (PV.bool z)) (natEq _ 0)
    have f5 : binP Tryd.prog .add 3 (.int .i64 (i : Int)) (.int .i64 1) = some (.int .i64 ((i + 1 : Nat) : Int)) := by rw [bin_add, nx (by omega)]
    rw [wideFrom]
    by_cases hb : S >>> i &&& 1 = 0
    · rw [if_pos hb]
      rw [decide_eq_true hb] at f4
      obtain ⟨h', ih, k⟩ := wide_loop h1 h2 h3 h4 h9 hS hn hlf m (i + 1) f w h (by omega) (by omega) hw ht
      refine ⟨h', ?_, k⟩
      rw [loopK_succ, impl_withNear.body0_eq]
      unfold impl_withNear.body0
      exact bd f1 (cdT (bd f2 (bd f3 (bd f4 (cdT (bd f5 ih))))))
    · rw [if_neg hb]
      rw [decide_eq_false hb] at f4
      obtain ⟨q', h1', eN, oN, kN⟩ := nearCells_calls g lf n hn hlf ht (R : Int) (C : Int) (i : Int)
      rw [nearL_cell (⟨rfl, rfl, rfl, h1, h2, h3, h4, h9, by omega⟩ : CellOf (R : Int) (C : Int) (i : Int) R C i)] at oN
      have hl := nearN_length R C i
      have hin : ∀ e ∈ nearN R C i, 0 ≤ e ∧ e < 9 := fun e he => by have := near_in h1 h2 h3 h4 h9 (show i < R * C by omega) e he; omega
      obtain ⟨h', ih, k⟩ := wide_loop h1 h2 h3 h4 h9 hS hn hlf m (i + 1) f (orAll w (nearN R C i)) h1' (by omega) (by omega) (orAll_lt _ _ hin hw) (ht.keep kN)
      have inner := wide_inner g lf n oN.int hin (by omega) (.int .i64 (R : Int)) (.int .i64 (C : Int)) (.int .i64 (S : Int)) (.int .i64 ((R * C : Nat) : Int)) i (by omega) (kLoop (ev ((env g lf n).cx Tryd.prog impl_withNear.kl) impl_withNear.lp0) f (impl_withNear.K0 (env g lf n) (kTop Tryd.prog Tryd.f36))) (nearN R C i).length 0 lf w (by omega) (by omega) hw
      rw [List.drop_zero] at inner
      refine ⟨h', ?_, kN.trans (k.mono kN.1)⟩
      rw [loopK_succ, impl_withNear.body0_eq]
      unfold impl_withNear.body0
      exact bd f1 (cdT (bd f2 (bd f3 (bd f4 (cdF (bd eN (bd oN.int.len' (inner.trans ih))))))))

theorem withNear_calls {R C S : Nat} (h1 : 1 ≤ R) (h2 : R ≤ 4) (h3 : 1 ≤ C) (h4 : C ≤ 4) (h9 : R * C ≤ 9) (hS : S < 2 ^ 9) (N : Nat) (hN : 5 ≤ N) (hlf : 20 < lf) {h : PHeap} (ht : Tab g h) :
    ∃ h', CL g lf N fn_impl_withNear [.int .i64 (R : Int), .int .i64 (C : Int), .int .i64 (S : Int)] h = some (.int .i64 (wideN R C S : Int), h') ∧ Keep h.length h h' := by
  obtain ⟨n, rfl⟩ : ∃ n, N = n + 1 := ⟨N - 1, by omega⟩
  rw [impl_withNear.call_eq]
  obtain ⟨h', e, k⟩ := wide_loop g lf n h1 h2 h3 h4 h9 hS (by omega) hlf (R * C) 0 lf S h (by omega) (by omega) hS ht
  refine ⟨h', ?_, k⟩
  unfold impl_withNear.main
  exact bd (f_mul R C (by omega)) e

end Go.Proofs.YtpaehbfknlpkbaeDoor

/- Sets of cells as bits: what grows, what is reached, and at what cost. No program text. -/
set_option maxRecDepth 20000
namespace Go.Proofs.YtpaehbfknlpkbaeDoor

theorem bit_iff (x k : Nat) : x >>> k % 2 = 1 ↔ x.testBit k = true := by
  rw [Nat.testBit_eq_decide_div_mod_eq, Nat.shiftRight_eq_div_pow, decide_eq_true_iff]

/-- Cell j is beside cell k: the masks tell the neighbours of each cell. -/
def Adj (M : List Nat) (k j : Nat) : Prop := (M.getD k 0).testBit j = true

inductive Reach (M : List Nat) (set fr : Nat) : Nat → Prop
  | start {j} (h : fr.testBit j = true) (hs : set.testBit j = true) : Reach M set fr j
  | step {k j} (h : Reach M set fr k) (ha : Adj M k j) (hs : set.testBit j = true) : Reach M set fr j

theorem Reach.inSet {M : List Nat} {set fr j : Nat} (h : Reach M set fr j) : set.testBit j = true := by
  cases h <;> assumption

theorem Reach.mono {M : List Nat} {set fr set' fr' : Nat} (hs : ∀ j, set.testBit j = true → set'.testBit j = true) (hf : ∀ j, fr.testBit j = true → fr'.testBit j = true) {j : Nat} (h : Reach M set fr j) : Reach M set' fr' j := by
  induction h with
  | start h h' => exact .start (hf _ h) (hs _ h')
  | step _ ha h' ih => exact .step ih ha (hs _ h')

theorem Reach.trans {M : List Nat} {set fr fr' : Nat} (hf : ∀ j, fr'.testBit j = true → Reach M set fr j) {j : Nat} (h : Reach M set fr' j) : Reach M set fr j := by
  induction h with
  | start h _ => exact hf _ h
  | step _ ha h' ih => exact .step ih ha h'

theorem one_bit (k j : Nat) : (1 <<< k).testBit j = decide (j = k) := by
  rw [Nat.one_shiftLeft, Nat.testBit_two_pow]
  by_cases h : j = k
  · subst h; simp
  · simp [h]; exact fun e => h e.symm

/-- From one cell to another, and back. -/
theorem Reach.back {M : List Nat} (sym : ∀ k j, Adj M k j → Adj M j k) {set a b : Nat} (ha : set.testBit a = true) (h : Reach M set (1 <<< a) b) : Reach M set (1 <<< b) a := by
  induction h with
  | @start j h _ =>
    rw [one_bit] at h
    have : j = a := of_decide_eq_true h
    subst this
    exact .start (by rw [one_bit]; simp) ha
  | @step k j _ hk hj ih =>
    refine ih.trans fun i hi => ?_
    rw [one_bit] at hi
    have : i = k := of_decide_eq_true hi
    subst this
    rename_i hk'
    exact .step (.start (by rw [one_bit]; simp) hj) (sym _ _ hk) hk'.inSet

/-! ### growing -/
def stepFrom (set now : Nat) : Nat → List Nat → Nat → Nat
  | _, [], nx => nx
  | k, m :: ms, nx => stepFrom set now (k + 1) ms (if now >>> k % 2 = 1 then nx ||| (m &&& set) else nx)

theorem stepFrom_le (set now : Nat) : ∀ (ms : List Nat) (k nx : Nat), nx ≤ stepFrom set now k ms nx
  | [], _, _ => Nat.le_refl _
  | m :: ms, k, nx => by
    rw [stepFrom]
    refine Nat.le_trans ?_ (stepFrom_le set now ms (k + 1) _)
    split
    · exact Nat.left_le_or
    · exact Nat.le_refl _

theorem stepFrom_bit (set now : Nat) (j : Nat) : ∀ (ms : List Nat) (k nx : Nat), (stepFrom set now k ms nx).testBit j = true ↔ nx.testBit j = true ∨ ∃ i, now.testBit (k + i) = true ∧ (ms.getD i 0).testBit j = true ∧ set.testBit j = true
  | [], k, nx => by simp [stepFrom]
  | m :: ms, k, nx => by
    rw [stepFrom, stepFrom_bit set now j ms (k + 1)]
    have hsplit : (∃ i, now.testBit (k + i) = true ∧ ((m :: ms).getD i 0).testBit j = true ∧ set.testBit j = true) ↔ (now.testBit k = true ∧ m.testBit j = true ∧ set.testBit j = true) ∨ ∃ i, now.testBit (k + 1 + i) = true ∧ (ms.getD i 0).testBit j = true ∧ set.testBit j = true := by
      constructor
      · rintro ⟨i, h⟩
        cases i with
        | zero => exact .inl (by simpa using h)
        | succ i => exact .inr ⟨i, by rw [show k + 1 + i = k + (i + 1) by omega]; simpa using h⟩
      · rintro (h | ⟨i, h⟩)
        · exact ⟨0, by simpa using h⟩
        · exact ⟨i + 1, by rw [show k + (i + 1) = k + 1 + i by omega]; simpa using h⟩
    rw [hsplit]
    by_cases hb : now >>> k % 2 = 1
    · rw [if_pos hb, Nat.testBit_or, Nat.testBit_and]
      have hb' := (bit_iff now k).1 hb
      simp [hb', or_assoc]
    · rw [if_neg hb]
      have hb' : ¬ now.testBit k = true := fun h => hb ((bit_iff now k).2 h)
      simp [hb']

def growF (M : List Nat) (set : Nat) : Nat → Nat → Nat
  | 0, now => now
  | f + 1, now => if stepFrom set now 0 M now = now then now else growF M set f (stepFrom set now 0 M now)
def growN (M : List Nat) (set fr : Nat) : Nat := growF M set 600 (fr &&& set)

theorem sub_and {a b : Nat} (h : ∀ j, a.testBit j = true → b.testBit j = true) : a &&& b = a := by
  apply Nat.eq_of_testBit_eq
  intro j
  rw [Nat.testBit_and]
  cases e : a.testBit j with
  | false => rfl
  | true => rw [h j e]; rfl

theorem sub_le {a b : Nat} (h : ∀ j, a.testBit j = true → b.testBit j = true) : a ≤ b := by
  rw [← sub_and h]; exact Nat.and_le_right

theorem step_sub {M : List Nat} {set now : Nat} (h : ∀ j, now.testBit j = true → set.testBit j = true) : ∀ j, (stepFrom set now 0 M now).testBit j = true → set.testBit j = true := by
  intro j hj
  rcases (stepFrom_bit set now j M 0 now).1 hj with hj | ⟨_, _, _, hj⟩
  · exact h j hj
  · exact hj

theorem growF_fix {M : List Nat} {set : Nat} : ∀ (f now : Nat), (∀ j, now.testBit j = true → set.testBit j = true) → set < now + f → stepFrom set (growF M set f now) 0 M (growF M set f now) = growF M set f now ∧ (∀ j, now.testBit j = true → (growF M set f now).testBit j = true)
  | 0, now, hs, hf => by have := sub_le hs; omega
  | f + 1, now, hs, hf => by
    rw [growF]
    split
    · rename_i h; exact ⟨h, fun _ h => h⟩
    · rename_i h
      have hle := stepFrom_le set now M 0 now
      have ih := growF_fix (M := M) f (stepFrom set now 0 M now) (step_sub hs) (by omega)
      exact ⟨ih.1, fun j hj => ih.2 j ((stepFrom_bit set now j M 0 now).2 (.inl hj))⟩

theorem growF_reach {M : List Nat} {set fr : Nat} : ∀ (f now : Nat), (∀ j, now.testBit j = true → Reach M set fr j) → ∀ j, (growF M set f now).testBit j = true → Reach M set fr j
  | 0, now, hs, j, hj => hs j hj
  | f + 1, now, hs, j, hj => by
    rw [growF] at hj
    split at hj
    · exact hs j hj
    · refine growF_reach f _ (fun i hi => ?_) j hj
      rcases (stepFrom_bit set now i M 0 now).1 hi with hi | ⟨k, h1, h2, h3⟩
      · exact hs i hi
      · rw [Nat.zero_add] at h1
        exact .step (hs k h1) h2 h3

theorem grow_bit {M : List Nat} {set fr : Nat} (hset : set < 2 ^ 9) (j : Nat) : (growN M set fr).testBit j = true ↔ Reach M set fr j := by
  have hsub : ∀ j, (fr &&& set).testBit j = true → set.testBit j = true := fun j hj => by rw [Nat.testBit_and, Bool.and_eq_true] at hj; exact hj.2
  constructor
  · refine growF_reach 600 _ (fun i hi => ?_) j
    rw [Nat.testBit_and, Bool.and_eq_true] at hi
    exact .start hi.1 hi.2
  · obtain ⟨hfix, hin⟩ := growF_fix (M := M) 600 (fr &&& set) hsub (by omega)
    intro h
    induction h with
    | start h hs => exact hin _ (by rw [Nat.testBit_and, h, hs]; rfl)
    | @step k j _ ha hs ih =>
      unfold growN at ih ⊢
      rw [← hfix]
      exact (stepFrom_bit set _ j M 0 _).2 (.inr ⟨k, by rw [Nat.zero_add]; exact ih, ha, hs⟩)

theorem grow_lt {M : List Nat} {set fr : Nat} (hset : set < 2 ^ 9) : growN M set fr < 2 ^ 9 :=
  Nat.lt_of_le_of_lt (sub_le fun j hj => ((grow_bit hset j).1 hj).inSet) hset

/-! ### at what cost -/
/-- Cell j is reached from the edge over own cells and at most k free ones. -/
inductive Cost (M : List Nat) (edge own free : Nat) : Nat → Nat → Prop
  | ownEdge {k j} (h : edge.testBit j = true) (ho : own.testBit j = true) : Cost M edge own free k j
  | freeEdge {k j} (h : edge.testBit j = true) (hf : free.testBit j = true) : Cost M edge own free (k + 1) j
  | ownStep {k i j} (h : Cost M edge own free k i) (ha : Adj M i j) (ho : own.testBit j = true) : Cost M edge own free k j
  | freeStep {k i j} (h : Cost M edge own free k i) (ha : Adj M i j) (hf : free.testBit j = true) : Cost M edge own free (k + 1) j

theorem Cost.more {M : List Nat} {edge own free k j : Nat} (h : Cost M edge own free k j) : Cost M edge own free (k + 1) j := by
  induction h with
  | ownEdge h ho => exact .ownEdge h ho
  | freeEdge h hf => exact .freeEdge h hf
  | ownStep _ ha ho ih => exact .ownStep ih ha ho
  | freeStep _ ha hf ih => exact .freeStep ih ha hf

/-- Own cells more, free cells that are now own: no dearer. -/
theorem Cost.mono {M : List Nat} {edge own free own' free' : Nat} (ho : ∀ j, own.testBit j = true → own'.testBit j = true) (hf : ∀ j, free.testBit j = true → own'.testBit j = true ∨ free'.testBit j = true) {k j : Nat} (h : Cost M edge own free k j) : Cost M edge own' free' k j := by
  induction h with
  | ownEdge h h' => exact .ownEdge h (ho _ h')
  | freeEdge h h' =>
    rcases hf _ h' with h' | h'
    · exact .ownEdge h h'
    · exact .freeEdge h h'
  | ownStep _ ha h' ih => exact .ownStep ih ha (ho _ h')
  | freeStep _ ha h' ih =>
    rcases hf _ h' with h' | h'
    · exact (Cost.ownStep ih ha h').more
    · exact .freeStep ih ha h'

/-- One own cell more, at c, makes it cheaper by one at most. -/
theorem Cost.less {M : List Nat} {edge own free own' free' c : Nat} (hc : free.testBit c = true) (ho : ∀ j, own'.testBit j = true → own.testBit j = true ∨ j = c) (hf : ∀ j, free'.testBit j = true → free.testBit j = true) {k j : Nat} (h : Cost M edge own' free' k j) :
    Cost M edge own free k j ∨ (Cost M edge own free (k + 1) j ∧ Cost M edge own free (k + 1) c) := by
  induction h with
  | ownEdge h h' =>
    rcases ho _ h' with h' | rfl
    · exact .inl (.ownEdge h h')
    · exact .inr ⟨.freeEdge h hc, .freeEdge h hc⟩
  | freeEdge h h' => exact .inl (.freeEdge h (hf _ h'))
  | ownStep _ ha h' ih =>
    rcases ho _ h' with h' | rfl
    · rcases ih with ih | ⟨ih, ih2⟩
      · exact .inl (.ownStep ih ha h')
      · exact .inr ⟨.ownStep ih ha h', ih2⟩
    · rcases ih with ih | ⟨_, ih2⟩
      · exact .inr ⟨.freeStep ih ha hc, .freeStep ih ha hc⟩
      · exact .inr ⟨ih2, ih2⟩
  | freeStep _ ha h' ih =>
    rcases ih with ih | ⟨ih, ih2⟩
    · exact .inl (.freeStep ih ha (hf _ h'))
    · exact .inr ⟨.freeStep ih ha (hf _ h'), ih2.more⟩

/-- What is dear by one more is so by some free cell: with that one own it is not. -/
theorem Cost.cell {M : List Nat} {edge own free k j : Nat} (h : Cost M edge own free (k + 1) j) :
    Cost M edge own free k j ∨ ∃ c, free.testBit c = true ∧ ∀ own' free', (∀ j, own.testBit j = true → own'.testBit j = true) → own'.testBit c = true → (∀ j, free.testBit j = true → own'.testBit j = true ∨ free'.testBit j = true) → Cost M edge own' free' k j := by
  generalize hk : k + 1 = k' at h
  induction h generalizing k with
  | ownEdge h h' => exact .inl (.ownEdge h h')
  | @freeEdge k0 j h h' => exact .inr ⟨j, h', fun own' free' _ hc _ => .ownEdge h hc⟩
  | ownStep _ ha h' ih =>
    rcases ih hk with ih | ⟨c, hc, ih⟩
    · exact .inl (.ownStep ih ha h')
    · exact .inr ⟨c, hc, fun own' free' ho hoc hf => .ownStep (ih own' free' ho hoc hf) ha (ho _ h')⟩
  | @freeStep k0 i j h0 ha h' _ =>
    obtain rfl : k = k0 := by omega
    exact .inr ⟨j, h', fun own' free' ho hoc hf => .ownStep (h0.mono ho hf) ha hoc⟩

end Go.Proofs.YtpaehbfknlpkbaeDoor

/- Gaps: waves of cost tell the least number of free cells. No program text. -/
set_option maxRecDepth 20000
namespace Go.Proofs.YtpaehbfknlpkbaeDoor

/-- The last side is reached at cost k. -/
def Hits (M : List Nat) (own free edge last k : Nat) : Prop := ∃ j, last.testBit j = true ∧ Cost M edge own free k j
def IsGap (M : List Nat) (own free edge last k : Nat) : Prop := Hits M own free edge last k ∧ ∀ i, i < k → ¬ Hits M own free edge last i

theorem IsGap.unique {M : List Nat} {own free edge last k k' : Nat} (h : IsGap M own free edge last k) (h' : IsGap M own free edge last k') : k = k' := by
  rcases Nat.lt_trichotomy k k' with hlt | e | hgt
  · exact absurd h.1 (h'.2 k hlt)
  · exact e
  · exact absurd h'.1 (h.2 k' hgt)

theorem and_zero {a b : Nat} : a &&& b = 0 ↔ ∀ j, a.testBit j = true → b.testBit j = true → False := by
  constructor
  · intro h j ha hb
    have := congrArg (fun x => x.testBit j) h
    simp [Nat.testBit_and, ha, hb] at this
  · intro h
    apply Nat.eq_of_testBit_eq
    intro j
    rw [Nat.testBit_and, Nat.zero_testBit]
    cases ha : a.testBit j with
    | false => rfl
    | true =>
      cases hb : b.testBit j with
      | false => rfl
      | true => exact (h j ha hb).elim

/-- What is taken away. -/
def without (x c : Nat) : Nat := x ^^^ (x &&& (1 <<< c))
theorem without_bit (x c j : Nat) : (without x c).testBit j = (x.testBit j && decide (j ≠ c)) := by
  unfold without
  rw [Nat.testBit_xor, Nat.testBit_and, one_bit]
  by_cases h : j = c
  · subst h; simp
  · simp [h]
theorem with_bit (x c j : Nat) : (x ||| (1 <<< c)).testBit j = (x.testBit j || decide (j = c)) := by rw [Nat.testBit_or, one_bit]

section
variable {M : List Nat} {own free edge last : Nat}

end

/-! ### how many -/
def pop (x : Nat) : Nat := (List.range 9).countP fun j => x.testBit j

theorem countP_lt {α : Type} {p q : α → Bool} : ∀ {l : List α} {c : α}, (∀ x ∈ l, q x = true → p x = true) → c ∈ l → p c = true → q c = false → l.countP q + 1 ≤ l.countP p
  | [], _, _, hc, _, _ => by simp at hc
  | x :: l, c, hpq, hc, hp, hq => by
    rw [List.countP_cons, List.countP_cons]
    have hle : l.countP q ≤ l.countP p := List.countP_mono_left fun y hy h => hpq y (by simp [hy]) h
    rcases List.mem_cons.1 hc with rfl | hc
    · simp [hp, hq]; omega
    · have ih := countP_lt (fun y hy h => hpq y (by simp [hy]) h) hc hp hq
      by_cases hqx : q x = true
      · have := hpq x (by simp) hqx
        simp [hqx, this]; omega
      · simp [hqx]; omega

theorem bit_small {x n j : Nat} (hx : x < 2 ^ n) (h : x.testBit j = true) : j < n := by
  rcases Nat.lt_or_ge j n with hlt | hge
  · exact hlt
  · rw [Nat.testBit_lt_two_pow (Nat.lt_of_lt_of_le hx (Nat.pow_le_pow_right (by decide) hge))] at h; cases h

theorem pop_without {x c : Nat} (hx : x < 2 ^ 9) (hc : x.testBit c = true) : pop (without x c) + 1 ≤ pop x :=
  countP_lt (c := c) (fun j _ h => by rw [without_bit, Bool.and_eq_true] at h; exact h.1) (by rw [List.mem_range]; exact bit_small hx hc) hc (by rw [without_bit]; simp)

theorem pop_le {n x : Nat} (hn : n ≤ 9) (hx : x < 2 ^ n) : pop x ≤ n := by
  unfold pop
  have : (List.range 9).countP (fun j => x.testBit j) ≤ (List.range 9).countP (fun j => decide (j < n)) :=
    List.countP_mono_left fun j _ h => decide_eq_true (bit_small hx h)
  refine Nat.le_trans this ?_
  have : n = 0 ∨ n = 1 ∨ n = 2 ∨ n = 3 ∨ n = 4 ∨ n = 5 ∨ n = 6 ∨ n = 7 ∨ n = 8 ∨ n = 9 := by omega
  rcases this with rfl | rfl | rfl | rfl | rfl | rfl | rfl | rfl | rfl | rfl <;> decide

/-! ### the waves -/
section
variable {M : List Nat} {own free edge last : Nat}

end

end Go.Proofs.YtpaehbfknlpkbaeDoor

