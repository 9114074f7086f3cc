/- Texts of this seat, in their order, put together by program. -/
import Derived.Test.YtpaehbfknlpkbaaDoorK8
import Derived.IntWalk
import Derived.Test.YtpaehbfknlpkbaaDoorProg
import Derived.KernelRfl
set_option linter.unusedSimpArgs false
set_option linter.unusedVariables false
set_option linter.unusedSectionVars false
/- What the operations come to on values that are written out: rules for the simplifier; and the types of this program. -/
set_option maxRecDepth 20000
namespace Go.Proofs.YtpaehbfknlpkbaaDoor
open Go Go.Ip

section
variable {P : Program} {t : TypeId} {k : IntKind} {a b : Int} {h : PHeap}

@[simp] theorem bin_add : binP P .add t (.int k a) (.int k b) = some (.int k (k.wrap (a + b))) := by simp [binP, binI]
@[simp] theorem bin_sub : binP P .sub t (.int k a) (.int k b) = some (.int k (k.wrap (a - b))) := by simp [binP, binI]
@[simp] theorem bin_mul : binP P .mul t (.int k a) (.int k b) = some (.int k (k.wrap (a * b))) := by simp [binP, binI]
theorem bin_quo (hb : b ≠ 0) : binP P .quo t (.int k a) (.int k b) = some (.int k (k.wrap (a.tdiv b))) := by simp [binP, binI, hb]
theorem bin_rem (hb : b ≠ 0) : binP P .rem t (.int k a) (.int k b) = some (.int k (a.tmod b)) := by simp [binP, binI, hb]
@[simp] theorem bin_eql : binP P .eql t (.int k a) (.int k b) = some (.bool (a == b)) := by simp [binP, binI]
@[simp] theorem bin_neq : binP P .neq t (.int k a) (.int k b) = some (.bool (a != b)) := by simp [binP, binI]
@[simp] theorem bin_lss : binP P .lss t (.int k a) (.int k b) = some (.bool (decide (a < b))) := by simp [binP, binI]
@[simp] theorem bin_leq : binP P .leq t (.int k a) (.int k b) = some (.bool (decide (a ≤ b))) := by simp [binP, binI]
@[simp] theorem bin_gtr : binP P .gtr t (.int k a) (.int k b) = some (.bool (decide (b < a))) := by simp [binP, binI]
@[simp] theorem bin_geq : binP P .geq t (.int k a) (.int k b) = some (.bool (decide (b ≤ a))) := by simp [binP, binI]
@[simp] theorem un_not {x : Bool} : unP .not (.bool x) = some (.bool (!x)) := rfl
@[simp] theorem un_neg : unP .neg (.int k a) = some (.int k (k.wrap (0 - a))) := rfl
@[simp] theorem pick_bool {x : Bool} {u v : PV} : pickP (.bool x) u v = some (bif x then u else v) := rfl
@[simp] theorem want_bool {x y : Bool} : wantV (.bool x) y = some (x == y) := rfl
@[simp] theorem want_undef {y : Bool} : wantV (.tup []) y = some false := rfl
@[simp] theorem cond_bool {x : Bool} {u v : Res} : condP (.bool x) u v = bif x then u else v := rfl
@[simp] theorem res_int : resV (.int k a) = some (.int k a) := rfl
@[simp] theorem res_bool {x : Bool} : resV (.bool x) = some (.bool x) := rfl
@[simp] theorem res_sl {i o l : Nat} : resV (.sl i o l) = some (.sl i o l) := rfl
@[simp] theorem res_nilsl : resV .nilsl = some .nilsl := rfl
@[simp] theorem res_ptr {i o : Nat} : resV (.ptr i o) = some (.ptr i o) := rfl
@[simp] theorem pv_some' {v : PV} : pv h (some v) = some (v, h) := rfl
@[simp] theorem ptr_ptr {i o : Nat} : ptrP (.ptr i o) = some (.ptr i o) := rfl
@[simp] theorem extract_tup {l : List PV} {i : Nat} : extractP (.tup l) i = l[i]? := rfl
@[simp] theorem fold_nil {f : PV → PV → Option PV} {x : PV} : foldP f x [] = some x := rfl
@[simp] theorem fold_cons {f : PV → PV → Option PV} {x y : PV} {ys : List PV} : foldP f x (y :: ys) = (f x y).bind fun z => foldP f z ys := rfl
@[simp] theorem max2_int {k' : IntKind} : maxP2 (.int k a) (.int k' b) = some (.int k (if b > a then b else a)) := rfl
@[simp] theorem min2_int {k' : IntKind} : minP2 (.int k a) (.int k' b) = some (.int k (if b < a then b else a)) := rfl
theorem wr {x : Int} (hx : -9223372036854775808 ≤ x ∧ x ≤ 9223372036854775807) : IntKind.i64.wrap x = x := by rw [IntKind.wrap_i64]; omega

theorem bin_eqlB {x y : Bool} (ht : isBoolT P t = true) : binP P .eql t (.bool x) (.bool y) = some (.bool (x == y)) := by simp [binP, ht]
theorem bin_neqB {x y : Bool} (ht : isBoolT P t = true) : binP P .neq t (.bool x) (.bool y) = some (.bool (!(x == y))) := by simp [binP, ht]
end

@[simp] theorem ty_bool : isBoolT Tryd.prog 4 = true := by kernel_rfl
@[simp] theorem neqB {x y : Bool} : binP Tryd.prog .neq 4 (.bool x) (.bool y) = some (.bool (!(x == y))) := bin_neqB ty_bool
@[simp] theorem eqlB {x y : Bool} : binP Tryd.prog .eql 4 (.bool x) (.bool y) = some (.bool (x == y)) := bin_eqlB ty_bool

end Go.Proofs.YtpaehbfknlpkbaaDoor

/- Slices of integers on the interpreter's heap: how they are read, made, written and appended to. -/
set_option maxRecDepth 20000
namespace Go.Proofs.YtpaehbfknlpkbaaDoor
open Go Go.Ip G

def kLoop (f : St → (PX → St → Res) → Res) (n : Nat) (k : PX → St → Res) : PX → St → Res := fun x s => match x with | .normal => loopK f n s k | x => k x s
theorem loopK_succ (f : St → (PX → St → Res) → Res) (n : Nat) (s : St) (k : PX → St → Res) : loopK f (n + 1) s k = f s (kLoop f n k) := rfl
@[simp] theorem kLoop_normal (f : St → (PX → St → Res) → Res) (n : Nat) (s : St) (k : PX → St → Res) : kLoop f n k .normal s = loopK f n s k := rfl
@[simp] theorem kLoop_exit (f : St → (PX → St → Res) → Res) (n i : Nat) (s : St) (k : PX → St → Res) : kLoop f n k (.exit i) s = k (.exit i) s := rfl
@[simp] theorem kLoop_ret (f : St → (PX → St → Res) → Res) (n : Nat) (s : St) (k : PX → St → Res) : kLoop f n k .ret s = k .ret s := rfl

/-- The first n objects are as they were. -/
def Keep (n : Nat) (h h' : PHeap) : Prop := h.length ≤ h'.length ∧ ∀ i, i < n → h'[i]? = h[i]?

theorem Keep.refl (n : Nat) (h : PHeap) : Keep n h h := ⟨Nat.le_refl _, fun _ _ => rfl⟩
theorem Keep.trans {n : Nat} {a b c : PHeap} (h : Keep n a b) (k : Keep n b c) : Keep n a c := ⟨Nat.le_trans h.1 k.1, fun i hi => (k.2 i hi).trans (h.2 i hi)⟩
theorem Keep.mono {n m : Nat} {a b : PHeap} (h : Keep n a b) (hm : m ≤ n) : Keep m a b := ⟨h.1, fun i hi => h.2 i (by omega)⟩
theorem Keep.append (n : Nat) (h E : PHeap) (hn : n ≤ h.length) : Keep n h (h ++ E) := ⟨by simp, fun i hi => List.getElem?_append_left (by omega)⟩
theorem Keep.set (n : Nat) (h : PHeap) (i : Nat) (o : PObj) (hi : n ≤ i) : Keep n h (h.set i o) := ⟨by simp, fun j hj => List.getElem?_set_ne (by omega)⟩

theorem cellsAt_keep {n : Nat} {h h' : PHeap} (k : Keep n h h') {id : Nat} (hi : id < n) : cellsAt h' id = cellsAt h id := by
  unfold cellsAt; rw [k.2 id hi]

theorem lt_of_cell {h : PHeap} {id j : Nat} {v : PV} (hv : (cellsAt h id)[j]? = some v) : id < h.length := by
  unfold cellsAt at hv
  cases ho : h[id]? with
  | none => rw [ho] at hv; simp at hv
  | some o => exact (List.getElem?_eq_some_iff.1 ho).1

theorem IntSl.keep {k : IntKind} {h h' : PHeap} {p : PV} {xs : List Int} (s : IntSl k h p xs) (hk : Keep h.length h h') : IntSl k h' p xs := by
  rcases s with s | ⟨id, off, hp, hc⟩
  · exact .inl s
  · exact .inr ⟨id, off, hp, fun i x hx => by rw [cellsAt_keep hk (lt_of_cell (hc i x hx))]; exact hc i x hx⟩

theorem IntSl.nil (k : IntKind) (h : PHeap) : IntSl k h .nilsl [] := .inl ⟨rfl, rfl⟩

section
variable {P : Program} {T I : TypeId}

theorem IntSl.len {k : IntKind} {h : PHeap} {p : PV} {xs : List Int} (s : IntSl k h p xs) (hT : P.underlying T = some (.slice I)) : lenP P T p = some (.int .i64 xs.length) := by
  rcases s with ⟨rfl, rfl⟩ | ⟨id, off, rfl, hc⟩ <;> simp [lenP, hT]

theorem IntSl.at {k : IntKind} {h : PHeap} {p : PV} {xs : List Int} (s : IntSl k h p xs) (hT : P.underlying T = some (.slice I)) (hS : sizeT P I = some 1) (hA : isAggT P I = some false) {i : Nat} (hi : i < xs.length) :
    ∃ a, indexAddrP P T p (.int .i64 i) = some a ∧ loadP P I a h = some (.int k xs[i]) := by
  rcases s with ⟨rfl, rfl⟩ | ⟨id, off, rfl, hc⟩
  · simp at hi
  · refine ⟨.ptr id (off + i), ?_, ?_⟩
    · simp [indexAddrP, hT, hS, hi]
    · simp only [loadP, hA]
      exact hc i _ (List.getElem?_eq_getElem hi)
end

/-- A slice of integers that the call itself made, from object n on. -/
def OwnSl (n : Nat) (h : PHeap) (p : PV) (xs : List Int) : Prop :=
  (p = .nilsl ∧ xs = []) ∨ ∃ id, n ≤ id ∧ p = .sl id 0 xs.length ∧ h[id]? = some (.own 1 (xs.map (.int .i64)))

theorem OwnSl.int {n : Nat} {h : PHeap} {p : PV} {xs : List Int} (s : OwnSl n h p xs) : IntSl .i64 h p xs := by
  rcases s with s | ⟨id, _, hp, ho⟩
  · exact .inl s
  · refine .inr ⟨id, 0, hp, fun i x hx => ?_⟩
    simp [cellsAt, ho, PObj.get, hx]

theorem OwnSl.mono {n m : Nat} {h : PHeap} {p : PV} {xs : List Int} (s : OwnSl n h p xs) (hm : m ≤ n) : OwnSl m h p xs := by
  rcases s with s | ⟨id, h1, h2⟩
  · exact .inl s
  · exact .inr ⟨id, by omega, h2⟩

theorem OwnSl.keep {n : Nat} {h h' : PHeap} {p : PV} {xs : List Int} (s : OwnSl n h p xs) (hk : Keep h.length h h') : OwnSl n h' p xs := by
  rcases s with s | ⟨id, h1, h2, h3⟩
  · exact .inl s
  · exact .inr ⟨id, h1, h2, by rw [hk.2 id (List.getElem?_eq_some_iff.1 h3).1]; exact h3⟩

theorem OwnSl.nil (n : Nat) (h : PHeap) : OwnSl n h .nilsl [] := .inl ⟨rfl, rfl⟩

theorem tyS : Tryd.prog.underlying 33 = some (.slice 3) := by kernel_rfl
theorem tySize : sizeT Tryd.prog 3 = some 1 := by kernel_rfl
theorem tyAgg : isAggT Tryd.prog 3 = some false := by kernel_rfl
theorem tyElem : elemT Tryd.prog 33 = some 3 := by kernel_rfl
theorem tyZero : zeroCellsT Tryd.prog 3 = some [.int .i64 0] := by kernel_rfl
theorem tySmall : smallT Tryd.prog 3 = true := by kernel_rfl

theorem IntSl.len' {k : IntKind} {h : PHeap} {p : PV} {xs : List Int} (s : IntSl k h p xs) : lenP Tryd.prog 33 p = some (.int .i64 xs.length) := s.len tyS
theorem IntSl.at' {k : IntKind} {h : PHeap} {p : PV} {xs : List Int} (s : IntSl k h p xs) {i : Nat} (hi : i < xs.length) :
    ∃ a, indexAddrP Tryd.prog 33 p (.int .i64 i) = some a ∧ loadP Tryd.prog 3 a h = some (.int k xs[i]) := s.at tyS tySize tyAgg hi

theorem OwnSl.store {n : Nat} {h : PHeap} {p : PV} {xs : List Int} (s : OwnSl n h p xs) {i : Nat} (hi : i < xs.length) (x : Int) :
    ∃ a h', indexAddrP Tryd.prog 33 p (.int .i64 i) = some a ∧ storeP Tryd.prog 3 a (.int .i64 x) h = some h' ∧ OwnSl n h' p (xs.set i x) ∧ Keep n h h' ∧ h'.length = h.length := by
  rcases s with ⟨rfl, rfl⟩ | ⟨id, h1, rfl, h3⟩
  · simp at hi
  · have hid : id < h.length := (List.getElem?_eq_some_iff.1 h3).1
    refine ⟨.ptr id (0 + i), h.set id (.own 1 ((xs.set i x).map (.int .i64))), by simp [indexAddrP, tySize, hi], ?_, .inr ⟨id, h1, by simp, by rw [List.getElem?_set_self hid]⟩, Keep.set _ _ _ _ h1, by simp⟩
    simp only [storeP, h3, PV.cells, tySize, Nat.zero_add]
    rw [if_pos ⟨rfl, by simp; omega⟩]
    simp [setCells, List.map_set]

/-- What 'make' gives. -/
theorem made {h : PHeap} {m : Nat} (hm : m ≤ 2 ^ 36) : ∃ p h', makeP Tryd.prog 33 (.int .i64 m) (.int .i64 m) h = some (p, h') ∧ OwnSl h.length h' p (List.replicate m 0) ∧ Keep h.length h h' := by
  refine ⟨.sl h.length 0 m, h ++ [.own 1 ((List.replicate m 0).map (.int .i64))], ?_, .inr ⟨h.length, Nat.le_refl _, by simp, by simp⟩, Keep.append _ _ _ (Nat.le_refl _)⟩
  have hrep : ∀ k : Nat, repeatCells [PV.int .i64 0] k = (List.replicate k (0 : Int)).map (.int .i64) := by
    intro k
    induction k with
    | zero => rfl
    | succ k ih => rw [repeatCells, ih, List.replicate_succ]; rfl
  have hm' : (m : Int) ≤ 68719476736 := by omega
  simp [makeP, tyElem, tySize, tyZero, tySmall, hm', hrep]

/-- One element more. -/
theorem OwnSl.append {n : Nat} {h : PHeap} {p : PV} {xs : List Int} (s : OwnSl n h p xs) (hn : n ≤ h.length) (x : Int) (hl : xs.length + 1 ≤ 2 ^ 36) :
    ∃ v p' h', buildSliceP Tryd.prog 33 1 [(0, .int .i64 x)] h = some v ∧ appendP Tryd.prog 33 33 p v.1 v.2 = some (p', h') ∧ OwnSl n h' p' (xs ++ [x]) ∧ Keep n h h' := by
  have hb : buildSliceP Tryd.prog 33 1 [(0, .int .i64 x)] h = some (.sl h.length 0 1, h ++ [.own 1 [.int .i64 x]]) := by
    simp [buildSliceP, tyElem, tySize, tyZero, repeatCells, fillP, PV.cells, setCells]
  have hsrc : srcP (h ++ [.own 1 [.int .i64 x]]) 1 (.sl h.length 0 1) = some (1, [.int .i64 x]) := by
    simp [srcP, cellsAt, PObj.get]
  rcases s with ⟨rfl, rfl⟩ | ⟨id, h1, rfl, h3⟩
  · refine ⟨_, .sl (h.length + 1) 0 1, h ++ [.own 1 [.int .i64 x]] ++ [.own 1 [.int .i64 x]], hb, ?_, .inr ⟨h.length + 1, by omega, rfl, ?_⟩, ?_⟩
    · simp [appendP, tyElem, tySize, tySmall, hsrc]
    · rw [List.getElem?_append_right (by simp)]; simp
    · rw [List.append_assoc]; exact Keep.append _ _ _ hn
  · have hid : id < h.length := (List.getElem?_eq_some_iff.1 h3).1
    have h3' : (h ++ [PObj.own 1 [.int .i64 x]])[id]? = some (.own 1 (xs.map (.int .i64))) := by rw [List.getElem?_append_left hid]; exact h3
    refine ⟨_, .sl (h.length + 1) 0 (xs.length + 1), ((h ++ [PObj.own 1 [.int .i64 x]]).set id .dead ++ [PObj.own 1 (xs.map (.int .i64) ++ [.int .i64 x])]), hb, ?_, .inr ⟨h.length + 1, by omega, by simp, ?_⟩, ?_⟩
    · simp [appendP, tyElem, tySize, tySmall, hsrc, h3', hl]
    · rw [List.getElem?_append_right (by simp)]; simp
    · exact ((Keep.append n h _ hn).trans (Keep.set n _ id .dead h1)).trans (Keep.append _ _ _ (by simp; omega))

/-- An empty literal. -/
theorem empty_lit {h : PHeap} : ∃ p h', buildSliceP Tryd.prog 33 0 [] h = some (p, h') ∧ OwnSl h.length h' p [] ∧ Keep h.length h h' := by
  refine ⟨.sl h.length 0 0, h ++ [.own 1 []], by simp [buildSliceP, tyElem, tySize, tyZero, repeatCells, fillP], .inr ⟨h.length, Nat.le_refl _, rfl, by simp⟩, Keep.append _ _ _ (Nat.le_refl _)⟩

theorem nx {i : Nat} (hi : i < 2 ^ 40) : IntKind.i64.wrap ((i : Int) + 1) = ((i + 1 : Nat) : Int) := by
  rw [wr (by omega)]; rfl

end Go.Proofs.YtpaehbfknlpkbaaDoor

/- Of each function of this seat's program its plain form over the interpreter, written by program; each equation is the kernel's. -/
set_option linter.unusedVariables false
set_option maxRecDepth 100000
namespace Go.Proofs.YtpaehbfknlpkbaaDoor.G
open Go Go.Ip Go.Proofs

namespace laws_FnCellText
noncomputable def main (E : Env) (x0 : PV) (h : PHeap) : Res :=
    (E.p.len 22 x0).bind fun v1 =>
    (E.p.bin .gtr 3 v1 (.int .i64 1048576)).bind fun v2 =>
    condP v2
     (
      (resV (.bool true)).bind fun v3 =>
      some (v3, h))
     (
      (E.C fn_spec_DrawCellText [x0] h).bind fun v4 =>
      (E.p.extract v4.1 0).bind fun v5 =>
      (E.p.extract v4.1 1).bind fun v6 =>
      (E.p.extract v4.1 2).bind fun v7 =>
      (E.C fn_impl_CellText [v5, v6, v7] v4.2).bind fun v8 =>
      (E.C fn_spec_CellText [v5, v6, v7] v8.2).bind fun v9 =>
      (E.p.bin .neq 9 v8.1 v9.1).bind fun v10 =>
      condP v10
       (
        (resV (.bool false)).bind fun v11 =>
        some (v11, v9.2))
       (
        (E.p.bin .eql 9 v8.1 (.str (sB []))).bind fun v12 =>
        condP v12
         (
          (E.C fn_impl_BoardOk [v5, v6] v9.2).bind fun v13 =>
          (E.p.un .not v13.1).bind fun v14 =>
          (wantV v14 false).bind fun v15 =>
          (bif v15 then some (v7, v13.2) else some (.tup [], v13.2)).bind fun v16 =>
          (wantV v14 false).bind fun v17 =>
          (bif v17 then pv v16.2 (E.p.bin .lss 3 v16.1 (.int .i64 0)) else some (.tup [], v16.2)).bind fun v18 =>
          (E.p.pick v14 (.bool true) v18.1).bind fun v19 =>
          (wantV v19 false).bind fun v20 =>
          (bif v20 then some (v7, v18.2) else some (.tup [], v18.2)).bind fun v21 =>
          (wantV v19 false).bind fun v22 =>
          (bif v22 then some (v5, v21.2) else some (.tup [], v21.2)).bind fun v23 =>
          (wantV v19 false).bind fun v24 =>
          (bif v24 then some (v6, v23.2) else some (.tup [], v23.2)).bind fun v25 =>
          (wantV v19 false).bind fun v26 =>
          (bif v26 then pv v25.2 (E.p.bin .mul 3 v23.1 v25.1) else some (.tup [], v25.2)).bind fun v27 =>
          (wantV v19 false).bind fun v28 =>
          (bif v28 then pv v27.2 (E.p.bin .geq 3 v21.1 v27.1) else some (.tup [], v27.2)).bind fun v29 =>
          (E.p.pick v19 (.bool true) v29.1).bind fun v30 =>
          (wantV v30 true).bind fun v31 =>
          (bif v31 then E.C fn_laws_alive [] v29.2 else some (.tup [], v29.2)).bind fun v32 =>
          (E.p.pick v30 v32.1 (.bool false)).bind fun v33 =>
          (resV v33).bind fun v34 =>
          some (v34, v32.2))
         (
          (E.C fn_impl_ReadCell [v5, v6, v8.1] v9.2).bind fun v35 =>
          (E.p.extract v35.1 0).bind fun v36 =>
          (E.p.extract v35.1 1).bind fun v37 =>
          (wantV v37 true).bind fun v38 =>
          (bif v38 then some (v36, v35.2) else some (.tup [], v35.2)).bind fun v39 =>
          (wantV v37 true).bind fun v40 =>
          (bif v40 then some (v7, v39.2) else some (.tup [], v39.2)).bind fun v41 =>
          (wantV v37 true).bind fun v42 =>
          (bif v42 then pv v41.2 (E.p.bin .eql 3 v39.1 v41.1) else some (.tup [], v41.2)).bind fun v43 =>
          (E.p.pick v37 v43.1 (.bool false)).bind fun v44 =>
          (wantV v44 true).bind fun v45 =>
          (bif v45 then some (v8.1, v43.2) else some (.tup [], v43.2)).bind fun v46 =>
          (wantV v44 true).bind fun v47 =>
          (bif v47 then pv v46.2 (E.p.len 9 v46.1) else some (.tup [], v46.2)).bind fun v48 =>
          (wantV v44 true).bind fun v49 =>
          (bif v49 then pv v48.2 (E.p.bin .eql 3 v48.1 (.int .i64 2)) else some (.tup [], v48.2)).bind fun v50 =>
          (E.p.pick v44 v50.1 (.bool false)).bind fun v51 =>
          (resV v51).bind fun v52 =>
          some (v52, v50.2))))
theorem main_eq (E : Env) (x0 : PV) (h : PHeap) : runBody (E.cx Tryd.prog kl) Tryd.f3 [x0] h = main E x0 h := by kernel_rfl
theorem call_eq (g : Nat → PV) (lf n : Nat) (x0 : PV) (h : PHeap) : CL g lf (n + 1) fn_laws_FnCellText [x0] h = main (env g lf n) x0 h := by
  rw [← main_eq]
  show call Tryd.prog g KL lf (n + 1) 3 [x0] h = _
  rw [call_succ, Tryd.func3]
  kernel_rfl
end laws_FnCellText
namespace laws_FnReadCell
noncomputable def main (E : Env) (x0 : PV) (h : PHeap) : Res :=
    (E.p.len 22 x0).bind fun v1 =>
    (E.p.bin .gtr 3 v1 (.int .i64 1048576)).bind fun v2 =>
    condP v2
     (
      (resV (.bool true)).bind fun v3 =>
      some (v3, h))
     (
      (E.C fn_spec_DrawReadCell [x0] h).bind fun v4 =>
      (E.p.extract v4.1 0).bind fun v5 =>
      (E.p.extract v4.1 1).bind fun v6 =>
      (E.p.extract v4.1 2).bind fun v7 =>
      (E.C fn_impl_ReadCell [v5, v6, v7] v4.2).bind fun v8 =>
      (E.p.extract v8.1 0).bind fun v9 =>
      (E.p.extract v8.1 1).bind fun v10 =>
      (E.C fn_spec_ReadCell [v5, v6, v7] v8.2).bind fun v11 =>
      (E.p.extract v11.1 0).bind fun v12 =>
      (E.p.extract v11.1 1).bind fun v13 =>
      (E.p.bin .neq 3 v9 v12).bind fun v14 =>
      (wantV v14 false).bind fun v15 =>
      (bif v15 then some (v10, v11.2) else some (.tup [], v11.2)).bind fun v16 =>
      (wantV v14 false).bind fun v17 =>
      (bif v17 then some (v13, v16.2) else some (.tup [], v16.2)).bind fun v18 =>
      (wantV v14 false).bind fun v19 =>
      (bif v19 then pv v18.2 (E.p.bin .neq 4 v16.1 v18.1) else some (.tup [], v18.2)).bind fun v20 =>
      (E.p.pick v14 (.bool true) v20.1).bind fun v21 =>
      condP v21
       (
        (resV (.bool false)).bind fun v22 =>
        some (v22, v20.2))
       (
        (E.p.un .not v10).bind fun v23 =>
        condP v23
         (
          (E.p.bin .eql 3 v9 (.int .i64 (-1))).bind fun v24 =>
          (wantV v24 true).bind fun v25 =>
          (bif v25 then E.C fn_laws_alive [] v20.2 else some (.tup [], v20.2)).bind fun v26 =>
          (E.p.pick v24 v26.1 (.bool false)).bind fun v27 =>
          (resV v27).bind fun v28 =>
          some (v28, v26.2))
         (
          (E.p.bin .add 9 v7 (.str (sB [49]))).bind fun v29 =>
          (E.C fn_impl_ReadCell [v5, v6, v29] v20.2).bind fun v30 =>
          (E.p.extract v30.1 0).bind fun v31 =>
          (E.p.extract v30.1 1).bind fun v32 =>
          (E.C fn_impl_CellText [v5, v6, v9] v30.2).bind fun v33 =>
          (E.p.bin .eql 9 v33.1 v7).bind fun v34 =>
          (wantV v34 true).bind fun v35 =>
          (bif v35 then some (v32, v33.2) else some (.tup [], v33.2)).bind fun v36 =>
          (wantV v34 true).bind fun v37 =>
          (bif v37 then pv v36.2 (E.p.un .not v36.1) else some (.tup [], v36.2)).bind fun v38 =>
          (E.p.pick v34 v38.1 (.bool false)).bind fun v39 =>
          (resV v39).bind fun v40 =>
          some (v40, v38.2))))
theorem main_eq (E : Env) (x0 : PV) (h : PHeap) : runBody (E.cx Tryd.prog kl) Tryd.f4 [x0] h = main E x0 h := by kernel_rfl
theorem call_eq (g : Nat → PV) (lf n : Nat) (x0 : PV) (h : PHeap) : CL g lf (n + 1) fn_laws_FnReadCell [x0] h = main (env g lf n) x0 h := by
  rw [← main_eq]
  show call Tryd.prog g KL lf (n + 1) 4 [x0] h = _
  rw [call_succ, Tryd.func4]
  kernel_rfl
end laws_FnReadCell
namespace laws_FnRecordOk
noncomputable def lp0 : Code := (codeAt (bodyOf Tryd.f5) [1, 1, 1, 1, 1, 1, 1, 1, 0, 1, 0, 0])
def st0 (x3 x4 x5 x6 x7 x8 : PV) (h : PHeap) : St := ⟨[.junk, .junk, .junk, x3, x4, x5, x6, x7, x8, .junk, .junk, .junk, .junk, .junk, .junk, .junk, .junk, .junk, .junk, .junk, .junk, .junk, .junk, .junk, .junk, .junk, .junk, .junk, .junk, .junk, .junk, .junk, .junk, .junk, .junk, .junk, .junk, .junk, .junk, .junk, .junk, .junk, .junk, .junk, .junk, .junk, .junk, .junk, .junk, .junk, .junk, .junk, .junk, .junk, .junk, .junk, .junk, .junk, .junk, .junk, .junk, .junk, .junk, .junk, .junk, .junk, .junk, .junk, .junk, .junk, .junk, .junk, .junk, .junk, .junk, .junk, .junk, .junk, .junk, .junk, .junk, .junk, .junk, .junk, .junk, .junk, .junk, .junk, .junk, .junk, .junk], h⟩
noncomputable def lp1 : Code := (codeAt (bodyOf Tryd.f5) [1, 1, 1, 1, 1, 1, 1, 1, 0, 1, 0, 0, 1, 0, 0, 1, 0, 0])
def st1 (x3 x4 x5 x6 x7 x8 x9 : PV) (h : PHeap) : St := ⟨[.junk, .junk, .junk, x3, x4, x5, x6, x7, x8, x9, .junk, .junk, .junk, .junk, .junk, .junk, .junk, .junk, .junk, .junk, .junk, .junk, .junk, .junk, .junk, .junk, .junk, .junk, .junk, .junk, .junk, .junk, .junk, .junk, .junk, .junk, .junk, .junk, .junk, .junk, .junk, .junk, .junk, .junk, .junk, .junk, .junk, .junk, .junk, .junk, .junk, .junk, .junk, .junk, .junk, .junk, .junk, .junk, .junk, .junk, .junk, .junk, .junk, .junk, .junk, .junk, .junk, .junk, .junk, .junk, .junk, .junk, .junk, .junk, .junk, .junk, .junk, .junk, .junk, .junk, .junk, .junk, .junk, .junk, .junk, .junk, .junk, .junk, .junk, .junk, .junk], h⟩
def se0_3_4_5_6_7_8_57 (x3 x4 x5 x6 x7 x8 x57 : PV) (h : PHeap) : St := ⟨[.junk, .junk, .junk, x3, x4, x5, x6, x7, x8, .junk, .junk, .junk, .junk, .junk, .junk, .junk, .junk, .junk, .junk, .junk, .junk, .junk, .junk, .junk, .junk, .junk, .junk, .junk, .junk, .junk, .junk, .junk, .junk, .junk, .junk, .junk, .junk, .junk, .junk, .junk, .junk, .junk, .junk, .junk, .junk, .junk, .junk, .junk, .junk, .junk, .junk, .junk, .junk, .junk, .junk, .junk, .junk, x57, .junk, .junk, .junk, .junk, .junk, .junk, .junk, .junk, .junk, .junk, .junk, .junk, .junk, .junk, .junk, .junk, .junk, .junk, .junk, .junk, .junk, .junk, .junk, .junk, .junk, .junk, .junk, .junk, .junk, .junk, .junk, .junk, .junk], h⟩
def sr_2 (x2 : PV) (h : PHeap) : St := ⟨[.junk, .junk, x2, .junk, .junk, .junk, .junk, .junk, .junk, .junk, .junk, .junk, .junk, .junk, .junk, .junk, .junk, .junk, .junk, .junk, .junk, .junk, .junk, .junk, .junk, .junk, .junk, .junk, .junk, .junk, .junk, .junk, .junk, .junk, .junk, .junk, .junk, .junk, .junk, .junk, .junk, .junk, .junk, .junk, .junk, .junk, .junk, .junk, .junk, .junk, .junk, .junk, .junk, .junk, .junk, .junk, .junk, .junk, .junk, .junk, .junk, .junk, .junk, .junk, .junk, .junk, .junk, .junk, .junk, .junk, .junk, .junk, .junk, .junk, .junk, .junk, .junk, .junk, .junk, .junk, .junk, .junk, .junk, .junk, .junk, .junk, .junk, .junk, .junk, .junk, .junk], h⟩
def se2_3_4_5_6_7_8_9_62 (x3 x4 x5 x6 x7 x8 x9 x62 : PV) (h : PHeap) : St := ⟨[.junk, .junk, .junk, x3, x4, x5, x6, x7, x8, x9, .junk, .junk, .junk, .junk, .junk, .junk, .junk, .junk, .junk, .junk, .junk, .junk, .junk, .junk, .junk, .junk, .junk, .junk, .junk, .junk, .junk, .junk, .junk, .junk, .junk, .junk, .junk, .junk, .junk, .junk, .junk, .junk, .junk, .junk, .junk, .junk, .junk, .junk, .junk, .junk, .junk, .junk, .junk, .junk, .junk, .junk, .junk, .junk, .junk, .junk, .junk, .junk, x62, .junk, .junk, .junk, .junk, .junk, .junk, .junk, .junk, .junk, .junk, .junk, .junk, .junk, .junk, .junk, .junk, .junk, .junk, .junk, .junk, .junk, .junk, .junk, .junk, .junk, .junk, .junk, .junk], h⟩
noncomputable def K0 (E : Env) (K : PX → St → Res) : PX → St → Res := (kBlock 0 (kSeq (ev (E.cx Tryd.prog kl) (codeAt (bodyOf Tryd.f5) [1, 1, 1, 1, 1, 1, 1, 1, 1])) K))
@[simp] theorem K0_ret (E : Env) (K : PX → St → Res) (s : St) : K0 E K .ret s = K .ret s := by kernel_rfl
noncomputable def K1 (E : Env) (K : PX → St → Res) : PX → St → Res := (kBlock 2 (kBlock 1 (kSeq (ev (E.cx Tryd.prog kl) (codeAt (bodyOf Tryd.f5) [1, 1, 1, 1, 1, 1, 1, 1, 0, 1, 0, 0, 1, 1])) K)))
@[simp] theorem K1_ret (E : Env) (K : PX → St → Res) (s : St) : K1 E K .ret s = K .ret s := by kernel_rfl
noncomputable def body0 (E : Env) (K : PX → St → Res) (x3 x4 x5 x6 x7 x8 : PV) (h : PHeap) : Res :=
    (E.p.len 33 x5).bind fun v64 =>
    (E.p.bin .lss 3 x8 v64).bind fun v65 =>
    (wantV v65 true).bind fun v66 =>
    (bif v66 then some (x6, h) else some (.tup [], h)).bind fun v67 =>
    (E.p.pick v65 v67.1 (.bool false)).bind fun v68 =>
    condP v68
     (
      loopK (ev (E.cx Tryd.prog laws_FnRecordOk.kl) laws_FnRecordOk.lp1) E.lf (laws_FnRecordOk.st1 x3 x4 x5 x6 x7 x8 (.int .i64 0) v67.2) (laws_FnRecordOk.K1 E K))
     (
      K (.exit 0) (se0_3_4_5_6_7_8_57 x3 x4 x5 x6 x7 x8 v68 v67.2))
theorem body0_eq (E : Env) (K : PX → St → Res) (x3 x4 x5 x6 x7 x8 : PV) (h : PHeap) : ev (E.cx Tryd.prog kl) lp0 (st0 x3 x4 x5 x6 x7 x8 h) K = body0 E K x3 x4 x5 x6 x7 x8 h := by kernel_rfl
noncomputable def body1 (E : Env) (K : PX → St → Res) (x3 x4 x5 x6 x7 x8 x9 : PV) (h : PHeap) : Res :=
    (E.p.bin .lss 3 x9 x8).bind fun v69 =>
    condP v69
     (
      (E.p.indexAddr 33 x5 x9).bind fun v70 =>
      (E.p.load 3 v70 h).bind fun v71 =>
      (E.p.indexAddr 33 x5 x8).bind fun v72 =>
      (E.p.load 3 v72 h).bind fun v73 =>
      (E.p.bin .eql 3 v71 v73).bind fun v74 =>
      condP v74
       (
        K .ret (sr_2 (.bool false) h))
       (
        (E.p.bin .add 3 x9 (.int .i64 1)).bind fun v75 =>
        K .normal (st1 x3 x4 x5 x6 x7 x8 v75 h)))
     (
      K (.exit 2) (se2_3_4_5_6_7_8_9_62 x3 x4 x5 x6 x7 x8 x9 v69 h))
theorem body1_eq (E : Env) (K : PX → St → Res) (x3 x4 x5 x6 x7 x8 x9 : PV) (h : PHeap) : ev (E.cx Tryd.prog kl) lp1 (st1 x3 x4 x5 x6 x7 x8 x9 h) K = body1 E K x3 x4 x5 x6 x7 x8 x9 h := by kernel_rfl
theorem after0_se0_3_4_5_6_7_8_57 (E : Env) (x3 x4 x5 x6 x7 x8 x57 : PV) (h : PHeap) : K0 E (kTop Tryd.prog Tryd.f5) (.exit 0) (se0_3_4_5_6_7_8_57 x3 x4 x5 x6 x7 x8 x57 h) =
    (E.p.buildSlice 33 0 [] h).bind fun v40 =>
    (E.C fn_impl_RecordOk [x3, x4, v40.1] v40.2).bind fun v41 =>
    (wantV v41.1 true).bind fun v42 =>
    (bif v42 then some (x6, v41.2) else some (.tup [], v41.2)).bind fun v43 =>
    (wantV v41.1 true).bind fun v44 =>
    (bif v44 then pv v43.2 (E.p.un .not v43.1) else some (.tup [], v43.2)).bind fun v45 =>
    (wantV v41.1 true).bind fun v46 =>
    (bif v46 then some (v45.1, v45.2) else some (.tup [], v45.2)).bind fun v47 =>
    (wantV v47.1 false).bind fun v48 =>
    (bif v48 then some (x3, v47.2) else some (.tup [], v47.2)).bind fun v49 =>
    (wantV v47.1 false).bind fun v50 =>
    (bif v50 then some (x4, v49.2) else some (.tup [], v49.2)).bind fun v51 =>
    (wantV v47.1 false).bind fun v52 =>
    (bif v52 then some (x7, v51.2) else some (.tup [], v51.2)).bind fun v53 =>
    (wantV v47.1 false).bind fun v54 =>
    (bif v54 then E.C fn_impl_RecordOk [v49.1, v51.1, v53.1] v53.2 else some (.tup [], v53.2)).bind fun v55 =>
    (wantV v41.1 true).bind fun v56 =>
    (bif v56 then pv v55.2 (E.p.pick v47.1 (.bool true) v55.1) else some (.tup [], v55.2)).bind fun v57 =>
    (E.p.pick v41.1 v57.1 (.bool false)).bind fun v58 =>
    (wantV v58 true).bind fun v59 =>
    (bif v59 then E.C fn_laws_alive [] v57.2 else some (.tup [], v57.2)).bind fun v60 =>
    (E.p.pick v58 v60.1 (.bool false)).bind fun v61 =>
    (resV v61).bind fun v62 =>
    some (v62, v60.2) := by kernel_rfl
theorem after1_se2_3_4_5_6_7_8_9_62 (E : Env) (K : PX → St → Res) (x3 x4 x5 x6 x7 x8 x9 x62 : PV) (h : PHeap) : K1 E K (.exit 2) (se2_3_4_5_6_7_8_9_62 x3 x4 x5 x6 x7 x8 x9 x62 h) =
    (E.p.bin .add 3 x8 (.int .i64 1)).bind fun v63 =>
    K .normal (st0 x3 x4 x5 x6 x7 v63 h) := by kernel_rfl
theorem top_sr_2 (x2 : PV) (h : PHeap) : kTop Tryd.prog Tryd.f5 .ret (sr_2 x2 h) =
    (resV x2).bind fun v76 =>
    some (v76, h) := by kernel_rfl
noncomputable def main (E : Env) (x0 : PV) (h : PHeap) : Res :=
    (E.p.len 22 x0).bind fun v1 =>
    (E.p.bin .gtr 3 v1 (.int .i64 1048576)).bind fun v2 =>
    condP v2
     (
      (resV (.bool true)).bind fun v3 =>
      some (v3, h))
     (
      (E.C fn_spec_DrawRecordOk [x0] h).bind fun v4 =>
      (E.p.extract v4.1 0).bind fun v5 =>
      (E.p.extract v4.1 1).bind fun v6 =>
      (E.p.extract v4.1 2).bind fun v7 =>
      (E.C fn_impl_RecordOk [v5, v6, v7] v4.2).bind fun v8 =>
      (E.C fn_spec_RecordOk [v5, v6, v7] v8.2).bind fun v9 =>
      (E.p.bin .neq 4 v8.1 v9.1).bind fun v10 =>
      condP v10
       (
        (resV (.bool false)).bind fun v11 =>
        some (v11, v9.2))
       (
        (E.C fn_spec_BoardOk [v5, v6] v9.2).bind fun v12 =>
        (E.p.un .not v12.1).bind fun v13 =>
        condP v13
         (
          (E.p.un .not v8.1).bind fun v14 =>
          (wantV v14 true).bind fun v15 =>
          (bif v15 then E.C fn_laws_alive [] v12.2 else some (.tup [], v12.2)).bind fun v16 =>
          (E.p.pick v14 v16.1 (.bool false)).bind fun v17 =>
          (resV v17).bind fun v18 =>
          some (v18, v16.2))
         (
          (E.p.buildSlice 33 0 [] v12.2).bind fun v19 =>
          (E.p.append 33 33 v19.1 v7 v19.2).bind fun v20 =>
          (E.p.len 33 v20.1).bind fun v21 =>
          (E.p.bin .gtr 3 v21 (.int .i64 0)).bind fun v22 =>
          condP v22
           (
            (E.p.buildSlice 33 0 [] v20.2).bind fun v23 =>
            (E.p.len 33 v7).bind fun v24 =>
            (E.p.bin .sub 3 v24 (.int .i64 1)).bind fun v25 =>
            (E.p.slice 33 v7 none (some v25) v23.2).bind fun v26 =>
            (E.p.append 33 33 v23.1 v26 v23.2).bind fun v27 =>
            loopK (ev (E.cx Tryd.prog laws_FnRecordOk.kl) laws_FnRecordOk.lp0) E.lf (laws_FnRecordOk.st0 v5 v6 v7 v8.1 v27.1 (.int .i64 0) v27.2) (laws_FnRecordOk.K0 E (kTop Tryd.prog Tryd.f5)))
           (
            loopK (ev (E.cx Tryd.prog laws_FnRecordOk.kl) laws_FnRecordOk.lp0) E.lf (laws_FnRecordOk.st0 v5 v6 v7 v8.1 v20.1 (.int .i64 0) v20.2) (laws_FnRecordOk.K0 E (kTop Tryd.prog Tryd.f5))))))
theorem main_eq (E : Env) (x0 : PV) (h : PHeap) : runBody (E.cx Tryd.prog kl) Tryd.f5 [x0] h = main E x0 h := by kernel_rfl
theorem call_eq (g : Nat → PV) (lf n : Nat) (x0 : PV) (h : PHeap) : CL g lf (n + 1) fn_laws_FnRecordOk [x0] h = main (env g lf n) x0 h := by
  rw [← main_eq]
  show call Tryd.prog g KL lf (n + 1) 5 [x0] h = _
  rw [call_succ, Tryd.func5]
  kernel_rfl
end laws_FnRecordOk
namespace laws_FnEndOf
noncomputable def main (E : Env) (x0 : PV) (h : PHeap) : Res :=
    (E.p.len 22 x0).bind fun v1 =>
    (E.p.bin .gtr 3 v1 (.int .i64 1048576)).bind fun v2 =>
    condP v2
     (
      (resV (.bool true)).bind fun v3 =>
      some (v3, h))
     (
      (E.C fn_spec_DrawEndOf [x0] h).bind fun v4 =>
      (E.p.extract v4.1 0).bind fun v5 =>
      (E.p.extract v4.1 1).bind fun v6 =>
      (E.p.extract v4.1 2).bind fun v7 =>
      (E.C fn_impl_EndOf [v5, v6, v7] v4.2).bind fun v8 =>
      (E.p.extract v8.1 0).bind fun v9 =>
      (E.p.extract v8.1 1).bind fun v10 =>
      (E.C fn_spec_EndOf [v5, v6, v7] v8.2).bind fun v11 =>
      (E.p.extract v11.1 0).bind fun v12 =>
      (E.p.extract v11.1 1).bind fun v13 =>
      (E.C fn_laws_sameInts [v9, v12] v11.2).bind fun v14 =>
      (E.p.un .not v14.1).bind fun v15 =>
      (wantV v15 false).bind fun v16 =>
      (bif v16 then some (v10, v14.2) else some (.tup [], v14.2)).bind fun v17 =>
      (wantV v15 false).bind fun v18 =>
      (bif v18 then some (v13, v17.2) else some (.tup [], v17.2)).bind fun v19 =>
      (wantV v15 false).bind fun v20 =>
      (bif v20 then pv v19.2 (E.p.bin .neq 3 v17.1 v19.1) else some (.tup [], v19.2)).bind fun v21 =>
      (E.p.pick v15 (.bool true) v21.1).bind fun v22 =>
      condP v22
       (
        (resV (.bool false)).bind fun v23 =>
        some (v23, v21.2))
       (
        (E.p.bin .eql 3 v10 (.int .i64 0)).bind fun v24 =>
        condP v24
         (
          (E.p.len 33 v9).bind fun v25 =>
          (E.p.bin .eql 3 v25 (.int .i64 0)).bind fun v26 =>
          (wantV v26 true).bind fun v27 =>
          (bif v27 then some (v5, v21.2) else some (.tup [], v21.2)).bind fun v28 =>
          (wantV v26 true).bind fun v29 =>
          (bif v29 then some (v6, v28.2) else some (.tup [], v28.2)).bind fun v30 =>
          (wantV v26 true).bind fun v31 =>
          (bif v31 then some (v7, v30.2) else some (.tup [], v30.2)).bind fun v32 =>
          (wantV v26 true).bind fun v33 =>
          (bif v33 then E.C fn_impl_RecordOk [v28.1, v30.1, v32.1] v32.2 else some (.tup [], v32.2)).bind fun v34 =>
          (wantV v26 true).bind fun v35 =>
          (bif v35 then pv v34.2 (E.p.un .not v34.1) else some (.tup [], v34.2)).bind fun v36 =>
          (E.p.pick v26 v36.1 (.bool false)).bind fun v37 =>
          (wantV v37 true).bind fun v38 =>
          (bif v38 then E.C fn_laws_alive [] v36.2 else some (.tup [], v36.2)).bind fun v39 =>
          (E.p.pick v37 v39.1 (.bool false)).bind fun v40 =>
          (resV v40).bind fun v41 =>
          some (v41, v39.2))
         (
          (E.C fn_impl_CellsOf [v5, v6, v9, (.int .i64 1)] v21.2).bind fun v42 =>
          (E.p.len 33 v42.1).bind fun v43 =>
          (E.C fn_impl_CellsOf [v5, v6, v9, (.int .i64 2)] v42.2).bind fun v44 =>
          (E.p.len 33 v44.1).bind fun v45 =>
          (E.C fn_impl_PositionOk [v5, v6, v9] v44.2).bind fun v46 =>
          (wantV v46.1 true).bind fun v47 =>
          (bif v47 then some (v43, v46.2) else some (.tup [], v46.2)).bind fun v48 =>
          (wantV v46.1 true).bind fun v49 =>
          (bif v49 then some (v45, v48.2) else some (.tup [], v48.2)).bind fun v50 =>
          (wantV v46.1 true).bind fun v51 =>
          (bif v51 then pv v50.2 (E.p.bin .add 3 v48.1 v50.1) else some (.tup [], v50.2)).bind fun v52 =>
          (wantV v46.1 true).bind fun v53 =>
          (bif v53 then some (v7, v52.2) else some (.tup [], v52.2)).bind fun v54 =>
          (wantV v46.1 true).bind fun v55 =>
          (bif v55 then pv v54.2 (E.p.len 33 v54.1) else some (.tup [], v54.2)).bind fun v56 =>
          (wantV v46.1 true).bind fun v57 =>
          (bif v57 then pv v56.2 (E.p.bin .eql 3 v52.1 v56.1) else some (.tup [], v56.2)).bind fun v58 =>
          (E.p.pick v46.1 v58.1 (.bool false)).bind fun v59 =>
          (wantV v59 true).bind fun v60 =>
          (bif v60 then some (v43, v58.2) else some (.tup [], v58.2)).bind fun v61 =>
          (wantV v59 true).bind fun v62 =>
          (bif v62 then some (v45, v61.2) else some (.tup [], v61.2)).bind fun v63 =>
          (wantV v59 true).bind fun v64 =>
          (bif v64 then pv v63.2 (E.p.bin .eql 3 v61.1 v63.1) else some (.tup [], v63.2)).bind fun v65 =>
          (wantV v59 true).bind fun v66 =>
          (bif v66 then some (v65.1, v65.2) else some (.tup [], v65.2)).bind fun v67 =>
          (wantV v67.1 true).bind fun v68 =>
          (bif v68 then some (v10, v67.2) else some (.tup [], v67.2)).bind fun v69 =>
          (wantV v67.1 true).bind fun v70 =>
          (bif v70 then pv v69.2 (E.p.bin .eql 3 v69.1 (.int .i64 1)) else some (.tup [], v69.2)).bind fun v71 =>
          (wantV v59 true).bind fun v72 =>
          (bif v72 then pv v71.2 (E.p.pick v67.1 v71.1 (.bool false)) else some (.tup [], v71.2)).bind fun v73 =>
          (wantV v59 true).bind fun v74 =>
          (bif v74 then some (v73.1, v73.2) else some (.tup [], v73.2)).bind fun v75 =>
          (wantV v75.1 false).bind fun v76 =>
          (bif v76 then some (v43, v75.2) else some (.tup [], v75.2)).bind fun v77 =>
          (wantV v75.1 false).bind fun v78 =>
          (bif v78 then some (v45, v77.2) else some (.tup [], v77.2)).bind fun v79 =>
          (wantV v75.1 false).bind fun v80 =>
          (bif v80 then pv v79.2 (E.p.bin .add 3 v79.1 (.int .i64 1)) else some (.tup [], v79.2)).bind fun v81 =>
          (wantV v75.1 false).bind fun v82 =>
          (bif v82 then pv v81.2 (E.p.bin .eql 3 v77.1 v81.1) else some (.tup [], v81.2)).bind fun v83 =>
          (wantV v75.1 false).bind fun v84 =>
          (bif v84 then some (v83.1, v83.2) else some (.tup [], v83.2)).bind fun v85 =>
          (wantV v85.1 true).bind fun v86 =>
          (bif v86 then some (v10, v85.2) else some (.tup [], v85.2)).bind fun v87 =>
          (wantV v85.1 true).bind fun v88 =>
          (bif v88 then pv v87.2 (E.p.bin .eql 3 v87.1 (.int .i64 2)) else some (.tup [], v87.2)).bind fun v89 =>
          (wantV v75.1 false).bind fun v90 =>
          (bif v90 then pv v89.2 (E.p.pick v85.1 v89.1 (.bool false)) else some (.tup [], v89.2)).bind fun v91 =>
          (wantV v59 true).bind fun v92 =>
          (bif v92 then pv v91.2 (E.p.pick v75.1 (.bool true) v91.1) else some (.tup [], v91.2)).bind fun v93 =>
          (E.p.pick v59 v93.1 (.bool false)).bind fun v94 =>
          (wantV v94 true).bind fun v95 =>
          (bif v95 then some (v5, v93.2) else some (.tup [], v93.2)).bind fun v96 =>
          (wantV v94 true).bind fun v97 =>
          (bif v97 then some (v6, v96.2) else some (.tup [], v96.2)).bind fun v98 =>
          (wantV v94 true).bind fun v99 =>
          (bif v99 then some (v9, v98.2) else some (.tup [], v98.2)).bind fun v100 =>
          (wantV v94 true).bind fun v101 =>
          (bif v101 then some (v10, v100.2) else some (.tup [], v100.2)).bind fun v102 =>
          (wantV v94 true).bind fun v103 =>
          (bif v103 then E.C fn_impl_Joins [v96.1, v98.1, v100.1, v102.1] v102.2 else some (.tup [], v102.2)).bind fun v104 =>
          (wantV v94 true).bind fun v105 =>
          (bif v105 then pv v104.2 (E.p.un .not v104.1) else some (.tup [], v104.2)).bind fun v106 =>
          (E.p.pick v94 v106.1 (.bool false)).bind fun v107 =>
          (resV v107).bind fun v108 =>
          some (v108, v106.2))))
theorem main_eq (E : Env) (x0 : PV) (h : PHeap) : runBody (E.cx Tryd.prog kl) Tryd.f6 [x0] h = main E x0 h := by kernel_rfl
theorem call_eq (g : Nat → PV) (lf n : Nat) (x0 : PV) (h : PHeap) : CL g lf (n + 1) fn_laws_FnEndOf [x0] h = main (env g lf n) x0 h := by
  rw [← main_eq]
  show call Tryd.prog g KL lf (n + 1) 6 [x0] h = _
  rw [call_succ, Tryd.func6]
  kernel_rfl
end laws_FnEndOf
namespace spec_DrawCellText
noncomputable def main (E : Env) (x0 : PV) (h : PHeap) : Res :=
    (E.C fn_spec_DrawNearCells [x0] h).bind fun v1 =>
    (E.p.extract v1.1 0).bind fun v2 =>
    (E.p.extract v1.1 1).bind fun v3 =>
    (E.p.extract v1.1 2).bind fun v4 =>
    (resV v2).bind fun v5 =>
    (resV v3).bind fun v6 =>
    (resV v4).bind fun v7 =>
    some (.tup [v5, v6, v7], v1.2)
theorem main_eq (E : Env) (x0 : PV) (h : PHeap) : runBody (E.cx Tryd.prog kl) Tryd.f7 [x0] h = main E x0 h := by kernel_rfl
theorem call_eq (g : Nat → PV) (lf n : Nat) (x0 : PV) (h : PHeap) : CL g lf (n + 1) fn_spec_DrawCellText [x0] h = main (env g lf n) x0 h := by
  rw [← main_eq]
  show call Tryd.prog g KL lf (n + 1) 7 [x0] h = _
  rw [call_succ, Tryd.func7]
  kernel_rfl
end spec_DrawCellText
namespace impl_CellText
noncomputable def main (E : Env) (x0 x1 x2 : PV) (h : PHeap) : Res :=
    (E.C fn_impl_cellOk [x0, x1, x2] h).bind fun v1 =>
    (E.p.un .not v1.1).bind fun v2 =>
    condP v2
     (
      (resV (.str (sB []))).bind fun v3 =>
      some (v3, v1.2))
     (
      (E.p.bin .rem 3 x2 x1).bind fun v4 =>
      (E.p.bin .add 3 (.int .i64 97) v4).bind fun v5 =>
      (E.p.conv 3 21 v5).bind fun v6 =>
      (E.p.conv 21 9 v6).bind fun v7 =>
      (E.p.bin .quo 3 x2 x1).bind fun v8 =>
      (E.p.bin .add 3 v8 (.int .i64 1)).bind fun v9 =>
      (E.C fn_strconv_Itoa [v9] v1.2).bind fun v10 =>
      (E.p.bin .add 9 v7 v10.1).bind fun v11 =>
      (resV v11).bind fun v12 =>
      some (v12, v10.2))
theorem main_eq (E : Env) (x0 x1 x2 : PV) (h : PHeap) : runBody (E.cx Tryd.prog kl) Tryd.f8 [x0, x1, x2] h = main E x0 x1 x2 h := by kernel_rfl
theorem call_eq (g : Nat → PV) (lf n : Nat) (x0 x1 x2 : PV) (h : PHeap) : CL g lf (n + 1) fn_impl_CellText [x0, x1, x2] h = main (env g lf n) x0 x1 x2 h := by
  rw [← main_eq]
  show call Tryd.prog g KL lf (n + 1) 8 [x0, x1, x2] h = _
  rw [call_succ, Tryd.func8]
  kernel_rfl
end impl_CellText
namespace spec_CellText
noncomputable def main (E : Env) (x0 x1 x2 : PV) (h : PHeap) : Res :=
    (E.C fn_spec_BoardOk [x0, x1] h).bind fun v1 =>
    (E.p.un .not v1.1).bind fun v2 =>
    (wantV v2 false).bind fun v3 =>
    (bif v3 then some (x2, v1.2) else some (.tup [], v1.2)).bind fun v4 =>
    (wantV v2 false).bind fun v5 =>
    (bif v5 then some (x0, v4.2) else some (.tup [], v4.2)).bind fun v6 =>
    (wantV v2 false).bind fun v7 =>
    (bif v7 then some (x1, v6.2) else some (.tup [], v6.2)).bind fun v8 =>
    (wantV v2 false).bind fun v9 =>
    (bif v9 then pv v8.2 (E.p.bin .mul 3 v6.1 v8.1) else some (.tup [], v8.2)).bind fun v10 =>
    (wantV v2 false).bind fun v11 =>
    (bif v11 then pv v10.2 (E.p.bin .sub 3 v10.1 (.int .i64 1)) else some (.tup [], v10.2)).bind fun v12 =>
    (wantV v2 false).bind fun v13 =>
    (bif v13 then E.C fn_spec_l1In [v4.1, (.int .i64 0), v12.1] v12.2 else some (.tup [], v12.2)).bind fun v14 =>
    (wantV v2 false).bind fun v15 =>
    (bif v15 then pv v14.2 (E.p.un .not v14.1) else some (.tup [], v14.2)).bind fun v16 =>
    (E.p.pick v2 (.bool true) v16.1).bind fun v17 =>
    condP v17
     (
      (resV (.str (sB []))).bind fun v18 =>
      some (v18, v16.2))
     (
      (E.p.bin .rem 3 x2 x1).bind fun v19 =>
      (E.p.bin .rem 3 x2 x1).bind fun v20 =>
      (E.p.bin .add 3 v20 (.int .i64 1)).bind fun v21 =>
      (E.p.slice 9 (.str (sB [97, 98, 99, 100])) (some v19) (some v21) v16.2).bind fun v22 =>
      (E.p.bin .quo 3 x2 x1).bind fun v23 =>
      (E.p.bin .add 3 v23 (.int .i64 1)).bind fun v24 =>
      (E.C fn_spec_l1Number [v24] v16.2).bind fun v25 =>
      (E.p.bin .add 9 v22 v25.1).bind fun v26 =>
      (resV v26).bind fun v27 =>
      some (v27, v25.2))
theorem main_eq (E : Env) (x0 x1 x2 : PV) (h : PHeap) : runBody (E.cx Tryd.prog kl) Tryd.f9 [x0, x1, x2] h = main E x0 x1 x2 h := by kernel_rfl
theorem call_eq (g : Nat → PV) (lf n : Nat) (x0 x1 x2 : PV) (h : PHeap) : CL g lf (n + 1) fn_spec_CellText [x0, x1, x2] h = main (env g lf n) x0 x1 x2 h := by
  rw [← main_eq]
  show call Tryd.prog g KL lf (n + 1) 9 [x0, x1, x2] h = _
  rw [call_succ, Tryd.func9]
  kernel_rfl
end spec_CellText
namespace impl_BoardOk
noncomputable def main (E : Env) (x0 x1 : PV) (h : PHeap) : Res :=
    (E.C fn_impl_sizeOk [x0] h).bind fun v1 =>
    (wantV v1.1 true).bind fun v2 =>
    (bif v2 then some (x1, v1.2) else some (.tup [], v1.2)).bind fun v3 =>
    (wantV v1.1 true).bind fun v4 =>
    (bif v4 then E.C fn_impl_sizeOk [v3.1] v3.2 else some (.tup [], v3.2)).bind fun v5 =>
    (E.p.pick v1.1 v5.1 (.bool false)).bind fun v6 =>
    (wantV v6 true).bind fun v7 =>
    (bif v7 then some (x0, v5.2) else some (.tup [], v5.2)).bind fun v8 =>
    (wantV v6 true).bind fun v9 =>
    (bif v9 then some (x1, v8.2) else some (.tup [], v8.2)).bind fun v10 =>
    (wantV v6 true).bind fun v11 =>
    (bif v11 then pv v10.2 (E.p.bin .mul 3 v8.1 v10.1) else some (.tup [], v10.2)).bind fun v12 =>
    (wantV v6 true).bind fun v13 =>
    (bif v13 then pv v12.2 (E.p.bin .leq 3 v12.1 (.int .i64 9)) else some (.tup [], v12.2)).bind fun v14 =>
    (E.p.pick v6 v14.1 (.bool false)).bind fun v15 =>
    (resV v15).bind fun v16 =>
    some (v16, v14.2)
theorem main_eq (E : Env) (x0 x1 : PV) (h : PHeap) : runBody (E.cx Tryd.prog kl) Tryd.f10 [x0, x1] h = main E x0 x1 h := by kernel_rfl
theorem call_eq (g : Nat → PV) (lf n : Nat) (x0 x1 : PV) (h : PHeap) : CL g lf (n + 1) fn_impl_BoardOk [x0, x1] h = main (env g lf n) x0 x1 h := by
  rw [← main_eq]
  show call Tryd.prog g KL lf (n + 1) 10 [x0, x1] h = _
  rw [call_succ, Tryd.func10]
  kernel_rfl
end impl_BoardOk
namespace laws_alive
noncomputable def main (E : Env) (h : PHeap) : Res :=
    (E.C fn_impl_BoardOk [(.int .i64 2), (.int .i64 2)] h).bind fun v1 =>
    (wantV v1.1 true).bind fun v2 =>
    (bif v2 then E.C fn_impl_BoardOk [(.int .i64 0), (.int .i64 2)] v1.2 else some (.tup [], v1.2)).bind fun v3 =>
    (wantV v1.1 true).bind fun v4 =>
    (bif v4 then pv v3.2 (E.p.un .not v3.1) else some (.tup [], v3.2)).bind fun v5 =>
    (E.p.pick v1.1 v5.1 (.bool false)).bind fun v6 =>
    (resV v6).bind fun v7 =>
    some (v7, v5.2)
theorem main_eq (E : Env) (h : PHeap) : runBody (E.cx Tryd.prog kl) Tryd.f11 [] h = main E  h := by kernel_rfl
theorem call_eq (g : Nat → PV) (lf n : Nat) (h : PHeap) : CL g lf (n + 1) fn_laws_alive [] h = main (env g lf n)  h := by
  rw [← main_eq]
  show call Tryd.prog g KL lf (n + 1) 11 [] h = _
  rw [call_succ, Tryd.func11]
  kernel_rfl
end laws_alive
namespace impl_ReadCell
noncomputable def lp0 : Code := (codeAt (bodyOf Tryd.f12) [1, 0, 1, 0, 0])
def st0 (x0 x1 x2 x12 x13 : PV) (h : PHeap) : St := ⟨[x0, x1, x2, .junk, .junk, .junk, .junk, .junk, .junk, .junk, .junk, .junk, x12, x13, .junk, .junk, .junk, .junk, .junk, .junk, .junk, .junk, .junk, .junk], h⟩
def sr_6_7 (x6 x7 : PV) (h : PHeap) : St := ⟨[.junk, .junk, .junk, .junk, .junk, .junk, x6, x7, .junk, .junk, .junk, .junk, .junk, .junk, .junk, .junk, .junk, .junk, .junk, .junk, .junk, .junk, .junk, .junk], h⟩
def se0_0_1_2_12_13_14 (x0 x1 x2 x12 x13 x14 : PV) (h : PHeap) : St := ⟨[x0, x1, x2, .junk, .junk, .junk, .junk, .junk, .junk, .junk, .junk, .junk, x12, x13, x14, .junk, .junk, .junk, .junk, .junk, .junk, .junk, .junk, .junk], h⟩
noncomputable def K0 (E : Env) (K : PX → St → Res) : PX → St → Res := (kBlock 0 (kSeq (ev (E.cx Tryd.prog kl) (codeAt (bodyOf Tryd.f12) [1, 1])) K))
@[simp] theorem K0_ret (E : Env) (K : PX → St → Res) (s : St) : K0 E K .ret s = K .ret s := by kernel_rfl
noncomputable def body0 (E : Env) (K : PX → St → Res) (x0 x1 x2 x12 x13 : PV) (h : PHeap) : Res :=
    (E.p.bin .lss 3 x13 x12).bind fun v9 =>
    condP v9
     (
      (E.C fn_impl_CellText [x0, x1, x13] h).bind fun v10 =>
      (E.p.bin .eql 9 v10.1 x2).bind fun v11 =>
      condP v11
       (
        K .ret (sr_6_7 x13 (.bool true) v10.2))
       (
        (E.p.bin .add 3 x13 (.int .i64 1)).bind fun v12 =>
        K .normal (st0 x0 x1 x2 x12 v12 v10.2)))
     (
      K (.exit 0) (se0_0_1_2_12_13_14 x0 x1 x2 x12 x13 v9 h))
theorem body0_eq (E : Env) (K : PX → St → Res) (x0 x1 x2 x12 x13 : PV) (h : PHeap) : ev (E.cx Tryd.prog kl) lp0 (st0 x0 x1 x2 x12 x13 h) K = body0 E K x0 x1 x2 x12 x13 h := by kernel_rfl
theorem after0_se0_0_1_2_12_13_14 (E : Env) (x0 x1 x2 x12 x13 x14 : PV) (h : PHeap) : K0 E (kTop Tryd.prog Tryd.f12) (.exit 0) (se0_0_1_2_12_13_14 x0 x1 x2 x12 x13 x14 h) =
    (resV (.int .i64 (-1))).bind fun v7 =>
    (resV (.bool false)).bind fun v8 =>
    some (.tup [v7, v8], h) := by kernel_rfl
theorem top_sr_6_7 (x6 x7 : PV) (h : PHeap) : kTop Tryd.prog Tryd.f12 .ret (sr_6_7 x6 x7 h) =
    (resV x6).bind fun v13 =>
    (resV x7).bind fun v14 =>
    some (.tup [v13, v14], h) := by kernel_rfl
noncomputable def main (E : Env) (x0 x1 x2 : PV) (h : PHeap) : Res :=
    (E.C fn_impl_freeBoard [x0, x1] h).bind fun v1 =>
    (E.p.len 33 v1.1).bind fun v2 =>
    loopK (ev (E.cx Tryd.prog impl_ReadCell.kl) impl_ReadCell.lp0) E.lf (impl_ReadCell.st0 x0 x1 x2 v2 (.int .i64 0) v1.2) (impl_ReadCell.K0 E (kTop Tryd.prog Tryd.f12))
theorem main_eq (E : Env) (x0 x1 x2 : PV) (h : PHeap) : runBody (E.cx Tryd.prog kl) Tryd.f12 [x0, x1, x2] h = main E x0 x1 x2 h := by kernel_rfl
theorem call_eq (g : Nat → PV) (lf n : Nat) (x0 x1 x2 : PV) (h : PHeap) : CL g lf (n + 1) fn_impl_ReadCell [x0, x1, x2] h = main (env g lf n) x0 x1 x2 h := by
  rw [← main_eq]
  show call Tryd.prog g KL lf (n + 1) 12 [x0, x1, x2] h = _
  rw [call_succ, Tryd.func12]
  kernel_rfl
end impl_ReadCell
namespace spec_DrawReadCell
noncomputable def main (E : Env) (x0 : PV) (h : PHeap) : Res :=
    (E.C fn_spec_l20Open [x0] h).bind fun v1 =>
    (E.C fn_spec_l20Board [v1.1, (.int .i64 14)] v1.2).bind fun v2 =>
    (E.p.extract v2.1 0).bind fun v3 =>
    (E.p.extract v2.1 1).bind fun v4 =>
    (E.C fn_spec_l20Rd_pick [v1.1, (.int .i64 6)] v2.2).bind fun v5 =>
    (E.p.bin .eql 3 v5.1 (.int .i64 0)).bind fun v6 =>
    condP v6
     (
      (E.C fn_spec_l20Rd_pick [v1.1, (.int .i64 8)] v5.2).bind fun v7 =>
      (conP [sB [], sB [97], sB [97, 48], sB [101, 49], sB [97, 53], sB [97, 49, 32], sB [49, 97], sB [98, 50]] v7.1).bind fun v8 =>
      (resV v3).bind fun v9 =>
      (resV v4).bind fun v10 =>
      (resV v8).bind fun v11 =>
      some (.tup [v9, v10, v11], v7.2))
     (
      (E.C fn_spec_l20Rd_pick [v1.1, (.int .i64 9)] v5.2).bind fun v12 =>
      (E.C fn_spec_CellText [v3, v4, v12.1] v12.2).bind fun v13 =>
      (resV v3).bind fun v14 =>
      (resV v4).bind fun v15 =>
      (resV v13.1).bind fun v16 =>
      some (.tup [v14, v15, v16], v13.2))
theorem main_eq (E : Env) (x0 : PV) (h : PHeap) : runBody (E.cx Tryd.prog kl) Tryd.f13 [x0] h = main E x0 h := by kernel_rfl
theorem call_eq (g : Nat → PV) (lf n : Nat) (x0 : PV) (h : PHeap) : CL g lf (n + 1) fn_spec_DrawReadCell [x0] h = main (env g lf n) x0 h := by
  rw [← main_eq]
  show call Tryd.prog g KL lf (n + 1) 13 [x0] h = _
  rw [call_succ, Tryd.func13]
  kernel_rfl
end spec_DrawReadCell
namespace spec_ReadCell
noncomputable def lp0 : Code := (codeAt (bodyOf Tryd.f14) [1, 0, 1, 0, 0])
def st0 (x0 x1 x2 x8 : PV) (h : PHeap) : St := ⟨[x0, x1, x2, .junk, .junk, .junk, .junk, .junk, x8, .junk, .junk, .junk, .junk, .junk, .junk, .junk, .junk, .junk, .junk, .junk, .junk, .junk, .junk, .junk, .junk, .junk, .junk, .junk], h⟩
def sr_6_7 (x6 x7 : PV) (h : PHeap) : St := ⟨[.junk, .junk, .junk, .junk, .junk, .junk, x6, x7, .junk, .junk, .junk, .junk, .junk, .junk, .junk, .junk, .junk, .junk, .junk, .junk, .junk, .junk, .junk, .junk, .junk, .junk, .junk, .junk], h⟩
def se0_0_1_2_8_18 (x0 x1 x2 x8 x18 : PV) (h : PHeap) : St := ⟨[x0, x1, x2, .junk, .junk, .junk, .junk, .junk, x8, .junk, .junk, .junk, .junk, .junk, .junk, .junk, .junk, .junk, x18, .junk, .junk, .junk, .junk, .junk, .junk, .junk, .junk, .junk], h⟩
noncomputable def K0 (E : Env) (K : PX → St → Res) : PX → St → Res := (kBlock 0 (kSeq (ev (E.cx Tryd.prog kl) (codeAt (bodyOf Tryd.f14) [1, 1])) K))
@[simp] theorem K0_ret (E : Env) (K : PX → St → Res) (s : St) : K0 E K .ret s = K .ret s := by kernel_rfl
noncomputable def body0 (E : Env) (K : PX → St → Res) (x0 x1 x2 x8 : PV) (h : PHeap) : Res :=
    (E.p.bin .mul 3 x0 x1).bind fun v15 =>
    (E.p.bin .lss 3 x8 v15).bind fun v16 =>
    (wantV v16 true).bind fun v17 =>
    (bif v17 then some (x0, h) else some (.tup [], h)).bind fun v18 =>
    (wantV v16 true).bind fun v19 =>
    (bif v19 then some (x1, v18.2) else some (.tup [], v18.2)).bind fun v20 =>
    (wantV v16 true).bind fun v21 =>
    (bif v21 then E.C fn_spec_BoardOk [v18.1, v20.1] v20.2 else some (.tup [], v20.2)).bind fun v22 =>
    (E.p.pick v16 v22.1 (.bool false)).bind fun v23 =>
    condP v23
     (
      (E.C fn_spec_CellText [x0, x1, x8] v22.2).bind fun v24 =>
      (E.p.bin .eql 9 v24.1 x2).bind fun v25 =>
      condP v25
       (
        K .ret (sr_6_7 x8 (.bool true) v24.2))
       (
        (E.p.bin .add 3 x8 (.int .i64 1)).bind fun v26 =>
        K .normal (st0 x0 x1 x2 v26 v24.2)))
     (
      K (.exit 0) (se0_0_1_2_8_18 x0 x1 x2 x8 v23 v22.2))
theorem body0_eq (E : Env) (K : PX → St → Res) (x0 x1 x2 x8 : PV) (h : PHeap) : ev (E.cx Tryd.prog kl) lp0 (st0 x0 x1 x2 x8 h) K = body0 E K x0 x1 x2 x8 h := by kernel_rfl
theorem after0_se0_0_1_2_8_18 (E : Env) (x0 x1 x2 x8 x18 : PV) (h : PHeap) : K0 E (kTop Tryd.prog Tryd.f14) (.exit 0) (se0_0_1_2_8_18 x0 x1 x2 x8 x18 h) =
    (resV (.int .i64 (-1))).bind fun v13 =>
    (resV (.bool false)).bind fun v14 =>
    some (.tup [v13, v14], h) := by kernel_rfl
theorem top_sr_6_7 (x6 x7 : PV) (h : PHeap) : kTop Tryd.prog Tryd.f14 .ret (sr_6_7 x6 x7 h) =
    (resV x6).bind fun v27 =>
    (resV x7).bind fun v28 =>
    some (.tup [v27, v28], h) := by kernel_rfl
noncomputable def main (E : Env) (x0 x1 x2 : PV) (h : PHeap) : Res :=
    loopK (ev (E.cx Tryd.prog spec_ReadCell.kl) spec_ReadCell.lp0) E.lf (spec_ReadCell.st0 x0 x1 x2 (.int .i64 0) h) (spec_ReadCell.K0 E (kTop Tryd.prog Tryd.f14))
theorem main_eq (E : Env) (x0 x1 x2 : PV) (h : PHeap) : runBody (E.cx Tryd.prog kl) Tryd.f14 [x0, x1, x2] h = main E x0 x1 x2 h := by kernel_rfl
theorem call_eq (g : Nat → PV) (lf n : Nat) (x0 x1 x2 : PV) (h : PHeap) : CL g lf (n + 1) fn_spec_ReadCell [x0, x1, x2] h = main (env g lf n) x0 x1 x2 h := by
  rw [← main_eq]
  show call Tryd.prog g KL lf (n + 1) 14 [x0, x1, x2] h = _
  rw [call_succ, Tryd.func14]
  kernel_rfl
end spec_ReadCell
namespace spec_DrawRecordOk
noncomputable def main (E : Env) (x0 : PV) (h : PHeap) : Res :=
    (E.C fn_spec_l20Open [x0] h).bind fun v1 =>
    (E.C fn_spec_l20Record [v1.1, (.int .i64 2)] v1.2).bind fun v2 =>
    (E.p.extract v2.1 0).bind fun v3 =>
    (E.p.extract v2.1 1).bind fun v4 =>
    (E.p.extract v2.1 2).bind fun v5 =>
    (resV v3).bind fun v6 =>
    (resV v4).bind fun v7 =>
    (resV v5).bind fun v8 =>
    some (.tup [v6, v7, v8], v2.2)
theorem main_eq (E : Env) (x0 : PV) (h : PHeap) : runBody (E.cx Tryd.prog kl) Tryd.f15 [x0] h = main E x0 h := by kernel_rfl
theorem call_eq (g : Nat → PV) (lf n : Nat) (x0 : PV) (h : PHeap) : CL g lf (n + 1) fn_spec_DrawRecordOk [x0] h = main (env g lf n) x0 h := by
  rw [← main_eq]
  show call Tryd.prog g KL lf (n + 1) 15 [x0] h = _
  rw [call_succ, Tryd.func15]
  kernel_rfl
end spec_DrawRecordOk
namespace impl_RecordOk
noncomputable def main (E : Env) (x0 x1 x2 : PV) (h : PHeap) : Res :=
    (E.C fn_impl_EndOf [x0, x1, x2] h).bind fun v1 =>
    (E.p.extract v1.1 0).bind fun v2 =>
    (E.p.extract v1.1 1).bind fun v3 =>
    (E.p.bin .neq 3 v3 (.int .i64 0)).bind fun v4 =>
    (resV v4).bind fun v5 =>
    some (v5, v1.2)
theorem main_eq (E : Env) (x0 x1 x2 : PV) (h : PHeap) : runBody (E.cx Tryd.prog kl) Tryd.f16 [x0, x1, x2] h = main E x0 x1 x2 h := by kernel_rfl
theorem call_eq (g : Nat → PV) (lf n : Nat) (x0 x1 x2 : PV) (h : PHeap) : CL g lf (n + 1) fn_impl_RecordOk [x0, x1, x2] h = main (env g lf n) x0 x1 x2 h := by
  rw [← main_eq]
  show call Tryd.prog g KL lf (n + 1) 16 [x0, x1, x2] h = _
  rw [call_succ, Tryd.func16]
  kernel_rfl
end impl_RecordOk
namespace spec_RecordOk
noncomputable def main (E : Env) (x0 x1 x2 : PV) (h : PHeap) : Res :=
    (E.C fn_spec_BoardOk [x0, x1] h).bind fun v1 =>
    (E.p.un .not v1.1).bind fun v2 =>
    condP v2
     (
      (resV (.bool false)).bind fun v3 =>
      some (v3, v1.2))
     (
      (E.C fn_spec_l11Play [x0, x1, x2] v1.2).bind fun v4 =>
      (E.p.extract v4.1 0).bind fun v5 =>
      (E.p.extract v4.1 1).bind fun v6 =>
      (resV v6).bind fun v7 =>
      some (v7, v4.2))
theorem main_eq (E : Env) (x0 x1 x2 : PV) (h : PHeap) : runBody (E.cx Tryd.prog kl) Tryd.f17 [x0, x1, x2] h = main E x0 x1 x2 h := by kernel_rfl
theorem call_eq (g : Nat → PV) (lf n : Nat) (x0 x1 x2 : PV) (h : PHeap) : CL g lf (n + 1) fn_spec_RecordOk [x0, x1, x2] h = main (env g lf n) x0 x1 x2 h := by
  rw [← main_eq]
  show call Tryd.prog g KL lf (n + 1) 17 [x0, x1, x2] h = _
  rw [call_succ, Tryd.func17]
  kernel_rfl
end spec_RecordOk
namespace spec_BoardOk
noncomputable def main (E : Env) (x0 x1 : PV) (h : PHeap) : Res :=
    (E.C fn_spec_l1In [x0, (.int .i64 1), (.int .i64 4)] h).bind fun v1 =>
    (wantV v1.1 true).bind fun v2 =>
    (bif v2 then some (x1, v1.2) else some (.tup [], v1.2)).bind fun v3 =>
    (wantV v1.1 true).bind fun v4 =>
    (bif v4 then E.C fn_spec_l1In [v3.1, (.int .i64 1), (.int .i64 4)] v3.2 else some (.tup [], v3.2)).bind fun v5 =>
    (E.p.pick v1.1 v5.1 (.bool false)).bind fun v6 =>
    (wantV v6 true).bind fun v7 =>
    (bif v7 then some (x0, v5.2) else some (.tup [], v5.2)).bind fun v8 =>
    (wantV v6 true).bind fun v9 =>
    (bif v9 then some (x1, v8.2) else some (.tup [], v8.2)).bind fun v10 =>
    (wantV v6 true).bind fun v11 =>
    (bif v11 then pv v10.2 (E.p.bin .mul 3 v8.1 v10.1) else some (.tup [], v10.2)).bind fun v12 =>
    (wantV v6 true).bind fun v13 =>
    (bif v13 then pv v12.2 (E.p.bin .leq 3 v12.1 (.int .i64 9)) else some (.tup [], v12.2)).bind fun v14 =>
    (E.p.pick v6 v14.1 (.bool false)).bind fun v15 =>
    (resV v15).bind fun v16 =>
    some (v16, v14.2)
theorem main_eq (E : Env) (x0 x1 : PV) (h : PHeap) : runBody (E.cx Tryd.prog kl) Tryd.f18 [x0, x1] h = main E x0 x1 h := by kernel_rfl
theorem call_eq (g : Nat → PV) (lf n : Nat) (x0 x1 : PV) (h : PHeap) : CL g lf (n + 1) fn_spec_BoardOk [x0, x1] h = main (env g lf n) x0 x1 h := by
  rw [← main_eq]
  show call Tryd.prog g KL lf (n + 1) 18 [x0, x1] h = _
  rw [call_succ, Tryd.func18]
  kernel_rfl
end spec_BoardOk
namespace spec_DrawEndOf
noncomputable def main (E : Env) (x0 : PV) (h : PHeap) : Res :=
    (E.C fn_spec_l20Open [x0] h).bind fun v1 =>
    (E.C fn_spec_l20Record [v1.1, (.int .i64 9)] v1.2).bind fun v2 =>
    (E.p.extract v2.1 0).bind fun v3 =>
    (E.p.extract v2.1 1).bind fun v4 =>
    (E.p.extract v2.1 2).bind fun v5 =>
    (resV v3).bind fun v6 =>
    (resV v4).bind fun v7 =>
    (resV v5).bind fun v8 =>
    some (.tup [v6, v7, v8], v2.2)
theorem main_eq (E : Env) (x0 : PV) (h : PHeap) : runBody (E.cx Tryd.prog kl) Tryd.f19 [x0] h = main E x0 h := by kernel_rfl
theorem call_eq (g : Nat → PV) (lf n : Nat) (x0 : PV) (h : PHeap) : CL g lf (n + 1) fn_spec_DrawEndOf [x0] h = main (env g lf n) x0 h := by
  rw [← main_eq]
  show call Tryd.prog g KL lf (n + 1) 19 [x0] h = _
  rw [call_succ, Tryd.func19]
  kernel_rfl
end spec_DrawEndOf
namespace impl_EndOf
noncomputable def lp0 : Code := (codeAt (bodyOf Tryd.f20) [1, 1, 1, 0, 1, 0, 0])
def st0 (x0 x1 x8 x9 x21 x22 x23 : PV) (h : PHeap) : St := ⟨[x0, x1, .junk, .junk, .junk, .junk, .junk, .junk, x8, x9, .junk, .junk, .junk, .junk, .junk, .junk, .junk, .junk, .junk, .junk, .junk, x21, x22, x23, .junk, .junk, .junk, .junk, .junk, .junk, .junk, .junk, .junk, .junk, .junk, .junk, .junk, .junk, .junk, .junk, .junk, .junk, .junk, .junk], h⟩
def sr_6_7 (x6 x7 : PV) (h : PHeap) : St := ⟨[.junk, .junk, .junk, .junk, .junk, .junk, x6, x7, .junk, .junk, .junk, .junk, .junk, .junk, .junk, .junk, .junk, .junk, .junk, .junk, .junk, .junk, .junk, .junk, .junk, .junk, .junk, .junk, .junk, .junk, .junk, .junk, .junk, .junk, .junk, .junk, .junk, .junk, .junk, .junk, .junk, .junk, .junk, .junk], h⟩
def se0_0_1_8_9_21_22_23_24 (x0 x1 x8 x9 x21 x22 x23 x24 : PV) (h : PHeap) : St := ⟨[x0, x1, .junk, .junk, .junk, .junk, .junk, .junk, x8, x9, .junk, .junk, .junk, .junk, .junk, .junk, .junk, .junk, .junk, .junk, .junk, x21, x22, x23, x24, .junk, .junk, .junk, .junk, .junk, .junk, .junk, .junk, .junk, .junk, .junk, .junk, .junk, .junk, .junk, .junk, .junk, .junk, .junk], h⟩
noncomputable def K0 (E : Env) (K : PX → St → Res) : PX → St → Res := (kBlock 0 (kSeq (ev (E.cx Tryd.prog kl) (codeAt (bodyOf Tryd.f20) [1, 1, 1, 1])) K))
@[simp] theorem K0_ret (E : Env) (K : PX → St → Res) (s : St) : K0 E K .ret s = K .ret s := by kernel_rfl
noncomputable def body0 (E : Env) (K : PX → St → Res) (x0 x1 x8 x9 x21 x22 x23 : PV) (h : PHeap) : Res :=
    (E.p.bin .lss 3 x23 x22).bind fun v18 =>
    condP v18
     (
      (E.p.indexAddr 33 x21 x23).bind fun v19 =>
      (E.p.load 3 v19 h).bind fun v20 =>
      (E.C fn_impl_Played [x0, x1, x8, v20, x9] h).bind fun v21 =>
      (E.p.extract v21.1 0).bind fun v22 =>
      (E.p.extract v21.1 1).bind fun v23 =>
      (E.p.un .not v23).bind fun v24 =>
      condP v24
       (
        K .ret (sr_6_7 .nilsl (.int .i64 0) v21.2))
       (
        (E.C fn_impl_exchanged [x9] v21.2).bind fun v25 =>
        (E.p.bin .add 3 x23 (.int .i64 1)).bind fun v26 =>
        K .normal (st0 x0 x1 v22 v25.1 x21 x22 v26 v25.2)))
     (
      K (.exit 0) (se0_0_1_8_9_21_22_23_24 x0 x1 x8 x9 x21 x22 x23 v18 h))
theorem body0_eq (E : Env) (K : PX → St → Res) (x0 x1 x8 x9 x21 x22 x23 : PV) (h : PHeap) : ev (E.cx Tryd.prog kl) lp0 (st0 x0 x1 x8 x9 x21 x22 x23 h) K = body0 E K x0 x1 x8 x9 x21 x22 x23 h := by kernel_rfl
theorem after0_se0_0_1_8_9_21_22_23_24 (E : Env) (x0 x1 x8 x9 x21 x22 x23 x24 : PV) (h : PHeap) : K0 E (kTop Tryd.prog Tryd.f20) (.exit 0) (se0_0_1_8_9_21_22_23_24 x0 x1 x8 x9 x21 x22 x23 x24 h) =
    (resV x8).bind fun v16 =>
    (resV x9).bind fun v17 =>
    some (.tup [v16, v17], h) := by kernel_rfl
theorem top_sr_6_7 (x6 x7 : PV) (h : PHeap) : kTop Tryd.prog Tryd.f20 .ret (sr_6_7 x6 x7 h) =
    (resV x6).bind fun v27 =>
    (resV x7).bind fun v28 =>
    some (.tup [v27, v28], h) := by kernel_rfl
noncomputable def main (E : Env) (x0 x1 x2 : PV) (h : PHeap) : Res :=
    (E.C fn_impl_BoardOk [x0, x1] h).bind fun v1 =>
    (E.p.un .not v1.1).bind fun v2 =>
    condP v2
     (
      (resV .nilsl).bind fun v3 =>
      (resV (.int .i64 0)).bind fun v4 =>
      some (.tup [v3, v4], v1.2))
     (
      (E.C fn_impl_freeBoard [x0, x1] v1.2).bind fun v5 =>
      (E.p.len 33 x2).bind fun v6 =>
      loopK (ev (E.cx Tryd.prog impl_EndOf.kl) impl_EndOf.lp0) E.lf (impl_EndOf.st0 x0 x1 v5.1 (.int .i64 1) x2 v6 (.int .i64 0) v5.2) (impl_EndOf.K0 E (kTop Tryd.prog Tryd.f20)))
theorem main_eq (E : Env) (x0 x1 x2 : PV) (h : PHeap) : runBody (E.cx Tryd.prog kl) Tryd.f20 [x0, x1, x2] h = main E x0 x1 x2 h := by kernel_rfl
theorem call_eq (g : Nat → PV) (lf n : Nat) (x0 x1 x2 : PV) (h : PHeap) : CL g lf (n + 1) fn_impl_EndOf [x0, x1, x2] h = main (env g lf n) x0 x1 x2 h := by
  rw [← main_eq]
  show call Tryd.prog g KL lf (n + 1) 20 [x0, x1, x2] h = _
  rw [call_succ, Tryd.func20]
  kernel_rfl
end impl_EndOf
namespace spec_EndOf
noncomputable def main (E : Env) (x0 x1 x2 : PV) (h : PHeap) : Res :=
    (E.C fn_spec_RecordOk [x0, x1, x2] h).bind fun v1 =>
    (E.p.un .not v1.1).bind fun v2 =>
    condP v2
     (
      (E.p.buildSlice 33 0 [] v1.2).bind fun v3 =>
      (resV v3.1).bind fun v4 =>
      (resV (.int .i64 0)).bind fun v5 =>
      some (.tup [v4, v5], v3.2))
     (
      (E.C fn_spec_l11Play [x0, x1, x2] v1.2).bind fun v6 =>
      (E.p.extract v6.1 0).bind fun v7 =>
      (E.p.extract v6.1 1).bind fun v8 =>
      (E.p.len 33 x2).bind fun v9 =>
      (E.p.bin .rem 3 v9 (.int .i64 2)).bind fun v10 =>
      (E.p.bin .eql 3 v10 (.int .i64 0)).bind fun v11 =>
      condP v11
       (
        (resV v7).bind fun v12 =>
        (resV (.int .i64 1)).bind fun v13 =>
        some (.tup [v12, v13], v6.2))
       (
        (resV v7).bind fun v14 =>
        (resV (.int .i64 2)).bind fun v15 =>
        some (.tup [v14, v15], v6.2)))
theorem main_eq (E : Env) (x0 x1 x2 : PV) (h : PHeap) : runBody (E.cx Tryd.prog kl) Tryd.f21 [x0, x1, x2] h = main E x0 x1 x2 h := by kernel_rfl
theorem call_eq (g : Nat → PV) (lf n : Nat) (x0 x1 x2 : PV) (h : PHeap) : CL g lf (n + 1) fn_spec_EndOf [x0, x1, x2] h = main (env g lf n) x0 x1 x2 h := by
  rw [← main_eq]
  show call Tryd.prog g KL lf (n + 1) 21 [x0, x1, x2] h = _
  rw [call_succ, Tryd.func21]
  kernel_rfl
end spec_EndOf
namespace laws_sameInts
noncomputable def lp0 : Code := (codeAt (bodyOf Tryd.f22) [1, 1, 0, 1, 0, 0])
def st0 (x0 x1 x5 : PV) (h : PHeap) : St := ⟨[x0, x1, .junk, .junk, .junk, x5, .junk, .junk, .junk, .junk, .junk, .junk, .junk, .junk, .junk, .junk, .junk, .junk, .junk, .junk, .junk, .junk, .junk, .junk, .junk, .junk], h⟩
def sr_4 (x4 : PV) (h : PHeap) : St := ⟨[.junk, .junk, .junk, .junk, x4, .junk, .junk, .junk, .junk, .junk, .junk, .junk, .junk, .junk, .junk, .junk, .junk, .junk, .junk, .junk, .junk, .junk, .junk, .junk, .junk, .junk], h⟩
def se0_0_1_5_14 (x0 x1 x5 x14 : PV) (h : PHeap) : St := ⟨[x0, x1, .junk, .junk, .junk, x5, .junk, .junk, .junk, .junk, .junk, .junk, .junk, .junk, x14, .junk, .junk, .junk, .junk, .junk, .junk, .junk, .junk, .junk, .junk, .junk], h⟩
noncomputable def K0 (E : Env) (K : PX → St → Res) : PX → St → Res := (kBlock 0 (kSeq (ev (E.cx Tryd.prog kl) (codeAt (bodyOf Tryd.f22) [1, 1, 1])) K))
@[simp] theorem K0_ret (E : Env) (K : PX → St → Res) (s : St) : K0 E K .ret s = K .ret s := by kernel_rfl
noncomputable def body0 (E : Env) (K : PX → St → Res) (x0 x1 x5 : PV) (h : PHeap) : Res :=
    (E.p.len 33 x0).bind fun v14 =>
    (E.p.bin .lss 3 x5 v14).bind fun v15 =>
    condP v15
     (
      (E.p.indexAddr 33 x0 x5).bind fun v16 =>
      (E.p.load 3 v16 h).bind fun v17 =>
      (E.p.indexAddr 33 x1 x5).bind fun v18 =>
      (E.p.load 3 v18 h).bind fun v19 =>
      (E.p.bin .neq 3 v17 v19).bind fun v20 =>
      condP v20
       (
        K .ret (sr_4 (.bool false) h))
       (
        (E.p.bin .add 3 x5 (.int .i64 1)).bind fun v21 =>
        K .normal (st0 x0 x1 v21 h)))
     (
      K (.exit 0) (se0_0_1_5_14 x0 x1 x5 v15 h))
theorem body0_eq (E : Env) (K : PX → St → Res) (x0 x1 x5 : PV) (h : PHeap) : ev (E.cx Tryd.prog kl) lp0 (st0 x0 x1 x5 h) K = body0 E K x0 x1 x5 h := by kernel_rfl
theorem after0_se0_0_1_5_14 (E : Env) (x0 x1 x5 x14 : PV) (h : PHeap) : K0 E (kTop Tryd.prog Tryd.f22) (.exit 0) (se0_0_1_5_14 x0 x1 x5 x14 h) =
    (resV (.bool true)).bind fun v13 =>
    some (v13, h) := by kernel_rfl
theorem top_sr_4 (x4 : PV) (h : PHeap) : kTop Tryd.prog Tryd.f22 .ret (sr_4 x4 h) =
    (resV x4).bind fun v22 =>
    some (v22, h) := by kernel_rfl
noncomputable def main (E : Env) (x0 x1 : PV) (h : PHeap) : Res :=
    (E.p.len 33 x0).bind fun v1 =>
    (E.p.len 33 x1).bind fun v2 =>
    (E.p.bin .neq 3 v1 v2).bind fun v3 =>
    condP v3
     (
      (resV (.bool false)).bind fun v4 =>
      some (v4, h))
     (
      loopK (ev (E.cx Tryd.prog laws_sameInts.kl) laws_sameInts.lp0) E.lf (laws_sameInts.st0 x0 x1 (.int .i64 0) h) (laws_sameInts.K0 E (kTop Tryd.prog Tryd.f22)))
theorem main_eq (E : Env) (x0 x1 : PV) (h : PHeap) : runBody (E.cx Tryd.prog kl) Tryd.f22 [x0, x1] h = main E x0 x1 h := by kernel_rfl
theorem call_eq (g : Nat → PV) (lf n : Nat) (x0 x1 : PV) (h : PHeap) : CL g lf (n + 1) fn_laws_sameInts [x0, x1] h = main (env g lf n) x0 x1 h := by
  rw [← main_eq]
  show call Tryd.prog g KL lf (n + 1) 22 [x0, x1] h = _
  rw [call_succ, Tryd.func22]
  kernel_rfl
end laws_sameInts
namespace impl_CellsOf
noncomputable def lp0 : Code := (codeAt (bodyOf Tryd.f23) [1, 1, 1, 0, 1, 0, 0])
def st0 (x3 x9 x22 x23 x24 : PV) (h : PHeap) : St := ⟨[.junk, .junk, .junk, x3, .junk, .junk, .junk, .junk, .junk, x9, .junk, .junk, .junk, .junk, .junk, .junk, .junk, .junk, .junk, .junk, .junk, .junk, x22, x23, x24, .junk, .junk, .junk, .junk, .junk, .junk, .junk, .junk, .junk, .junk, .junk, .junk, .junk], h⟩
def se0_3_9_22_23_24_25 (x3 x9 x22 x23 x24 x25 : PV) (h : PHeap) : St := ⟨[.junk, .junk, .junk, x3, .junk, .junk, .junk, .junk, .junk, x9, .junk, .junk, .junk, .junk, .junk, .junk, .junk, .junk, .junk, .junk, .junk, .junk, x22, x23, x24, x25, .junk, .junk, .junk, .junk, .junk, .junk, .junk, .junk, .junk, .junk, .junk, .junk], h⟩
noncomputable def K0 (E : Env) (K : PX → St → Res) : PX → St → Res := (kBlock 0 (kSeq (ev (E.cx Tryd.prog kl) (codeAt (bodyOf Tryd.f23) [1, 1, 1, 1])) K))
@[simp] theorem K0_ret (E : Env) (K : PX → St → Res) (s : St) : K0 E K .ret s = K .ret s := by kernel_rfl
noncomputable def body0 (E : Env) (K : PX → St → Res) (x3 x9 x22 x23 x24 : PV) (h : PHeap) : Res :=
    (E.p.bin .lss 3 x24 x23).bind fun v21 =>
    condP v21
     (
      (E.p.indexAddr 33 x22 x24).bind fun v22 =>
      (E.p.load 3 v22 h).bind fun v23 =>
      (E.p.bin .eql 3 v23 x3).bind fun v24 =>
      condP v24
       (
        (E.p.buildSlice 33 1 [(0, x24)] h).bind fun v25 =>
        (E.p.append 33 33 x9 v25.1 v25.2).bind fun v26 =>
        (E.p.bin .add 3 x24 (.int .i64 1)).bind fun v27 =>
        K .normal (st0 x3 v26.1 x22 x23 v27 v26.2))
       (
        (E.p.bin .add 3 x24 (.int .i64 1)).bind fun v28 =>
        K .normal (st0 x3 x9 x22 x23 v28 h)))
     (
      K (.exit 0) (se0_3_9_22_23_24_25 x3 x9 x22 x23 x24 v21 h))
theorem body0_eq (E : Env) (K : PX → St → Res) (x3 x9 x22 x23 x24 : PV) (h : PHeap) : ev (E.cx Tryd.prog kl) lp0 (st0 x3 x9 x22 x23 x24 h) K = body0 E K x3 x9 x22 x23 x24 h := by kernel_rfl
theorem after0_se0_3_9_22_23_24_25 (E : Env) (x3 x9 x22 x23 x24 x25 : PV) (h : PHeap) : K0 E (kTop Tryd.prog Tryd.f23) (.exit 0) (se0_3_9_22_23_24_25 x3 x9 x22 x23 x24 x25 h) =
    (resV x9).bind fun v20 =>
    some (v20, h) := by kernel_rfl
noncomputable def main (E : Env) (x0 x1 x2 x3 : PV) (h : PHeap) : Res :=
    (E.C fn_impl_PositionOk [x0, x1, x2] h).bind fun v1 =>
    (E.p.un .not v1.1).bind fun v2 =>
    (wantV v2 false).bind fun v3 =>
    (bif v3 then some (x3, v1.2) else some (.tup [], v1.2)).bind fun v4 =>
    (wantV v2 false).bind fun v5 =>
    (bif v5 then E.C fn_impl_contentOk [v4.1] v4.2 else some (.tup [], v4.2)).bind fun v6 =>
    (wantV v2 false).bind fun v7 =>
    (bif v7 then pv v6.2 (E.p.un .not v6.1) else some (.tup [], v6.2)).bind fun v8 =>
    (E.p.pick v2 (.bool true) v8.1).bind fun v9 =>
    condP v9
     (
      (resV .nilsl).bind fun v10 =>
      some (v10, v8.2))
     (
      (E.p.len 33 x2).bind fun v11 =>
      loopK (ev (E.cx Tryd.prog impl_CellsOf.kl) impl_CellsOf.lp0) E.lf (impl_CellsOf.st0 x3 .nilsl x2 v11 (.int .i64 0) v8.2) (impl_CellsOf.K0 E (kTop Tryd.prog Tryd.f23)))
theorem main_eq (E : Env) (x0 x1 x2 x3 : PV) (h : PHeap) : runBody (E.cx Tryd.prog kl) Tryd.f23 [x0, x1, x2, x3] h = main E x0 x1 x2 x3 h := by kernel_rfl
theorem call_eq (g : Nat → PV) (lf n : Nat) (x0 x1 x2 x3 : PV) (h : PHeap) : CL g lf (n + 1) fn_impl_CellsOf [x0, x1, x2, x3] h = main (env g lf n) x0 x1 x2 x3 h := by
  rw [← main_eq]
  show call Tryd.prog g KL lf (n + 1) 23 [x0, x1, x2, x3] h = _
  rw [call_succ, Tryd.func23]
  kernel_rfl
end impl_CellsOf
namespace impl_PositionOk
noncomputable def lp0 : Code := (codeAt (bodyOf Tryd.f24) [1, 1, 0, 1, 0, 0])
def st0 (x21 x22 x23 : PV) (h : PHeap) : St := ⟨[.junk, .junk, .junk, .junk, .junk, .junk, .junk, .junk, .junk, .junk, .junk, .junk, .junk, .junk, .junk, .junk, .junk, .junk, .junk, .junk, .junk, x21, x22, x23, .junk, .junk, .junk, .junk, .junk, .junk, .junk], h⟩
def sr_6 (x6 : PV) (h : PHeap) : St := ⟨[.junk, .junk, .junk, .junk, .junk, .junk, x6, .junk, .junk, .junk, .junk, .junk, .junk, .junk, .junk, .junk, .junk, .junk, .junk, .junk, .junk, .junk, .junk, .junk, .junk, .junk, .junk, .junk, .junk, .junk, .junk], h⟩
def se0_21_22_23_24 (x21 x22 x23 x24 : PV) (h : PHeap) : St := ⟨[.junk, .junk, .junk, .junk, .junk, .junk, .junk, .junk, .junk, .junk, .junk, .junk, .junk, .junk, .junk, .junk, .junk, .junk, .junk, .junk, .junk, x21, x22, x23, x24, .junk, .junk, .junk, .junk, .junk, .junk], h⟩
noncomputable def K0 (E : Env) (K : PX → St → Res) : PX → St → Res := (kBlock 0 (kSeq (ev (E.cx Tryd.prog kl) (codeAt (bodyOf Tryd.f24) [1, 1, 1])) K))
@[simp] theorem K0_ret (E : Env) (K : PX → St → Res) (s : St) : K0 E K .ret s = K .ret s := by kernel_rfl
noncomputable def body0 (E : Env) (K : PX → St → Res) (x21 x22 x23 : PV) (h : PHeap) : Res :=
    (E.p.bin .lss 3 x23 x22).bind fun v25 =>
    condP v25
     (
      (E.p.indexAddr 33 x21 x23).bind fun v26 =>
      (E.p.load 3 v26 h).bind fun v27 =>
      (E.C fn_impl_contentOk [v27] h).bind fun v28 =>
      (E.p.un .not v28.1).bind fun v29 =>
      condP v29
       (
        K .ret (sr_6 (.bool false) v28.2))
       (
        (E.p.bin .add 3 x23 (.int .i64 1)).bind fun v30 =>
        K .normal (st0 x21 x22 v30 v28.2)))
     (
      K (.exit 0) (se0_21_22_23_24 x21 x22 x23 v25 h))
theorem body0_eq (E : Env) (K : PX → St → Res) (x21 x22 x23 : PV) (h : PHeap) : ev (E.cx Tryd.prog kl) lp0 (st0 x21 x22 x23 h) K = body0 E K x21 x22 x23 h := by kernel_rfl
theorem after0_se0_21_22_23_24 (E : Env) (x21 x22 x23 x24 : PV) (h : PHeap) : K0 E (kTop Tryd.prog Tryd.f24) (.exit 0) (se0_21_22_23_24 x21 x22 x23 x24 h) =
    (resV (.bool true)).bind fun v24 =>
    some (v24, h) := by kernel_rfl
theorem top_sr_6 (x6 : PV) (h : PHeap) : kTop Tryd.prog Tryd.f24 .ret (sr_6 x6 h) =
    (resV x6).bind fun v31 =>
    some (v31, h) := by kernel_rfl
noncomputable def main (E : Env) (x0 x1 x2 : PV) (h : PHeap) : Res :=
    (E.C fn_impl_BoardOk [x0, x1] h).bind fun v1 =>
    (E.p.un .not v1.1).bind fun v2 =>
    (wantV v2 false).bind fun v3 =>
    (bif v3 then some (x2, v1.2) else some (.tup [], v1.2)).bind fun v4 =>
    (wantV v2 false).bind fun v5 =>
    (bif v5 then pv v4.2 (E.p.len 33 v4.1) else some (.tup [], v4.2)).bind fun v6 =>
    (wantV v2 false).bind fun v7 =>
    (bif v7 then some (x0, v6.2) else some (.tup [], v6.2)).bind fun v8 =>
    (wantV v2 false).bind fun v9 =>
    (bif v9 then some (x1, v8.2) else some (.tup [], v8.2)).bind fun v10 =>
    (wantV v2 false).bind fun v11 =>
    (bif v11 then pv v10.2 (E.p.bin .mul 3 v8.1 v10.1) else some (.tup [], v10.2)).bind fun v12 =>
    (wantV v2 false).bind fun v13 =>
    (bif v13 then pv v12.2 (E.p.bin .neq 3 v6.1 v12.1) else some (.tup [], v12.2)).bind fun v14 =>
    (E.p.pick v2 (.bool true) v14.1).bind fun v15 =>
    condP v15
     (
      (resV (.bool false)).bind fun v16 =>
      some (v16, v14.2))
     (
      (E.p.len 33 x2).bind fun v17 =>
      loopK (ev (E.cx Tryd.prog impl_PositionOk.kl) impl_PositionOk.lp0) E.lf (impl_PositionOk.st0 x2 v17 (.int .i64 0) v14.2) (impl_PositionOk.K0 E (kTop Tryd.prog Tryd.f24)))
theorem main_eq (E : Env) (x0 x1 x2 : PV) (h : PHeap) : runBody (E.cx Tryd.prog kl) Tryd.f24 [x0, x1, x2] h = main E x0 x1 x2 h := by kernel_rfl
theorem call_eq (g : Nat → PV) (lf n : Nat) (x0 x1 x2 : PV) (h : PHeap) : CL g lf (n + 1) fn_impl_PositionOk [x0, x1, x2] h = main (env g lf n) x0 x1 x2 h := by
  rw [← main_eq]
  show call Tryd.prog g KL lf (n + 1) 24 [x0, x1, x2] h = _
  rw [call_succ, Tryd.func24]
  kernel_rfl
end impl_PositionOk
namespace impl_Joins
noncomputable def main (E : Env) (x0 x1 x2 x3 : PV) (h : PHeap) : Res :=
    (E.C fn_impl_PositionOk [x0, x1, x2] h).bind fun v1 =>
    (E.p.un .not v1.1).bind fun v2 =>
    (wantV v2 false).bind fun v3 =>
    (bif v3 then some (x3, v1.2) else some (.tup [], v1.2)).bind fun v4 =>
    (wantV v2 false).bind fun v5 =>
    (bif v5 then E.C fn_impl_playerOk [v4.1] v4.2 else some (.tup [], v4.2)).bind fun v6 =>
    (wantV v2 false).bind fun v7 =>
    (bif v7 then pv v6.2 (E.p.un .not v6.1) else some (.tup [], v6.2)).bind fun v8 =>
    (E.p.pick v2 (.bool true) v8.1).bind fun v9 =>
    condP v9
     (
      (resV (.bool false)).bind fun v10 =>
      some (v10, v8.2))
     (
      (E.C fn_impl_sidesOf [x0, x1, x3] v8.2).bind fun v11 =>
      (E.p.extract v11.1 0).bind fun v12 =>
      (E.p.extract v11.1 1).bind fun v13 =>
      (E.C fn_impl_setOf [x2, x3] v11.2).bind fun v14 =>
      (E.p.bin .and 3 v12 v14.1).bind fun v15 =>
      (E.C fn_impl_grown [x0, x1, v15, v14.1] v14.2).bind fun v16 =>
      (E.p.bin .and 3 v16.1 v13).bind fun v17 =>
      (E.p.bin .neq 3 v17 (.int .i64 0)).bind fun v18 =>
      (resV v18).bind fun v19 =>
      some (v19, v16.2))
theorem main_eq (E : Env) (x0 x1 x2 x3 : PV) (h : PHeap) : runBody (E.cx Tryd.prog kl) Tryd.f25 [x0, x1, x2, x3] h = main E x0 x1 x2 x3 h := by kernel_rfl
theorem call_eq (g : Nat → PV) (lf n : Nat) (x0 x1 x2 x3 : PV) (h : PHeap) : CL g lf (n + 1) fn_impl_Joins [x0, x1, x2, x3] h = main (env g lf n) x0 x1 x2 x3 h := by
  rw [← main_eq]
  show call Tryd.prog g KL lf (n + 1) 25 [x0, x1, x2, x3] h = _
  rw [call_succ, Tryd.func25]
  kernel_rfl
end impl_Joins
namespace spec_DrawNearCells
noncomputable def main (E : Env) (x0 : PV) (h : PHeap) : Res :=
    (E.C fn_spec_l20Open [x0] h).bind fun v1 =>
    (E.C fn_spec_l20Board [v1.1, (.int .i64 14)] v1.2).bind fun v2 =>
    (E.p.extract v2.1 0).bind fun v3 =>
    (E.p.extract v2.1 1).bind fun v4 =>
    (E.p.bin .mul 3 v3 v4).bind fun v5 =>
    (E.p.max v5 [(.int .i64 1)]).bind fun v6 =>
    (E.C fn_spec_l20Rd_pick [v1.1, v6] v2.2).bind fun v7 =>
    (E.C fn_spec_l20Rd_pick [v1.1, (.int .i64 40)] v7.2).bind fun v8 =>
    (E.p.bin .quo 3 v8.1 (.int .i64 39)).bind fun v9 =>
    (E.p.bin .mul 3 v9 (.int .i64 9)).bind fun v10 =>
    (E.p.bin .add 3 v7.1 v10).bind fun v11 =>
    (E.C fn_spec_l20Rd_pick [v1.1, (.int .i64 40)] v8.2).bind fun v12 =>
    (E.p.bin .quo 3 v12.1 (.int .i64 39)).bind fun v13 =>
    (E.p.bin .mul 3 v13 (.int .i64 20)).bind fun v14 =>
    (E.p.bin .sub 3 v11 v14).bind fun v15 =>
    (resV v3).bind fun v16 =>
    (resV v4).bind fun v17 =>
    (resV v15).bind fun v18 =>
    some (.tup [v16, v17, v18], v12.2)
theorem main_eq (E : Env) (x0 : PV) (h : PHeap) : runBody (E.cx Tryd.prog kl) Tryd.f26 [x0] h = main E x0 h := by kernel_rfl
theorem call_eq (g : Nat → PV) (lf n : Nat) (x0 : PV) (h : PHeap) : CL g lf (n + 1) fn_spec_DrawNearCells [x0] h = main (env g lf n) x0 h := by
  rw [← main_eq]
  show call Tryd.prog g KL lf (n + 1) 26 [x0] h = _
  rw [call_succ, Tryd.func26]
  kernel_rfl
end spec_DrawNearCells
namespace impl_cellOk
noncomputable def main (E : Env) (x0 x1 x2 : PV) (h : PHeap) : Res :=
    (E.C fn_impl_BoardOk [x0, x1] h).bind fun v1 =>
    (wantV v1.1 true).bind fun v2 =>
    (bif v2 then some (x2, v1.2) else some (.tup [], v1.2)).bind fun v3 =>
    (wantV v1.1 true).bind fun v4 =>
    (bif v4 then pv v3.2 (E.p.bin .geq 3 v3.1 (.int .i64 0)) else some (.tup [], v3.2)).bind fun v5 =>
    (E.p.pick v1.1 v5.1 (.bool false)).bind fun v6 =>
    (wantV v6 true).bind fun v7 =>
    (bif v7 then some (x2, v5.2) else some (.tup [], v5.2)).bind fun v8 =>
    (wantV v6 true).bind fun v9 =>
    (bif v9 then some (x0, v8.2) else some (.tup [], v8.2)).bind fun v10 =>
    (wantV v6 true).bind fun v11 =>
    (bif v11 then some (x1, v10.2) else some (.tup [], v10.2)).bind fun v12 =>
    (wantV v6 true).bind fun v13 =>
    (bif v13 then pv v12.2 (E.p.bin .mul 3 v10.1 v12.1) else some (.tup [], v12.2)).bind fun v14 =>
    (wantV v6 true).bind fun v15 =>
    (bif v15 then pv v14.2 (E.p.bin .lss 3 v8.1 v14.1) else some (.tup [], v14.2)).bind fun v16 =>
    (E.p.pick v6 v16.1 (.bool false)).bind fun v17 =>
    (resV v17).bind fun v18 =>
    some (v18, v16.2)
theorem main_eq (E : Env) (x0 x1 x2 : PV) (h : PHeap) : runBody (E.cx Tryd.prog kl) Tryd.f27 [x0, x1, x2] h = main E x0 x1 x2 h := by kernel_rfl
theorem call_eq (g : Nat → PV) (lf n : Nat) (x0 x1 x2 : PV) (h : PHeap) : CL g lf (n + 1) fn_impl_cellOk [x0, x1, x2] h = main (env g lf n) x0 x1 x2 h := by
  rw [← main_eq]
  show call Tryd.prog g KL lf (n + 1) 27 [x0, x1, x2] h = _
  rw [call_succ, Tryd.func27]
  kernel_rfl
end impl_cellOk
namespace strconv_Itoa
noncomputable def main (E : Env) (x0 : PV) (h : PHeap) : Res :=
    (E.C fn_internal_strconv_Itoa [x0] h).bind fun v1 =>
    (resV v1.1).bind fun v2 =>
    some (v2, v1.2)
theorem main_eq (E : Env) (x0 : PV) (h : PHeap) : runBody (E.cx Tryd.prog kl) Tryd.f28 [x0] h = main E x0 h := by kernel_rfl
theorem call_eq (g : Nat → PV) (lf n : Nat) (x0 : PV) (h : PHeap) : CL g lf (n + 1) fn_strconv_Itoa [x0] h = main (env g lf n) x0 h := by
  rw [← main_eq]
  show call Tryd.prog g KL lf (n + 1) 28 [x0] h = _
  rw [call_succ, Tryd.func28]
  kernel_rfl
end strconv_Itoa
namespace spec_l1In
noncomputable def main (E : Env) (x0 x1 x2 : PV) (h : PHeap) : Res :=
    (E.p.bin .geq 3 x0 x1).bind fun v1 =>
    (wantV v1 true).bind fun v2 =>
    (bif v2 then some (x0, h) else some (.tup [], h)).bind fun v3 =>
    (wantV v1 true).bind fun v4 =>
    (bif v4 then some (x2, v3.2) else some (.tup [], v3.2)).bind fun v5 =>
    (wantV v1 true).bind fun v6 =>
    (bif v6 then pv v5.2 (E.p.bin .leq 3 v3.1 v5.1) else some (.tup [], v5.2)).bind fun v7 =>
    (E.p.pick v1 v7.1 (.bool false)).bind fun v8 =>
    (resV v8).bind fun v9 =>
    some (v9, v7.2)
theorem main_eq (E : Env) (x0 x1 x2 : PV) (h : PHeap) : runBody (E.cx Tryd.prog kl) Tryd.f29 [x0, x1, x2] h = main E x0 x1 x2 h := by kernel_rfl
theorem call_eq (g : Nat → PV) (lf n : Nat) (x0 x1 x2 : PV) (h : PHeap) : CL g lf (n + 1) fn_spec_l1In [x0, x1, x2] h = main (env g lf n) x0 x1 x2 h := by
  rw [← main_eq]
  show call Tryd.prog g KL lf (n + 1) 29 [x0, x1, x2] h = _
  rw [call_succ, Tryd.func29]
  kernel_rfl
end spec_l1In
namespace spec_l1Number
noncomputable def main (E : Env) (x0 : PV) (h : PHeap) : Res :=
    (E.p.bin .lss 3 x0 (.int .i64 10)).bind fun v1 =>
    condP v1
     (
      (E.p.max x0 [(.int .i64 0)]).bind fun v2 =>
      (E.p.bin .add 3 (.int .i64 48) v2).bind fun v3 =>
      (E.p.conv 3 5 v3).bind fun v4 =>
      (E.p.buildSlice 22 1 [(0, v4)] h).bind fun v5 =>
      (E.p.bstr 22 9 v5.1 v5.2).bind fun v6 =>
      (resV v6).bind fun v7 =>
      some (v7, v5.2))
     (
      (E.p.bin .quo 3 x0 (.int .i64 10)).bind fun v8 =>
      (E.p.bin .rem 3 x0 (.int .i64 10)).bind fun v9 =>
      (E.p.bin .add 3 (.int .i64 48) v9).bind fun v10 =>
      (E.p.conv 3 5 v10).bind fun v11 =>
      (E.C fn_spec_l1Number [v8] h).bind fun v12 =>
      (E.p.buildSlice 22 1 [(0, (scalP v11))] []).bind fun v13 =>
      (E.p.bstr 22 9 v13.1 v13.2).bind fun v14 =>
      ckP (sc1 v14) (
      (E.p.bin .add 9 v12.1 v14).bind fun v15 =>
      (resV v15).bind fun v16 =>
      some (v16, v12.2)))
theorem main_eq (E : Env) (x0 : PV) (h : PHeap) : runBody (E.cx Tryd.prog kl) Tryd.f30 [x0] h = main E x0 h := by kernel_rfl
theorem call_eq (g : Nat → PV) (lf n : Nat) (x0 : PV) (h : PHeap) : CL g lf (n + 1) fn_spec_l1Number [x0] h = main (env g lf n) x0 h := by
  rw [← main_eq]
  show call Tryd.prog g KL lf (n + 1) 30 [x0] h = _
  rw [call_succ, Tryd.func30]
  kernel_rfl
end spec_l1Number
namespace impl_sizeOk
noncomputable def main (E : Env) (x0 : PV) (h : PHeap) : Res :=
    (E.p.bin .geq 3 x0 (.int .i64 1)).bind fun v1 =>
    (wantV v1 true).bind fun v2 =>
    (bif v2 then some (x0, h) else some (.tup [], h)).bind fun v3 =>
    (wantV v1 true).bind fun v4 =>
    (bif v4 then pv v3.2 (E.p.bin .leq 3 v3.1 (.int .i64 4)) else some (.tup [], v3.2)).bind fun v5 =>
    (E.p.pick v1 v5.1 (.bool false)).bind fun v6 =>
    (resV v6).bind fun v7 =>
    some (v7, v5.2)
theorem main_eq (E : Env) (x0 : PV) (h : PHeap) : runBody (E.cx Tryd.prog kl) Tryd.f31 [x0] h = main E x0 h := by kernel_rfl
theorem call_eq (g : Nat → PV) (lf n : Nat) (x0 : PV) (h : PHeap) : CL g lf (n + 1) fn_impl_sizeOk [x0] h = main (env g lf n) x0 h := by
  rw [← main_eq]
  show call Tryd.prog g KL lf (n + 1) 31 [x0] h = _
  rw [call_succ, Tryd.func31]
  kernel_rfl
end impl_sizeOk
namespace impl_freeBoard
noncomputable def main (E : Env) (x0 x1 : PV) (h : PHeap) : Res :=
    (E.C fn_impl_BoardOk [x0, x1] h).bind fun v1 =>
    (E.p.un .not v1.1).bind fun v2 =>
    condP v2
     (
      (resV .nilsl).bind fun v3 =>
      some (v3, v1.2))
     (
      (E.p.bin .mul 3 x0 x1).bind fun v4 =>
      (E.p.make 33 v4 v4 v1.2).bind fun v5 =>
      (resV v5.1).bind fun v6 =>
      some (v6, v5.2))
theorem main_eq (E : Env) (x0 x1 : PV) (h : PHeap) : runBody (E.cx Tryd.prog kl) Tryd.f32 [x0, x1] h = main E x0 x1 h := by kernel_rfl
theorem call_eq (g : Nat → PV) (lf n : Nat) (x0 x1 : PV) (h : PHeap) : CL g lf (n + 1) fn_impl_freeBoard [x0, x1] h = main (env g lf n) x0 x1 h := by
  rw [← main_eq]
  show call Tryd.prog g KL lf (n + 1) 32 [x0, x1] h = _
  rw [call_succ, Tryd.func32]
  kernel_rfl
end impl_freeBoard
namespace spec_l20Open
noncomputable def main (E : Env) (x0 : PV) (h : PHeap) : Res :=
    (E.p.len 22 x0).bind fun v1 =>
    (E.p.bin .gtr 3 v1 (.int .i64 2000)).bind fun v2 =>
    condP v2
     (
      (E.p.slice 22 x0 none (some (.int .i64 2000)) h).bind fun v3 =>
      (E.p.build 60 [(0, v3)]).bind fun v4 =>
      (E.p.box v4 h).bind fun v5 =>
      (resV v5.1).bind fun v6 =>
      some (v6, v5.2))
     (
      (E.p.build 60 [(0, x0)]).bind fun v7 =>
      (E.p.box v7 h).bind fun v8 =>
      (resV v8.1).bind fun v9 =>
      some (v9, v8.2))
theorem main_eq (E : Env) (x0 : PV) (h : PHeap) : runBody (E.cx Tryd.prog kl) Tryd.f33 [x0] h = main E x0 h := by kernel_rfl
theorem call_eq (g : Nat → PV) (lf n : Nat) (x0 : PV) (h : PHeap) : CL g lf (n + 1) fn_spec_l20Open [x0] h = main (env g lf n) x0 h := by
  rw [← main_eq]
  show call Tryd.prog g KL lf (n + 1) 33 [x0] h = _
  rw [call_succ, Tryd.func33]
  kernel_rfl
end spec_l20Open
namespace spec_l20Board
noncomputable def main (E : Env) (x0 x1 : PV) (h : PHeap) : Res :=
    (E.p.buildSlice 33 2 [(0, (.int .i64 1)), (1, (.int .i64 1))] h).bind fun v1 =>
    (E.p.buildSlice 33 2 [(0, (.int .i64 1)), (1, (.int .i64 2))] v1.2).bind fun v2 =>
    (E.p.buildSlice 33 2 [(0, (.int .i64 2)), (1, (.int .i64 1))] v2.2).bind fun v3 =>
    (E.p.buildSlice 33 2 [(0, (.int .i64 2)), (1, (.int .i64 2))] v3.2).bind fun v4 =>
    (E.p.buildSlice 33 2 [(0, (.int .i64 2)), (1, (.int .i64 3))] v4.2).bind fun v5 =>
    (E.p.buildSlice 33 2 [(0, (.int .i64 3)), (1, (.int .i64 2))] v5.2).bind fun v6 =>
    (E.p.buildSlice 33 2 [(0, (.int .i64 3)), (1, (.int .i64 3))] v6.2).bind fun v7 =>
    (E.p.buildSlice 33 2 [(0, (.int .i64 2)), (1, (.int .i64 4))] v7.2).bind fun v8 =>
    (E.p.buildSlice 33 2 [(0, (.int .i64 4)), (1, (.int .i64 2))] v8.2).bind fun v9 =>
    (E.p.buildSlice 33 2 [(0, (.int .i64 1)), (1, (.int .i64 4))] v9.2).bind fun v10 =>
    (E.p.buildSlice 33 2 [(0, (.int .i64 2)), (1, (.int .i64 2))] v10.2).bind fun v11 =>
    (E.p.buildSlice 33 2 [(0, (.int .i64 2)), (1, (.int .i64 3))] v11.2).bind fun v12 =>
    (E.p.buildSlice 33 2 [(0, (.int .i64 3)), (1, (.int .i64 2))] v12.2).bind fun v13 =>
    (E.p.buildSlice 61 13 [(0, v1.1), (1, v2.1), (2, v3.1), (3, v4.1), (4, v5.1), (5, v6.1), (6, v7.1), (7, v8.1), (8, v9.1), (9, v10.1), (10, v11.1), (11, v12.1), (12, v13.1)] v13.2).bind fun v14 =>
    (E.C fn_spec_l20Rd_pick [x0, (.int .i64 13)] v14.2).bind fun v15 =>
    (E.p.indexAddr 61 v14.1 v15.1).bind fun v16 =>
    (E.p.load 33 v16 v15.2).bind fun v17 =>
    (E.C fn_spec_l20Rd_odd [x0, x1] v15.2).bind fun v18 =>
    condP v18.1
     (
      (E.p.buildSlice 33 2 [(0, (.int .i64 0)), (1, (.int .i64 2))] v18.2).bind fun v19 =>
      (E.p.buildSlice 33 2 [(0, (.int .i64 3)), (1, (.int .i64 4))] v19.2).bind fun v20 =>
      (E.p.buildSlice 33 2 [(0, (.int .i64 5)), (1, (.int .i64 1))] v20.2).bind fun v21 =>
      (E.p.buildSlice 33 2 [(0, (.int .i64 2)), (1, (.int .i64 (-1)))] v21.2).bind fun v22 =>
      (E.p.buildSlice 33 2 [(0, (.int .i64 1)), (1, (.int .i64 5))] v22.2).bind fun v23 =>
      (E.p.buildSlice 61 5 [(0, v19.1), (1, v20.1), (2, v21.1), (3, v22.1), (4, v23.1)] v23.2).bind fun v24 =>
      (E.C fn_spec_l20Rd_pick [x0, (.int .i64 5)] v24.2).bind fun v25 =>
      (E.p.indexAddr 61 v24.1 v25.1).bind fun v26 =>
      (E.p.load 33 v26 v25.2).bind fun v27 =>
      (E.p.indexAddr 33 v27 (.int .i64 0)).bind fun v28 =>
      (E.p.load 3 v28 v25.2).bind fun v29 =>
      (E.p.indexAddr 33 v27 (.int .i64 1)).bind fun v30 =>
      (E.p.load 3 v30 v25.2).bind fun v31 =>
      (resV v29).bind fun v32 =>
      (resV v31).bind fun v33 =>
      some (.tup [v32, v33], v25.2))
     (
      (E.p.indexAddr 33 v17 (.int .i64 0)).bind fun v34 =>
      (E.p.load 3 v34 v18.2).bind fun v35 =>
      (E.p.indexAddr 33 v17 (.int .i64 1)).bind fun v36 =>
      (E.p.load 3 v36 v18.2).bind fun v37 =>
      (resV v35).bind fun v38 =>
      (resV v37).bind fun v39 =>
      some (.tup [v38, v39], v18.2))
theorem main_eq (E : Env) (x0 x1 : PV) (h : PHeap) : runBody (E.cx Tryd.prog kl) Tryd.f34 [x0, x1] h = main E x0 x1 h := by kernel_rfl
theorem call_eq (g : Nat → PV) (lf n : Nat) (x0 x1 : PV) (h : PHeap) : CL g lf (n + 1) fn_spec_l20Board [x0, x1] h = main (env g lf n) x0 x1 h := by
  rw [← main_eq]
  show call Tryd.prog g KL lf (n + 1) 34 [x0, x1] h = _
  rw [call_succ, Tryd.func34]
  kernel_rfl
end spec_l20Board
namespace spec_l20Rd_pick
noncomputable def main (E : Env) (x0 x1 : PV) (h : PHeap) : Res :=
    (E.p.ptr x0).bind fun v1 =>
    (E.p.fieldAddr 60 v1 1).bind fun v2 =>
    (E.p.load 3 v2 h).bind fun v3 =>
    (E.p.bin .add 3 v3 (.int .i64 1)).bind fun v4 =>
    (E.p.ptr x0).bind fun v5 =>
    (E.p.fieldAddr 60 v5 1).bind fun v6 =>
    (E.p.store 3 v6 v4 h).bind fun v7 =>
    (E.p.bin .lss 3 x1 (.int .i64 1)).bind fun v8 =>
    (wantV v8 false).bind fun v9 =>
    (bif v9 then some (x0, v7) else some (.tup [], v7)).bind fun v10 =>
    (wantV v8 false).bind fun v11 =>
    (bif v11 then pv v10.2 (E.p.ptr v10.1) else some (.tup [], v10.2)).bind fun v12 =>
    (wantV v8 false).bind fun v13 =>
    (bif v13 then pv v12.2 (E.p.fieldAddr 60 v12.1 0) else some (.tup [], v12.2)).bind fun v14 =>
    (wantV v8 false).bind fun v15 =>
    (bif v15 then pv v14.2 (E.p.load 22 v14.1 v14.2) else some (.tup [], v14.2)).bind fun v16 =>
    (wantV v8 false).bind fun v17 =>
    (bif v17 then pv v16.2 (E.p.len 22 v16.1) else some (.tup [], v16.2)).bind fun v18 =>
    (wantV v8 false).bind fun v19 =>
    (bif v19 then pv v18.2 (E.p.bin .eql 3 v18.1 (.int .i64 0)) else some (.tup [], v18.2)).bind fun v20 =>
    (E.p.pick v8 (.bool true) v20.1).bind fun v21 =>
    condP v21
     (
      (resV (.int .i64 0)).bind fun v22 =>
      some (v22, v20.2))
     (
      (E.p.ptr x0).bind fun v23 =>
      (E.p.fieldAddr 60 v23 1).bind fun v24 =>
      (E.p.load 3 v24 v20.2).bind fun v25 =>
      (E.p.bin .sub 3 v25 (.int .i64 1)).bind fun v26 =>
      (E.p.ptr x0).bind fun v27 =>
      (E.p.fieldAddr 60 v27 0).bind fun v28 =>
      (E.p.load 22 v28 v20.2).bind fun v29 =>
      (E.p.len 22 v29).bind fun v30 =>
      (E.p.bin .lss 3 v26 v30).bind fun v31 =>
      condP v31
       (
        (E.p.ptr x0).bind fun v32 =>
        (E.p.fieldAddr 60 v32 0).bind fun v33 =>
        (E.p.load 22 v33 v20.2).bind fun v34 =>
        (E.p.indexAddr 22 v34 v26).bind fun v35 =>
        (E.p.load 5 v35 v20.2).bind fun v36 =>
        (E.p.conv 5 3 v36).bind fun v37 =>
        (E.p.bin .rem 3 v37 x1).bind fun v38 =>
        (resV v38).bind fun v39 =>
        some (v39, v20.2))
       (
        (E.p.ptr x0).bind fun v40 =>
        (E.p.fieldAddr 60 v40 0).bind fun v41 =>
        (E.p.load 22 v41 v20.2).bind fun v42 =>
        (E.p.ptr x0).bind fun v43 =>
        (E.p.fieldAddr 60 v43 0).bind fun v44 =>
        (E.p.load 22 v44 v20.2).bind fun v45 =>
        (E.p.len 22 v45).bind fun v46 =>
        (E.p.bin .rem 3 v26 v46).bind fun v47 =>
        (E.p.indexAddr 22 v42 v47).bind fun v48 =>
        (E.p.load 5 v48 v20.2).bind fun v49 =>
        (E.p.conv 5 3 v49).bind fun v50 =>
        (E.p.bin .mul 3 v50 (.int .i64 131)).bind fun v51 =>
        (E.p.ptr x0).bind fun v52 =>
        (E.p.fieldAddr 60 v52 0).bind fun v53 =>
        (E.p.load 22 v53 v20.2).bind fun v54 =>
        (E.p.bin .mul 3 v26 (.int .i64 7)).bind fun v55 =>
        (E.p.bin .add 3 v55 (.int .i64 3)).bind fun v56 =>
        (E.p.ptr x0).bind fun v57 =>
        (E.p.fieldAddr 60 v57 0).bind fun v58 =>
        (E.p.load 22 v58 v20.2).bind fun v59 =>
        (E.p.len 22 v59).bind fun v60 =>
        (E.p.bin .rem 3 v56 v60).bind fun v61 =>
        (E.p.indexAddr 22 v54 v61).bind fun v62 =>
        (E.p.load 5 v62 v20.2).bind fun v63 =>
        (E.p.conv 5 3 v63).bind fun v64 =>
        (E.p.bin .mul 3 v64 (.int .i64 1117)).bind fun v65 =>
        (E.p.bin .add 3 v51 v65).bind fun v66 =>
        (E.p.bin .mul 3 v26 (.int .i64 29)).bind fun v67 =>
        (E.p.bin .add 3 v66 v67).bind fun v68 =>
        (E.p.ptr x0).bind fun v69 =>
        (E.p.fieldAddr 60 v69 0).bind fun v70 =>
        (E.p.load 22 v70 v20.2).bind fun v71 =>
        (E.p.len 22 v71).bind fun v72 =>
        (E.p.bin .quo 3 v26 v72).bind fun v73 =>
        (E.p.bin .mul 3 v73 (.int .i64 53)).bind fun v74 =>
        (E.p.bin .add 3 v68 v74).bind fun v75 =>
        (E.p.bin .quo 3 v75 (.int .i64 64)).bind fun v76 =>
        (E.p.bin .xor 3 v75 v76).bind fun v77 =>
        (E.p.bin .rem 3 v77 x1).bind fun v78 =>
        (resV v78).bind fun v79 =>
        some (v79, v20.2)))
theorem main_eq (E : Env) (x0 x1 : PV) (h : PHeap) : runBody (E.cx Tryd.prog kl) Tryd.f35 [x0, x1] h = main E x0 x1 h := by kernel_rfl
theorem call_eq (g : Nat → PV) (lf n : Nat) (x0 x1 : PV) (h : PHeap) : CL g lf (n + 1) fn_spec_l20Rd_pick [x0, x1] h = main (env g lf n) x0 x1 h := by
  rw [← main_eq]
  show call Tryd.prog g KL lf (n + 1) 35 [x0, x1] h = _
  rw [call_succ, Tryd.func35]
  kernel_rfl
end spec_l20Rd_pick
namespace spec_l20Record
noncomputable def lp0 : Code := (codeAt (bodyOf Tryd.f36) [1, 1, 1, 1, 1, 0, 1, 0, 0])
def st0 (x0 x1 x7 x8 x9 x10 x11 x12 : PV) (h : PHeap) : St := ⟨[x0, x1, .junk, .junk, .junk, .junk, .junk, x7, x8, x9, x10, x11, x12, .junk, .junk, .junk, .junk, .junk, .junk, .junk, .junk, .junk, .junk, .junk, .junk, .junk, .junk, .junk, .junk, .junk, .junk, .junk, .junk, .junk, .junk, .junk, .junk, .junk, .junk, .junk, .junk, .junk, .junk, .junk, .junk, .junk, .junk, .junk, .junk, .junk, .junk, .junk, .junk, .junk, .junk, .junk, .junk, .junk, .junk, .junk, .junk, .junk, .junk, .junk, .junk, .junk, .junk, .junk, .junk, .junk, .junk, .junk, .junk, .junk, .junk, .junk, .junk, .junk, .junk, .junk], h⟩
def se0_0_1_7_8_9_10_11_12_38 (x0 x1 x7 x8 x9 x10 x11 x12 x38 : PV) (h : PHeap) : St := ⟨[x0, x1, .junk, .junk, .junk, .junk, .junk, x7, x8, x9, x10, x11, x12, .junk, .junk, .junk, .junk, .junk, .junk, .junk, .junk, .junk, .junk, .junk, .junk, .junk, .junk, .junk, .junk, .junk, .junk, .junk, .junk, .junk, .junk, .junk, .junk, .junk, x38, .junk, .junk, .junk, .junk, .junk, .junk, .junk, .junk, .junk, .junk, .junk, .junk, .junk, .junk, .junk, .junk, .junk, .junk, .junk, .junk, .junk, .junk, .junk, .junk, .junk, .junk, .junk, .junk, .junk, .junk, .junk, .junk, .junk, .junk, .junk, .junk, .junk, .junk, .junk, .junk, .junk], h⟩
noncomputable def K0 (E : Env) (K : PX → St → Res) : PX → St → Res := (kBlock 0 (kSeq (ev (E.cx Tryd.prog kl) (codeAt (bodyOf Tryd.f36) [1, 1, 1, 1, 1, 1])) K))
@[simp] theorem K0_ret (E : Env) (K : PX → St → Res) (s : St) : K0 E K .ret s = K .ret s := by kernel_rfl
noncomputable def body0 (E : Env) (K : PX → St → Res) (x0 x1 x7 x8 x9 x10 x11 x12 : PV) (h : PHeap) : Res :=
    (E.p.bin .gtr 3 x12 (.int .i64 0)).bind fun v43 =>
    (wantV v43 true).bind fun v44 =>
    (bif v44 then some (x7, h) else some (.tup [], h)).bind fun v45 =>
    (wantV v43 true).bind fun v46 =>
    (bif v46 then some (x8, v45.2) else some (.tup [], v45.2)).bind fun v47 =>
    (wantV v43 true).bind fun v48 =>
    (bif v48 then E.C fn_spec_BoardOk [v45.1, v47.1] v47.2 else some (.tup [], v47.2)).bind fun v49 =>
    (E.p.pick v43 v49.1 (.bool false)).bind fun v50 =>
    condP v50
     (
      (E.p.bin .mul 3 x7 x8).bind fun v51 =>
      (E.C fn_spec_l20Rd_pick [x0, v51] v49.2).bind fun v52 =>
      (E.C fn_spec_Played [x7, x8, x10, v52.1, x11] v52.2).bind fun v53 =>
      (E.p.extract v53.1 0).bind fun v54 =>
      (E.p.extract v53.1 1).bind fun v55 =>
      condP v55
       (
        (E.p.buildSlice 33 1 [(0, v52.1)] v53.2).bind fun v56 =>
        (E.p.append 33 33 x9 v56.1 v56.2).bind fun v57 =>
        (E.C fn_spec_l1Other [x11] v57.2).bind fun v58 =>
        (E.p.bin .sub 3 x12 (.int .i64 1)).bind fun v59 =>
        K .normal (st0 x0 x1 x7 x8 v57.1 v54 v58.1 v59 v58.2))
       (
        (E.p.bin .sub 3 x12 (.int .i64 1)).bind fun v60 =>
        K .normal (st0 x0 x1 x7 x8 x9 x10 x11 v60 v53.2)))
     (
      K (.exit 0) (se0_0_1_7_8_9_10_11_12_38 x0 x1 x7 x8 x9 x10 x11 x12 v50 v49.2))
theorem body0_eq (E : Env) (K : PX → St → Res) (x0 x1 x7 x8 x9 x10 x11 x12 : PV) (h : PHeap) : ev (E.cx Tryd.prog kl) lp0 (st0 x0 x1 x7 x8 x9 x10 x11 x12 h) K = body0 E K x0 x1 x7 x8 x9 x10 x11 x12 h := by kernel_rfl
theorem after0_se0_0_1_7_8_9_10_11_12_38 (E : Env) (x0 x1 x7 x8 x9 x10 x11 x12 x38 : PV) (h : PHeap) : K0 E (kTop Tryd.prog Tryd.f36) (.exit 0) (se0_0_1_7_8_9_10_11_12_38 x0 x1 x7 x8 x9 x10 x11 x12 x38 h) =
    (E.p.bin .mul 3 x1 (.int .i64 2)).bind fun v29 =>
    (E.C fn_spec_l20Rd_odd [x0, v29] h).bind fun v30 =>
    condP v30.1
     (
      (E.p.buildSlice 33 3 [(0, (.int .i64 (-1))), (1, (.int .i64 9)), (2, (.int .i64 0))] v30.2).bind fun v31 =>
      (E.C fn_spec_l20Rd_pick [x0, (.int .i64 3)] v31.2).bind fun v32 =>
      (E.p.indexAddr 33 v31.1 v32.1).bind fun v33 =>
      (E.p.load 3 v33 v32.2).bind fun v34 =>
      (E.p.buildSlice 33 1 [(0, v34)] v32.2).bind fun v35 =>
      (E.p.append 33 33 x9 v35.1 v35.2).bind fun v36 =>
      (resV x7).bind fun v37 =>
      (resV x8).bind fun v38 =>
      (resV v36.1).bind fun v39 =>
      some (.tup [v37, v38, v39], v36.2))
     (
      (resV x7).bind fun v40 =>
      (resV x8).bind fun v41 =>
      (resV x9).bind fun v42 =>
      some (.tup [v40, v41, v42], v30.2)) := by kernel_rfl
noncomputable def main (E : Env) (x0 x1 : PV) (h : PHeap) : Res :=
    (E.p.bin .mul 3 x1 (.int .i64 2)).bind fun v1 =>
    (E.C fn_spec_l20Board [x0, v1] h).bind fun v2 =>
    (E.p.extract v2.1 0).bind fun v3 =>
    (E.p.extract v2.1 1).bind fun v4 =>
    (E.p.buildSlice 33 0 [] v2.2).bind fun v5 =>
    (E.p.bin .mul 3 v3 v4).bind fun v6 =>
    (E.p.max v6 [(.int .i64 0)]).bind fun v7 =>
    (E.p.bin .rem 3 v7 (.int .i64 10)).bind fun v8 =>
    (E.p.make 33 v8 v8 v5.2).bind fun v9 =>
    (E.C fn_spec_l20Rd_pick [x0, (.int .i64 10)] v9.2).bind fun v10 =>
    loopK (ev (E.cx Tryd.prog spec_l20Record.kl) spec_l20Record.lp0) E.lf (spec_l20Record.st0 x0 x1 v3 v4 v5.1 v9.1 (.int .i64 1) v10.1 v10.2) (spec_l20Record.K0 E (kTop Tryd.prog Tryd.f36))
theorem main_eq (E : Env) (x0 x1 : PV) (h : PHeap) : runBody (E.cx Tryd.prog kl) Tryd.f36 [x0, x1] h = main E x0 x1 h := by kernel_rfl
theorem call_eq (g : Nat → PV) (lf n : Nat) (x0 x1 : PV) (h : PHeap) : CL g lf (n + 1) fn_spec_l20Record [x0, x1] h = main (env g lf n) x0 x1 h := by
  rw [← main_eq]
  show call Tryd.prog g KL lf (n + 1) 36 [x0, x1] h = _
  rw [call_succ, Tryd.func36]
  kernel_rfl
end spec_l20Record
namespace spec_l11Play
noncomputable def lp0 : Code := (codeAt (bodyOf Tryd.f37) [1, 1, 1, 0, 1, 0, 0])
def st0 (x0 x1 x2 x8 x9 x10 : PV) (h : PHeap) : St := ⟨[x0, x1, x2, .junk, .junk, .junk, .junk, .junk, x8, x9, x10, .junk, .junk, .junk, .junk, .junk, .junk, .junk, .junk, .junk, .junk, .junk, .junk, .junk, .junk, .junk, .junk, .junk, .junk, .junk, .junk, .junk, .junk, .junk, .junk, .junk, .junk, .junk, .junk, .junk, .junk, .junk], h⟩
def sr_6_7 (x6 x7 : PV) (h : PHeap) : St := ⟨[.junk, .junk, .junk, .junk, .junk, .junk, x6, x7, .junk, .junk, .junk, .junk, .junk, .junk, .junk, .junk, .junk, .junk, .junk, .junk, .junk, .junk, .junk, .junk, .junk, .junk, .junk, .junk, .junk, .junk, .junk, .junk, .junk, .junk, .junk, .junk, .junk, .junk, .junk, .junk, .junk, .junk], h⟩
def se0_0_1_2_8_9_10_20 (x0 x1 x2 x8 x9 x10 x20 : PV) (h : PHeap) : St := ⟨[x0, x1, x2, .junk, .junk, .junk, .junk, .junk, x8, x9, x10, .junk, .junk, .junk, .junk, .junk, .junk, .junk, .junk, .junk, x20, .junk, .junk, .junk, .junk, .junk, .junk, .junk, .junk, .junk, .junk, .junk, .junk, .junk, .junk, .junk, .junk, .junk, .junk, .junk, .junk, .junk], h⟩
noncomputable def K0 (E : Env) (K : PX → St → Res) : PX → St → Res := (kBlock 0 (kSeq (ev (E.cx Tryd.prog kl) (codeAt (bodyOf Tryd.f37) [1, 1, 1, 1])) K))
@[simp] theorem K0_ret (E : Env) (K : PX → St → Res) (s : St) : K0 E K .ret s = K .ret s := by kernel_rfl
noncomputable def body0 (E : Env) (K : PX → St → Res) (x0 x1 x2 x8 x9 x10 : PV) (h : PHeap) : Res :=
    (E.p.len 33 x2).bind fun v16 =>
    (E.p.bin .lss 3 x10 v16).bind fun v17 =>
    condP v17
     (
      (E.p.indexAddr 33 x2 x10).bind fun v18 =>
      (E.p.load 3 v18 h).bind fun v19 =>
      (E.C fn_spec_Played [x0, x1, x8, v19, x9] h).bind fun v20 =>
      (E.p.extract v20.1 0).bind fun v21 =>
      (E.p.extract v20.1 1).bind fun v22 =>
      (E.p.un .not v22).bind fun v23 =>
      condP v23
       (
        (E.p.buildSlice 33 0 [] v20.2).bind fun v24 =>
        K .ret (sr_6_7 v24.1 (.bool false) v24.2))
       (
        (E.C fn_spec_l1Other [x9] v20.2).bind fun v25 =>
        (E.p.bin .add 3 x10 (.int .i64 1)).bind fun v26 =>
        K .normal (st0 x0 x1 x2 v21 v25.1 v26 v25.2)))
     (
      K (.exit 0) (se0_0_1_2_8_9_10_20 x0 x1 x2 x8 x9 x10 v17 h))
theorem body0_eq (E : Env) (K : PX → St → Res) (x0 x1 x2 x8 x9 x10 : PV) (h : PHeap) : ev (E.cx Tryd.prog kl) lp0 (st0 x0 x1 x2 x8 x9 x10 h) K = body0 E K x0 x1 x2 x8 x9 x10 h := by kernel_rfl
theorem after0_se0_0_1_2_8_9_10_20 (E : Env) (x0 x1 x2 x8 x9 x10 x20 : PV) (h : PHeap) : K0 E (kTop Tryd.prog Tryd.f37) (.exit 0) (se0_0_1_2_8_9_10_20 x0 x1 x2 x8 x9 x10 x20 h) =
    (resV x8).bind fun v14 =>
    (resV (.bool true)).bind fun v15 =>
    some (.tup [v14, v15], h) := by kernel_rfl
theorem top_sr_6_7 (x6 x7 : PV) (h : PHeap) : kTop Tryd.prog Tryd.f37 .ret (sr_6_7 x6 x7 h) =
    (resV x6).bind fun v27 =>
    (resV x7).bind fun v28 =>
    some (.tup [v27, v28], h) := by kernel_rfl
noncomputable def main (E : Env) (x0 x1 x2 : PV) (h : PHeap) : Res :=
    (E.p.bin .mul 3 x0 x1).bind fun v1 =>
    (E.p.make 33 v1 v1 h).bind fun v2 =>
    loopK (ev (E.cx Tryd.prog spec_l11Play.kl) spec_l11Play.lp0) E.lf (spec_l11Play.st0 x0 x1 x2 v2.1 (.int .i64 1) (.int .i64 0) v2.2) (spec_l11Play.K0 E (kTop Tryd.prog Tryd.f37))
theorem main_eq (E : Env) (x0 x1 x2 : PV) (h : PHeap) : runBody (E.cx Tryd.prog kl) Tryd.f37 [x0, x1, x2] h = main E x0 x1 x2 h := by kernel_rfl
theorem call_eq (g : Nat → PV) (lf n : Nat) (x0 x1 x2 : PV) (h : PHeap) : CL g lf (n + 1) fn_spec_l11Play [x0, x1, x2] h = main (env g lf n) x0 x1 x2 h := by
  rw [← main_eq]
  show call Tryd.prog g KL lf (n + 1) 37 [x0, x1, x2] h = _
  rw [call_succ, Tryd.func37]
  kernel_rfl
end spec_l11Play
namespace impl_Played
noncomputable def main (E : Env) (x0 x1 x2 x3 x4 : PV) (h : PHeap) : Res :=
    (E.C fn_impl_MoveOk [x0, x1, x2, x3, x4] h).bind fun v1 =>
    (E.p.un .not v1.1).bind fun v2 =>
    condP v2
     (
      (resV .nilsl).bind fun v3 =>
      (resV (.bool false)).bind fun v4 =>
      some (.tup [v3, v4], v1.2))
     (
      (E.C fn_slices_Clone___int_int_ [x2] v1.2).bind fun v5 =>
      (E.p.indexAddr 33 v5.1 x3).bind fun v6 =>
      (E.p.store 3 v6 x4 v5.2).bind fun v7 =>
      (resV v5.1).bind fun v8 =>
      (resV (.bool true)).bind fun v9 =>
      some (.tup [v8, v9], v7))
theorem main_eq (E : Env) (x0 x1 x2 x3 x4 : PV) (h : PHeap) : runBody (E.cx Tryd.prog kl) Tryd.f38 [x0, x1, x2, x3, x4] h = main E x0 x1 x2 x3 x4 h := by kernel_rfl
theorem call_eq (g : Nat → PV) (lf n : Nat) (x0 x1 x2 x3 x4 : PV) (h : PHeap) : CL g lf (n + 1) fn_impl_Played [x0, x1, x2, x3, x4] h = main (env g lf n) x0 x1 x2 x3 x4 h := by
  rw [← main_eq]
  show call Tryd.prog g KL lf (n + 1) 38 [x0, x1, x2, x3, x4] h = _
  rw [call_succ, Tryd.func38]
  kernel_rfl
end impl_Played
namespace impl_exchanged
noncomputable def main (E : Env) (x0 : PV) (h : PHeap) : Res :=
    (E.p.bin .eql 3 x0 (.int .i64 1)).bind fun v1 =>
    condP v1
     (
      (resV (.int .i64 2)).bind fun v2 =>
      some (v2, h))
     (
      (E.p.bin .eql 3 x0 (.int .i64 2)).bind fun v3 =>
      condP v3
       (
        (resV (.int .i64 1)).bind fun v4 =>
        some (v4, h))
       (
        (resV x0).bind fun v5 =>
        some (v5, h)))
theorem main_eq (E : Env) (x0 : PV) (h : PHeap) : runBody (E.cx Tryd.prog kl) Tryd.f39 [x0] h = main E x0 h := by kernel_rfl
theorem call_eq (g : Nat → PV) (lf n : Nat) (x0 : PV) (h : PHeap) : CL g lf (n + 1) fn_impl_exchanged [x0] h = main (env g lf n) x0 h := by
  rw [← main_eq]
  show call Tryd.prog g KL lf (n + 1) 39 [x0] h = _
  rw [call_succ, Tryd.func39]
  kernel_rfl
end impl_exchanged
namespace impl_contentOk
noncomputable def main (E : Env) (x0 : PV) (h : PHeap) : Res :=
    (E.p.bin .eql 3 x0 (.int .i64 0)).bind fun v1 =>
    (wantV v1 false).bind fun v2 =>
    (bif v2 then some (x0, h) else some (.tup [], h)).bind fun v3 =>
    (wantV v1 false).bind fun v4 =>
    (bif v4 then pv v3.2 (E.p.bin .eql 3 v3.1 (.int .i64 1)) else some (.tup [], v3.2)).bind fun v5 =>
    (E.p.pick v1 (.bool true) v5.1).bind fun v6 =>
    (wantV v6 false).bind fun v7 =>
    (bif v7 then some (x0, v5.2) else some (.tup [], v5.2)).bind fun v8 =>
    (wantV v6 false).bind fun v9 =>
    (bif v9 then pv v8.2 (E.p.bin .eql 3 v8.1 (.int .i64 2)) else some (.tup [], v8.2)).bind fun v10 =>
    (E.p.pick v6 (.bool true) v10.1).bind fun v11 =>
    (resV v11).bind fun v12 =>
    some (v12, v10.2)
theorem main_eq (E : Env) (x0 : PV) (h : PHeap) : runBody (E.cx Tryd.prog kl) Tryd.f40 [x0] h = main E x0 h := by kernel_rfl
theorem call_eq (g : Nat → PV) (lf n : Nat) (x0 : PV) (h : PHeap) : CL g lf (n + 1) fn_impl_contentOk [x0] h = main (env g lf n) x0 h := by
  rw [← main_eq]
  show call Tryd.prog g KL lf (n + 1) 40 [x0] h = _
  rw [call_succ, Tryd.func40]
  kernel_rfl
end impl_contentOk
namespace impl_playerOk
noncomputable def main (E : Env) (x0 : PV) (h : PHeap) : Res :=
    (E.p.bin .eql 3 x0 (.int .i64 1)).bind fun v1 =>
    (wantV v1 false).bind fun v2 =>
    (bif v2 then some (x0, h) else some (.tup [], h)).bind fun v3 =>
    (wantV v1 false).bind fun v4 =>
    (bif v4 then pv v3.2 (E.p.bin .eql 3 v3.1 (.int .i64 2)) else some (.tup [], v3.2)).bind fun v5 =>
    (E.p.pick v1 (.bool true) v5.1).bind fun v6 =>
    (resV v6).bind fun v7 =>
    some (v7, v5.2)
theorem main_eq (E : Env) (x0 : PV) (h : PHeap) : runBody (E.cx Tryd.prog kl) Tryd.f41 [x0] h = main E x0 h := by kernel_rfl
theorem call_eq (g : Nat → PV) (lf n : Nat) (x0 : PV) (h : PHeap) : CL g lf (n + 1) fn_impl_playerOk [x0] h = main (env g lf n) x0 h := by
  rw [← main_eq]
  show call Tryd.prog g KL lf (n + 1) 41 [x0] h = _
  rw [call_succ, Tryd.func41]
  kernel_rfl
end impl_playerOk
namespace impl_sidesOf
noncomputable def lp0 : Code := (codeAt (bodyOf Tryd.f42) [1, 1, 0, 1, 0, 0])
def st0 (x0 x1 x2 x8 x9 x15 x16 : PV) (h : PHeap) : St := ⟨[x0, x1, x2, .junk, .junk, .junk, .junk, .junk, x8, x9, .junk, .junk, .junk, .junk, .junk, x15, x16, .junk, .junk, .junk, .junk, .junk, .junk, .junk, .junk, .junk, .junk, .junk, .junk, .junk, .junk, .junk, .junk, .junk, .junk, .junk, .junk, .junk, .junk, .junk, .junk, .junk, .junk, .junk, .junk, .junk, .junk], h⟩
def se0_0_1_2_8_9_15_16_17 (x0 x1 x2 x8 x9 x15 x16 x17 : PV) (h : PHeap) : St := ⟨[x0, x1, x2, .junk, .junk, .junk, .junk, .junk, x8, x9, .junk, .junk, .junk, .junk, .junk, x15, x16, x17, .junk, .junk, .junk, .junk, .junk, .junk, .junk, .junk, .junk, .junk, .junk, .junk, .junk, .junk, .junk, .junk, .junk, .junk, .junk, .junk, .junk, .junk, .junk, .junk, .junk, .junk, .junk, .junk, .junk], h⟩
noncomputable def K0 (E : Env) (K : PX → St → Res) : PX → St → Res := (kBlock 0 (kSeq (ev (E.cx Tryd.prog kl) (codeAt (bodyOf Tryd.f42) [1, 1, 1])) K))
@[simp] theorem K0_ret (E : Env) (K : PX → St → Res) (s : St) : K0 E K .ret s = K .ret s := by kernel_rfl
noncomputable def body0 (E : Env) (K : PX → St → Res) (x0 x1 x2 x8 x9 x15 x16 : PV) (h : PHeap) : Res :=
    (E.p.bin .lss 3 x16 x15).bind fun v36 =>
    condP v36
     (
      (E.p.bin .quo 3 x16 x1).bind fun v37 =>
      (E.p.bin .sub 3 x0 (.int .i64 1)).bind fun v38 =>
      (E.p.bin .eql 3 x2 (.int .i64 2)).bind fun v39 =>
      condP v39
       (
        (E.p.bin .rem 3 x16 x1).bind fun v40 =>
        (E.p.bin .sub 3 x1 (.int .i64 1)).bind fun v41 =>
        (E.p.bin .eql 3 v40 (.int .i64 0)).bind fun v42 =>
        condP v42
         (
          (E.p.bin .shl 3 (.int .i64 1) x16).bind fun v43 =>
          (E.p.bin .or 3 x8 v43).bind fun v44 =>
          (E.p.bin .eql 3 v40 v41).bind fun v45 =>
          condP v45
           (
            (E.p.bin .shl 3 (.int .i64 1) x16).bind fun v46 =>
            (E.p.bin .or 3 x9 v46).bind fun v47 =>
            (E.p.bin .add 3 x16 (.int .i64 1)).bind fun v48 =>
            K .normal (st0 x0 x1 x2 v44 v47 x15 v48 h))
           (
            (E.p.bin .add 3 x16 (.int .i64 1)).bind fun v49 =>
            K .normal (st0 x0 x1 x2 v44 x9 x15 v49 h)))
         (
          (E.p.bin .eql 3 v40 v41).bind fun v50 =>
          condP v50
           (
            (E.p.bin .shl 3 (.int .i64 1) x16).bind fun v51 =>
            (E.p.bin .or 3 x9 v51).bind fun v52 =>
            (E.p.bin .add 3 x16 (.int .i64 1)).bind fun v53 =>
            K .normal (st0 x0 x1 x2 x8 v52 x15 v53 h))
           (
            (E.p.bin .add 3 x16 (.int .i64 1)).bind fun v54 =>
            K .normal (st0 x0 x1 x2 x8 x9 x15 v54 h))))
       (
        (E.p.bin .eql 3 v37 (.int .i64 0)).bind fun v55 =>
        condP v55
         (
          (E.p.bin .shl 3 (.int .i64 1) x16).bind fun v56 =>
          (E.p.bin .or 3 x8 v56).bind fun v57 =>
          (E.p.bin .eql 3 v37 v38).bind fun v58 =>
          condP v58
           (
            (E.p.bin .shl 3 (.int .i64 1) x16).bind fun v59 =>
            (E.p.bin .or 3 x9 v59).bind fun v60 =>
            (E.p.bin .add 3 x16 (.int .i64 1)).bind fun v61 =>
            K .normal (st0 x0 x1 x2 v57 v60 x15 v61 h))
           (
            (E.p.bin .add 3 x16 (.int .i64 1)).bind fun v62 =>
            K .normal (st0 x0 x1 x2 v57 x9 x15 v62 h)))
         (
          (E.p.bin .eql 3 v37 v38).bind fun v63 =>
          condP v63
           (
            (E.p.bin .shl 3 (.int .i64 1) x16).bind fun v64 =>
            (E.p.bin .or 3 x9 v64).bind fun v65 =>
            (E.p.bin .add 3 x16 (.int .i64 1)).bind fun v66 =>
            K .normal (st0 x0 x1 x2 x8 v65 x15 v66 h))
           (
            (E.p.bin .add 3 x16 (.int .i64 1)).bind fun v67 =>
            K .normal (st0 x0 x1 x2 x8 x9 x15 v67 h)))))
     (
      K (.exit 0) (se0_0_1_2_8_9_15_16_17 x0 x1 x2 x8 x9 x15 x16 v36 h))
theorem body0_eq (E : Env) (K : PX → St → Res) (x0 x1 x2 x8 x9 x15 x16 : PV) (h : PHeap) : ev (E.cx Tryd.prog kl) lp0 (st0 x0 x1 x2 x8 x9 x15 x16 h) K = body0 E K x0 x1 x2 x8 x9 x15 x16 h := by kernel_rfl
theorem after0_se0_0_1_2_8_9_15_16_17 (E : Env) (x0 x1 x2 x8 x9 x15 x16 x17 : PV) (h : PHeap) : K0 E (kTop Tryd.prog Tryd.f42) (.exit 0) (se0_0_1_2_8_9_15_16_17 x0 x1 x2 x8 x9 x15 x16 x17 h) =
    (resV x8).bind fun v34 =>
    (resV x9).bind fun v35 =>
    some (.tup [v34, v35], h) := by kernel_rfl
noncomputable def main (E : Env) (x0 x1 x2 : PV) (h : PHeap) : Res :=
    (E.p.bin .mul 3 x0 x1).bind fun v1 =>
    loopK (ev (E.cx Tryd.prog impl_sidesOf.kl) impl_sidesOf.lp0) E.lf (impl_sidesOf.st0 x0 x1 x2 (.int .i64 0) (.int .i64 0) v1 (.int .i64 0) h) (impl_sidesOf.K0 E (kTop Tryd.prog Tryd.f42))
theorem main_eq (E : Env) (x0 x1 x2 : PV) (h : PHeap) : runBody (E.cx Tryd.prog kl) Tryd.f42 [x0, x1, x2] h = main E x0 x1 x2 h := by kernel_rfl
theorem call_eq (g : Nat → PV) (lf n : Nat) (x0 x1 x2 : PV) (h : PHeap) : CL g lf (n + 1) fn_impl_sidesOf [x0, x1, x2] h = main (env g lf n) x0 x1 x2 h := by
  rw [← main_eq]
  show call Tryd.prog g KL lf (n + 1) 42 [x0, x1, x2] h = _
  rw [call_succ, Tryd.func42]
  kernel_rfl
end impl_sidesOf
namespace impl_setOf
noncomputable def lp0 : Code := (codeAt (bodyOf Tryd.f43) [1, 1, 0, 1, 0, 0])
def st0 (x1 x5 x8 x9 x10 : PV) (h : PHeap) : St := ⟨[.junk, x1, .junk, .junk, .junk, x5, .junk, .junk, x8, x9, x10, .junk, .junk, .junk, .junk, .junk, .junk, .junk, .junk, .junk, .junk, .junk, .junk, .junk], h⟩
def se0_1_5_8_9_10_11 (x1 x5 x8 x9 x10 x11 : PV) (h : PHeap) : St := ⟨[.junk, x1, .junk, .junk, .junk, x5, .junk, .junk, x8, x9, x10, x11, .junk, .junk, .junk, .junk, .junk, .junk, .junk, .junk, .junk, .junk, .junk, .junk], h⟩
noncomputable def K0 (E : Env) (K : PX → St → Res) : PX → St → Res := (kBlock 0 (kSeq (ev (E.cx Tryd.prog kl) (codeAt (bodyOf Tryd.f43) [1, 1, 1])) K))
@[simp] theorem K0_ret (E : Env) (K : PX → St → Res) (s : St) : K0 E K .ret s = K .ret s := by kernel_rfl
noncomputable def body0 (E : Env) (K : PX → St → Res) (x1 x5 x8 x9 x10 : PV) (h : PHeap) : Res :=
    (E.p.bin .lss 3 x10 x9).bind fun v11 =>
    condP v11
     (
      (E.p.indexAddr 33 x8 x10).bind fun v12 =>
      (E.p.load 3 v12 h).bind fun v13 =>
      (E.p.bin .eql 3 v13 x1).bind fun v14 =>
      condP v14
       (
        (E.p.bin .shl 3 (.int .i64 1) x10).bind fun v15 =>
        (E.p.bin .or 3 x5 v15).bind fun v16 =>
        (E.p.bin .add 3 x10 (.int .i64 1)).bind fun v17 =>
        K .normal (st0 x1 v16 x8 x9 v17 h))
       (
        (E.p.bin .add 3 x10 (.int .i64 1)).bind fun v18 =>
        K .normal (st0 x1 x5 x8 x9 v18 h)))
     (
      K (.exit 0) (se0_1_5_8_9_10_11 x1 x5 x8 x9 x10 v11 h))
theorem body0_eq (E : Env) (K : PX → St → Res) (x1 x5 x8 x9 x10 : PV) (h : PHeap) : ev (E.cx Tryd.prog kl) lp0 (st0 x1 x5 x8 x9 x10 h) K = body0 E K x1 x5 x8 x9 x10 h := by kernel_rfl
theorem after0_se0_1_5_8_9_10_11 (E : Env) (x1 x5 x8 x9 x10 x11 : PV) (h : PHeap) : K0 E (kTop Tryd.prog Tryd.f43) (.exit 0) (se0_1_5_8_9_10_11 x1 x5 x8 x9 x10 x11 h) =
    (resV x5).bind fun v10 =>
    some (v10, h) := by kernel_rfl
noncomputable def main (E : Env) (x0 x1 : PV) (h : PHeap) : Res :=
    (E.p.len 33 x0).bind fun v1 =>
    loopK (ev (E.cx Tryd.prog impl_setOf.kl) impl_setOf.lp0) E.lf (impl_setOf.st0 x1 (.int .i64 0) x0 v1 (.int .i64 0) h) (impl_setOf.K0 E (kTop Tryd.prog Tryd.f43))
theorem main_eq (E : Env) (x0 x1 : PV) (h : PHeap) : runBody (E.cx Tryd.prog kl) Tryd.f43 [x0, x1] h = main E x0 x1 h := by kernel_rfl
theorem call_eq (g : Nat → PV) (lf n : Nat) (x0 x1 : PV) (h : PHeap) : CL g lf (n + 1) fn_impl_setOf [x0, x1] h = main (env g lf n) x0 x1 h := by
  rw [← main_eq]
  show call Tryd.prog g KL lf (n + 1) 43 [x0, x1] h = _
  rw [call_succ, Tryd.func43]
  kernel_rfl
end impl_setOf
namespace impl_grown
noncomputable def lp0 : Code := (codeAt (bodyOf Tryd.f44) [1, 0, 1, 0, 0])
def st0 (x0 x1 x2 x3 x9 : PV) (h : PHeap) : St := ⟨[x0, x1, x2, x3, .junk, .junk, .junk, .junk, .junk, x9, .junk, .junk, .junk, .junk, .junk, .junk, .junk, .junk, .junk, .junk, .junk, .junk, .junk, .junk, .junk], h⟩
def se0_0_1_2_3_9_12 (x0 x1 x2 x3 x9 x12 : PV) (h : PHeap) : St := ⟨[x0, x1, x2, x3, .junk, .junk, .junk, .junk, .junk, x9, .junk, .junk, x12, .junk, .junk, .junk, .junk, .junk, .junk, .junk, .junk, .junk, .junk, .junk, .junk], h⟩
noncomputable def K0 (E : Env) (K : PX → St → Res) : PX → St → Res := (kBlock 0 (kSeq (ev (E.cx Tryd.prog kl) (codeAt (bodyOf Tryd.f44) [1, 1])) K))
@[simp] theorem K0_ret (E : Env) (K : PX → St → Res) (s : St) : K0 E K .ret s = K .ret s := by kernel_rfl
noncomputable def body0 (E : Env) (K : PX → St → Res) (x0 x1 x2 x3 x9 : PV) (h : PHeap) : Res :=
    (E.p.bin .neq 3 x9 (.int .i64 0)).bind fun v7 =>
    condP v7
     (
      (E.C fn_impl_withNear [x0, x1, x9] h).bind fun v8 =>
      (E.p.bin .and 3 v8.1 x3).bind fun v9 =>
      (E.p.bin .andNot 3 v9 x2).bind fun v10 =>
      (E.p.bin .or 3 x2 v10).bind fun v11 =>
      K .normal (st0 x0 x1 v11 x3 v10 v8.2))
     (
      K (.exit 0) (se0_0_1_2_3_9_12 x0 x1 x2 x3 x9 v7 h))
theorem body0_eq (E : Env) (K : PX → St → Res) (x0 x1 x2 x3 x9 : PV) (h : PHeap) : ev (E.cx Tryd.prog kl) lp0 (st0 x0 x1 x2 x3 x9 h) K = body0 E K x0 x1 x2 x3 x9 h := by kernel_rfl
theorem after0_se0_0_1_2_3_9_12 (E : Env) (x0 x1 x2 x3 x9 x12 : PV) (h : PHeap) : K0 E (kTop Tryd.prog Tryd.f44) (.exit 0) (se0_0_1_2_3_9_12 x0 x1 x2 x3 x9 x12 h) =
    (resV x2).bind fun v6 =>
    some (v6, h) := by kernel_rfl
noncomputable def main (E : Env) (x0 x1 x2 x3 : PV) (h : PHeap) : Res :=
    loopK (ev (E.cx Tryd.prog impl_grown.kl) impl_grown.lp0) E.lf (impl_grown.st0 x0 x1 x2 x3 x2 h) (impl_grown.K0 E (kTop Tryd.prog Tryd.f44))
theorem main_eq (E : Env) (x0 x1 x2 x3 : PV) (h : PHeap) : runBody (E.cx Tryd.prog kl) Tryd.f44 [x0, x1, x2, x3] h = main E x0 x1 x2 x3 h := by kernel_rfl
theorem call_eq (g : Nat → PV) (lf n : Nat) (x0 x1 x2 x3 : PV) (h : PHeap) : CL g lf (n + 1) fn_impl_grown [x0, x1, x2, x3] h = main (env g lf n) x0 x1 x2 x3 h := by
  rw [← main_eq]
  show call Tryd.prog g KL lf (n + 1) 44 [x0, x1, x2, x3] h = _
  rw [call_succ, Tryd.func44]
  kernel_rfl
end impl_grown
namespace internal_strconv_Itoa
noncomputable def main (E : Env) (x0 : PV) (h : PHeap) : Res :=
    (E.C fn_internal_strconv_FormatInt [x0, (.int .i64 10)] h).bind fun v1 =>
    (resV v1.1).bind fun v2 =>
    some (v2, v1.2)
theorem main_eq (E : Env) (x0 : PV) (h : PHeap) : runBody (E.cx Tryd.prog kl) Tryd.f45 [x0] h = main E x0 h := by kernel_rfl
theorem call_eq (g : Nat → PV) (lf n : Nat) (x0 : PV) (h : PHeap) : CL g lf (n + 1) fn_internal_strconv_Itoa [x0] h = main (env g lf n) x0 h := by
  rw [← main_eq]
  show call Tryd.prog g KL lf (n + 1) 45 [x0] h = _
  rw [call_succ, Tryd.func45]
  kernel_rfl
end internal_strconv_Itoa
namespace spec_l20Rd_odd
noncomputable def main (E : Env) (x0 x1 : PV) (h : PHeap) : Res :=
    (E.p.bin .gtr 3 x1 (.int .i64 0)).bind fun v1 =>
    (wantV v1 true).bind fun v2 =>
    (bif v2 then some (x0, h) else some (.tup [], h)).bind fun v3 =>
    (wantV v1 true).bind fun v4 =>
    (bif v4 then some (x1, v3.2) else some (.tup [], v3.2)).bind fun v5 =>
    (wantV v1 true).bind fun v6 =>
    (bif v6 then E.C fn_spec_l20Rd_pick [v3.1, v5.1] v5.2 else some (.tup [], v5.2)).bind fun v7 =>
    (wantV v1 true).bind fun v8 =>
    (bif v8 then some (x1, v7.2) else some (.tup [], v7.2)).bind fun v9 =>
    (wantV v1 true).bind fun v10 =>
    (bif v10 then pv v9.2 (E.p.bin .sub 3 v9.1 (.int .i64 1)) else some (.tup [], v9.2)).bind fun v11 =>
    (wantV v1 true).bind fun v12 =>
    (bif v12 then pv v11.2 (E.p.bin .eql 3 v7.1 v11.1) else some (.tup [], v11.2)).bind fun v13 =>
    (E.p.pick v1 v13.1 (.bool false)).bind fun v14 =>
    (resV v14).bind fun v15 =>
    some (v15, v13.2)
theorem main_eq (E : Env) (x0 x1 : PV) (h : PHeap) : runBody (E.cx Tryd.prog kl) Tryd.f46 [x0, x1] h = main E x0 x1 h := by kernel_rfl
theorem call_eq (g : Nat → PV) (lf n : Nat) (x0 x1 : PV) (h : PHeap) : CL g lf (n + 1) fn_spec_l20Rd_odd [x0, x1] h = main (env g lf n) x0 x1 h := by
  rw [← main_eq]
  show call Tryd.prog g KL lf (n + 1) 46 [x0, x1] h = _
  rw [call_succ, Tryd.func46]
  kernel_rfl
end spec_l20Rd_odd
namespace spec_Played
noncomputable def main (E : Env) (x0 x1 x2 x3 x4 : PV) (h : PHeap) : Res :=
    (E.C fn_spec_MoveOk [x0, x1, x2, x3, x4] h).bind fun v1 =>
    (E.p.un .not v1.1).bind fun v2 =>
    condP v2
     (
      (E.p.buildSlice 33 0 [] v1.2).bind fun v3 =>
      (resV v3.1).bind fun v4 =>
      (resV (.bool false)).bind fun v5 =>
      some (.tup [v4, v5], v3.2))
     (
      (E.p.buildSlice 33 0 [] v1.2).bind fun v6 =>
      (E.p.append 33 33 v6.1 x2 v6.2).bind fun v7 =>
      (E.p.indexAddr 33 v7.1 x3).bind fun v8 =>
      (E.p.store 3 v8 x4 v7.2).bind fun v9 =>
      (resV v7.1).bind fun v10 =>
      (resV (.bool true)).bind fun v11 =>
      some (.tup [v10, v11], v9))
theorem main_eq (E : Env) (x0 x1 x2 x3 x4 : PV) (h : PHeap) : runBody (E.cx Tryd.prog kl) Tryd.f47 [x0, x1, x2, x3, x4] h = main E x0 x1 x2 x3 x4 h := by kernel_rfl
theorem call_eq (g : Nat → PV) (lf n : Nat) (x0 x1 x2 x3 x4 : PV) (h : PHeap) : CL g lf (n + 1) fn_spec_Played [x0, x1, x2, x3, x4] h = main (env g lf n) x0 x1 x2 x3 x4 h := by
  rw [← main_eq]
  show call Tryd.prog g KL lf (n + 1) 47 [x0, x1, x2, x3, x4] h = _
  rw [call_succ, Tryd.func47]
  kernel_rfl
end spec_Played
namespace spec_l1Other
noncomputable def main (E : Env) (x0 : PV) (h : PHeap) : Res :=
    (E.p.bin .eql 3 x0 (.int .i64 0)).bind fun v1 =>
    condP v1
     (
      (resV (.int .i64 0)).bind fun v2 =>
      some (v2, h))
     (
      (E.p.bin .sub 3 (.int .i64 3) x0).bind fun v3 =>
      (resV v3).bind fun v4 =>
      some (v4, h))
theorem main_eq (E : Env) (x0 : PV) (h : PHeap) : runBody (E.cx Tryd.prog kl) Tryd.f48 [x0] h = main E x0 h := by kernel_rfl
theorem call_eq (g : Nat → PV) (lf n : Nat) (x0 : PV) (h : PHeap) : CL g lf (n + 1) fn_spec_l1Other [x0] h = main (env g lf n) x0 h := by
  rw [← main_eq]
  show call Tryd.prog g KL lf (n + 1) 48 [x0] h = _
  rw [call_succ, Tryd.func48]
  kernel_rfl
end spec_l1Other
namespace impl_MoveOk
noncomputable def main (E : Env) (x0 x1 x2 x3 x4 : PV) (h : PHeap) : Res :=
    (E.C fn_impl_PositionOk [x0, x1, x2] h).bind fun v1 =>
    (E.p.un .not v1.1).bind fun v2 =>
    (wantV v2 false).bind fun v3 =>
    (bif v3 then some (x4, v1.2) else some (.tup [], v1.2)).bind fun v4 =>
    (wantV v2 false).bind fun v5 =>
    (bif v5 then E.C fn_impl_playerOk [v4.1] v4.2 else some (.tup [], v4.2)).bind fun v6 =>
    (wantV v2 false).bind fun v7 =>
    (bif v7 then pv v6.2 (E.p.un .not v6.1) else some (.tup [], v6.2)).bind fun v8 =>
    (E.p.pick v2 (.bool true) v8.1).bind fun v9 =>
    (wantV v9 false).bind fun v10 =>
    (bif v10 then some (x0, v8.2) else some (.tup [], v8.2)).bind fun v11 =>
    (wantV v9 false).bind fun v12 =>
    (bif v12 then some (x1, v11.2) else some (.tup [], v11.2)).bind fun v13 =>
    (wantV v9 false).bind fun v14 =>
    (bif v14 then some (x3, v13.2) else some (.tup [], v13.2)).bind fun v15 =>
    (wantV v9 false).bind fun v16 =>
    (bif v16 then E.C fn_impl_cellOk [v11.1, v13.1, v15.1] v15.2 else some (.tup [], v15.2)).bind fun v17 =>
    (wantV v9 false).bind fun v18 =>
    (bif v18 then pv v17.2 (E.p.un .not v17.1) else some (.tup [], v17.2)).bind fun v19 =>
    (E.p.pick v9 (.bool true) v19.1).bind fun v20 =>
    condP v20
     (
      (resV (.bool false)).bind fun v21 =>
      some (v21, v19.2))
     (
      (E.p.indexAddr 33 x2 x3).bind fun v22 =>
      (E.p.load 3 v22 v19.2).bind fun v23 =>
      (E.p.bin .eql 3 v23 (.int .i64 0)).bind fun v24 =>
      (wantV v24 true).bind fun v25 =>
      (bif v25 then some (x0, v19.2) else some (.tup [], v19.2)).bind fun v26 =>
      (wantV v24 true).bind fun v27 =>
      (bif v27 then some (x1, v26.2) else some (.tup [], v26.2)).bind fun v28 =>
      (wantV v24 true).bind fun v29 =>
      (bif v29 then some (x2, v28.2) else some (.tup [], v28.2)).bind fun v30 =>
      (wantV v24 true).bind fun v31 =>
      (bif v31 then E.C fn_impl_Joins [v26.1, v28.1, v30.1, (.int .i64 1)] v30.2 else some (.tup [], v30.2)).bind fun v32 =>
      (wantV v24 true).bind fun v33 =>
      (bif v33 then pv v32.2 (E.p.un .not v32.1) else some (.tup [], v32.2)).bind fun v34 =>
      (E.p.pick v24 v34.1 (.bool false)).bind fun v35 =>
      (wantV v35 true).bind fun v36 =>
      (bif v36 then some (x0, v34.2) else some (.tup [], v34.2)).bind fun v37 =>
      (wantV v35 true).bind fun v38 =>
      (bif v38 then some (x1, v37.2) else some (.tup [], v37.2)).bind fun v39 =>
      (wantV v35 true).bind fun v40 =>
      (bif v40 then some (x2, v39.2) else some (.tup [], v39.2)).bind fun v41 =>
      (wantV v35 true).bind fun v42 =>
      (bif v42 then E.C fn_impl_Joins [v37.1, v39.1, v41.1, (.int .i64 2)] v41.2 else some (.tup [], v41.2)).bind fun v43 =>
      (wantV v35 true).bind fun v44 =>
      (bif v44 then pv v43.2 (E.p.un .not v43.1) else some (.tup [], v43.2)).bind fun v45 =>
      (E.p.pick v35 v45.1 (.bool false)).bind fun v46 =>
      (resV v46).bind fun v47 =>
      some (v47, v45.2))
theorem main_eq (E : Env) (x0 x1 x2 x3 x4 : PV) (h : PHeap) : runBody (E.cx Tryd.prog kl) Tryd.f49 [x0, x1, x2, x3, x4] h = main E x0 x1 x2 x3 x4 h := by kernel_rfl
theorem call_eq (g : Nat → PV) (lf n : Nat) (x0 x1 x2 x3 x4 : PV) (h : PHeap) : CL g lf (n + 1) fn_impl_MoveOk [x0, x1, x2, x3, x4] h = main (env g lf n) x0 x1 x2 x3 x4 h := by
  rw [← main_eq]
  show call Tryd.prog g KL lf (n + 1) 49 [x0, x1, x2, x3, x4] h = _
  rw [call_succ, Tryd.func49]
  kernel_rfl
end impl_MoveOk
namespace slices_Clone___int_int_
noncomputable def main (E : Env) (x0 : PV) (h : PHeap) : Res :=
    (E.p.bin .eql 33 x0 .nilsl).bind fun v1 =>
    condP v1
     (
      (resV .nilsl).bind fun v2 =>
      some (v2, h))
     (
      (E.p.buildSlice 33 0 [] h).bind fun v3 =>
      (E.p.append 33 33 v3.1 x0 v3.2).bind fun v4 =>
      (resV v4.1).bind fun v5 =>
      some (v5, v4.2))
theorem main_eq (E : Env) (x0 : PV) (h : PHeap) : runBody (E.cx Tryd.prog kl) Tryd.f50 [x0] h = main E x0 h := by kernel_rfl
theorem call_eq (g : Nat → PV) (lf n : Nat) (x0 : PV) (h : PHeap) : CL g lf (n + 1) fn_slices_Clone___int_int_ [x0] h = main (env g lf n) x0 h := by
  rw [← main_eq]
  show call Tryd.prog g KL lf (n + 1) 50 [x0] h = _
  rw [call_succ, Tryd.func50]
  kernel_rfl
end slices_Clone___int_int_
namespace impl_withNear
noncomputable def lp0 : Code := (codeAt (bodyOf Tryd.f51) [1, 1, 0, 1, 0, 0])
def st0 (x0 x1 x2 x7 x14 x15 : PV) (h : PHeap) : St := ⟨[x0, x1, x2, .junk, .junk, .junk, .junk, x7, .junk, .junk, .junk, .junk, .junk, .junk, x14, x15, .junk, .junk, .junk, .junk, .junk, .junk, .junk, .junk, .junk, .junk, .junk, .junk, .junk, .junk, .junk, .junk, .junk, .junk, .junk, .junk, .junk, .junk, .junk], h⟩
noncomputable def lp1 : Code := (codeAt (bodyOf Tryd.f51) [1, 1, 0, 1, 0, 0, 1, 1, 0, 0, 1, 1, 1, 0, 0])
def st1 (x0 x1 x2 x7 x14 x15 x26 x27 x28 : PV) (h : PHeap) : St := ⟨[x0, x1, x2, .junk, .junk, .junk, .junk, x7, .junk, .junk, .junk, .junk, .junk, .junk, x14, x15, .junk, .junk, .junk, .junk, .junk, .junk, .junk, .junk, .junk, .junk, x26, x27, x28, .junk, .junk, .junk, .junk, .junk, .junk, .junk, .junk, .junk, .junk], h⟩
def se0_0_1_2_7_14_15_16 (x0 x1 x2 x7 x14 x15 x16 : PV) (h : PHeap) : St := ⟨[x0, x1, x2, .junk, .junk, .junk, .junk, x7, .junk, .junk, .junk, .junk, .junk, .junk, x14, x15, x16, .junk, .junk, .junk, .junk, .junk, .junk, .junk, .junk, .junk, .junk, .junk, .junk, .junk, .junk, .junk, .junk, .junk, .junk, .junk, .junk, .junk, .junk], h⟩
def se2_0_1_2_7_14_15_26_27_28_29 (x0 x1 x2 x7 x14 x15 x26 x27 x28 x29 : PV) (h : PHeap) : St := ⟨[x0, x1, x2, .junk, .junk, .junk, .junk, x7, .junk, .junk, .junk, .junk, .junk, .junk, x14, x15, .junk, .junk, .junk, .junk, .junk, .junk, .junk, .junk, .junk, .junk, x26, x27, x28, x29, .junk, .junk, .junk, .junk, .junk, .junk, .junk, .junk, .junk], h⟩
noncomputable def K0 (E : Env) (K : PX → St → Res) : PX → St → Res := (kBlock 0 (kSeq (ev (E.cx Tryd.prog kl) (codeAt (bodyOf Tryd.f51) [1, 1, 1])) K))
@[simp] theorem K0_ret (E : Env) (K : PX → St → Res) (s : St) : K0 E K .ret s = K .ret s := by kernel_rfl
noncomputable def K1 (E : Env) (K : PX → St → Res) : PX → St → Res := (kBlock 2 (kBlock 1 (kSeq (ev (E.cx Tryd.prog kl) (codeAt (bodyOf Tryd.f51) [1, 1, 0, 1, 0, 0, 1, 1, 1])) K)))
@[simp] theorem K1_ret (E : Env) (K : PX → St → Res) (s : St) : K1 E K .ret s = K .ret s := by kernel_rfl
noncomputable def body0 (E : Env) (K : PX → St → Res) (x0 x1 x2 x7 x14 x15 : PV) (h : PHeap) : Res :=
    (E.p.bin .lss 3 x15 x14).bind fun v17 =>
    condP v17
     (
      (E.p.bin .shr 3 x2 x15).bind fun v18 =>
      (E.p.bin .and 3 v18 (.int .i64 1)).bind fun v19 =>
      (E.p.bin .eql 3 v19 (.int .i64 0)).bind fun v20 =>
      condP v20
       (
        (E.p.bin .add 3 x15 (.int .i64 1)).bind fun v21 =>
        K .normal (st0 x0 x1 x2 x7 x14 v21 h))
       (
        (E.C fn_impl_NearCells [x0, x1, x15] h).bind fun v22 =>
        (E.p.len 33 v22.1).bind fun v23 =>
        loopK (ev (E.cx Tryd.prog impl_withNear.kl) impl_withNear.lp1) E.lf (impl_withNear.st1 x0 x1 x2 x7 x14 x15 v22.1 v23 (.int .i64 0) v22.2) (impl_withNear.K1 E K)))
     (
      K (.exit 0) (se0_0_1_2_7_14_15_16 x0 x1 x2 x7 x14 x15 v17 h))
theorem body0_eq (E : Env) (K : PX → St → Res) (x0 x1 x2 x7 x14 x15 : PV) (h : PHeap) : ev (E.cx Tryd.prog kl) lp0 (st0 x0 x1 x2 x7 x14 x15 h) K = body0 E K x0 x1 x2 x7 x14 x15 h := by kernel_rfl
noncomputable def body1 (E : Env) (K : PX → St → Res) (x0 x1 x2 x7 x14 x15 x26 x27 x28 : PV) (h : PHeap) : Res :=
    (E.p.bin .lss 3 x28 x27).bind fun v24 =>
    condP v24
     (
      (E.p.indexAddr 33 x26 x28).bind fun v25 =>
      (E.p.load 3 v25 h).bind fun v26 =>
      (E.p.bin .shl 3 (.int .i64 1) v26).bind fun v27 =>
      (E.p.bin .or 3 x7 v27).bind fun v28 =>
      (E.p.bin .add 3 x28 (.int .i64 1)).bind fun v29 =>
      K .normal (st1 x0 x1 x2 v28 x14 x15 x26 x27 v29 h))
     (
      K (.exit 2) (se2_0_1_2_7_14_15_26_27_28_29 x0 x1 x2 x7 x14 x15 x26 x27 x28 v24 h))
theorem body1_eq (E : Env) (K : PX → St → Res) (x0 x1 x2 x7 x14 x15 x26 x27 x28 : PV) (h : PHeap) : ev (E.cx Tryd.prog kl) lp1 (st1 x0 x1 x2 x7 x14 x15 x26 x27 x28 h) K = body1 E K x0 x1 x2 x7 x14 x15 x26 x27 x28 h := by kernel_rfl
theorem after0_se0_0_1_2_7_14_15_16 (E : Env) (x0 x1 x2 x7 x14 x15 x16 : PV) (h : PHeap) : K0 E (kTop Tryd.prog Tryd.f51) (.exit 0) (se0_0_1_2_7_14_15_16 x0 x1 x2 x7 x14 x15 x16 h) =
    (resV x7).bind fun v15 =>
    some (v15, h) := by kernel_rfl
theorem after1_se2_0_1_2_7_14_15_26_27_28_29 (E : Env) (K : PX → St → Res) (x0 x1 x2 x7 x14 x15 x26 x27 x28 x29 : PV) (h : PHeap) : K1 E K (.exit 2) (se2_0_1_2_7_14_15_26_27_28_29 x0 x1 x2 x7 x14 x15 x26 x27 x28 x29 h) =
    (E.p.bin .add 3 x15 (.int .i64 1)).bind fun v16 =>
    K .normal (st0 x0 x1 x2 x7 x14 v16 h) := by kernel_rfl
noncomputable def main (E : Env) (x0 x1 x2 : PV) (h : PHeap) : Res :=
    (E.p.bin .mul 3 x0 x1).bind fun v1 =>
    loopK (ev (E.cx Tryd.prog impl_withNear.kl) impl_withNear.lp0) E.lf (impl_withNear.st0 x0 x1 x2 x2 v1 (.int .i64 0) h) (impl_withNear.K0 E (kTop Tryd.prog Tryd.f51))
theorem main_eq (E : Env) (x0 x1 x2 : PV) (h : PHeap) : runBody (E.cx Tryd.prog kl) Tryd.f51 [x0, x1, x2] h = main E x0 x1 x2 h := by kernel_rfl
theorem call_eq (g : Nat → PV) (lf n : Nat) (x0 x1 x2 : PV) (h : PHeap) : CL g lf (n + 1) fn_impl_withNear [x0, x1, x2] h = main (env g lf n) x0 x1 x2 h := by
  rw [← main_eq]
  show call Tryd.prog g KL lf (n + 1) 51 [x0, x1, x2] h = _
  rw [call_succ, Tryd.func51]
  kernel_rfl
end impl_withNear
namespace internal_strconv_FormatInt
noncomputable def main (E : Env) (x0 x1 : PV) (h : PHeap) : Res :=
    (E.p.bin .eql 3 x1 (.int .i64 10)).bind fun v1 =>
    condP v1
     (
      (E.p.bin .leq 2 (.int .i64 0) x0).bind fun v2 =>
      (wantV v2 true).bind fun v3 =>
      (bif v3 then some (x0, h) else some (.tup [], h)).bind fun v4 =>
      (wantV v2 true).bind fun v5 =>
      (bif v5 then pv v4.2 (E.p.bin .lss 2 v4.1 (.int .i64 100)) else some (.tup [], v4.2)).bind fun v6 =>
      (E.p.pick v2 v6.1 (.bool false)).bind fun v7 =>
      condP v7
       (
        (E.C fn_internal_strconv_small [x0] v6.2).bind fun v8 =>
        (resV v8.1).bind fun v9 =>
        some (v9, v8.2))
       (
        (E.p.alloc 67 v6.2).bind fun v10 =>
        (E.p.conv 2 68 x0).bind fun v11 =>
        (E.p.bin .lss 2 x0 (.int .i64 0)).bind fun v12 =>
        condP v12
         (
          (E.p.un .neg v11).bind fun v13 =>
          (E.C 56 [v13] v10.2).bind fun v14 =>
          (E.p.bin .add 3 (.int .i64 1) v14.1).bind fun v15 =>
          (E.p.slice 67 v10.1 (some (.int .i64 1)) (some v15) v14.2).bind fun v16 =>
          (E.C 57 [v16, v13] v14.2).bind fun v17 =>
          (E.p.bin .lss 2 x0 (.int .i64 0)).bind fun v18 =>
          condP v18
           (
            (E.p.indexAddr 67 v10.1 (.int .i64 0)).bind fun v19 =>
            (E.p.store 5 v19 (.int .u8 45) v17.2).bind fun v20 =>
            (E.p.bin .add 3 (.int .i64 1) v14.1).bind fun v21 =>
            (E.p.slice 67 v10.1 none (some v21) v20).bind fun v22 =>
            (E.p.bstr 22 9 v22 v20).bind fun v23 =>
            (resV v23).bind fun v24 =>
            some (v24, v20))
           (
            (E.p.bin .add 3 (.int .i64 1) v14.1).bind fun v25 =>
            (E.p.slice 67 v10.1 (some (.int .i64 1)) (some v25) v17.2).bind fun v26 =>
            (E.p.bstr 22 9 v26 v17.2).bind fun v27 =>
            (resV v27).bind fun v28 =>
            some (v28, v17.2)))
         (
          (E.C 56 [v11] v10.2).bind fun v29 =>
          (E.p.bin .add 3 (.int .i64 1) v29.1).bind fun v30 =>
          (E.p.slice 67 v10.1 (some (.int .i64 1)) (some v30) v29.2).bind fun v31 =>
          (E.C 57 [v31, v11] v29.2).bind fun v32 =>
          (E.p.bin .lss 2 x0 (.int .i64 0)).bind fun v33 =>
          condP v33
           (
            (E.p.indexAddr 67 v10.1 (.int .i64 0)).bind fun v34 =>
            (E.p.store 5 v34 (.int .u8 45) v32.2).bind fun v35 =>
            (E.p.bin .add 3 (.int .i64 1) v29.1).bind fun v36 =>
            (E.p.slice 67 v10.1 none (some v36) v35).bind fun v37 =>
            (E.p.bstr 22 9 v37 v35).bind fun v38 =>
            (resV v38).bind fun v39 =>
            some (v39, v35))
           (
            (E.p.bin .add 3 (.int .i64 1) v29.1).bind fun v40 =>
            (E.p.slice 67 v10.1 (some (.int .i64 1)) (some v40) v32.2).bind fun v41 =>
            (E.p.bstr 22 9 v41 v32.2).bind fun v42 =>
            (resV v42).bind fun v43 =>
            some (v43, v32.2)))))
     (
      (E.p.conv 2 68 x0).bind fun v44 =>
      (E.p.bin .lss 2 x0 (.int .i64 0)).bind fun v45 =>
      (E.C 58 [.nilsl, v44, x1, v45, (.bool false)] h).bind fun v46 =>
      (E.p.extract v46.1 0).bind fun v47 =>
      (E.p.extract v46.1 1).bind fun v48 =>
      (resV v48).bind fun v49 =>
      some (v49, v46.2))
theorem main_eq (E : Env) (x0 x1 : PV) (h : PHeap) : runBody (E.cx Tryd.prog kl) Tryd.f52 [x0, x1] h = main E x0 x1 h := by kernel_rfl
theorem call_eq (g : Nat → PV) (lf n : Nat) (x0 x1 : PV) (h : PHeap) : CL g lf (n + 1) fn_internal_strconv_FormatInt [x0, x1] h = main (env g lf n) x0 x1 h := by
  rw [← main_eq]
  show call Tryd.prog g KL lf (n + 1) 52 [x0, x1] h = _
  rw [call_succ, Tryd.func52]
  kernel_rfl
end internal_strconv_FormatInt
namespace spec_MoveOk
noncomputable def main (E : Env) (x0 x1 x2 x3 x4 : PV) (h : PHeap) : Res :=
    (E.C fn_spec_PositionOk [x0, x1, x2] h).bind fun v1 =>
    (E.p.un .not v1.1).bind fun v2 =>
    (wantV v2 false).bind fun v3 =>
    (bif v3 then some (x4, v1.2) else some (.tup [], v1.2)).bind fun v4 =>
    (wantV v2 false).bind fun v5 =>
    (bif v5 then E.C fn_spec_l1In [v4.1, (.int .i64 1), (.int .i64 2)] v4.2 else some (.tup [], v4.2)).bind fun v6 =>
    (wantV v2 false).bind fun v7 =>
    (bif v7 then pv v6.2 (E.p.un .not v6.1) else some (.tup [], v6.2)).bind fun v8 =>
    (E.p.pick v2 (.bool true) v8.1).bind fun v9 =>
    (wantV v9 false).bind fun v10 =>
    (bif v10 then some (x3, v8.2) else some (.tup [], v8.2)).bind fun v11 =>
    (wantV v9 false).bind fun v12 =>
    (bif v12 then some (x2, v11.2) else some (.tup [], v11.2)).bind fun v13 =>
    (wantV v9 false).bind fun v14 =>
    (bif v14 then pv v13.2 (E.p.len 33 v13.1) else some (.tup [], v13.2)).bind fun v15 =>
    (wantV v9 false).bind fun v16 =>
    (bif v16 then pv v15.2 (E.p.bin .sub 3 v15.1 (.int .i64 1)) else some (.tup [], v15.2)).bind fun v17 =>
    (wantV v9 false).bind fun v18 =>
    (bif v18 then E.C fn_spec_l1In [v11.1, (.int .i64 0), v17.1] v17.2 else some (.tup [], v17.2)).bind fun v19 =>
    (wantV v9 false).bind fun v20 =>
    (bif v20 then pv v19.2 (E.p.un .not v19.1) else some (.tup [], v19.2)).bind fun v21 =>
    (E.p.pick v9 (.bool true) v21.1).bind fun v22 =>
    condP v22
     (
      (resV (.bool false)).bind fun v23 =>
      some (v23, v21.2))
     (
      (E.p.indexAddr 33 x2 x3).bind fun v24 =>
      (E.p.load 3 v24 v21.2).bind fun v25 =>
      (E.p.bin .eql 3 v25 (.int .i64 0)).bind fun v26 =>
      (wantV v26 true).bind fun v27 =>
      (bif v27 then some (x0, v21.2) else some (.tup [], v21.2)).bind fun v28 =>
      (wantV v26 true).bind fun v29 =>
      (bif v29 then some (x1, v28.2) else some (.tup [], v28.2)).bind fun v30 =>
      (wantV v26 true).bind fun v31 =>
      (bif v31 then some (x2, v30.2) else some (.tup [], v30.2)).bind fun v32 =>
      (wantV v26 true).bind fun v33 =>
      (bif v33 then E.C fn_spec_Joins [v28.1, v30.1, v32.1, (.int .i64 1)] v32.2 else some (.tup [], v32.2)).bind fun v34 =>
      (wantV v26 true).bind fun v35 =>
      (bif v35 then pv v34.2 (E.p.un .not v34.1) else some (.tup [], v34.2)).bind fun v36 =>
      (E.p.pick v26 v36.1 (.bool false)).bind fun v37 =>
      (wantV v37 true).bind fun v38 =>
      (bif v38 then some (x0, v36.2) else some (.tup [], v36.2)).bind fun v39 =>
      (wantV v37 true).bind fun v40 =>
      (bif v40 then some (x1, v39.2) else some (.tup [], v39.2)).bind fun v41 =>
      (wantV v37 true).bind fun v42 =>
      (bif v42 then some (x2, v41.2) else some (.tup [], v41.2)).bind fun v43 =>
      (wantV v37 true).bind fun v44 =>
      (bif v44 then E.C fn_spec_Joins [v39.1, v41.1, v43.1, (.int .i64 2)] v43.2 else some (.tup [], v43.2)).bind fun v45 =>
      (wantV v37 true).bind fun v46 =>
      (bif v46 then pv v45.2 (E.p.un .not v45.1) else some (.tup [], v45.2)).bind fun v47 =>
      (E.p.pick v37 v47.1 (.bool false)).bind fun v48 =>
      (resV v48).bind fun v49 =>
      some (v49, v47.2))
theorem main_eq (E : Env) (x0 x1 x2 x3 x4 : PV) (h : PHeap) : runBody (E.cx Tryd.prog kl) Tryd.f53 [x0, x1, x2, x3, x4] h = main E x0 x1 x2 x3 x4 h := by kernel_rfl
theorem call_eq (g : Nat → PV) (lf n : Nat) (x0 x1 x2 x3 x4 : PV) (h : PHeap) : CL g lf (n + 1) fn_spec_MoveOk [x0, x1, x2, x3, x4] h = main (env g lf n) x0 x1 x2 x3 x4 h := by
  rw [← main_eq]
  show call Tryd.prog g KL lf (n + 1) 53 [x0, x1, x2, x3, x4] h = _
  rw [call_succ, Tryd.func53]
  kernel_rfl
end spec_MoveOk
namespace impl_NearCells
noncomputable def lp0 : Code := (codeAt (bodyOf Tryd.f54) [1, 1, 1, 0, 1, 0, 0])
def st0 (x0 x1 x2 x7 x17 x18 : PV) (h : PHeap) : St := ⟨[x0, x1, x2, .junk, .junk, .junk, .junk, x7, .junk, .junk, .junk, .junk, .junk, .junk, .junk, .junk, .junk, x17, x18, .junk, .junk, .junk, .junk, .junk, .junk, .junk, .junk, .junk, .junk, .junk, .junk, .junk, .junk, .junk, .junk, .junk, .junk, .junk, .junk, .junk, .junk, .junk, .junk, .junk, .junk, .junk, .junk, .junk, .junk, .junk, .junk, .junk, .junk, .junk, .junk, .junk, .junk, .junk, .junk], h⟩
def se0_0_1_2_7_17_18_19 (x0 x1 x2 x7 x17 x18 x19 : PV) (h : PHeap) : St := ⟨[x0, x1, x2, .junk, .junk, .junk, .junk, x7, .junk, .junk, .junk, .junk, .junk, .junk, .junk, .junk, .junk, x17, x18, x19, .junk, .junk, .junk, .junk, .junk, .junk, .junk, .junk, .junk, .junk, .junk, .junk, .junk, .junk, .junk, .junk, .junk, .junk, .junk, .junk, .junk, .junk, .junk, .junk, .junk, .junk, .junk, .junk, .junk, .junk, .junk, .junk, .junk, .junk, .junk, .junk, .junk, .junk, .junk], h⟩
noncomputable def K0 (E : Env) (K : PX → St → Res) : PX → St → Res := (kBlock 0 (kSeq (ev (E.cx Tryd.prog kl) (codeAt (bodyOf Tryd.f54) [1, 1, 1, 1])) K))
@[simp] theorem K0_ret (E : Env) (K : PX → St → Res) (s : St) : K0 E K .ret s = K .ret s := by kernel_rfl
noncomputable def body0 (E : Env) (K : PX → St → Res) (x0 x1 x2 x7 x17 x18 : PV) (h : PHeap) : Res :=
    (E.p.bin .lss 3 x18 (.int .i64 6)).bind fun v44 =>
    condP v44
     (
      (E.p.index 74 x17 x18).bind fun v45 =>
      (E.p.alloc 73 h).bind fun v46 =>
      (E.p.store 73 v46.1 v45 v46.2).bind fun v47 =>
      (E.p.bin .quo 3 x2 x1).bind fun v48 =>
      (E.p.indexAddr 73 v46.1 (.int .i64 0)).bind fun v49 =>
      (E.p.load 3 v49 v47).bind fun v50 =>
      (E.p.bin .add 3 v48 v50).bind fun v51 =>
      (E.p.bin .rem 3 x2 x1).bind fun v52 =>
      (E.p.indexAddr 73 v46.1 (.int .i64 1)).bind fun v53 =>
      (E.p.load 3 v53 v47).bind fun v54 =>
      (E.p.bin .add 3 v52 v54).bind fun v55 =>
      (E.p.bin .geq 3 v51 (.int .i64 0)).bind fun v56 =>
      (wantV v56 true).bind fun v57 =>
      (bif v57 then some (v51, v47) else some (.tup [], v47)).bind fun v58 =>
      (wantV v56 true).bind fun v59 =>
      (bif v59 then some (x0, v58.2) else some (.tup [], v58.2)).bind fun v60 =>
      (wantV v56 true).bind fun v61 =>
      (bif v61 then pv v60.2 (E.p.bin .lss 3 v58.1 v60.1) else some (.tup [], v60.2)).bind fun v62 =>
      (E.p.pick v56 v62.1 (.bool false)).bind fun v63 =>
      (wantV v63 true).bind fun v64 =>
      (bif v64 then some (v55, v62.2) else some (.tup [], v62.2)).bind fun v65 =>
      (wantV v63 true).bind fun v66 =>
      (bif v66 then pv v65.2 (E.p.bin .geq 3 v65.1 (.int .i64 0)) else some (.tup [], v65.2)).bind fun v67 =>
      (E.p.pick v63 v67.1 (.bool false)).bind fun v68 =>
      (wantV v68 true).bind fun v69 =>
      (bif v69 then some (v55, v67.2) else some (.tup [], v67.2)).bind fun v70 =>
      (wantV v68 true).bind fun v71 =>
      (bif v71 then some (x1, v70.2) else some (.tup [], v70.2)).bind fun v72 =>
      (wantV v68 true).bind fun v73 =>
      (bif v73 then pv v72.2 (E.p.bin .lss 3 v70.1 v72.1) else some (.tup [], v72.2)).bind fun v74 =>
      (E.p.pick v68 v74.1 (.bool false)).bind fun v75 =>
      condP v75
       (
        (E.p.bin .mul 3 v51 x1).bind fun v76 =>
        (E.p.bin .add 3 v76 v55).bind fun v77 =>
        (E.p.buildSlice 33 1 [(0, v77)] v74.2).bind fun v78 =>
        (E.p.append 33 33 x7 v78.1 v78.2).bind fun v79 =>
        (E.p.bin .add 3 x18 (.int .i64 1)).bind fun v80 =>
        K .normal (st0 x0 x1 x2 v79.1 x17 v80 v79.2))
       (
        (E.p.bin .add 3 x18 (.int .i64 1)).bind fun v81 =>
        K .normal (st0 x0 x1 x2 x7 x17 v81 v74.2)))
     (
      K (.exit 0) (se0_0_1_2_7_17_18_19 x0 x1 x2 x7 x17 x18 v44 h))
theorem body0_eq (E : Env) (K : PX → St → Res) (x0 x1 x2 x7 x17 x18 : PV) (h : PHeap) : ev (E.cx Tryd.prog kl) lp0 (st0 x0 x1 x2 x7 x17 x18 h) K = body0 E K x0 x1 x2 x7 x17 x18 h := by kernel_rfl
theorem after0_se0_0_1_2_7_17_18_19 (E : Env) (x0 x1 x2 x7 x17 x18 x19 : PV) (h : PHeap) : K0 E (kTop Tryd.prog Tryd.f54) (.exit 0) (se0_0_1_2_7_17_18_19 x0 x1 x2 x7 x17 x18 x19 h) =
    (resV x7).bind fun v43 =>
    some (v43, h) := by kernel_rfl
noncomputable def main (E : Env) (x0 x1 x2 : PV) (h : PHeap) : Res :=
    (E.C fn_impl_cellOk [x0, x1, x2] h).bind fun v1 =>
    (E.p.un .not v1.1).bind fun v2 =>
    condP v2
     (
      (resV .nilsl).bind fun v3 =>
      some (v3, v1.2))
     (
      (E.p.load 74 (E.g 0) v1.2).bind fun v4 =>
      loopK (ev (E.cx Tryd.prog impl_NearCells.kl) impl_NearCells.lp0) E.lf (impl_NearCells.st0 x0 x1 x2 .nilsl v4 (.int .i64 0) v1.2) (impl_NearCells.K0 E (kTop Tryd.prog Tryd.f54)))
theorem main_eq (E : Env) (x0 x1 x2 : PV) (h : PHeap) : runBody (E.cx Tryd.prog kl) Tryd.f54 [x0, x1, x2] h = main E x0 x1 x2 h := by kernel_rfl
theorem call_eq (g : Nat → PV) (lf n : Nat) (x0 x1 x2 : PV) (h : PHeap) : CL g lf (n + 1) fn_impl_NearCells [x0, x1, x2] h = main (env g lf n) x0 x1 x2 h := by
  rw [← main_eq]
  show call Tryd.prog g KL lf (n + 1) 54 [x0, x1, x2] h = _
  rw [call_succ, Tryd.func54]
  kernel_rfl
end impl_NearCells
namespace internal_strconv_small
noncomputable def main (E : Env) (x0 : PV) (h : PHeap) : Res :=
    (E.p.bin .lss 3 x0 (.int .i64 10)).bind fun v1 =>
    condP v1
     (
      (E.p.bin .add 3 x0 (.int .i64 1)).bind fun v2 =>
      (E.p.slice 9 (.str (sB [48, 49, 50, 51, 52, 53, 54, 55, 56, 57, 97, 98, 99, 100, 101, 102, 103, 104, 105, 106, 107, 108, 109, 110, 111, 112, 113, 114, 115, 116, 117, 118, 119, 120, 121, 122])) (some x0) (some v2) h).bind fun v3 =>
      (resV v3).bind fun v4 =>
      some (v4, h))
     (
      (E.p.bin .mul 3 x0 (.int .i64 2)).bind fun v5 =>
      (E.p.bin .mul 3 x0 (.int .i64 2)).bind fun v6 =>
      (E.p.bin .add 3 v6 (.int .i64 2)).bind fun v7 =>
      (E.p.slice 9 (.str (sB [48, 48, 48, 49, 48, 50, 48, 51, 48, 52, 48, 53, 48, 54, 48, 55, 48, 56, 48, 57, 49, 48, 49, 49, 49, 50, 49, 51, 49, 52, 49, 53, 49, 54, 49, 55, 49, 56, 49, 57, 50, 48, 50, 49, 50, 50, 50, 51, 50, 52, 50, 53, 50, 54, 50, 55, 50, 56, 50, 57, 51, 48, 51, 49, 51, 50, 51, 51, 51, 52, 51, 53, 51, 54, 51, 55, 51, 56, 51, 57, 52, 48, 52, 49, 52, 50, 52, 51, 52, 52, 52, 53, 52, 54, 52, 55, 52, 56, 52, 57, 53, 48, 53, 49, 53, 50, 53, 51, 53, 52, 53, 53, 53, 54, 53, 55, 53, 56, 53, 57, 54, 48, 54, 49, 54, 50, 54, 51, 54, 52, 54, 53, 54, 54, 54, 55, 54, 56, 54, 57, 55, 48, 55, 49, 55, 50, 55, 51, 55, 52, 55, 53, 55, 54, 55, 55, 55, 56, 55, 57, 56, 48, 56, 49, 56, 50, 56, 51, 56, 52, 56, 53, 56, 54, 56, 55, 56, 56, 56, 57, 57, 48, 57, 49, 57, 50, 57, 51, 57, 52, 57, 53, 57, 54, 57, 55, 57, 56, 57, 57])) (some v5) (some v7) h).bind fun v8 =>
      (resV v8).bind fun v9 =>
      some (v9, h))
theorem main_eq (E : Env) (x0 : PV) (h : PHeap) : runBody (E.cx Tryd.prog kl) Tryd.f55 [x0] h = main E x0 h := by kernel_rfl
theorem call_eq (g : Nat → PV) (lf n : Nat) (x0 : PV) (h : PHeap) : CL g lf (n + 1) fn_internal_strconv_small [x0] h = main (env g lf n) x0 h := by
  rw [← main_eq]
  show call Tryd.prog g KL lf (n + 1) 55 [x0] h = _
  rw [call_succ, Tryd.func55]
  kernel_rfl
end internal_strconv_small
namespace spec_PositionOk
noncomputable def lp0 : Code := (codeAt (bodyOf Tryd.f59) [1, 0, 1, 0, 0])
def st0 (x0 x1 x2 x7 : PV) (h : PHeap) : St := ⟨[x0, x1, x2, .junk, .junk, .junk, .junk, x7, .junk, .junk, .junk, .junk, .junk, .junk, .junk, .junk, .junk, .junk, .junk, .junk, .junk, .junk, .junk, .junk, .junk, .junk, .junk, .junk, .junk, .junk, .junk], h⟩
def sr_6 (x6 : PV) (h : PHeap) : St := ⟨[.junk, .junk, .junk, .junk, .junk, .junk, x6, .junk, .junk, .junk, .junk, .junk, .junk, .junk, .junk, .junk, .junk, .junk, .junk, .junk, .junk, .junk, .junk, .junk, .junk, .junk, .junk, .junk, .junk, .junk, .junk], h⟩
def se0_0_1_2_7_11 (x0 x1 x2 x7 x11 : PV) (h : PHeap) : St := ⟨[x0, x1, x2, .junk, .junk, .junk, .junk, x7, .junk, .junk, .junk, x11, .junk, .junk, .junk, .junk, .junk, .junk, .junk, .junk, .junk, .junk, .junk, .junk, .junk, .junk, .junk, .junk, .junk, .junk, .junk], h⟩
noncomputable def K0 (E : Env) (K : PX → St → Res) : PX → St → Res := (kBlock 0 (kSeq (ev (E.cx Tryd.prog kl) (codeAt (bodyOf Tryd.f59) [1, 1])) K))
@[simp] theorem K0_ret (E : Env) (K : PX → St → Res) (s : St) : K0 E K .ret s = K .ret s := by kernel_rfl
noncomputable def body0 (E : Env) (K : PX → St → Res) (x0 x1 x2 x7 : PV) (h : PHeap) : Res :=
    (E.p.len 33 x2).bind fun v23 =>
    (E.p.bin .lss 3 x7 v23).bind fun v24 =>
    condP v24
     (
      (E.p.indexAddr 33 x2 x7).bind fun v25 =>
      (E.p.load 3 v25 h).bind fun v26 =>
      (E.C fn_spec_l1In [v26, (.int .i64 0), (.int .i64 2)] h).bind fun v27 =>
      (E.p.un .not v27.1).bind fun v28 =>
      condP v28
       (
        K .ret (sr_6 (.bool false) v27.2))
       (
        (E.p.bin .add 3 x7 (.int .i64 1)).bind fun v29 =>
        K .normal (st0 x0 x1 x2 v29 v27.2)))
     (
      K (.exit 0) (se0_0_1_2_7_11 x0 x1 x2 x7 v24 h))
theorem body0_eq (E : Env) (K : PX → St → Res) (x0 x1 x2 x7 : PV) (h : PHeap) : ev (E.cx Tryd.prog kl) lp0 (st0 x0 x1 x2 x7 h) K = body0 E K x0 x1 x2 x7 h := by kernel_rfl
theorem after0_se0_0_1_2_7_11 (E : Env) (x0 x1 x2 x7 x11 : PV) (h : PHeap) : K0 E (kTop Tryd.prog Tryd.f59) (.exit 0) (se0_0_1_2_7_11 x0 x1 x2 x7 x11 h) =
    (E.C fn_spec_BoardOk [x0, x1] h).bind fun v8 =>
    (wantV v8.1 true).bind fun v9 =>
    (bif v9 then some (x2, v8.2) else some (.tup [], v8.2)).bind fun v10 =>
    (wantV v8.1 true).bind fun v11 =>
    (bif v11 then pv v10.2 (E.p.len 33 v10.1) else some (.tup [], v10.2)).bind fun v12 =>
    (wantV v8.1 true).bind fun v13 =>
    (bif v13 then some (x0, v12.2) else some (.tup [], v12.2)).bind fun v14 =>
    (wantV v8.1 true).bind fun v15 =>
    (bif v15 then some (x1, v14.2) else some (.tup [], v14.2)).bind fun v16 =>
    (wantV v8.1 true).bind fun v17 =>
    (bif v17 then pv v16.2 (E.p.bin .mul 3 v14.1 v16.1) else some (.tup [], v16.2)).bind fun v18 =>
    (wantV v8.1 true).bind fun v19 =>
    (bif v19 then pv v18.2 (E.p.bin .eql 3 v12.1 v18.1) else some (.tup [], v18.2)).bind fun v20 =>
    (E.p.pick v8.1 v20.1 (.bool false)).bind fun v21 =>
    (resV v21).bind fun v22 =>
    some (v22, v20.2) := by kernel_rfl
theorem top_sr_6 (x6 : PV) (h : PHeap) : kTop Tryd.prog Tryd.f59 .ret (sr_6 x6 h) =
    (resV x6).bind fun v30 =>
    some (v30, h) := by kernel_rfl
noncomputable def main (E : Env) (x0 x1 x2 : PV) (h : PHeap) : Res :=
    loopK (ev (E.cx Tryd.prog spec_PositionOk.kl) spec_PositionOk.lp0) E.lf (spec_PositionOk.st0 x0 x1 x2 (.int .i64 0) h) (spec_PositionOk.K0 E (kTop Tryd.prog Tryd.f59))
theorem main_eq (E : Env) (x0 x1 x2 : PV) (h : PHeap) : runBody (E.cx Tryd.prog kl) Tryd.f59 [x0, x1, x2] h = main E x0 x1 x2 h := by kernel_rfl
theorem call_eq (g : Nat → PV) (lf n : Nat) (x0 x1 x2 : PV) (h : PHeap) : CL g lf (n + 1) fn_spec_PositionOk [x0, x1, x2] h = main (env g lf n) x0 x1 x2 h := by
  rw [← main_eq]
  show call Tryd.prog g KL lf (n + 1) 59 [x0, x1, x2] h = _
  rw [call_succ, Tryd.func59]
  kernel_rfl
end spec_PositionOk
namespace spec_Joins
noncomputable def main (E : Env) (x0 x1 x2 x3 : PV) (h : PHeap) : Res :=
    (E.C fn_spec_PositionOk [x0, x1, x2] h).bind fun v1 =>
    (E.p.un .not v1.1).bind fun v2 =>
    (wantV v2 false).bind fun v3 =>
    (bif v3 then some (x3, v1.2) else some (.tup [], v1.2)).bind fun v4 =>
    (wantV v2 false).bind fun v5 =>
    (bif v5 then E.C fn_spec_l1In [v4.1, (.int .i64 1), (.int .i64 2)] v4.2 else some (.tup [], v4.2)).bind fun v6 =>
    (wantV v2 false).bind fun v7 =>
    (bif v7 then pv v6.2 (E.p.un .not v6.1) else some (.tup [], v6.2)).bind fun v8 =>
    (E.p.pick v2 (.bool true) v8.1).bind fun v9 =>
    condP v9
     (
      (resV (.bool false)).bind fun v10 =>
      some (v10, v8.2))
     (
      (E.C fn_spec_l2Masks [x0, x1] v8.2).bind fun v11 =>
      (E.C fn_spec_l2Set [x2, x3] v11.2).bind fun v12 =>
      (E.C fn_spec_l2Joins [x0, x1, v11.1, v12.1, x3] v12.2).bind fun v13 =>
      (resV v13.1).bind fun v14 =>
      some (v14, v13.2))
theorem main_eq (E : Env) (x0 x1 x2 x3 : PV) (h : PHeap) : runBody (E.cx Tryd.prog kl) Tryd.f60 [x0, x1, x2, x3] h = main E x0 x1 x2 x3 h := by kernel_rfl
theorem call_eq (g : Nat → PV) (lf n : Nat) (x0 x1 x2 x3 : PV) (h : PHeap) : CL g lf (n + 1) fn_spec_Joins [x0, x1, x2, x3] h = main (env g lf n) x0 x1 x2 x3 h := by
  rw [← main_eq]
  show call Tryd.prog g KL lf (n + 1) 60 [x0, x1, x2, x3] h = _
  rw [call_succ, Tryd.func60]
  kernel_rfl
end spec_Joins
namespace bits_Len64
noncomputable def main (E : Env) (x0 : PV) (h : PHeap) : Res :=
    (E.p.bin .geq 68 x0 (.int .u64 4294967296)).bind fun v1 =>
    condP v1
     (
      (E.p.bin .shr 68 x0 (.int .u64 32)).bind fun v2 =>
      (E.p.bin .geq 68 v2 (.int .u64 65536)).bind fun v3 =>
      condP v3
       (
        (E.p.bin .shr 68 v2 (.int .u64 16)).bind fun v4 =>
        (E.p.bin .add 3 (.int .i64 32) (.int .i64 16)).bind fun v5 =>
        (E.p.bin .geq 68 v4 (.int .u64 256)).bind fun v6 =>
        condP v6
         (
          (E.p.bin .shr 68 v4 (.int .u64 8)).bind fun v7 =>
          (E.p.bin .add 3 v5 (.int .i64 8)).bind fun v8 =>
          (E.p.conv 68 5 v7).bind fun v9 =>
          (E.p.index 9 (.str (sB [0, 1, 2, 2, 3, 3, 3, 3, 4, 4, 4, 4, 4, 4, 4, 4, 5, 5, 5, 5, 5, 5, 5, 5, 5, 5, 5, 5, 5, 5, 5, 5, 6, 6, 6, 6, 6, 6, 6, 6, 6, 6, 6, 6, 6, 6, 6, 6, 6, 6, 6, 6, 6, 6, 6, 6, 6, 6, 6, 6, 6, 6, 6, 6, 7, 7, 7, 7, 7, 7, 7, 7, 7, 7, 7, 7, 7, 7, 7, 7, 7, 7, 7, 7, 7, 7, 7, 7, 7, 7, 7, 7, 7, 7, 7, 7, 7, 7, 7, 7, 7, 7, 7, 7, 7, 7, 7, 7, 7, 7, 7, 7, 7, 7, 7, 7, 7, 7, 7, 7, 7, 7, 7, 7, 7, 7, 7, 7, 8, 8, 8, 8, 8, 8, 8, 8, 8, 8, 8, 8, 8, 8, 8, 8, 8, 8, 8, 8, 8, 8, 8, 8, 8, 8, 8, 8, 8, 8, 8, 8, 8, 8, 8, 8, 8, 8, 8, 8, 8, 8, 8, 8, 8, 8, 8, 8, 8, 8, 8, 8, 8, 8, 8, 8, 8, 8, 8, 8, 8, 8, 8, 8, 8, 8, 8, 8, 8, 8, 8, 8, 8, 8, 8, 8, 8, 8, 8, 8, 8, 8, 8, 8, 8, 8, 8, 8, 8, 8, 8, 8, 8, 8, 8, 8, 8, 8, 8, 8, 8, 8, 8, 8, 8, 8, 8, 8, 8, 8, 8, 8, 8, 8, 8, 8, 8, 8, 8, 8, 8, 8, 8, 8, 8, 8, 8, 8])) v9).bind fun v10 =>
          (E.p.conv 5 3 v10).bind fun v11 =>
          (E.p.bin .add 3 v8 v11).bind fun v12 =>
          (resV v12).bind fun v13 =>
          some (v13, h))
         (
          (E.p.conv 68 5 v4).bind fun v14 =>
          (E.p.index 9 (.str (sB [0, 1, 2, 2, 3, 3, 3, 3, 4, 4, 4, 4, 4, 4, 4, 4, 5, 5, 5, 5, 5, 5, 5, 5, 5, 5, 5, 5, 5, 5, 5, 5, 6, 6, 6, 6, 6, 6, 6, 6, 6, 6, 6, 6, 6, 6, 6, 6, 6, 6, 6, 6, 6, 6, 6, 6, 6, 6, 6, 6, 6, 6, 6, 6, 7, 7, 7, 7, 7, 7, 7, 7, 7, 7, 7, 7, 7, 7, 7, 7, 7, 7, 7, 7, 7, 7, 7, 7, 7, 7, 7, 7, 7, 7, 7, 7, 7, 7, 7, 7, 7, 7, 7, 7, 7, 7, 7, 7, 7, 7, 7, 7, 7, 7, 7, 7, 7, 7, 7, 7, 7, 7, 7, 7, 7, 7, 7, 7, 8, 8, 8, 8, 8, 8, 8, 8, 8, 8, 8, 8, 8, 8, 8, 8, 8, 8, 8, 8, 8, 8, 8, 8, 8, 8, 8, 8, 8, 8, 8, 8, 8, 8, 8, 8, 8, 8, 8, 8, 8, 8, 8, 8, 8, 8, 8, 8, 8, 8, 8, 8, 8, 8, 8, 8, 8, 8, 8, 8, 8, 8, 8, 8, 8, 8, 8, 8, 8, 8, 8, 8, 8, 8, 8, 8, 8, 8, 8, 8, 8, 8, 8, 8, 8, 8, 8, 8, 8, 8, 8, 8, 8, 8, 8, 8, 8, 8, 8, 8, 8, 8, 8, 8, 8, 8, 8, 8, 8, 8, 8, 8, 8, 8, 8, 8, 8, 8, 8, 8, 8, 8, 8, 8, 8, 8, 8, 8])) v14).bind fun v15 =>
          (E.p.conv 5 3 v15).bind fun v16 =>
          (E.p.bin .add 3 v5 v16).bind fun v17 =>
          (resV v17).bind fun v18 =>
          some (v18, h)))
       (
        (E.p.bin .geq 68 v2 (.int .u64 256)).bind fun v19 =>
        condP v19
         (
          (E.p.bin .shr 68 v2 (.int .u64 8)).bind fun v20 =>
          (E.p.bin .add 3 (.int .i64 32) (.int .i64 8)).bind fun v21 =>
          (E.p.conv 68 5 v20).bind fun v22 =>
          (E.p.index 9 (.str (sB [0, 1, 2, 2, 3, 3, 3, 3, 4, 4, 4, 4, 4, 4, 4, 4, 5, 5, 5, 5, 5, 5, 5, 5, 5, 5, 5, 5, 5, 5, 5, 5, 6, 6, 6, 6, 6, 6, 6, 6, 6, 6, 6, 6, 6, 6, 6, 6, 6, 6, 6, 6, 6, 6, 6, 6, 6, 6, 6, 6, 6, 6, 6, 6, 7, 7, 7, 7, 7, 7, 7, 7, 7, 7, 7, 7, 7, 7, 7, 7, 7, 7, 7, 7, 7, 7, 7, 7, 7, 7, 7, 7, 7, 7, 7, 7, 7, 7, 7, 7, 7, 7, 7, 7, 7, 7, 7, 7, 7, 7, 7, 7, 7, 7, 7, 7, 7, 7, 7, 7, 7, 7, 7, 7, 7, 7, 7, 7, 8, 8, 8, 8, 8, 8, 8, 8, 8, 8, 8, 8, 8, 8, 8, 8, 8, 8, 8, 8, 8, 8, 8, 8, 8, 8, 8, 8, 8, 8, 8, 8, 8, 8, 8, 8, 8, 8, 8, 8, 8, 8, 8, 8, 8, 8, 8, 8, 8, 8, 8, 8, 8, 8, 8, 8, 8, 8, 8, 8, 8, 8, 8, 8, 8, 8, 8, 8, 8, 8, 8, 8, 8, 8, 8, 8, 8, 8, 8, 8, 8, 8, 8, 8, 8, 8, 8, 8, 8, 8, 8, 8, 8, 8, 8, 8, 8, 8, 8, 8, 8, 8, 8, 8, 8, 8, 8, 8, 8, 8, 8, 8, 8, 8, 8, 8, 8, 8, 8, 8, 8, 8, 8, 8, 8, 8, 8, 8])) v22).bind fun v23 =>
          (E.p.conv 5 3 v23).bind fun v24 =>
          (E.p.bin .add 3 v21 v24).bind fun v25 =>
          (resV v25).bind fun v26 =>
          some (v26, h))
         (
          (E.p.conv 68 5 v2).bind fun v27 =>
          (E.p.index 9 (.str (sB [0, 1, 2, 2, 3, 3, 3, 3, 4, 4, 4, 4, 4, 4, 4, 4, 5, 5, 5, 5, 5, 5, 5, 5, 5, 5, 5, 5, 5, 5, 5, 5, 6, 6, 6, 6, 6, 6, 6, 6, 6, 6, 6, 6, 6, 6, 6, 6, 6, 6, 6, 6, 6, 6, 6, 6, 6, 6, 6, 6, 6, 6, 6, 6, 7, 7, 7, 7, 7, 7, 7, 7, 7, 7, 7, 7, 7, 7, 7, 7, 7, 7, 7, 7, 7, 7, 7, 7, 7, 7, 7, 7, 7, 7, 7, 7, 7, 7, 7, 7, 7, 7, 7, 7, 7, 7, 7, 7, 7, 7, 7, 7, 7, 7, 7, 7, 7, 7, 7, 7, 7, 7, 7, 7, 7, 7, 7, 7, 8, 8, 8, 8, 8, 8, 8, 8, 8, 8, 8, 8, 8, 8, 8, 8, 8, 8, 8, 8, 8, 8, 8, 8, 8, 8, 8, 8, 8, 8, 8, 8, 8, 8, 8, 8, 8, 8, 8, 8, 8, 8, 8, 8, 8, 8, 8, 8, 8, 8, 8, 8, 8, 8, 8, 8, 8, 8, 8, 8, 8, 8, 8, 8, 8, 8, 8, 8, 8, 8, 8, 8, 8, 8, 8, 8, 8, 8, 8, 8, 8, 8, 8, 8, 8, 8, 8, 8, 8, 8, 8, 8, 8, 8, 8, 8, 8, 8, 8, 8, 8, 8, 8, 8, 8, 8, 8, 8, 8, 8, 8, 8, 8, 8, 8, 8, 8, 8, 8, 8, 8, 8, 8, 8, 8, 8, 8, 8])) v27).bind fun v28 =>
          (E.p.conv 5 3 v28).bind fun v29 =>
          (E.p.bin .add 3 (.int .i64 32) v29).bind fun v30 =>
          (resV v30).bind fun v31 =>
          some (v31, h))))
     (
      (E.p.bin .geq 68 x0 (.int .u64 65536)).bind fun v32 =>
      condP v32
       (
        (E.p.bin .shr 68 x0 (.int .u64 16)).bind fun v33 =>
        (E.p.bin .add 3 (.int .i64 0) (.int .i64 16)).bind fun v34 =>
        (E.p.bin .geq 68 v33 (.int .u64 256)).bind fun v35 =>
        condP v35
         (
          (E.p.bin .shr 68 v33 (.int .u64 8)).bind fun v36 =>
          (E.p.bin .add 3 v34 (.int .i64 8)).bind fun v37 =>
          (E.p.conv 68 5 v36).bind fun v38 =>
          (E.p.index 9 (.str (sB [0, 1, 2, 2, 3, 3, 3, 3, 4, 4, 4, 4, 4, 4, 4, 4, 5, 5, 5, 5, 5, 5, 5, 5, 5, 5, 5, 5, 5, 5, 5, 5, 6, 6, 6, 6, 6, 6, 6, 6, 6, 6, 6, 6, 6, 6, 6, 6, 6, 6, 6, 6, 6, 6, 6, 6, 6, 6, 6, 6, 6, 6, 6, 6, 7, 7, 7, 7, 7, 7, 7, 7, 7, 7, 7, 7, 7, 7, 7, 7, 7, 7, 7, 7, 7, 7, 7, 7, 7, 7, 7, 7, 7, 7, 7, 7, 7, 7, 7, 7, 7, 7, 7, 7, 7, 7, 7, 7, 7, 7, 7, 7, 7, 7, 7, 7, 7, 7, 7, 7, 7, 7, 7, 7, 7, 7, 7, 7, 8, 8, 8, 8, 8, 8, 8, 8, 8, 8, 8, 8, 8, 8, 8, 8, 8, 8, 8, 8, 8, 8, 8, 8, 8, 8, 8, 8, 8, 8, 8, 8, 8, 8, 8, 8, 8, 8, 8, 8, 8, 8, 8, 8, 8, 8, 8, 8, 8, 8, 8, 8, 8, 8, 8, 8, 8, 8, 8, 8, 8, 8, 8, 8, 8, 8, 8, 8, 8, 8, 8, 8, 8, 8, 8, 8, 8, 8, 8, 8, 8, 8, 8, 8, 8, 8, 8, 8, 8, 8, 8, 8, 8, 8, 8, 8, 8, 8, 8, 8, 8, 8, 8, 8, 8, 8, 8, 8, 8, 8, 8, 8, 8, 8, 8, 8, 8, 8, 8, 8, 8, 8, 8, 8, 8, 8, 8, 8])) v38).bind fun v39 =>
          (E.p.conv 5 3 v39).bind fun v40 =>
          (E.p.bin .add 3 v37 v40).bind fun v41 =>
          (resV v41).bind fun v42 =>
          some (v42, h))
         (
          (E.p.conv 68 5 v33).bind fun v43 =>
          (E.p.index 9 (.str (sB [0, 1, 2, 2, 3, 3, 3, 3, 4, 4, 4, 4, 4, 4, 4, 4, 5, 5, 5, 5, 5, 5, 5, 5, 5, 5, 5, 5, 5, 5, 5, 5, 6, 6, 6, 6, 6, 6, 6, 6, 6, 6, 6, 6, 6, 6, 6, 6, 6, 6, 6, 6, 6, 6, 6, 6, 6, 6, 6, 6, 6, 6, 6, 6, 7, 7, 7, 7, 7, 7, 7, 7, 7, 7, 7, 7, 7, 7, 7, 7, 7, 7, 7, 7, 7, 7, 7, 7, 7, 7, 7, 7, 7, 7, 7, 7, 7, 7, 7, 7, 7, 7, 7, 7, 7, 7, 7, 7, 7, 7, 7, 7, 7, 7, 7, 7, 7, 7, 7, 7, 7, 7, 7, 7, 7, 7, 7, 7, 8, 8, 8, 8, 8, 8, 8, 8, 8, 8, 8, 8, 8, 8, 8, 8, 8, 8, 8, 8, 8, 8, 8, 8, 8, 8, 8, 8, 8, 8, 8, 8, 8, 8, 8, 8, 8, 8, 8, 8, 8, 8, 8, 8, 8, 8, 8, 8, 8, 8, 8, 8, 8, 8, 8, 8, 8, 8, 8, 8, 8, 8, 8, 8, 8, 8, 8, 8, 8, 8, 8, 8, 8, 8, 8, 8, 8, 8, 8, 8, 8, 8, 8, 8, 8, 8, 8, 8, 8, 8, 8, 8, 8, 8, 8, 8, 8, 8, 8, 8, 8, 8, 8, 8, 8, 8, 8, 8, 8, 8, 8, 8, 8, 8, 8, 8, 8, 8, 8, 8, 8, 8, 8, 8, 8, 8, 8, 8])) v43).bind fun v44 =>
          (E.p.conv 5 3 v44).bind fun v45 =>
          (E.p.bin .add 3 v34 v45).bind fun v46 =>
          (resV v46).bind fun v47 =>
          some (v47, h)))
       (
        (E.p.bin .geq 68 x0 (.int .u64 256)).bind fun v48 =>
        condP v48
         (
          (E.p.bin .shr 68 x0 (.int .u64 8)).bind fun v49 =>
          (E.p.bin .add 3 (.int .i64 0) (.int .i64 8)).bind fun v50 =>
          (E.p.conv 68 5 v49).bind fun v51 =>
          (E.p.index 9 (.str (sB [0, 1, 2, 2, 3, 3, 3, 3, 4, 4, 4, 4, 4, 4, 4, 4, 5, 5, 5, 5, 5, 5, 5, 5, 5, 5, 5, 5, 5, 5, 5, 5, 6, 6, 6, 6, 6, 6, 6, 6, 6, 6, 6, 6, 6, 6, 6, 6, 6, 6, 6, 6, 6, 6, 6, 6, 6, 6, 6, 6, 6, 6, 6, 6, 7, 7, 7, 7, 7, 7, 7, 7, 7, 7, 7, 7, 7, 7, 7, 7, 7, 7, 7, 7, 7, 7, 7, 7, 7, 7, 7, 7, 7, 7, 7, 7, 7, 7, 7, 7, 7, 7, 7, 7, 7, 7, 7, 7, 7, 7, 7, 7, 7, 7, 7, 7, 7, 7, 7, 7, 7, 7, 7, 7, 7, 7, 7, 7, 8, 8, 8, 8, 8, 8, 8, 8, 8, 8, 8, 8, 8, 8, 8, 8, 8, 8, 8, 8, 8, 8, 8, 8, 8, 8, 8, 8, 8, 8, 8, 8, 8, 8, 8, 8, 8, 8, 8, 8, 8, 8, 8, 8, 8, 8, 8, 8, 8, 8, 8, 8, 8, 8, 8, 8, 8, 8, 8, 8, 8, 8, 8, 8, 8, 8, 8, 8, 8, 8, 8, 8, 8, 8, 8, 8, 8, 8, 8, 8, 8, 8, 8, 8, 8, 8, 8, 8, 8, 8, 8, 8, 8, 8, 8, 8, 8, 8, 8, 8, 8, 8, 8, 8, 8, 8, 8, 8, 8, 8, 8, 8, 8, 8, 8, 8, 8, 8, 8, 8, 8, 8, 8, 8, 8, 8, 8, 8])) v51).bind fun v52 =>
          (E.p.conv 5 3 v52).bind fun v53 =>
          (E.p.bin .add 3 v50 v53).bind fun v54 =>
          (resV v54).bind fun v55 =>
          some (v55, h))
         (
          (E.p.conv 68 5 x0).bind fun v56 =>
          (E.p.index 9 (.str (sB [0, 1, 2, 2, 3, 3, 3, 3, 4, 4, 4, 4, 4, 4, 4, 4, 5, 5, 5, 5, 5, 5, 5, 5, 5, 5, 5, 5, 5, 5, 5, 5, 6, 6, 6, 6, 6, 6, 6, 6, 6, 6, 6, 6, 6, 6, 6, 6, 6, 6, 6, 6, 6, 6, 6, 6, 6, 6, 6, 6, 6, 6, 6, 6, 7, 7, 7, 7, 7, 7, 7, 7, 7, 7, 7, 7, 7, 7, 7, 7, 7, 7, 7, 7, 7, 7, 7, 7, 7, 7, 7, 7, 7, 7, 7, 7, 7, 7, 7, 7, 7, 7, 7, 7, 7, 7, 7, 7, 7, 7, 7, 7, 7, 7, 7, 7, 7, 7, 7, 7, 7, 7, 7, 7, 7, 7, 7, 7, 8, 8, 8, 8, 8, 8, 8, 8, 8, 8, 8, 8, 8, 8, 8, 8, 8, 8, 8, 8, 8, 8, 8, 8, 8, 8, 8, 8, 8, 8, 8, 8, 8, 8, 8, 8, 8, 8, 8, 8, 8, 8, 8, 8, 8, 8, 8, 8, 8, 8, 8, 8, 8, 8, 8, 8, 8, 8, 8, 8, 8, 8, 8, 8, 8, 8, 8, 8, 8, 8, 8, 8, 8, 8, 8, 8, 8, 8, 8, 8, 8, 8, 8, 8, 8, 8, 8, 8, 8, 8, 8, 8, 8, 8, 8, 8, 8, 8, 8, 8, 8, 8, 8, 8, 8, 8, 8, 8, 8, 8, 8, 8, 8, 8, 8, 8, 8, 8, 8, 8, 8, 8, 8, 8, 8, 8, 8, 8])) v56).bind fun v57 =>
          (E.p.conv 5 3 v57).bind fun v58 =>
          (E.p.bin .add 3 (.int .i64 0) v58).bind fun v59 =>
          (resV v59).bind fun v60 =>
          some (v60, h))))
theorem main_eq (E : Env) (x0 : PV) (h : PHeap) : runBody (E.cx Tryd.prog kl) Tryd.f62 [x0] h = main E x0 h := by kernel_rfl
theorem call_eq (g : Nat → PV) (lf n : Nat) (x0 : PV) (h : PHeap) : CL g lf (n + 1) fn_bits_Len64 [x0] h = main (env g lf n) x0 h := by
  rw [← main_eq]
  show call Tryd.prog g KL lf (n + 1) 62 [x0] h = _
  rw [call_succ, Tryd.func62]
  kernel_rfl
end bits_Len64
namespace bits_TrailingZeros
noncomputable def main (E : Env) (x0 : PV) (h : PHeap) : Res :=
    condP (.bool false)
     (
      (E.p.conv 79 77 x0).bind fun v1 =>
      (E.C fn_bits_TrailingZeros32 [v1] h).bind fun v2 =>
      (resV v2.1).bind fun v3 =>
      some (v3, v2.2))
     (
      (E.C fn_bits_TrailingZeros64 [x0] h).bind fun v4 =>
      (resV v4.1).bind fun v5 =>
      some (v5, v4.2))
theorem main_eq (E : Env) (x0 : PV) (h : PHeap) : runBody (E.cx Tryd.prog kl) Tryd.f65 [x0] h = main E x0 h := by kernel_rfl
theorem call_eq (g : Nat → PV) (lf n : Nat) (x0 : PV) (h : PHeap) : CL g lf (n + 1) fn_bits_TrailingZeros [x0] h = main (env g lf n) x0 h := by
  rw [← main_eq]
  show call Tryd.prog g KL lf (n + 1) 65 [x0] h = _
  rw [call_succ, Tryd.func65]
  kernel_rfl
end bits_TrailingZeros
namespace spec_l2Joins
noncomputable def main (E : Env) (x0 x1 x2 x3 x4 : PV) (h : PHeap) : Res :=
    (E.C fn_spec_l2Side [x0, x1, x4, (.bool false)] h).bind fun v1 =>
    (E.C fn_spec_l2Grow [x2, x3, v1.1] v1.2).bind fun v2 =>
    (E.C fn_spec_l2Side [x0, x1, x4, (.bool true)] v2.2).bind fun v3 =>
    (E.p.bin .and 3 v2.1 v3.1).bind fun v4 =>
    (E.p.bin .neq 3 v4 (.int .i64 0)).bind fun v5 =>
    (resV v5).bind fun v6 =>
    some (v6, v3.2)
theorem main_eq (E : Env) (x0 x1 x2 x3 x4 : PV) (h : PHeap) : runBody (E.cx Tryd.prog kl) Tryd.f66 [x0, x1, x2, x3, x4] h = main E x0 x1 x2 x3 x4 h := by kernel_rfl
theorem call_eq (g : Nat → PV) (lf n : Nat) (x0 x1 x2 x3 x4 : PV) (h : PHeap) : CL g lf (n + 1) fn_spec_l2Joins [x0, x1, x2, x3, x4] h = main (env g lf n) x0 x1 x2 x3 x4 h := by
  rw [← main_eq]
  show call Tryd.prog g KL lf (n + 1) 66 [x0, x1, x2, x3, x4] h = _
  rw [call_succ, Tryd.func66]
  kernel_rfl
end spec_l2Joins
namespace spec_l2Masks
noncomputable def lp0 : Code := (codeAt (bodyOf Tryd.f67) [1, 1, 0, 1, 0, 0])
def st0 (x0 x1 x5 x6 : PV) (h : PHeap) : St := ⟨[x0, x1, .junk, .junk, .junk, x5, x6, .junk, .junk, .junk, .junk, .junk, .junk, .junk, .junk, .junk, .junk, .junk, .junk, .junk, .junk, .junk, .junk, .junk, .junk, .junk, .junk, .junk, .junk, .junk, .junk, .junk, .junk, .junk, .junk, .junk, .junk, .junk, .junk, .junk], h⟩
noncomputable def lp1 : Code := (codeAt (bodyOf Tryd.f67) [1, 1, 0, 1, 0, 0, 1, 0, 0, 1, 1, 0, 1, 0, 0])
def st1 (x0 x1 x5 x6 x7 x8 x9 : PV) (h : PHeap) : St := ⟨[x0, x1, .junk, .junk, .junk, x5, x6, x7, x8, x9, .junk, .junk, .junk, .junk, .junk, .junk, .junk, .junk, .junk, .junk, .junk, .junk, .junk, .junk, .junk, .junk, .junk, .junk, .junk, .junk, .junk, .junk, .junk, .junk, .junk, .junk, .junk, .junk, .junk, .junk], h⟩
def se0_0_1_5_6_15 (x0 x1 x5 x6 x15 : PV) (h : PHeap) : St := ⟨[x0, x1, .junk, .junk, .junk, x5, x6, .junk, .junk, .junk, .junk, .junk, .junk, .junk, .junk, x15, .junk, .junk, .junk, .junk, .junk, .junk, .junk, .junk, .junk, .junk, .junk, .junk, .junk, .junk, .junk, .junk, .junk, .junk, .junk, .junk, .junk, .junk, .junk, .junk], h⟩
def se2_0_1_5_6_7_8_9_25 (x0 x1 x5 x6 x7 x8 x9 x25 : PV) (h : PHeap) : St := ⟨[x0, x1, .junk, .junk, .junk, x5, x6, x7, x8, x9, .junk, .junk, .junk, .junk, .junk, .junk, .junk, .junk, .junk, .junk, .junk, .junk, .junk, .junk, .junk, x25, .junk, .junk, .junk, .junk, .junk, .junk, .junk, .junk, .junk, .junk, .junk, .junk, .junk, .junk], h⟩
noncomputable def K0 (E : Env) (K : PX → St → Res) : PX → St → Res := (kBlock 0 (kSeq (ev (E.cx Tryd.prog kl) (codeAt (bodyOf Tryd.f67) [1, 1, 1])) K))
@[simp] theorem K0_ret (E : Env) (K : PX → St → Res) (s : St) : K0 E K .ret s = K .ret s := by kernel_rfl
noncomputable def K1 (E : Env) (K : PX → St → Res) : PX → St → Res := (kBlock 2 (kSeq (ev (E.cx Tryd.prog kl) (codeAt (bodyOf Tryd.f67) [1, 1, 0, 1, 0, 0, 1, 0, 0, 1, 1, 1])) (kBlock 1 (kSeq (ev (E.cx Tryd.prog kl) (codeAt (bodyOf Tryd.f67) [1, 1, 0, 1, 0, 0, 1, 1])) K))))
@[simp] theorem K1_ret (E : Env) (K : PX → St → Res) (s : St) : K1 E K .ret s = K .ret s := by kernel_rfl
noncomputable def body0 (E : Env) (K : PX → St → Res) (x0 x1 x5 x6 : PV) (h : PHeap) : Res :=
    (E.p.bin .mul 3 x0 x1).bind fun v16 =>
    (E.p.bin .lss 3 x6 v16).bind fun v17 =>
    condP v17
     (
      (E.C fn_spec_l1Near [x0, x1, x6] h).bind fun v18 =>
      loopK (ev (E.cx Tryd.prog spec_l2Masks.kl) spec_l2Masks.lp1) E.lf (spec_l2Masks.st1 x0 x1 x5 x6 (.int .i64 0) v18.1 (.int .i64 0) v18.2) (spec_l2Masks.K1 E K))
     (
      K (.exit 0) (se0_0_1_5_6_15 x0 x1 x5 x6 v17 h))
theorem body0_eq (E : Env) (K : PX → St → Res) (x0 x1 x5 x6 : PV) (h : PHeap) : ev (E.cx Tryd.prog kl) lp0 (st0 x0 x1 x5 x6 h) K = body0 E K x0 x1 x5 x6 h := by kernel_rfl
noncomputable def body1 (E : Env) (K : PX → St → Res) (x0 x1 x5 x6 x7 x8 x9 : PV) (h : PHeap) : Res :=
    (E.p.len 33 x8).bind fun v19 =>
    (E.p.bin .lss 3 x9 v19).bind fun v20 =>
    condP v20
     (
      (E.p.indexAddr 33 x8 x9).bind fun v21 =>
      (E.p.load 3 v21 h).bind fun v22 =>
      (E.p.bin .shl 3 (.int .i64 1) v22).bind fun v23 =>
      (E.p.bin .or 3 x7 v23).bind fun v24 =>
      (E.p.bin .add 3 x9 (.int .i64 1)).bind fun v25 =>
      K .normal (st1 x0 x1 x5 x6 v24 x8 v25 h))
     (
      K (.exit 2) (se2_0_1_5_6_7_8_9_25 x0 x1 x5 x6 x7 x8 x9 v20 h))
theorem body1_eq (E : Env) (K : PX → St → Res) (x0 x1 x5 x6 x7 x8 x9 : PV) (h : PHeap) : ev (E.cx Tryd.prog kl) lp1 (st1 x0 x1 x5 x6 x7 x8 x9 h) K = body1 E K x0 x1 x5 x6 x7 x8 x9 h := by kernel_rfl
theorem after0_se0_0_1_5_6_15 (E : Env) (x0 x1 x5 x6 x15 : PV) (h : PHeap) : K0 E (kTop Tryd.prog Tryd.f67) (.exit 0) (se0_0_1_5_6_15 x0 x1 x5 x6 x15 h) =
    (resV x5).bind fun v12 =>
    some (v12, h) := by kernel_rfl
theorem after1_se2_0_1_5_6_7_8_9_25 (E : Env) (K : PX → St → Res) (x0 x1 x5 x6 x7 x8 x9 x25 : PV) (h : PHeap) : K1 E K (.exit 2) (se2_0_1_5_6_7_8_9_25 x0 x1 x5 x6 x7 x8 x9 x25 h) =
    (E.p.buildSlice 33 1 [(0, x7)] h).bind fun v13 =>
    (E.p.append 33 33 x5 v13.1 v13.2).bind fun v14 =>
    (E.p.bin .add 3 x6 (.int .i64 1)).bind fun v15 =>
    K .normal (st0 x0 x1 v14.1 v15 v14.2) := by kernel_rfl
noncomputable def main (E : Env) (x0 x1 : PV) (h : PHeap) : Res :=
    (E.p.buildSlice 33 0 [] h).bind fun v1 =>
    loopK (ev (E.cx Tryd.prog spec_l2Masks.kl) spec_l2Masks.lp0) E.lf (spec_l2Masks.st0 x0 x1 v1.1 (.int .i64 0) v1.2) (spec_l2Masks.K0 E (kTop Tryd.prog Tryd.f67))
theorem main_eq (E : Env) (x0 x1 : PV) (h : PHeap) : runBody (E.cx Tryd.prog kl) Tryd.f67 [x0, x1] h = main E x0 x1 h := by kernel_rfl
theorem call_eq (g : Nat → PV) (lf n : Nat) (x0 x1 : PV) (h : PHeap) : CL g lf (n + 1) fn_spec_l2Masks [x0, x1] h = main (env g lf n) x0 x1 h := by
  rw [← main_eq]
  show call Tryd.prog g KL lf (n + 1) 67 [x0, x1] h = _
  rw [call_succ, Tryd.func67]
  kernel_rfl
end spec_l2Masks
namespace spec_l2Set
noncomputable def lp0 : Code := (codeAt (bodyOf Tryd.f68) [1, 1, 0, 1, 0, 0])
def st0 (x0 x1 x5 x6 : PV) (h : PHeap) : St := ⟨[x0, x1, .junk, .junk, .junk, x5, x6, .junk, .junk, .junk, .junk, .junk, .junk, .junk, .junk, .junk, .junk, .junk, .junk, .junk, .junk, .junk, .junk, .junk], h⟩
def se0_0_1_5_6_10 (x0 x1 x5 x6 x10 : PV) (h : PHeap) : St := ⟨[x0, x1, .junk, .junk, .junk, x5, x6, .junk, .junk, .junk, x10, .junk, .junk, .junk, .junk, .junk, .junk, .junk, .junk, .junk, .junk, .junk, .junk, .junk], h⟩
noncomputable def K0 (E : Env) (K : PX → St → Res) : PX → St → Res := (kBlock 0 (kSeq (ev (E.cx Tryd.prog kl) (codeAt (bodyOf Tryd.f68) [1, 1, 1])) K))
@[simp] theorem K0_ret (E : Env) (K : PX → St → Res) (s : St) : K0 E K .ret s = K .ret s := by kernel_rfl
noncomputable def body0 (E : Env) (K : PX → St → Res) (x0 x1 x5 x6 : PV) (h : PHeap) : Res :=
    (E.p.len 33 x0).bind fun v11 =>
    (E.p.bin .lss 3 x6 v11).bind fun v12 =>
    condP v12
     (
      (E.p.indexAddr 33 x0 x6).bind fun v13 =>
      (E.p.load 3 v13 h).bind fun v14 =>
      (E.p.bin .eql 3 v14 x1).bind fun v15 =>
      condP v15
       (
        (E.p.bin .shl 3 (.int .i64 1) x6).bind fun v16 =>
        (E.p.bin .or 3 x5 v16).bind fun v17 =>
        (E.p.bin .add 3 x6 (.int .i64 1)).bind fun v18 =>
        K .normal (st0 x0 x1 v17 v18 h))
       (
        (E.p.bin .add 3 x6 (.int .i64 1)).bind fun v19 =>
        K .normal (st0 x0 x1 x5 v19 h)))
     (
      K (.exit 0) (se0_0_1_5_6_10 x0 x1 x5 x6 v12 h))
theorem body0_eq (E : Env) (K : PX → St → Res) (x0 x1 x5 x6 : PV) (h : PHeap) : ev (E.cx Tryd.prog kl) lp0 (st0 x0 x1 x5 x6 h) K = body0 E K x0 x1 x5 x6 h := by kernel_rfl
theorem after0_se0_0_1_5_6_10 (E : Env) (x0 x1 x5 x6 x10 : PV) (h : PHeap) : K0 E (kTop Tryd.prog Tryd.f68) (.exit 0) (se0_0_1_5_6_10 x0 x1 x5 x6 x10 h) =
    (resV x5).bind fun v10 =>
    some (v10, h) := by kernel_rfl
noncomputable def main (E : Env) (x0 x1 : PV) (h : PHeap) : Res :=
    loopK (ev (E.cx Tryd.prog spec_l2Set.kl) spec_l2Set.lp0) E.lf (spec_l2Set.st0 x0 x1 (.int .i64 0) (.int .i64 0) h) (spec_l2Set.K0 E (kTop Tryd.prog Tryd.f68))
theorem main_eq (E : Env) (x0 x1 : PV) (h : PHeap) : runBody (E.cx Tryd.prog kl) Tryd.f68 [x0, x1] h = main E x0 x1 h := by kernel_rfl
theorem call_eq (g : Nat → PV) (lf n : Nat) (x0 x1 : PV) (h : PHeap) : CL g lf (n + 1) fn_spec_l2Set [x0, x1] h = main (env g lf n) x0 x1 h := by
  rw [← main_eq]
  show call Tryd.prog g KL lf (n + 1) 68 [x0, x1] h = _
  rw [call_succ, Tryd.func68]
  kernel_rfl
end spec_l2Set
namespace bits_TrailingZeros32
noncomputable def main (E : Env) (x0 : PV) (h : PHeap) : Res :=
    (E.p.bin .eql 77 x0 (.int .u32 0)).bind fun v1 =>
    condP v1
     (
      (resV (.int .i64 32)).bind fun v2 =>
      some (v2, h))
     (
      (E.p.un .neg x0).bind fun v3 =>
      (E.p.bin .and 77 x0 v3).bind fun v4 =>
      (E.p.bin .mul 77 v4 (.int .u32 125613361)).bind fun v5 =>
      (E.p.bin .shr 77 v5 (.int .u64 27)).bind fun v6 =>
      (E.p.indexAddr 84 (E.g 2) v6).bind fun v7 =>
      (E.p.load 5 v7 h).bind fun v8 =>
      (E.p.conv 5 3 v8).bind fun v9 =>
      (resV v9).bind fun v10 =>
      some (v10, h))
theorem main_eq (E : Env) (x0 : PV) (h : PHeap) : runBody (E.cx Tryd.prog kl) Tryd.f69 [x0] h = main E x0 h := by kernel_rfl
theorem call_eq (g : Nat → PV) (lf n : Nat) (x0 : PV) (h : PHeap) : CL g lf (n + 1) fn_bits_TrailingZeros32 [x0] h = main (env g lf n) x0 h := by
  rw [← main_eq]
  show call Tryd.prog g KL lf (n + 1) 69 [x0] h = _
  rw [call_succ, Tryd.func69]
  kernel_rfl
end bits_TrailingZeros32
namespace bits_TrailingZeros64
noncomputable def main (E : Env) (x0 : PV) (h : PHeap) : Res :=
    (E.p.bin .eql 68 x0 (.int .u64 0)).bind fun v1 =>
    condP v1
     (
      (resV (.int .i64 64)).bind fun v2 =>
      some (v2, h))
     (
      (E.p.un .neg x0).bind fun v3 =>
      (E.p.bin .and 68 x0 v3).bind fun v4 =>
      (E.p.bin .mul 68 v4 (.int .u64 285870213051353865)).bind fun v5 =>
      (E.p.bin .shr 68 v5 (.int .u64 58)).bind fun v6 =>
      (E.p.indexAddr 85 (E.g 3) v6).bind fun v7 =>
      (E.p.load 5 v7 h).bind fun v8 =>
      (E.p.conv 5 3 v8).bind fun v9 =>
      (resV v9).bind fun v10 =>
      some (v10, h))
theorem main_eq (E : Env) (x0 : PV) (h : PHeap) : runBody (E.cx Tryd.prog kl) Tryd.f70 [x0] h = main E x0 h := by kernel_rfl
theorem call_eq (g : Nat → PV) (lf n : Nat) (x0 : PV) (h : PHeap) : CL g lf (n + 1) fn_bits_TrailingZeros64 [x0] h = main (env g lf n) x0 h := by
  rw [← main_eq]
  show call Tryd.prog g KL lf (n + 1) 70 [x0] h = _
  rw [call_succ, Tryd.func70]
  kernel_rfl
end bits_TrailingZeros64
namespace spec_l2Grow
noncomputable def lp0 : Code := (codeAt (bodyOf Tryd.f71) [1, 1, 0, 1, 0, 0])
def st0 (x0 x1 x7 x8 : PV) (h : PHeap) : St := ⟨[x0, x1, .junk, .junk, .junk, .junk, .junk, x7, x8, .junk, .junk, .junk, .junk, .junk, .junk, .junk, .junk, .junk, .junk, .junk, .junk, .junk, .junk, .junk, .junk, .junk, .junk, .junk, .junk, .junk, .junk, .junk, .junk, .junk, .junk, .junk, .junk, .junk, .junk, .junk], h⟩
noncomputable def lp1 : Code := (codeAt (bodyOf Tryd.f71) [1, 1, 0, 1, 0, 0, 1, 0, 1, 0, 1, 0, 0])
def st1 (x0 x1 x7 x9 x10 : PV) (h : PHeap) : St := ⟨[x0, x1, .junk, .junk, .junk, .junk, .junk, x7, .junk, x9, x10, .junk, .junk, .junk, .junk, .junk, .junk, .junk, .junk, .junk, .junk, .junk, .junk, .junk, .junk, .junk, .junk, .junk, .junk, .junk, .junk, .junk, .junk, .junk, .junk, .junk, .junk, .junk, .junk, .junk], h⟩
def se0_0_1_7_14 (x0 x1 x7 x14 : PV) (h : PHeap) : St := ⟨[x0, x1, .junk, .junk, .junk, .junk, .junk, x7, .junk, .junk, .junk, .junk, .junk, .junk, x14, .junk, .junk, .junk, .junk, .junk, .junk, .junk, .junk, .junk, .junk, .junk, .junk, .junk, .junk, .junk, .junk, .junk, .junk, .junk, .junk, .junk, .junk, .junk, .junk, .junk], h⟩
def se2_0_1_7_9_10_19 (x0 x1 x7 x9 x10 x19 : PV) (h : PHeap) : St := ⟨[x0, x1, .junk, .junk, .junk, .junk, .junk, x7, .junk, x9, x10, .junk, .junk, .junk, .junk, .junk, .junk, .junk, .junk, x19, .junk, .junk, .junk, .junk, .junk, .junk, .junk, .junk, .junk, .junk, .junk, .junk, .junk, .junk, .junk, .junk, .junk, .junk, .junk, .junk], h⟩
noncomputable def K0 (E : Env) (K : PX → St → Res) : PX → St → Res := (kBlock 0 (kSeq (ev (E.cx Tryd.prog kl) (codeAt (bodyOf Tryd.f71) [1, 1, 1])) K))
@[simp] theorem K0_ret (E : Env) (K : PX → St → Res) (s : St) : K0 E K .ret s = K .ret s := by kernel_rfl
noncomputable def K1 (E : Env) (K : PX → St → Res) : PX → St → Res := (kBlock 2 (kSeq (ev (E.cx Tryd.prog kl) (codeAt (bodyOf Tryd.f71) [1, 1, 0, 1, 0, 0, 1, 0, 1, 1])) (kBlock 1 K)))
@[simp] theorem K1_ret (E : Env) (K : PX → St → Res) (s : St) : K1 E K .ret s = K .ret s := by kernel_rfl
noncomputable def body0 (E : Env) (K : PX → St → Res) (x0 x1 x7 x8 : PV) (h : PHeap) : Res :=
    condP x8
     (
      loopK (ev (E.cx Tryd.prog spec_l2Grow.kl) spec_l2Grow.lp1) E.lf (spec_l2Grow.st1 x0 x1 x7 x7 (.int .i64 0) h) (spec_l2Grow.K1 E K))
     (
      K (.exit 0) (se0_0_1_7_14 x0 x1 x7 x8 h))
theorem body0_eq (E : Env) (K : PX → St → Res) (x0 x1 x7 x8 : PV) (h : PHeap) : ev (E.cx Tryd.prog kl) lp0 (st0 x0 x1 x7 x8 h) K = body0 E K x0 x1 x7 x8 h := by kernel_rfl
noncomputable def body1 (E : Env) (K : PX → St → Res) (x0 x1 x7 x9 x10 : PV) (h : PHeap) : Res :=
    (E.p.len 33 x0).bind fun v15 =>
    (E.p.bin .lss 3 x10 v15).bind fun v16 =>
    condP v16
     (
      (E.p.bin .shr 3 x7 x10).bind fun v17 =>
      (E.p.bin .rem 3 v17 (.int .i64 2)).bind fun v18 =>
      (E.p.bin .eql 3 v18 (.int .i64 1)).bind fun v19 =>
      condP v19
       (
        (E.p.indexAddr 33 x0 x10).bind fun v20 =>
        (E.p.load 3 v20 h).bind fun v21 =>
        (E.p.bin .and 3 v21 x1).bind fun v22 =>
        (E.p.bin .or 3 x9 v22).bind fun v23 =>
        (E.p.bin .add 3 x10 (.int .i64 1)).bind fun v24 =>
        K .normal (st1 x0 x1 x7 v23 v24 h))
       (
        (E.p.bin .add 3 x10 (.int .i64 1)).bind fun v25 =>
        K .normal (st1 x0 x1 x7 x9 v25 h)))
     (
      K (.exit 2) (se2_0_1_7_9_10_19 x0 x1 x7 x9 x10 v16 h))
theorem body1_eq (E : Env) (K : PX → St → Res) (x0 x1 x7 x9 x10 : PV) (h : PHeap) : ev (E.cx Tryd.prog kl) lp1 (st1 x0 x1 x7 x9 x10 h) K = body1 E K x0 x1 x7 x9 x10 h := by kernel_rfl
theorem after0_se0_0_1_7_14 (E : Env) (x0 x1 x7 x14 : PV) (h : PHeap) : K0 E (kTop Tryd.prog Tryd.f71) (.exit 0) (se0_0_1_7_14 x0 x1 x7 x14 h) =
    (resV x7).bind fun v13 =>
    some (v13, h) := by kernel_rfl
theorem after1_se2_0_1_7_9_10_19 (E : Env) (K : PX → St → Res) (x0 x1 x7 x9 x10 x19 : PV) (h : PHeap) : K1 E K (.exit 2) (se2_0_1_7_9_10_19 x0 x1 x7 x9 x10 x19 h) =
    (E.p.bin .neq 3 x9 x7).bind fun v14 =>
    K .normal (st0 x0 x1 x9 v14 h) := by kernel_rfl
noncomputable def main (E : Env) (x0 x1 x2 : PV) (h : PHeap) : Res :=
    (E.p.bin .and 3 x2 x1).bind fun v1 =>
    loopK (ev (E.cx Tryd.prog spec_l2Grow.kl) spec_l2Grow.lp0) E.lf (spec_l2Grow.st0 x0 x1 v1 (.bool true) h) (spec_l2Grow.K0 E (kTop Tryd.prog Tryd.f71))
theorem main_eq (E : Env) (x0 x1 x2 : PV) (h : PHeap) : runBody (E.cx Tryd.prog kl) Tryd.f71 [x0, x1, x2] h = main E x0 x1 x2 h := by kernel_rfl
theorem call_eq (g : Nat → PV) (lf n : Nat) (x0 x1 x2 : PV) (h : PHeap) : CL g lf (n + 1) fn_spec_l2Grow [x0, x1, x2] h = main (env g lf n) x0 x1 x2 h := by
  rw [← main_eq]
  show call Tryd.prog g KL lf (n + 1) 71 [x0, x1, x2] h = _
  rw [call_succ, Tryd.func71]
  kernel_rfl
end spec_l2Grow
namespace spec_l2Side
noncomputable def lp0 : Code := (codeAt (bodyOf Tryd.f72) [1, 1, 0, 1, 0, 0])
def st0 (x0 x1 x2 x3 x9 x10 : PV) (h : PHeap) : St := ⟨[x0, x1, x2, x3, .junk, .junk, .junk, .junk, .junk, x9, x10, .junk, .junk, .junk, .junk, .junk, .junk, .junk, .junk, .junk, .junk, .junk, .junk, .junk, .junk, .junk, .junk, .junk, .junk, .junk, .junk, .junk, .junk, .junk, .junk, .junk, .junk, .junk, .junk, .junk, .junk, .junk, .junk, .junk, .junk, .junk, .junk, .junk, .junk, .junk, .junk], h⟩
def se0_0_1_2_3_9_10_17 (x0 x1 x2 x3 x9 x10 x17 : PV) (h : PHeap) : St := ⟨[x0, x1, x2, x3, .junk, .junk, .junk, .junk, .junk, x9, x10, .junk, .junk, .junk, .junk, .junk, .junk, x17, .junk, .junk, .junk, .junk, .junk, .junk, .junk, .junk, .junk, .junk, .junk, .junk, .junk, .junk, .junk, .junk, .junk, .junk, .junk, .junk, .junk, .junk, .junk, .junk, .junk, .junk, .junk, .junk, .junk, .junk, .junk, .junk, .junk], h⟩
noncomputable def K0 (E : Env) (K : PX → St → Res) : PX → St → Res := (kBlock 0 (kSeq (ev (E.cx Tryd.prog kl) (codeAt (bodyOf Tryd.f72) [1, 1, 1])) K))
@[simp] theorem K0_ret (E : Env) (K : PX → St → Res) (s : St) : K0 E K .ret s = K .ret s := by kernel_rfl
noncomputable def body0 (E : Env) (K : PX → St → Res) (x0 x1 x2 x3 x9 x10 : PV) (h : PHeap) : Res :=
    (E.p.bin .mul 3 x0 x1).bind fun v57 =>
    (E.p.bin .lss 3 x10 v57).bind fun v58 =>
    condP v58
     (
      (E.p.bin .quo 3 x10 x1).bind fun v59 =>
      (E.p.bin .sub 3 x0 (.int .i64 1)).bind fun v60 =>
      (E.p.bin .eql 3 x2 (.int .i64 2)).bind fun v61 =>
      condP v61
       (
        (E.p.bin .rem 3 x10 x1).bind fun v62 =>
        (E.p.bin .sub 3 x1 (.int .i64 1)).bind fun v63 =>
        (wantV x3 true).bind fun v64 =>
        (bif v64 then some (v62, h) else some (.tup [], h)).bind fun v65 =>
        (wantV x3 true).bind fun v66 =>
        (bif v66 then some (v63, v65.2) else some (.tup [], v65.2)).bind fun v67 =>
        (wantV x3 true).bind fun v68 =>
        (bif v68 then pv v67.2 (E.p.bin .eql 3 v65.1 v67.1) else some (.tup [], v67.2)).bind fun v69 =>
        (E.p.pick x3 v69.1 (.bool false)).bind fun v70 =>
        (wantV v70 false).bind fun v71 =>
        (bif v71 then some (x3, v69.2) else some (.tup [], v69.2)).bind fun v72 =>
        (wantV v70 false).bind fun v73 =>
        (bif v73 then pv v72.2 (E.p.un .not v72.1) else some (.tup [], v72.2)).bind fun v74 =>
        (wantV v70 false).bind fun v75 =>
        (bif v75 then some (v74.1, v74.2) else some (.tup [], v74.2)).bind fun v76 =>
        (wantV v76.1 true).bind fun v77 =>
        (bif v77 then some (v62, v76.2) else some (.tup [], v76.2)).bind fun v78 =>
        (wantV v76.1 true).bind fun v79 =>
        (bif v79 then pv v78.2 (E.p.bin .eql 3 v78.1 (.int .i64 0)) else some (.tup [], v78.2)).bind fun v80 =>
        (wantV v70 false).bind fun v81 =>
        (bif v81 then pv v80.2 (E.p.pick v76.1 v80.1 (.bool false)) else some (.tup [], v80.2)).bind fun v82 =>
        (E.p.pick v70 (.bool true) v82.1).bind fun v83 =>
        condP v83
         (
          (E.p.bin .shl 3 (.int .i64 1) x10).bind fun v84 =>
          (E.p.bin .or 3 x9 v84).bind fun v85 =>
          (E.p.bin .add 3 x10 (.int .i64 1)).bind fun v86 =>
          K .normal (st0 x0 x1 x2 x3 v85 v86 v82.2))
         (
          (E.p.bin .add 3 x10 (.int .i64 1)).bind fun v87 =>
          K .normal (st0 x0 x1 x2 x3 x9 v87 v82.2)))
       (
        (wantV x3 true).bind fun v88 =>
        (bif v88 then some (v59, h) else some (.tup [], h)).bind fun v89 =>
        (wantV x3 true).bind fun v90 =>
        (bif v90 then some (v60, v89.2) else some (.tup [], v89.2)).bind fun v91 =>
        (wantV x3 true).bind fun v92 =>
        (bif v92 then pv v91.2 (E.p.bin .eql 3 v89.1 v91.1) else some (.tup [], v91.2)).bind fun v93 =>
        (E.p.pick x3 v93.1 (.bool false)).bind fun v94 =>
        (wantV v94 false).bind fun v95 =>
        (bif v95 then some (x3, v93.2) else some (.tup [], v93.2)).bind fun v96 =>
        (wantV v94 false).bind fun v97 =>
        (bif v97 then pv v96.2 (E.p.un .not v96.1) else some (.tup [], v96.2)).bind fun v98 =>
        (wantV v94 false).bind fun v99 =>
        (bif v99 then some (v98.1, v98.2) else some (.tup [], v98.2)).bind fun v100 =>
        (wantV v100.1 true).bind fun v101 =>
        (bif v101 then some (v59, v100.2) else some (.tup [], v100.2)).bind fun v102 =>
        (wantV v100.1 true).bind fun v103 =>
        (bif v103 then pv v102.2 (E.p.bin .eql 3 v102.1 (.int .i64 0)) else some (.tup [], v102.2)).bind fun v104 =>
        (wantV v94 false).bind fun v105 =>
        (bif v105 then pv v104.2 (E.p.pick v100.1 v104.1 (.bool false)) else some (.tup [], v104.2)).bind fun v106 =>
        (E.p.pick v94 (.bool true) v106.1).bind fun v107 =>
        condP v107
         (
          (E.p.bin .shl 3 (.int .i64 1) x10).bind fun v108 =>
          (E.p.bin .or 3 x9 v108).bind fun v109 =>
          (E.p.bin .add 3 x10 (.int .i64 1)).bind fun v110 =>
          K .normal (st0 x0 x1 x2 x3 v109 v110 v106.2))
         (
          (E.p.bin .add 3 x10 (.int .i64 1)).bind fun v111 =>
          K .normal (st0 x0 x1 x2 x3 x9 v111 v106.2))))
     (
      K (.exit 0) (se0_0_1_2_3_9_10_17 x0 x1 x2 x3 x9 x10 v58 h))
theorem body0_eq (E : Env) (K : PX → St → Res) (x0 x1 x2 x3 x9 x10 : PV) (h : PHeap) : ev (E.cx Tryd.prog kl) lp0 (st0 x0 x1 x2 x3 x9 x10 h) K = body0 E K x0 x1 x2 x3 x9 x10 h := by kernel_rfl
theorem after0_se0_0_1_2_3_9_10_17 (E : Env) (x0 x1 x2 x3 x9 x10 x17 : PV) (h : PHeap) : K0 E (kTop Tryd.prog Tryd.f72) (.exit 0) (se0_0_1_2_3_9_10_17 x0 x1 x2 x3 x9 x10 x17 h) =
    (resV x9).bind fun v56 =>
    some (v56, h) := by kernel_rfl
noncomputable def main (E : Env) (x0 x1 x2 x3 : PV) (h : PHeap) : Res :=
    loopK (ev (E.cx Tryd.prog spec_l2Side.kl) spec_l2Side.lp0) E.lf (spec_l2Side.st0 x0 x1 x2 x3 (.int .i64 0) (.int .i64 0) h) (spec_l2Side.K0 E (kTop Tryd.prog Tryd.f72))
theorem main_eq (E : Env) (x0 x1 x2 x3 : PV) (h : PHeap) : runBody (E.cx Tryd.prog kl) Tryd.f72 [x0, x1, x2, x3] h = main E x0 x1 x2 x3 h := by kernel_rfl
theorem call_eq (g : Nat → PV) (lf n : Nat) (x0 x1 x2 x3 : PV) (h : PHeap) : CL g lf (n + 1) fn_spec_l2Side [x0, x1, x2, x3] h = main (env g lf n) x0 x1 x2 x3 h := by
  rw [← main_eq]
  show call Tryd.prog g KL lf (n + 1) 72 [x0, x1, x2, x3] h = _
  rw [call_succ, Tryd.func72]
  kernel_rfl
end spec_l2Side
namespace spec_l1Near
noncomputable def lp0 : Code := (codeAt (bodyOf Tryd.f73) [1, 1, 1, 1, 0, 1, 0, 0])
def st0 (x0 x1 x7 x8 x9 x10 : PV) (h : PHeap) : St := ⟨[x0, x1, .junk, .junk, .junk, .junk, .junk, x7, x8, x9, x10, .junk, .junk, .junk, .junk, .junk, .junk, .junk, .junk, .junk, .junk, .junk, .junk, .junk, .junk, .junk, .junk, .junk, .junk, .junk, .junk, .junk, .junk, .junk, .junk, .junk, .junk, .junk, .junk, .junk, .junk, .junk, .junk, .junk, .junk, .junk, .junk, .junk, .junk, .junk, .junk, .junk, .junk, .junk, .junk, .junk, .junk, .junk, .junk, .junk, .junk, .junk, .junk], h⟩
noncomputable def lp1 : Code := (codeAt (bodyOf Tryd.f73) [1, 1, 1, 1, 0, 1, 0, 0, 1, 0, 0, 1, 0, 0])
def st1 (x0 x1 x7 x8 x9 x10 x11 : PV) (h : PHeap) : St := ⟨[x0, x1, .junk, .junk, .junk, .junk, .junk, x7, x8, x9, x10, x11, .junk, .junk, .junk, .junk, .junk, .junk, .junk, .junk, .junk, .junk, .junk, .junk, .junk, .junk, .junk, .junk, .junk, .junk, .junk, .junk, .junk, .junk, .junk, .junk, .junk, .junk, .junk, .junk, .junk, .junk, .junk, .junk, .junk, .junk, .junk, .junk, .junk, .junk, .junk, .junk, .junk, .junk, .junk, .junk, .junk, .junk, .junk, .junk, .junk, .junk, .junk], h⟩
def se0_0_1_7_8_9_10_24 (x0 x1 x7 x8 x9 x10 x24 : PV) (h : PHeap) : St := ⟨[x0, x1, .junk, .junk, .junk, .junk, .junk, x7, x8, x9, x10, .junk, .junk, .junk, .junk, .junk, .junk, .junk, .junk, .junk, .junk, .junk, .junk, .junk, x24, .junk, .junk, .junk, .junk, .junk, .junk, .junk, .junk, .junk, .junk, .junk, .junk, .junk, .junk, .junk, .junk, .junk, .junk, .junk, .junk, .junk, .junk, .junk, .junk, .junk, .junk, .junk, .junk, .junk, .junk, .junk, .junk, .junk, .junk, .junk, .junk, .junk, .junk], h⟩
def se2_0_1_7_8_9_10_11_32 (x0 x1 x7 x8 x9 x10 x11 x32 : PV) (h : PHeap) : St := ⟨[x0, x1, .junk, .junk, .junk, .junk, .junk, x7, x8, x9, x10, x11, .junk, .junk, .junk, .junk, .junk, .junk, .junk, .junk, .junk, .junk, .junk, .junk, .junk, .junk, .junk, .junk, .junk, .junk, .junk, .junk, x32, .junk, .junk, .junk, .junk, .junk, .junk, .junk, .junk, .junk, .junk, .junk, .junk, .junk, .junk, .junk, .junk, .junk, .junk, .junk, .junk, .junk, .junk, .junk, .junk, .junk, .junk, .junk, .junk, .junk, .junk], h⟩
noncomputable def K0 (E : Env) (K : PX → St → Res) : PX → St → Res := (kBlock 0 (kSeq (ev (E.cx Tryd.prog kl) (codeAt (bodyOf Tryd.f73) [1, 1, 1, 1, 1])) K))
@[simp] theorem K0_ret (E : Env) (K : PX → St → Res) (s : St) : K0 E K .ret s = K .ret s := by kernel_rfl
noncomputable def K1 (E : Env) (K : PX → St → Res) : PX → St → Res := (kBlock 2 (kBlock 1 (kSeq (ev (E.cx Tryd.prog kl) (codeAt (bodyOf Tryd.f73) [1, 1, 1, 1, 0, 1, 0, 0, 1, 1])) K)))
@[simp] theorem K1_ret (E : Env) (K : PX → St → Res) (s : St) : K1 E K .ret s = K .ret s := by kernel_rfl
noncomputable def body0 (E : Env) (K : PX → St → Res) (x0 x1 x7 x8 x9 x10 : PV) (h : PHeap) : Res :=
    (E.p.bin .add 3 x8 (.int .i64 1)).bind fun v39 =>
    (E.p.bin .leq 3 x10 v39).bind fun v40 =>
    condP v40
     (
      (E.p.bin .sub 3 x9 (.int .i64 1)).bind fun v41 =>
      loopK (ev (E.cx Tryd.prog spec_l1Near.kl) spec_l1Near.lp1) E.lf (spec_l1Near.st1 x0 x1 x7 x8 x9 x10 v41 h) (spec_l1Near.K1 E K))
     (
      K (.exit 0) (se0_0_1_7_8_9_10_24 x0 x1 x7 x8 x9 x10 v40 h))
theorem body0_eq (E : Env) (K : PX → St → Res) (x0 x1 x7 x8 x9 x10 : PV) (h : PHeap) : ev (E.cx Tryd.prog kl) lp0 (st0 x0 x1 x7 x8 x9 x10 h) K = body0 E K x0 x1 x7 x8 x9 x10 h := by kernel_rfl
noncomputable def body1 (E : Env) (K : PX → St → Res) (x0 x1 x7 x8 x9 x10 x11 : PV) (h : PHeap) : Res :=
    (E.p.bin .add 3 x9 (.int .i64 1)).bind fun v42 =>
    (E.p.bin .leq 3 x11 v42).bind fun v43 =>
    condP v43
     (
      (E.p.bin .sub 3 x10 x8).bind fun v44 =>
      (E.p.bin .sub 3 x11 x9).bind fun v45 =>
      (E.p.bin .neq 3 v44 v45).bind fun v46 =>
      (wantV v46 true).bind fun v47 =>
      (bif v47 then some (x10, h) else some (.tup [], h)).bind fun v48 =>
      (wantV v46 true).bind fun v49 =>
      (bif v49 then some (x0, v48.2) else some (.tup [], v48.2)).bind fun v50 =>
      (wantV v46 true).bind fun v51 =>
      (bif v51 then pv v50.2 (E.p.bin .sub 3 v50.1 (.int .i64 1)) else some (.tup [], v50.2)).bind fun v52 =>
      (wantV v46 true).bind fun v53 =>
      (bif v53 then E.C fn_spec_l1In [v48.1, (.int .i64 0), v52.1] v52.2 else some (.tup [], v52.2)).bind fun v54 =>
      (E.p.pick v46 v54.1 (.bool false)).bind fun v55 =>
      (wantV v55 true).bind fun v56 =>
      (bif v56 then some (x11, v54.2) else some (.tup [], v54.2)).bind fun v57 =>
      (wantV v55 true).bind fun v58 =>
      (bif v58 then some (x1, v57.2) else some (.tup [], v57.2)).bind fun v59 =>
      (wantV v55 true).bind fun v60 =>
      (bif v60 then pv v59.2 (E.p.bin .sub 3 v59.1 (.int .i64 1)) else some (.tup [], v59.2)).bind fun v61 =>
      (wantV v55 true).bind fun v62 =>
      (bif v62 then E.C fn_spec_l1In [v57.1, (.int .i64 0), v61.1] v61.2 else some (.tup [], v61.2)).bind fun v63 =>
      (E.p.pick v55 v63.1 (.bool false)).bind fun v64 =>
      condP v64
       (
        (E.p.bin .mul 3 x10 x1).bind fun v65 =>
        (E.p.bin .add 3 v65 x11).bind fun v66 =>
        (E.p.buildSlice 33 1 [(0, v66)] v63.2).bind fun v67 =>
        (E.p.append 33 33 x7 v67.1 v67.2).bind fun v68 =>
        (E.p.bin .add 3 x11 (.int .i64 1)).bind fun v69 =>
        K .normal (st1 x0 x1 v68.1 x8 x9 x10 v69 v68.2))
       (
        (E.p.bin .add 3 x11 (.int .i64 1)).bind fun v70 =>
        K .normal (st1 x0 x1 x7 x8 x9 x10 v70 v63.2)))
     (
      K (.exit 2) (se2_0_1_7_8_9_10_11_32 x0 x1 x7 x8 x9 x10 x11 v43 h))
theorem body1_eq (E : Env) (K : PX → St → Res) (x0 x1 x7 x8 x9 x10 x11 : PV) (h : PHeap) : ev (E.cx Tryd.prog kl) lp1 (st1 x0 x1 x7 x8 x9 x10 x11 h) K = body1 E K x0 x1 x7 x8 x9 x10 x11 h := by kernel_rfl
theorem after0_se0_0_1_7_8_9_10_24 (E : Env) (x0 x1 x7 x8 x9 x10 x24 : PV) (h : PHeap) : K0 E (kTop Tryd.prog Tryd.f73) (.exit 0) (se0_0_1_7_8_9_10_24 x0 x1 x7 x8 x9 x10 x24 h) =
    (resV x7).bind fun v37 =>
    some (v37, h) := by kernel_rfl
theorem after1_se2_0_1_7_8_9_10_11_32 (E : Env) (K : PX → St → Res) (x0 x1 x7 x8 x9 x10 x11 x32 : PV) (h : PHeap) : K1 E K (.exit 2) (se2_0_1_7_8_9_10_11_32 x0 x1 x7 x8 x9 x10 x11 x32 h) =
    (E.p.bin .add 3 x10 (.int .i64 1)).bind fun v38 =>
    K .normal (st0 x0 x1 x7 x8 x9 v38 h) := by kernel_rfl
noncomputable def main (E : Env) (x0 x1 x2 : PV) (h : PHeap) : Res :=
    (E.p.buildSlice 33 0 [] h).bind fun v1 =>
    (E.p.bin .quo 3 x2 x1).bind fun v2 =>
    (E.p.bin .rem 3 x2 x1).bind fun v3 =>
    (E.p.bin .sub 3 v2 (.int .i64 1)).bind fun v4 =>
    loopK (ev (E.cx Tryd.prog spec_l1Near.kl) spec_l1Near.lp0) E.lf (spec_l1Near.st0 x0 x1 v1.1 v2 v3 v4 v1.2) (spec_l1Near.K0 E (kTop Tryd.prog Tryd.f73))
theorem main_eq (E : Env) (x0 x1 x2 : PV) (h : PHeap) : runBody (E.cx Tryd.prog kl) Tryd.f73 [x0, x1, x2] h = main E x0 x1 x2 h := by kernel_rfl
theorem call_eq (g : Nat → PV) (lf n : Nat) (x0 x1 x2 : PV) (h : PHeap) : CL g lf (n + 1) fn_spec_l1Near [x0, x1, x2] h = main (env g lf n) x0 x1 x2 h := by
  rw [← main_eq]
  show call Tryd.prog g KL lf (n + 1) 73 [x0, x1, x2] h = _
  rw [call_succ, Tryd.func73]
  kernel_rfl
end spec_l1Near
end Go.Proofs.YtpaehbfknlpkbaaDoor.G

/- Which boards there are: what the program's and the model's functions on a board's sides compute. -/
set_option maxRecDepth 20000
namespace Go.Proofs.YtpaehbfknlpkbaaDoor
open Go Go.Ip G

def boardB (r c : Int) : Bool := decide (1 ≤ r ∧ r ≤ 4 ∧ 1 ≤ c ∧ c ≤ 4 ∧ r * c ≤ 9)

theorem mul_small {r c : Int} (h1 : 1 ≤ r) (h2 : r ≤ 4) (h3 : 1 ≤ c) (h4 : c ≤ 4) : IntKind.i64.wrap (r * c) = r * c := by
  have : r = 1 ∨ r = 2 ∨ r = 3 ∨ r = 4 := by omega
  rcases this with rfl | rfl | rfl | rfl <;> exact wr (by omega)

variable (g : Nat → PV) (lf n : Nat) (h : PHeap)

theorem sizeOk_calls (a : Int) : CL g lf (n + 1) fn_impl_sizeOk [.int .i64 a] h = some (.bool (decide (1 ≤ a ∧ a ≤ 4)), h) := by
  rw [impl_sizeOk.call_eq]
  by_cases h1 : 1 ≤ a <;> simp [impl_sizeOk.main, h1]

theorem boardOk_calls (r c : Int) : CL g lf (n + 2) fn_impl_BoardOk [.int .i64 r, .int .i64 c] h = some (.bool (boardB r c), h) := by
  rw [impl_BoardOk.call_eq]
  by_cases h1 : 1 ≤ r ∧ r ≤ 4
  · by_cases h2 : 1 ≤ c ∧ c ≤ 4
    · simp [impl_BoardOk.main, sizeOk_calls, h1, h2, boardB, mul_small h1.1 h1.2 h2.1 h2.2]
    · have hb : boardB r c = false := by unfold boardB; simp; omega
      simp [impl_BoardOk.main, sizeOk_calls, h1, h2, hb]
  · have hb : boardB r c = false := by unfold boardB; simp; omega
    simp [impl_BoardOk.main, sizeOk_calls, h1, hb]

theorem l1In_calls (a lo hi : Int) : CL g lf (n + 1) fn_spec_l1In [.int .i64 a, .int .i64 lo, .int .i64 hi] h = some (.bool (decide (lo ≤ a ∧ a ≤ hi)), h) := by
  rw [spec_l1In.call_eq]
  by_cases h1 : lo ≤ a <;> simp [spec_l1In.main, h1]

theorem specBoardOk_calls (r c : Int) : CL g lf (n + 2) fn_spec_BoardOk [.int .i64 r, .int .i64 c] h = some (.bool (boardB r c), h) := by
  rw [spec_BoardOk.call_eq]
  by_cases h1 : 1 ≤ r ∧ r ≤ 4
  · by_cases h2 : 1 ≤ c ∧ c ≤ 4
    · simp [spec_BoardOk.main, l1In_calls, h1, h2, boardB, mul_small h1.1 h1.2 h2.1 h2.2]
    · have hb : boardB r c = false := by unfold boardB; simp; omega
      simp [spec_BoardOk.main, l1In_calls, h1, h2, hb]
  · have hb : boardB r c = false := by unfold boardB; simp; omega
    simp [spec_BoardOk.main, l1In_calls, h1, hb]

end Go.Proofs.YtpaehbfknlpkbaaDoor

/- What the laws' helpers on slices of integers, and both functions that check a position, compute. -/
set_option maxRecDepth 20000
namespace Go.Proofs.YtpaehbfknlpkbaaDoor
open Go Go.Ip G

variable (g : Nat → PV) (lf n : Nat)

/-! ### toIntS: a copy -/
/-! ### eqIntS: are two lists equal? -/
/-! ### positions -/
def contentB (x : Int) : Bool := decide (0 ≤ x ∧ x ≤ 2)
def posB (r c : Int) (xs : List Int) : Bool := boardB r c && decide ((xs.length : Int) = r * c) && xs.all contentB

theorem contentOk_calls (a : Int) (h : PHeap) : CL g lf (n + 1) fn_impl_contentOk [.int .i64 a] h = some (.bool (contentB a), h) := by
  rw [impl_contentOk.call_eq]
  by_cases h0 : a = 0
  · subst h0; simp [impl_contentOk.main, contentB]
  · by_cases h1 : a = 1
    · subst h1; simp [impl_contentOk.main, contentB]
    · by_cases h2 : a = 2
      · subst h2; simp [impl_contentOk.main, contentB]
      · have : contentB a = false := by unfold contentB; simp; omega
        have b0 : (a == 0) = false := by simp [h0]
        have b1 : (a == 1) = false := by simp [h1]
        have b2 : (a == 2) = false := by simp [h2]
        simp [impl_contentOk.main, b0, b1, b2, this]

theorem posOk_loop {xs : List Int} {p : PV} {h : PHeap} (hp : IntSl .i64 h p xs) (hl : xs.length ≤ 2 ^ 36) : ∀ (m i fuel : Nat), i + m = xs.length → m < fuel →
    loopK (ev ((env g lf (n + 1)).cx Tryd.prog impl_PositionOk.kl) impl_PositionOk.lp0) fuel (impl_PositionOk.st0 p (.int .i64 xs.length) (.int .i64 i) h) (impl_PositionOk.K0 (env g lf (n + 1)) (kTop Tryd.prog Tryd.f24)) = some (.bool ((xs.drop i).all contentB), h)
  | 0, i, fuel, him, hf => by
    obtain ⟨f, rfl⟩ : ∃ f, fuel = f + 1 := ⟨fuel - 1, by omega⟩
    rw [loopK_succ, impl_PositionOk.body0_eq]
    have hlt : ¬ ((i : Int) < (xs.length : Int)) := by omega
    simp [impl_PositionOk.body0, hlt, impl_PositionOk.after0_se0_21_22_23_24, List.drop_eq_nil_of_le (show xs.length ≤ i by omega)]
  | m + 1, i, fuel, him, hf => by
    obtain ⟨f, rfl⟩ : ∃ f, fuel = f + 1 := ⟨fuel - 1, by omega⟩
    have hi : i < xs.length := by omega
    obtain ⟨a, ha, hla⟩ := hp.at' hi
    have ih := posOk_loop hp hl m (i + 1) f (by omega) (by omega)
    have hlt : (i : Int) < (xs.length : Int) := by omega
    rw [loopK_succ, impl_PositionOk.body0_eq]
    have hdx : xs.drop i = xs[i] :: xs.drop (i + 1) := List.drop_eq_getElem_cons hi
    cases hc : contentB xs[i] with
    | true =>
      simp only [impl_PositionOk.body0, env_C, env_bin, env_indexAddr, env_load, env_un, contentOk_calls, bin_lss, hlt, decide_true, Option.bind_some, cond_bool, cond_true, ha, hla, hc, un_not, Bool.not_true, cond_false, bin_add, nx (show i < 2 ^ 40 by omega), kLoop_normal, ih]
      rw [hdx, List.all_cons, hc, Bool.true_and]
    | false =>
      simp only [impl_PositionOk.body0, env_C, env_bin, env_indexAddr, env_load, env_un, contentOk_calls, bin_lss, hlt, decide_true, Option.bind_some, cond_bool, cond_true, ha, hla, hc, un_not, Bool.not_false, kLoop_ret, impl_PositionOk.K0_ret, impl_PositionOk.top_sr_6, res_bool, Option.bind_some]
      rw [hdx, List.all_cons, hc, Bool.false_and]

theorem positionOk_calls {xs : List Int} {p : PV} {h : PHeap} (r c : Int) (hp : IntSl .i64 h p xs) (hl : xs.length ≤ 2 ^ 36) (hf : xs.length < lf) :
    CL g lf (n + 3) fn_impl_PositionOk [.int .i64 r, .int .i64 c, p] h = some (.bool (posB r c xs), h) := by
  rw [impl_PositionOk.call_eq]
  unfold posB
  cases hb : boardB r c with
  | false => simp [impl_PositionOk.main, boardOk_calls, hb]
  | true =>
    have hb' := hb
    unfold boardB at hb'
    have hm := of_decide_eq_true hb'
    have hmul := mul_small hm.1 hm.2.1 hm.2.2.1 hm.2.2.2.1
    by_cases hlen : (xs.length : Int) = r * c
    · have := posOk_loop g lf (n + 1) hp hl xs.length 0 lf (by omega) hf
      have hne : ((xs.length : Int) != r * c) = false := by simp [hlen]
      simp only [impl_PositionOk.main, env_C, env_len, env_bin, env_un, env_pick, env_lf, boardOk_calls, hb, Option.bind_some, un_not, Bool.not_true, want_bool, BEq.rfl, cond_true, hp.len', pv_some', bin_mul, hmul, bin_neq, hne, pick_bool, cond_false, cond_bool]
      simpa [hlen] using this
    · have hne : ((xs.length : Int) != r * c) = true := by simp [hlen]
      simp [impl_PositionOk.main, boardOk_calls, hb, hp.len', hmul, hne, hlen]

theorem specPos_loop {xs : List Int} {p : PV} {h : PHeap} (r c : Int) (hp : IntSl .i64 h p xs) (hl : xs.length ≤ 2 ^ 36) : ∀ (m i fuel : Nat), i + m = xs.length → m < fuel →
    loopK (ev ((env g lf (n + 2)).cx Tryd.prog spec_PositionOk.kl) spec_PositionOk.lp0) fuel (spec_PositionOk.st0 (.int .i64 r) (.int .i64 c) p (.int .i64 i) h) (spec_PositionOk.K0 (env g lf (n + 2)) (kTop Tryd.prog Tryd.f59)) =
      some (.bool ((xs.drop i).all contentB && (boardB r c && decide ((xs.length : Int) = r * c))), h)
  | 0, i, fuel, him, hf => by
    obtain ⟨f, rfl⟩ : ∃ f, fuel = f + 1 := ⟨fuel - 1, by omega⟩
    rw [loopK_succ, spec_PositionOk.body0_eq]
    have hlt : ¬ ((i : Int) < (xs.length : Int)) := by omega
    have hd : xs.drop i = [] := List.drop_eq_nil_of_le (show xs.length ≤ i by omega)
    cases hb : boardB r c with
    | false => simp [spec_PositionOk.body0, hp.len', hlt, spec_PositionOk.after0_se0_0_1_2_7_11, specBoardOk_calls, hb, hd]
    | true =>
      have hb' := hb
      unfold boardB at hb'
      have hm := of_decide_eq_true hb'
      have hmul := mul_small hm.1 hm.2.1 hm.2.2.1 hm.2.2.2.1
      simp [spec_PositionOk.body0, hp.len', hlt, spec_PositionOk.after0_se0_0_1_2_7_11, specBoardOk_calls, hb, hd, hmul]
      rfl
  | m + 1, i, fuel, him, hf => by
    obtain ⟨f, rfl⟩ : ∃ f, fuel = f + 1 := ⟨fuel - 1, by omega⟩
    have hi : i < xs.length := by omega
    obtain ⟨a, ha, hla⟩ := hp.at' hi
    have ih := specPos_loop r c hp hl m (i + 1) f (by omega) (by omega)
    have hlt : (i : Int) < (xs.length : Int) := by omega
    rw [loopK_succ, spec_PositionOk.body0_eq]
    have hdx : xs.drop i = xs[i] :: xs.drop (i + 1) := List.drop_eq_getElem_cons hi
    have hcb : contentB xs[i] = decide (0 ≤ xs[i] ∧ xs[i] ≤ 2) := rfl
    cases hc : contentB xs[i] with
    | true =>
      rw [hcb] at hc
      simp only [spec_PositionOk.body0, env_C, env_len, env_bin, env_indexAddr, env_load, env_un, l1In_calls, hp.len', bin_lss, hlt, decide_true, Option.bind_some, cond_bool, cond_true, ha, hla, hc, un_not, Bool.not_true, cond_false, bin_add, nx (show i < 2 ^ 40 by omega), kLoop_normal, ih]
      rw [hdx, List.all_cons, hcb, hc, Bool.true_and]
    | false =>
      rw [hcb] at hc
      simp only [spec_PositionOk.body0, env_C, env_len, env_bin, env_indexAddr, env_load, env_un, l1In_calls, hp.len', bin_lss, hlt, decide_true, Option.bind_some, cond_bool, cond_true, ha, hla, hc, un_not, Bool.not_false, kLoop_ret, spec_PositionOk.K0_ret, spec_PositionOk.top_sr_6, res_bool, Option.bind_some]
      rw [hdx, List.all_cons, hcb, hc, Bool.false_and, Bool.false_and]

theorem specPositionOk_calls {xs : List Int} {p : PV} {h : PHeap} (r c : Int) (hp : IntSl .i64 h p xs) (hl : xs.length ≤ 2 ^ 36) (hf : xs.length < lf) :
    CL g lf (n + 3) fn_spec_PositionOk [.int .i64 r, .int .i64 c, p] h = some (.bool (posB r c xs), h) := by
  rw [spec_PositionOk.call_eq]
  have := specPos_loop g lf n r c hp hl xs.length 0 lf (by omega) hf
  simp only [spec_PositionOk.main, env_lf]
  rw [show ((0 : Nat) : Int) = 0 from rfl] at this
  rw [this]
  unfold posB
  rw [List.drop_zero, Bool.and_comm]

end Go.Proofs.YtpaehbfknlpkbaaDoor

/- The exact law on positions. -/
set_option maxRecDepth 20000
namespace Go.Proofs.YtpaehbfknlpkbaaDoor
open Go Go.Ip G

variable (g : Nat → PV) (lf n : Nat)

end Go.Proofs.YtpaehbfknlpkbaaDoor

/- The marks that the exact laws lay and look for, and the lists that both programs make of a position. -/
set_option maxRecDepth 20000
namespace Go.Proofs.YtpaehbfknlpkbaaDoor
open Go Go.Ip G

/-- A slice of the call's own, among the objects from n up to m. -/
def OwnB (n m : Nat) (h : PHeap) (p : PV) (xs : List Int) : Prop :=
  (p = .nilsl ∧ xs = []) ∨ ∃ id, n ≤ id ∧ id < m ∧ p = .sl id 0 xs.length ∧ h[id]? = some (.own 1 (xs.map (.int .i64)))

theorem OwnSl.b {n : Nat} {h : PHeap} {p : PV} {xs : List Int} (s : OwnSl n h p xs) : OwnB n h.length h p xs := by
  rcases s with s | ⟨id, h1, h2, h3⟩
  · exact .inl s
  · exact .inr ⟨id, h1, (List.getElem?_eq_some_iff.1 h3).1, h2, h3⟩

theorem OwnB.sl {n m : Nat} {h : PHeap} {p : PV} {xs : List Int} (s : OwnB n m h p xs) : OwnSl n h p xs := by
  rcases s with s | ⟨id, h1, _, h2, h3⟩
  · exact .inl s
  · exact .inr ⟨id, h1, h2, h3⟩

theorem OwnB.int {n m : Nat} {h : PHeap} {p : PV} {xs : List Int} (s : OwnB n m h p xs) : IntSl .i64 h p xs := s.sl.int

/-- Only the objects from n up to m may have been written to. -/
def Only (n m : Nat) (h h' : PHeap) : Prop := h'.length = h.length ∧ ∀ i, (i < n ∨ m ≤ i) → h'[i]? = h[i]?

theorem Only.refl (n m : Nat) (h : PHeap) : Only n m h h := ⟨rfl, fun _ _ => rfl⟩
theorem Only.trans {n m : Nat} {a b c : PHeap} (h : Only n m a b) (k : Only n m b c) : Only n m a c := ⟨k.1.trans h.1, fun i hi => (k.2 i hi).trans (h.2 i hi)⟩
theorem Only.keep {n m : Nat} {a b : PHeap} (h : Only n m a b) : Keep n a b := ⟨by rw [h.1]; exact Nat.le_refl _, fun i hi => h.2 i (.inl hi)⟩

theorem OwnB.keep {n m : Nat} {h h' : PHeap} {p : PV} {xs : List Int} (s : OwnB n m h p xs) (k : Keep m h h') : OwnB n m h' p xs := by
  rcases s with s | ⟨id, h1, h2, h3, h4⟩
  · exact .inl s
  · exact .inr ⟨id, h1, h2, h3, by rw [k.2 id h2]; exact h4⟩

theorem OwnB.only {n m n' m' : Nat} {h h' : PHeap} {p : PV} {xs : List Int} (s : OwnB n m h p xs) (k : Only n' m' h h') (hd : m ≤ n' ∨ m' ≤ n) : OwnB n m h' p xs := by
  rcases s with s | ⟨id, h1, h2, h3, h4⟩
  · exact .inl s
  · exact .inr ⟨id, h1, h2, h3, by rw [k.2 id (by omega)]; exact h4⟩

theorem OwnB.store {n m : Nat} {h : PHeap} {p : PV} {xs : List Int} (s : OwnB n m h p xs) {i : Nat} (hi : i < xs.length) (x : Int) :
    ∃ a h', indexAddrP Tryd.prog 33 p (.int .i64 i) = some a ∧ storeP Tryd.prog 3 a (.int .i64 x) h = some h' ∧ OwnB n m h' p (xs.set i x) ∧ Only n m h h' := by
  rcases s with ⟨rfl, rfl⟩ | ⟨id, h1, h2, rfl, h3⟩
  · simp at hi
  · have hid : id < h.length := (List.getElem?_eq_some_iff.1 h3).1
    refine ⟨.ptr id (0 + i), h.set id (.own 1 ((xs.set i x).map (.int .i64))), by simp [indexAddrP, tySize, hi], ?_, .inr ⟨id, h1, h2, by simp, by rw [List.getElem?_set_self hid]⟩, ⟨by simp, fun j hj => List.getElem?_set_ne (by omega)⟩⟩
    simp only [storeP, h3, PV.cells, tySize, Nat.zero_add]
    rw [if_pos ⟨rfl, by simp; omega⟩]
    simp [setCells, List.map_set]

/-- k, k + 1, k + 2 .. -/
def marks (k : Int) : Nat → List Int
  | 0 => []
  | n + 1 => k :: marks (k + 1) n

variable (g : Nat → PV) (lf n : Nat)

end Go.Proofs.YtpaehbfknlpkbaaDoor

/- The cells of one kind, and a position turned by half a turn: both programs, and their exact laws. -/
set_option maxRecDepth 20000
namespace Go.Proofs.YtpaehbfknlpkbaaDoor
open Go Go.Ip G

variable (g : Nat → PV) (lf n : Nat)

theorem OwnSl.res {n : Nat} {h : PHeap} {p : PV} {xs : List Int} (s : OwnSl n h p xs) : resV p = some p := by
  rcases s with ⟨rfl, _⟩ | ⟨id, _, rfl, _⟩ <;> rfl

/-- The places, from i on, at which a list has x. -/
def cellsFrom (x : Int) : Nat → List Int → List Int
  | _, [] => []
  | i, y :: ys => if y = x then (i : Int) :: cellsFrom x (i + 1) ys else cellsFrom x (i + 1) ys

theorem cellsFrom_none (x : Int) (hx : contentB x = false) : ∀ (ys : List Int) (i : Nat), ys.all contentB = true → cellsFrom x i ys = []
  | [], _, _ => rfl
  | y :: ys, i, h => by
    simp only [List.all_cons, Bool.and_eq_true] at h
    have hne : ¬ y = x := fun e => by rw [e, hx] at h; cases h.1
    rw [cellsFrom, if_neg hne]
    exact cellsFrom_none x hx ys (i + 1) h.2

theorem cellsOf_loop {xs : List Int} {p : PV} (x : Int) (hl : xs.length ≤ 2 ^ 35) : ∀ (m i fuel : Nat) (q : PV) (ys : List Int) (h : PHeap) (b : Nat), i + m = xs.length → m < fuel → ys.length ≤ i →
    OwnSl b h q ys → b ≤ h.length → (∀ h', Keep b h h' → IntSl .i64 h' p xs) →
    ∃ q' h', loopK (ev ((env g lf n).cx Tryd.prog impl_CellsOf.kl) impl_CellsOf.lp0) fuel (impl_CellsOf.st0 (.int .i64 x) q p (.int .i64 xs.length) (.int .i64 i) h) (impl_CellsOf.K0 (env g lf n) (kTop Tryd.prog Tryd.f23)) = some (q', h') ∧
      OwnSl b h' q' (ys ++ cellsFrom x i (xs.drop i)) ∧ Keep b h h'
  | 0, i, fuel, q, ys, h, b, him, hf, hy, ho, hb, hp => by
    obtain ⟨f, rfl⟩ : ∃ f, fuel = f + 1 := ⟨fuel - 1, by omega⟩
    refine ⟨q, h, ?_, ?_, Keep.refl _ _⟩
    · rw [loopK_succ, impl_CellsOf.body0_eq]
      have hlt : ¬ ((i : Int) < (xs.length : Int)) := by omega
      simp [impl_CellsOf.body0, hlt, impl_CellsOf.after0_se0_3_9_22_23_24_25, ho.res]
    · rw [List.drop_eq_nil_of_le (by omega), cellsFrom, List.append_nil]; exact ho
  | m + 1, i, fuel, q, ys, h, b, him, hf, hy, ho, hb, hp => by
    obtain ⟨f, rfl⟩ : ∃ f, fuel = f + 1 := ⟨fuel - 1, by omega⟩
    have hi : i < xs.length := by omega
    obtain ⟨a, ha, hla⟩ := (hp h (Keep.refl _ _)).at' hi
    have hlt : (i : Int) < (xs.length : Int) := by omega
    have hdx : xs.drop i = xs[i] :: xs.drop (i + 1) := List.drop_eq_getElem_cons hi
    by_cases he : xs[i] = x
    · have heq : (xs[i] == x) = true := by simp [he]
      obtain ⟨v, q2, h2, hb2, ha2, ho2, hk2⟩ := ho.append hb (i : Int) (by omega)
      obtain ⟨q', h', hr, ho', hk'⟩ := cellsOf_loop x hl m (i + 1) f q2 (ys ++ [(i : Int)]) h2 b (by omega) (by omega) (by simp; omega) ho2 (by have := hk2.1; omega) (fun h3 hk3 => hp h3 (hk2.trans hk3))
      refine ⟨q', h', ?_, ?_, hk2.trans hk'⟩
      · rw [loopK_succ, impl_CellsOf.body0_eq]
        simp only [impl_CellsOf.body0, env_bin, env_indexAddr, env_load, env_buildSlice, env_append, bin_lss, hlt, decide_true, Option.bind_some, cond_bool, cond_true, ha, hla, bin_eql, heq, hb2, ha2, bin_add, nx (show i < 2 ^ 40 by omega), kLoop_normal]
        exact hr
      · rw [hdx, cellsFrom, if_pos he, List.append_cons]; exact ho'
    · have heq : (xs[i] == x) = false := by simp [he]
      obtain ⟨q', h', hr, ho', hk'⟩ := cellsOf_loop x hl m (i + 1) f q ys h b (by omega) (by omega) (by omega) ho hb hp
      refine ⟨q', h', ?_, ?_, hk'⟩
      · rw [loopK_succ, impl_CellsOf.body0_eq]
        simp only [impl_CellsOf.body0, env_bin, env_indexAddr, env_load, bin_lss, hlt, decide_true, Option.bind_some, cond_bool, cond_true, cond_false, ha, hla, bin_eql, heq, bin_add, nx (show i < 2 ^ 40 by omega), kLoop_normal]
        exact hr
      · rw [hdx, cellsFrom, if_neg he]; exact ho'

def cellsL (r c : Int) (xs : List Int) (x : Int) : List Int := if posB r c xs = true then cellsFrom x 0 xs else []

theorem cellsOf_calls {xs : List Int} {p : PV} {h : PHeap} (N : Nat) (hN : 4 ≤ N) (r c x : Int) (hp : IntSl .i64 h p xs) (hl : xs.length ≤ 2 ^ 35) (hf : xs.length < lf) :
    ∃ q h', CL g lf N fn_impl_CellsOf [.int .i64 r, .int .i64 c, p, .int .i64 x] h = some (q, h') ∧ OwnSl h.length h' q (cellsL r c xs x) ∧ Keep h.length h h' := by
  obtain ⟨n, rfl⟩ : ∃ n, N = n + 4 := ⟨N - 4, by omega⟩
  rw [impl_CellsOf.call_eq]
  have hpos := positionOk_calls g lf n r c hp (by omega) hf
  unfold cellsL
  cases hb : posB r c xs with
  | false => exact ⟨.nilsl, h, by simp [impl_CellsOf.main, hpos, hb], OwnSl.nil _ _, Keep.refl _ _⟩
  | true =>
    cases hx : contentB x with
    | false =>
      have hall : xs.all contentB = true := by unfold posB at hb; simp only [Bool.and_eq_true] at hb; exact hb.2
      refine ⟨.nilsl, h, by simp [impl_CellsOf.main, hpos, hb, contentOk_calls, hx], ?_, Keep.refl _ _⟩
      rw [if_pos rfl, cellsFrom_none x hx xs 0 hall]
      exact OwnSl.nil _ _
    | true =>
      obtain ⟨q', h', hr, ho', hk'⟩ := cellsOf_loop g lf (n + 3) x hl xs.length 0 lf .nilsl [] h h.length (by omega) hf (by simp) (OwnSl.nil _ _) (Nat.le_refl _) (fun h' hk => hp.keep hk)
      refine ⟨q', h', ?_, ?_, hk'⟩
      · simp only [impl_CellsOf.main, env_C, env_un, env_pick, env_len, env_lf, hpos, hb, Option.bind_some, un_not, Bool.not_true, want_bool, BEq.rfl, cond_true, contentOk_calls, hx, pv_some', pick_bool, cond_false, cond_bool, hp.len']
        exact hr
      · rw [if_pos rfl]; simpa using ho'

end Go.Proofs.YtpaehbfknlpkbaaDoor

/- A position turned by half a turn: both programs, and the exact law. -/
set_option maxRecDepth 20000
namespace Go.Proofs.YtpaehbfknlpkbaaDoor
open Go Go.Ip G

variable (g : Nat → PV) (lf n : Nat)

end Go.Proofs.YtpaehbfknlpkbaaDoor

/- The reader from which the model draws: what a pick may come to. -/
set_option maxRecDepth 20000
namespace Go.Proofs.YtpaehbfknlpkbaaDoor
open Go Go.Ip Go.RowKit G

/-- A slice of bytes that came in, as the interpreter's heap holds it: the first object. -/
def Arg (h : PHeap) (p : PV) (xs : List Int) : Prop :=
  (∀ h', Keep 1 h h' → IntSl .u8 h' p xs) ∧ 1 ≤ h.length ∧ (∀ id off len, p = .sl id off len → 0 < len → id = 0 ∧ eszAt h id = 1) ∧ ∀ b ∈ xs, 0 ≤ b ∧ b ≤ 255

theorem arg_of {w : World} {a : Option Addr} {len cap : Nat} {zs : List Int}
    (h : (a = none ∧ len = 0 ∧ cap = 0 ∧ zs = []) ∨ ∃ x, a = some x ∧ len ≤ cap ∧ cap ≤ maxLen ∧ zs.length = cap ∧ (∀ i, i < zs.length → w.cell? (x.add i) = some (.int .u8 (zs.getD i 0))) ∧ ∀ n ∈ zs, (Lit.int .u8 n).wf = true) :
    ∃ μ o p, Sim w.heap.size w μ [o] w ∧ rep μ p (.slice a len cap) ∧ Arg [o] p (zs.take len) := by
  obtain ⟨μ, o, p, sim, hr, hs, hlen, hmax, hwf, hobj⟩ := row_arg h
  have hb : ∀ b ∈ zs.take len, 0 ≤ b ∧ b ≤ 255 := by
    intro b hb
    have := hwf b hb
    simp only [Lit.wf, IntKind.has, IntKind.min, IntKind.max, IntKind.signed, IntKind.bits] at this
    simp at this
    omega
  by_cases h0 : len = 0
  · refine ⟨μ, o, p, sim, hr, ?_, Nat.le_refl _, ?_, hb⟩
    · intro h' _
      rcases hs with hs | ⟨id, off, hp, hc⟩
      · exact .inl hs
      · exact .inr ⟨id, off, hp, fun i x hx => by simp [h0] at hx⟩
    · intro id off l hp hl
      subst hp
      obtain ⟨_, _, _, _, e, _⟩ := rep_sl hr
      cases e
      omega
  · rcases hs with ⟨_, hs⟩ | ⟨id, off, hp, hc⟩
    · rw [hs] at hlen; simp at hlen; omega
    · have hlt : 0 < (zs.take len).length := by omega
      have hid : id = 0 := by
        have := lt_of_cell (hc 0 _ (List.getElem?_eq_getElem hlt))
        simp at this
        exact this
      subst hid
      refine ⟨μ, o, p, sim, hr, ?_, Nat.le_refl _, ?_, hb⟩
      · intro h' hk
        exact .inr ⟨0, off, hp, fun i x hx => by rw [cellsAt_keep hk (by omega)]; exact hc i x hx⟩
      · intro id' off' l hp' hl
        rw [hp] at hp'
        cases hp'
        refine ⟨rfl, ?_⟩
        rcases hobj with rfl | ⟨c, rfl⟩
        · have := hc 0 _ (List.getElem?_eq_getElem hlt)
          simp [cellsAt, PObj.get] at this
        · rfl

theorem fa0 (id off : Nat) : fieldAddrP Tryd.prog 60 (.ptr id off) 0 = some (.ptr id (off + 0)) := by kernel_rfl
theorem fa1 (id off : Nat) : fieldAddrP Tryd.prog 60 (.ptr id off) 1 = some (.ptr id (off + 1)) := by kernel_rfl
theorem tyB : Tryd.prog.underlying 22 = some (.slice 5) := by kernel_rfl
theorem tyBSize : sizeT Tryd.prog 5 = some 1 := by kernel_rfl
theorem tyBAgg : isAggT Tryd.prog 5 = some false := by kernel_rfl
theorem tyBsAgg : isAggT Tryd.prog 22 = some false := by kernel_rfl
theorem tyBElem : elemT Tryd.prog 22 = some 5 := by kernel_rfl
theorem conv_byte (k : IntKind) (x : Int) : convP Tryd.prog 5 3 (.int k x) = some (.int .i64 (IntKind.i64.wrap x)) := by kernel_rfl
theorem build_sl (a b c : Nat) : buildP Tryd.prog 60 [(0, .sl a b c)] = some (.agg [.sl a b c, .int .i64 0]) := by kernel_rfl
theorem build_nil : buildP Tryd.prog 60 [(0, .nilsl)] = some (.agg [.nilsl, .int .i64 0]) := by kernel_rfl

/-- The reader: object id, over a code of at most 2000 bytes, at most m picks behind. -/
def Rd (h : PHeap) (id m : Nat) : Prop :=
  ∃ bp bs pos, h[id]? = some (.own 1 [bp, .int .i64 pos]) ∧ (∀ h', Keep id h h' → IntSl .u8 h' bp bs) ∧ (∀ b ∈ bs, (0 : Int) ≤ b ∧ b ≤ 255) ∧ bs.length ≤ 2000 ∧ 0 ≤ pos ∧ pos ≤ (m : Int)

theorem Rd.keep {h h' : PHeap} {id m n : Nat} (r : Rd h id m) (hk : Keep n h h') (hn : id < n) : Rd h' id m := by
  obtain ⟨bp, bs, pos, h1, h2, rest⟩ := r
  exact ⟨bp, bs, pos, by rw [hk.2 id hn]; exact h1, fun h3 hk3 => h2 h3 ((hk.mono (by omega)).trans hk3), rest⟩

theorem Rd.lt {h : PHeap} {id m : Nat} (r : Rd h id m) : id < h.length := by
  obtain ⟨bp, bs, pos, h1, _⟩ := r
  exact (List.getElem?_eq_some_iff.1 h1).1

theorem xor_small {a b : Int} (ha : 0 ≤ a) (ha' : a < 4611686018427387904) (hb : 0 ≤ b) (hb' : b < 4611686018427387904) :
    0 ≤ IntKind.i64.wrap ((BitVec.ofInt IntKind.i64.bits a ^^^ BitVec.ofInt IntKind.i64.bits b).toNat : Int) := by
  obtain ⟨x, rfl⟩ := Int.eq_ofNat_of_zero_le ha
  obtain ⟨y, rfl⟩ := Int.eq_ofNat_of_zero_le hb
  have hx : x < 2 ^ 62 := by omega
  have hy : y < 2 ^ 62 := by omega
  have hz : x ^^^ y < 2 ^ 62 := Nat.xor_lt_two_pow hx hy
  have e : (BitVec.ofInt IntKind.i64.bits (x : Int) ^^^ BitVec.ofInt IntKind.i64.bits (y : Int)).toNat = x ^^^ y := by
    have hbits : IntKind.i64.bits = 64 := rfl
    rw [BitVec.toNat_xor, BitVec.toNat_ofInt, BitVec.toNat_ofInt, hbits]
    congr 1 <;> omega
  rw [e, wr (by omega)]
  omega

variable (g : Nat → PV) (lf n : Nat)

theorem open_calls {p : PV} {xs : List Int} {h : PHeap} (N : Nat) (hN : 1 ≤ N) (ha : Arg h p xs) :
    ∃ h', CL g lf N fn_spec_l20Open [p] h = some (.ptr h.length 0, h') ∧ Rd h' h.length 0 ∧ Keep h.length h h' := by
  obtain ⟨n, rfl⟩ : ∃ n, N = n + 1 := ⟨N - 1, by omega⟩
  rw [spec_l20Open.call_eq]
  obtain ⟨hs, hlen, hesz, hb⟩ := ha
  have hs0 := hs h (Keep.refl _ _)
  have hlenp : lenP Tryd.prog 22 p = some (.int .i64 xs.length) := hs0.len tyB
  by_cases hbig : (2000 : Int) < (xs.length : Int)
  · rcases hs0 with ⟨_, rfl⟩ | ⟨id, off, rfl, hc⟩
    · simp at hbig
    · obtain ⟨rfl, he⟩ := hesz id off xs.length rfl (by omega)
      have hsl : sliceP Tryd.prog 22 (.sl 0 off xs.length) none (some (.int .i64 2000)) h = some (.sl 0 off 2000) := by
        have : (2000 : Int) ≤ (xs.length : Int) := by omega
        simp [sliceP, tyBElem, tyBSize, he, boundP, this]
      refine ⟨h ++ [.own 1 [.sl 0 off 2000, .int .i64 0]], ?_, ?_, Keep.append _ _ _ (Nat.le_refl _)⟩
      · simp [spec_l20Open.main, hlenp, hbig, hsl, build_sl, boxP, PV.cells, PV.oneCell]
      · refine ⟨.sl 0 off 2000, xs.take 2000, 0, by simp, fun h' hk => ?_, fun b hb' => hb b (List.mem_of_mem_take hb'), by simp; omega, by omega, by omega⟩
        have hk' : Keep 1 h h' := ((Keep.append h.length h _ (Nat.le_refl _)).mono hlen).trans (hk.mono hlen)
        rcases hs h' hk' with ⟨hx, _⟩ | ⟨id', off', hx, hc'⟩
        · cases hx
        · cases hx
          refine .inr ⟨0, off, by simp; omega, fun i x hi => ?_⟩
          rw [List.getElem?_take] at hi
          split at hi
          · exact hc' i x hi
          · cases hi
  · refine ⟨h ++ [.own 1 [p, .int .i64 0]], ?_, ?_, Keep.append _ _ _ (Nat.le_refl _)⟩
    · rcases hs0 with ⟨rfl, rfl⟩ | ⟨id, off, rfl, hc⟩
      · simp [spec_l20Open.main, hlenp, build_nil, boxP, PV.cells, PV.oneCell]
      · simp [spec_l20Open.main, hlenp, hbig, build_sl, boxP, PV.cells, PV.oneCell]
    · exact ⟨p, xs, 0, by simp, fun h' hk => hs h' (((Keep.append h.length h _ (Nat.le_refl _)).mono hlen).trans (hk.mono hlen)), hb, by omega, by omega, by omega⟩

end Go.Proofs.YtpaehbfknlpkbaaDoor

/- What a pick and a chance come to. -/
set_option maxRecDepth 20000
namespace Go.Proofs.YtpaehbfknlpkbaaDoor
open Go Go.Ip Go.RowKit G

variable (g : Nat → PV) (lf n : Nat)

theorem tmod_range {x k : Int} (hx : 0 ≤ x) (hk : 1 ≤ k) : 0 ≤ x.tmod k ∧ x.tmod k < k := by
  rw [Int.tmod_eq_emod_of_nonneg hx]
  exact ⟨Int.emod_nonneg _ (by omega), Int.emod_lt_of_pos _ (by omega)⟩

theorem tdiv_range {x k : Int} (hx : 0 ≤ x) (hk : 1 ≤ k) : 0 ≤ x.tdiv k ∧ x.tdiv k ≤ x := by
  rw [Int.tdiv_eq_ediv_of_nonneg hx]
  exact ⟨Int.ediv_nonneg hx (by omega), Int.ediv_le_self _ hx⟩

theorem bd {α β : Type} {x : Option α} {v : α} {f : α → Option β} {r : Option β} (hx : x = some v) (hf : f v = r) : x.bind f = r := by rw [hx]; exact hf
theorem cdT {x y r : Res} (h : x = r) : condP (.bool true) x y = r := h
theorem cdF {x y r : Res} (h : y = r) : condP (.bool false) x y = r := h
/-- A pick of n: some number from 0 on, below n; the reader has gone on by one. -/
theorem pick_calls {h : PHeap} {id m : Nat} (N : Nat) (hN : 1 ≤ N) (k : Int) (hr : Rd h id m) (hm : m ≤ 1000000) (hk : k ≤ 1000000) :
    ∃ (v : Int) (h' : PHeap), CL g lf N fn_spec_l20Rd_pick [.ptr id 0, .int .i64 k] h = some (.int .i64 v, h') ∧ Rd h' id (m + 1) ∧ Only id (id + 1) h h' ∧ 0 ≤ v ∧ (1 ≤ k → v < k) ∧ (k < 1 → v = 0) := by
  obtain ⟨n, rfl⟩ : ∃ n, N = n + 1 := ⟨N - 1, by omega⟩
  rw [spec_l20Rd_pick.call_eq]
  obtain ⟨bp, bs, pos, ho, hs, hb, hl, hp0, hpm⟩ := hr
  have hid : id < h.length := (List.getElem?_eq_some_iff.1 ho).1
  have w1 : IntKind.i64.wrap (pos + 1) = pos + 1 := wr (by omega)
  have hld : loadP Tryd.prog 3 (.ptr id (0 + 1)) h = some (.int .i64 pos) := by simp [loadP, tyAgg, cellsAt, ho, PObj.get]
  obtain ⟨h7, hh7⟩ : ∃ h7, h7 = h.set id (.own 1 [bp, .int .i64 (pos + 1)]) := ⟨_, rfl⟩
  have hst : storeP Tryd.prog 3 (.ptr id (0 + 1)) (.int .i64 (pos + 1)) h = some h7 := by
    rw [hh7]
    simp [storeP, ho, PV.cells, tySize, setCells]
  have ho7 : h7[id]? = some (.own 1 [bp, .int .i64 (pos + 1)]) := by rw [hh7, List.getElem?_set_self hid]
  have hk7 : Keep id h h7 := by rw [hh7]; exact Keep.set _ _ _ _ (Nat.le_refl _)
  have hon : Only id (id + 1) h h7 := by rw [hh7]; exact ⟨by simp, fun j hj => List.getElem?_set_ne (by omega)⟩
  have hrd : Rd h7 id (m + 1) := ⟨bp, bs, pos + 1, ho7, fun h' hk' => hs h' (hk7.trans hk'), hb, hl, by omega, by push_cast; omega⟩
  have hl1 : loadP Tryd.prog 3 (.ptr id (0 + 1)) h7 = some (.int .i64 (pos + 1)) := by simp [loadP, tyAgg, cellsAt, ho7, PObj.get]
  have hl0 : loadP Tryd.prog 22 (.ptr id (0 + 0)) h7 = some bp := by simp [loadP, tyBsAgg, cellsAt, ho7, PObj.get]
  have hs7 := hs h7 hk7
  have hlen : lenP Tryd.prog 22 bp = some (.int .i64 bs.length) := hs7.len tyB
  have w2 : IntKind.i64.wrap (pos + 1 - 1) = pos := by rw [show pos + 1 - 1 = pos by omega]; exact wr (by omega)
  by_cases hk1 : k < 1
  · refine ⟨0, h7, ?_, hrd, hon, by omega, by omega, fun _ => rfl⟩
    have f_add : binP Tryd.prog .add 3 (.int .i64 pos) (.int .i64 1) = some (.int .i64 (pos + 1)) := by rw [bin_add, w1]
    have f_lss : binP Tryd.prog .lss 3 (.int .i64 k) (.int .i64 1) = some (.bool true) := by rw [bin_lss, decide_eq_true hk1]
    unfold spec_l20Rd_pick.main
    refine bd ptr_ptr (bd (fa1 _ _) (bd hld (bd f_add (bd ptr_ptr (bd (fa1 _ _) (bd hst (bd f_lss ?_)))))))
    refine bd (want_bool (x := true) (y := false)) (bd (v := (PV.tup [], h7)) rfl ?_)
    refine bd (want_bool (x := true) (y := false)) (bd (v := (PV.tup [], h7)) rfl ?_)
    refine bd (want_bool (x := true) (y := false)) (bd (v := (PV.tup [], h7)) rfl ?_)
    refine bd (want_bool (x := true) (y := false)) (bd (v := (PV.tup [], h7)) rfl ?_)
    refine bd (want_bool (x := true) (y := false)) (bd (v := (PV.tup [], h7)) rfl ?_)
    refine bd (want_bool (x := true) (y := false)) (bd (v := (PV.tup [], h7)) rfl ?_)
    refine bd (v := PV.bool true) rfl (cdT ?_)
    exact bd res_int rfl
  · have hk1' : 1 ≤ k := by omega
    by_cases hb0 : bs.length = 0
    · refine ⟨0, h7, ?_, hrd, hon, by omega, by omega, by omega⟩
      have f_add : binP Tryd.prog .add 3 (.int .i64 pos) (.int .i64 1) = some (.int .i64 (pos + 1)) := by rw [bin_add, w1]
      have f_lss : binP Tryd.prog .lss 3 (.int .i64 k) (.int .i64 1) = some (.bool false) := by rw [bin_lss, decide_eq_false hk1]
      have f_eql : binP Tryd.prog .eql 3 (.int .i64 (bs.length : Int)) (.int .i64 0) = some (.bool true) := by rw [bin_eql, hb0]; rfl
      unfold spec_l20Rd_pick.main
      refine bd ptr_ptr (bd (fa1 _ _) (bd hld (bd f_add (bd ptr_ptr (bd (fa1 _ _) (bd hst (bd f_lss ?_)))))))
      refine bd (want_bool (x := false) (y := false)) (bd (v := (PV.ptr id 0, h7)) rfl ?_)
      refine bd (want_bool (x := false) (y := false)) (bd (v := (PV.ptr id 0, h7)) rfl ?_)
      refine bd (want_bool (x := false) (y := false)) (bd (v := (PV.ptr id (0 + 0), h7)) (congrArg (pv h7) (fa0 id 0)) ?_)
      refine bd (want_bool (x := false) (y := false)) (bd (v := (bp, h7)) (congrArg (pv h7) hl0) ?_)
      refine bd (want_bool (x := false) (y := false)) (bd (v := (PV.int .i64 (bs.length : Int), h7)) (congrArg (pv h7) hlen) ?_)
      refine bd (want_bool (x := false) (y := false)) (bd (v := (PV.bool true, h7)) (congrArg (pv h7) f_eql) ?_)
      refine bd (v := PV.bool true) rfl (cdT ?_)
      exact bd res_int rfl
    · have hb1 : 1 ≤ (bs.length : Int) := by omega
      have hne : ((bs.length : Int) == 0) = false := beq_eq_false_iff_ne.2 (by omega)
      obtain ⟨P, hP⟩ := Int.eq_ofNat_of_zero_le hp0
      subst hP
      have byte : ∀ (j : Nat) (hj : j < bs.length), ∃ a, indexAddrP Tryd.prog 22 bp (.int .i64 j) = some a ∧ loadP Tryd.prog 5 a h7 = some (.int .u8 bs[j]) ∧ 0 ≤ bs[j] ∧ bs[j] ≤ 255 ∧ IntKind.i64.wrap bs[j] = bs[j] := by
        intro j hj
        obtain ⟨a, h1, h2⟩ := hs7.at tyB tyBSize tyBAgg hj
        have := hb _ (List.getElem_mem hj)
        exact ⟨a, h1, h2, this.1, this.2, wr (by omega)⟩
      by_cases hlt : (P : Int) < (bs.length : Int)
      · obtain ⟨a, ha, hla, hb2, hb3, hw⟩ := byte P (by omega)
        have hr := tmod_range hb2 hk1'
        refine ⟨bs[P].tmod k, h7, ?_, hrd, hon, hr.1, fun _ => hr.2, by omega⟩
        have hrem := bin_rem (P := Tryd.prog) (t := 3) (k := .i64) (a := bs[P]) (show k ≠ 0 by omega)
        have f_add : binP Tryd.prog .add 3 (.int .i64 (P : Int)) (.int .i64 1) = some (.int .i64 ((P : Int) + 1)) := by rw [bin_add, w1]
        have f_lss : binP Tryd.prog .lss 3 (.int .i64 k) (.int .i64 1) = some (.bool false) := by rw [bin_lss, decide_eq_false hk1]
        have f_eql : binP Tryd.prog .eql 3 (.int .i64 (bs.length : Int)) (.int .i64 0) = some (.bool false) := by rw [bin_eql, hne]
        have f_sub : binP Tryd.prog .sub 3 (.int .i64 ((P : Int) + 1)) (.int .i64 1) = some (.int .i64 (P : Int)) := by rw [bin_sub, w2]
        have f_lt : binP Tryd.prog .lss 3 (.int .i64 (P : Int)) (.int .i64 (bs.length : Int)) = some (.bool true) := by rw [bin_lss, decide_eq_true hlt]
        have f_conv : convP Tryd.prog 5 3 (.int .u8 bs[P]) = some (.int .i64 bs[P]) := by rw [conv_byte, hw]
        unfold spec_l20Rd_pick.main
        refine bd ptr_ptr (bd (fa1 _ _) (bd hld (bd f_add (bd ptr_ptr (bd (fa1 _ _) (bd hst (bd f_lss ?_)))))))
        refine bd (want_bool (x := false) (y := false)) (bd (v := (PV.ptr id 0, h7)) rfl ?_)
        refine bd (want_bool (x := false) (y := false)) (bd (v := (PV.ptr id 0, h7)) rfl ?_)
        refine bd (want_bool (x := false) (y := false)) (bd (v := (PV.ptr id (0 + 0), h7)) (congrArg (pv h7) (fa0 id 0)) ?_)
        refine bd (want_bool (x := false) (y := false)) (bd (v := (bp, h7)) (congrArg (pv h7) hl0) ?_)
        refine bd (want_bool (x := false) (y := false)) (bd (v := (PV.int .i64 (bs.length : Int), h7)) (congrArg (pv h7) hlen) ?_)
        refine bd (want_bool (x := false) (y := false)) (bd (v := (PV.bool false, h7)) (congrArg (pv h7) f_eql) ?_)
        refine bd (v := PV.bool false) rfl (cdF ?_)
        refine bd ptr_ptr (bd (fa1 _ _) (bd hl1 (bd f_sub (bd ptr_ptr (bd (fa0 _ _) (bd hl0 (bd hlen (bd f_lt (cdT ?_)))))))))
        refine bd ptr_ptr (bd (fa0 _ _) (bd hl0 (bd ha (bd hla (bd f_conv (bd hrem (bd res_int rfl)))))))
      · -- past its end
        have hr1 := tmod_range (x := (P : Int)) (k := (bs.length : Int)) (by omega) hb1
        obtain ⟨i1, hi1⟩ : ∃ i : Nat, (P : Int).tmod (bs.length : Int) = i := ⟨((P : Int).tmod bs.length).toNat, by omega⟩
        have hr2 := tmod_range (x := (P : Int) * 7 + 3) (k := (bs.length : Int)) (by omega) hb1
        obtain ⟨i2, hi2⟩ : ∃ i : Nat, ((P : Int) * 7 + 3).tmod (bs.length : Int) = i := ⟨(((P : Int) * 7 + 3).tmod bs.length).toNat, by omega⟩
        obtain ⟨a1, ha1, hla1, c1, c2, hw1⟩ := byte i1 (by omega)
        obtain ⟨a2, ha2, hla2, d1, d2, hw2⟩ := byte i2 (by omega)
        obtain ⟨b1, hb1'⟩ : ∃ b, b = bs[i1]'(by omega) := ⟨_, rfl⟩
        obtain ⟨b2, hb2'⟩ : ∃ b, b = bs[i2]'(by omega) := ⟨_, rfl⟩
        rw [← hb1'] at hla1 c1 c2 hw1
        rw [← hb2'] at hla2 d1 d2 hw2
        have hq := tdiv_range (x := (P : Int)) (k := (bs.length : Int)) (by omega) hb1
        have hquo := bin_quo (P := Tryd.prog) (t := 3) (k := .i64) (a := (P : Int)) (show (bs.length : Int) ≠ 0 by omega)
        have hrem1 := bin_rem (P := Tryd.prog) (t := 3) (k := .i64) (a := (P : Int)) (show (bs.length : Int) ≠ 0 by omega)
        have hrem2 := bin_rem (P := Tryd.prog) (t := 3) (k := .i64) (a := (P : Int) * 7 + 3) (show (bs.length : Int) ≠ 0 by omega)
        obtain ⟨q, hq'⟩ : ∃ q, q = (P : Int).tdiv (bs.length : Int) := ⟨_, rfl⟩
        rw [← hq'] at hq hquo
        have u1 : IntKind.i64.wrap (b1 * 131) = b1 * 131 := wr (by omega)
        have u2 : IntKind.i64.wrap ((P : Int) * 7) = (P : Int) * 7 := wr (by omega)
        have u3 : IntKind.i64.wrap ((P : Int) * 7 + 3) = (P : Int) * 7 + 3 := wr (by omega)
        have u4 : IntKind.i64.wrap (b2 * 1117) = b2 * 1117 := wr (by omega)
        have u5 : IntKind.i64.wrap (b1 * 131 + b2 * 1117) = b1 * 131 + b2 * 1117 := wr (by omega)
        have u6 : IntKind.i64.wrap ((P : Int) * 29) = (P : Int) * 29 := wr (by omega)
        have u7 : IntKind.i64.wrap (b1 * 131 + b2 * 1117 + (P : Int) * 29) = b1 * 131 + b2 * 1117 + (P : Int) * 29 := wr (by omega)
        have u8 : IntKind.i64.wrap q = q := wr (by omega)
        have u9 : IntKind.i64.wrap (q * 53) = q * 53 := wr (by omega)
        obtain ⟨X, hX⟩ : ∃ X, X = b1 * 131 + b2 * 1117 + (P : Int) * 29 + q * 53 := ⟨_, rfl⟩
        have u10 : IntKind.i64.wrap X = X := wr (by omega)
        have hX0 : 0 ≤ X := by omega
        have hX1 : X < 4611686018427387904 := by omega
        have hXq := tdiv_range (x := X) (k := 64) hX0 (by omega)
        have hquoX := bin_quo (P := Tryd.prog) (t := 3) (k := .i64) (a := X) (show (64 : Int) ≠ 0 by omega)
        obtain ⟨Y, hY⟩ : ∃ Y, Y = X.tdiv 64 := ⟨_, rfl⟩
        rw [← hY] at hXq hquoX
        have u11 : IntKind.i64.wrap Y = Y := wr (by omega)
        obtain ⟨Z, hZ⟩ : ∃ Z, Z = IntKind.i64.wrap ((BitVec.ofInt IntKind.i64.bits X ^^^ BitVec.ofInt IntKind.i64.bits Y).toNat : Int) := ⟨_, rfl⟩
        have hZ0 : 0 ≤ Z := by rw [hZ]; exact xor_small hX0 hX1 hXq.1 (by omega)
        have hxor : binP Tryd.prog .xor 3 (.int .i64 X) (.int .i64 Y) = some (.int .i64 Z) := by rw [hZ]; simp [binP, binI]
        have hremZ := bin_rem (P := Tryd.prog) (t := 3) (k := .i64) (a := Z) (show k ≠ 0 by omega)
        have hrZ := tmod_range hZ0 hk1'
        refine ⟨Z.tmod k, h7, ?_, hrd, hon, hrZ.1, fun _ => hrZ.2, by omega⟩
        have f_add : binP Tryd.prog .add 3 (.int .i64 (P : Int)) (.int .i64 1) = some (.int .i64 ((P : Int) + 1)) := by rw [bin_add, w1]
        have f_lss : binP Tryd.prog .lss 3 (.int .i64 k) (.int .i64 1) = some (.bool false) := by rw [bin_lss, decide_eq_false hk1]
        have f_eql : binP Tryd.prog .eql 3 (.int .i64 (bs.length : Int)) (.int .i64 0) = some (.bool false) := by rw [bin_eql, hne]
        have f_sub : binP Tryd.prog .sub 3 (.int .i64 ((P : Int) + 1)) (.int .i64 1) = some (.int .i64 (P : Int)) := by rw [bin_sub, w2]
        have f_lt : binP Tryd.prog .lss 3 (.int .i64 (P : Int)) (.int .i64 (bs.length : Int)) = some (.bool false) := by rw [bin_lss, decide_eq_false hlt]
        have f_conv1 : convP Tryd.prog 5 3 (.int .u8 b1) = some (.int .i64 b1) := by rw [conv_byte, hw1]
        have f_conv2 : convP Tryd.prog 5 3 (.int .u8 b2) = some (.int .i64 b2) := by rw [conv_byte, hw2]
        have f_rem1 : binP Tryd.prog .rem 3 (.int .i64 (P : Int)) (.int .i64 (bs.length : Int)) = some (.int .i64 (i1 : Int)) := by rw [hrem1, hi1]
        have f_rem2 : binP Tryd.prog .rem 3 (.int .i64 ((P : Int) * 7 + 3)) (.int .i64 (bs.length : Int)) = some (.int .i64 (i2 : Int)) := by rw [hrem2, hi2]
        have f1 : binP Tryd.prog .mul 3 (.int .i64 b1) (.int .i64 131) = some (.int .i64 (b1 * 131)) := by rw [bin_mul, u1]
        have f2 : binP Tryd.prog .mul 3 (.int .i64 (P : Int)) (.int .i64 7) = some (.int .i64 ((P : Int) * 7)) := by rw [bin_mul, u2]
        have f3 : binP Tryd.prog .add 3 (.int .i64 ((P : Int) * 7)) (.int .i64 3) = some (.int .i64 ((P : Int) * 7 + 3)) := by rw [bin_add, u3]
        have f4 : binP Tryd.prog .mul 3 (.int .i64 b2) (.int .i64 1117) = some (.int .i64 (b2 * 1117)) := by rw [bin_mul, u4]
        have f5 : binP Tryd.prog .add 3 (.int .i64 (b1 * 131)) (.int .i64 (b2 * 1117)) = some (.int .i64 (b1 * 131 + b2 * 1117)) := by rw [bin_add, u5]
        have f6 : binP Tryd.prog .mul 3 (.int .i64 (P : Int)) (.int .i64 29) = some (.int .i64 ((P : Int) * 29)) := by rw [bin_mul, u6]
        have f7 : binP Tryd.prog .add 3 (.int .i64 (b1 * 131 + b2 * 1117)) (.int .i64 ((P : Int) * 29)) = some (.int .i64 (b1 * 131 + b2 * 1117 + (P : Int) * 29)) := by rw [bin_add, u7]
        have f8 : binP Tryd.prog .quo 3 (.int .i64 (P : Int)) (.int .i64 (bs.length : Int)) = some (.int .i64 q) := by rw [hquo, u8]
        have f9 : binP Tryd.prog .mul 3 (.int .i64 q) (.int .i64 53) = some (.int .i64 (q * 53)) := by rw [bin_mul, u9]
        have f10 : binP Tryd.prog .add 3 (.int .i64 (b1 * 131 + b2 * 1117 + (P : Int) * 29)) (.int .i64 (q * 53)) = some (.int .i64 X) := by rw [bin_add, ← hX, u10]
        have f11 : binP Tryd.prog .quo 3 (.int .i64 X) (.int .i64 64) = some (.int .i64 Y) := by rw [hquoX, u11]
        clear hX hY hZ u1 u2 u3 u4 u5 u6 u7 u8 u9 u10 u11 hq' hquo hquoX hrem1 hrem2
        unfold spec_l20Rd_pick.main
        refine bd ptr_ptr (bd (fa1 _ _) (bd hld (bd f_add (bd ptr_ptr (bd (fa1 _ _) (bd hst (bd f_lss ?_)))))))
        refine bd (want_bool (x := false) (y := false)) (bd (v := (PV.ptr id 0, h7)) rfl ?_)
        refine bd (want_bool (x := false) (y := false)) (bd (v := (PV.ptr id 0, h7)) rfl ?_)
        refine bd (want_bool (x := false) (y := false)) (bd (v := (PV.ptr id (0 + 0), h7)) (congrArg (pv h7) (fa0 id 0)) ?_)
        refine bd (want_bool (x := false) (y := false)) (bd (v := (bp, h7)) (congrArg (pv h7) hl0) ?_)
        refine bd (want_bool (x := false) (y := false)) (bd (v := (PV.int .i64 (bs.length : Int), h7)) (congrArg (pv h7) hlen) ?_)
        refine bd (want_bool (x := false) (y := false)) (bd (v := (PV.bool false, h7)) (congrArg (pv h7) f_eql) ?_)
        refine bd (v := PV.bool false) rfl (cdF ?_)
        refine bd ptr_ptr (bd (fa1 _ _) (bd hl1 (bd f_sub (bd ptr_ptr (bd (fa0 _ _) (bd hl0 (bd hlen (bd f_lt (cdF ?_)))))))))
        refine bd ptr_ptr (bd (fa0 _ _) (bd hl0 (bd ptr_ptr (bd (fa0 _ _) (bd hl0 (bd hlen (bd f_rem1 (bd ha1 (bd hla1 (bd f_conv1 (bd f1 ?_)))))))))))
        refine bd ptr_ptr (bd (fa0 _ _) (bd hl0 (bd f2 (bd f3 (bd ptr_ptr (bd (fa0 _ _) (bd hl0 (bd hlen (bd f_rem2 (bd ha2 (bd hla2 (bd f_conv2 (bd f4 ?_)))))))))))))
        refine bd f5 (bd f6 (bd f7 (bd ptr_ptr (bd (fa0 _ _) (bd hl0 (bd hlen (bd f8 (bd f9 (bd f10 (bd f11 (bd hxor (bd hremZ (bd res_int rfl)))))))))))))

theorem odd_calls {h : PHeap} {id m : Nat} (N : Nat) (hN : 2 ≤ N) (k : Int) (hr : Rd h id m) (hm : m ≤ 1000000) (hk : k ≤ 1000000) (hk0 : 1 ≤ k) :
    ∃ (b : Bool) (h' : PHeap), CL g lf N fn_spec_l20Rd_odd [.ptr id 0, .int .i64 k] h = some (.bool b, h') ∧ Rd h' id (m + 1) ∧ Only id (id + 1) h h' := by
  obtain ⟨n, rfl⟩ : ∃ n, N = n + 1 := ⟨N - 1, by omega⟩
  rw [spec_l20Rd_odd.call_eq]
  obtain ⟨v, h', e, hr', ho, _⟩ := pick_calls g lf n (by omega) k hr hm hk
  have hpos : (0 : Int) < k := by omega
  have w1 : IntKind.i64.wrap (k - 1) = k - 1 := wr (by omega)
  refine ⟨v == k - 1, h', ?_, hr', ho⟩
  simp [spec_l20Rd_odd.main, hpos, e, w1]

/-- Never if it is asked for once in none. -/
theorem odd_calls0 {h : PHeap} {id m : Nat} (N : Nat) (hN : 2 ≤ N) (k : Int) (hr : Rd h id m) (hm : m ≤ 1000000) (hk : k ≤ 1000000) (hk0 : 0 ≤ k) :
    ∃ (b : Bool) (h' : PHeap), CL g lf N fn_spec_l20Rd_odd [.ptr id 0, .int .i64 k] h = some (.bool b, h') ∧ Rd h' id (m + 1) ∧ Only id (id + 1) h h' := by
  by_cases h1 : 1 ≤ k
  · exact odd_calls g lf N hN k hr hm hk h1
  · obtain rfl : k = 0 := by omega
    obtain ⟨n, rfl⟩ : ∃ n, N = n + 1 := ⟨N - 1, by omega⟩
    rw [spec_l20Rd_odd.call_eq]
    obtain ⟨bp, bs, pos, g1, g2, g3, g4, g5, g6⟩ := hr
    refine ⟨false, h, ?_, ⟨bp, bs, pos, g1, g2, g3, g4, g5, by omega⟩, Only.refl _ _ _⟩
    simp [spec_l20Rd_odd.main]
theorem Rd.mono {h : PHeap} {id m m' : Nat} (r : Rd h id m) (hm : m ≤ m') : Rd h id m' := by
  obtain ⟨bp, bs, pos, h1, h2, h3, h4, h5, h6⟩ := r
  exact ⟨bp, bs, pos, h1, h2, h3, h4, h5, by omega⟩

end Go.Proofs.YtpaehbfknlpkbaaDoor

/- The board that the model draws: small numbers, whatever they are. -/
set_option maxRecDepth 20000
namespace Go.Proofs.YtpaehbfknlpkbaaDoor
open Go Go.Ip Go.RowKit G

/-- Below n nothing has turned but the object id. -/
def KeepX (id n : Nat) (h h' : PHeap) : Prop := h.length ≤ h'.length ∧ ∀ i, i < n → i ≠ id → h'[i]? = h[i]?

theorem KeepX.refl (id n : Nat) (h : PHeap) : KeepX id n h h := ⟨Nat.le_refl _, fun _ _ _ => rfl⟩
theorem KeepX.trans {id n : Nat} {a b c : PHeap} (h : KeepX id n a b) (k : KeepX id n b c) : KeepX id n a c := ⟨Nat.le_trans h.1 k.1, fun i hi hn => (k.2 i hi hn).trans (h.2 i hi hn)⟩
theorem KeepX.mono {id n m : Nat} {a b : PHeap} (h : KeepX id n a b) (hm : m ≤ n) : KeepX id m a b := ⟨h.1, fun i hi hn => h.2 i (by omega) hn⟩
theorem Keep.x {id n : Nat} {a b : PHeap} (h : Keep n a b) : KeepX id n a b := ⟨h.1, fun i hi _ => h.2 i hi⟩
theorem Only.x {id n : Nat} {a b : PHeap} (h : Only id (id + 1) a b) : KeepX id n a b := ⟨by rw [h.1]; exact Nat.le_refl _, fun i _ hn => h.2 i (by omega)⟩
theorem KeepX.keep {id n : Nat} {a b : PHeap} (h : KeepX id n a b) (hn : id ≤ n) : Keep id a b := ⟨h.1, fun i hi => h.2 i (by omega) (by omega)⟩

theorem OwnSl.keepX {id n m : Nat} {h h' : PHeap} {p : PV} {xs : List Int} (s : OwnSl n h p xs) (hk : KeepX id m h h') (hn : id < n) (hm : h.length ≤ m) : OwnSl n h' p xs := by
  rcases s with s | ⟨i, h1, h2, h3⟩
  · exact .inl s
  · have := (List.getElem?_eq_some_iff.1 h3).1
    exact .inr ⟨i, h1, h2, by rw [hk.2 i (by omega) (by omega)]; exact h3⟩

theorem lit2 (h E : PHeap) (a b : Int) : buildSliceP Tryd.prog 33 2 [(0, .int .i64 a), (1, .int .i64 b)] (h ++ E) = some (.sl (h.length + E.length) 0 2, h ++ (E ++ [.own 1 [.int .i64 a, .int .i64 b]])) := by
  simp [buildSliceP, tyElem, tySize, tyZero, repeatCells, fillP, PV.cells, setCells]

theorem tyBoxU : Tryd.prog.underlying 61 = some (.slice 33) := by kernel_rfl
theorem tyBoxSize : sizeT Tryd.prog 33 = some 1 := by kernel_rfl
theorem tyBoxAgg : isAggT Tryd.prog 33 = some false := by kernel_rfl

theorem lit13 (h : PHeap) (a0 a1 a2 a3 a4 a5 a6 a7 a8 a9 a10 a11 a12 : Nat) : buildSliceP Tryd.prog 61 13 [(0, .sl a0 0 2), (1, .sl a1 0 2), (2, .sl a2 0 2), (3, .sl a3 0 2), (4, .sl a4 0 2), (5, .sl a5 0 2), (6, .sl a6 0 2), (7, .sl a7 0 2), (8, .sl a8 0 2), (9, .sl a9 0 2), (10, .sl a10 0 2), (11, .sl a11 0 2), (12, .sl a12 0 2)] h = some (.sl h.length 0 13, h ++ [.own 1 [.sl a0 0 2, .sl a1 0 2, .sl a2 0 2, .sl a3 0 2, .sl a4 0 2, .sl a5 0 2, .sl a6 0 2, .sl a7 0 2, .sl a8 0 2, .sl a9 0 2, .sl a10 0 2, .sl a11 0 2, .sl a12 0 2]]) := by kernel_rfl
theorem lit5 (h : PHeap) (a0 a1 a2 a3 a4 : Nat) : buildSliceP Tryd.prog 61 5 [(0, .sl a0 0 2), (1, .sl a1 0 2), (2, .sl a2 0 2), (3, .sl a3 0 2), (4, .sl a4 0 2)] h = some (.sl h.length 0 5, h ++ [.own 1 [.sl a0 0 2, .sl a1 0 2, .sl a2 0 2, .sl a3 0 2, .sl a4 0 2]]) := by kernel_rfl

def boardObjs (L : Nat) : List PObj := [.own 1 [.int .i64 1, .int .i64 1], .own 1 [.int .i64 1, .int .i64 2], .own 1 [.int .i64 2, .int .i64 1], .own 1 [.int .i64 2, .int .i64 2], .own 1 [.int .i64 2, .int .i64 3], .own 1 [.int .i64 3, .int .i64 2], .own 1 [.int .i64 3, .int .i64 3], .own 1 [.int .i64 2, .int .i64 4], .own 1 [.int .i64 4, .int .i64 2], .own 1 [.int .i64 1, .int .i64 4], .own 1 [.int .i64 2, .int .i64 2], .own 1 [.int .i64 2, .int .i64 3], .own 1 [.int .i64 3, .int .i64 2]] ++ [.own 1 [.sl (L + 0) 0 2, .sl (L + 1) 0 2, .sl (L + 2) 0 2, .sl (L + 3) 0 2, .sl (L + 4) 0 2, .sl (L + 5) 0 2, .sl (L + 6) 0 2, .sl (L + 7) 0 2, .sl (L + 8) 0 2, .sl (L + 9) 0 2, .sl (L + 10) 0 2, .sl (L + 11) 0 2, .sl (L + 12) 0 2]]

/-- The row v of the table, in whatever heap that holds the table still. -/
theorem board_row (h h' : PHeap) (id : Nat) (hid : id < h.length) (hk : KeepX id (h.length + 14) (h ++ boardObjs h.length) h') (v : Nat) (hv : v < 13) :
    ∃ r c, loadP Tryd.prog 33 (.ptr (h.length + 13) (0 + v)) h' = some (.sl (h.length + v) 0 2) ∧ cellsAt h' (h.length + v) = [.int .i64 r, .int .i64 c] ∧ -1 ≤ r ∧ r ≤ 5 ∧ -1 ≤ c ∧ c ≤ 5 := by
  have hb : h'[h.length + 13]? = some (.own 1 [.sl (h.length + 0) 0 2, .sl (h.length + 1) 0 2, .sl (h.length + 2) 0 2, .sl (h.length + 3) 0 2, .sl (h.length + 4) 0 2, .sl (h.length + 5) 0 2, .sl (h.length + 6) 0 2, .sl (h.length + 7) 0 2, .sl (h.length + 8) 0 2, .sl (h.length + 9) 0 2, .sl (h.length + 10) 0 2, .sl (h.length + 11) 0 2, .sl (h.length + 12) 0 2]) := by
    rw [hk.2 _ (by omega) (by omega), List.getElem?_append_right (by omega), Nat.add_sub_cancel_left]; rfl
  have hs : ∀ j, j < 13 → h'[h.length + j]? = (boardObjs h.length)[j]? := fun j hj => by
    rw [hk.2 _ (by omega) (by omega), List.getElem?_append_right (by omega), Nat.add_sub_cancel_left]
  have hrow := hs v (by omega)
  simp only [loadP, tyBoxAgg, cellsAt, hb, hrow]
  have : v = 0 ∨ v = 1 ∨ v = 2 ∨ v = 3 ∨ v = 4 ∨ v = 5 ∨ v = 6 ∨ v = 7 ∨ v = 8 ∨ v = 9 ∨ v = 10 ∨ v = 11 ∨ v = 12 := by omega
  rcases this with rfl | rfl | rfl | rfl | rfl | rfl | rfl | rfl | rfl | rfl | rfl | rfl | rfl <;> exact ⟨_, _, rfl, rfl, by omega, by omega, by omega, by omega⟩

def noneObjs (L : Nat) : List PObj := [.own 1 [.int .i64 0, .int .i64 2], .own 1 [.int .i64 3, .int .i64 4], .own 1 [.int .i64 5, .int .i64 1], .own 1 [.int .i64 2, .int .i64 (-1)], .own 1 [.int .i64 1, .int .i64 5]] ++ [.own 1 [.sl (L + 0) 0 2, .sl (L + 1) 0 2, .sl (L + 2) 0 2, .sl (L + 3) 0 2, .sl (L + 4) 0 2]]

/-- The row v of the table, in whatever heap that holds the table still. -/
theorem none_row (h h' : PHeap) (id : Nat) (hid : id < h.length) (hk : KeepX id (h.length + 6) (h ++ noneObjs h.length) h') (v : Nat) (hv : v < 5) :
    ∃ r c, loadP Tryd.prog 33 (.ptr (h.length + 5) (0 + v)) h' = some (.sl (h.length + v) 0 2) ∧ cellsAt h' (h.length + v) = [.int .i64 r, .int .i64 c] ∧ -1 ≤ r ∧ r ≤ 5 ∧ -1 ≤ c ∧ c ≤ 5 := by
  have hb : h'[h.length + 5]? = some (.own 1 [.sl (h.length + 0) 0 2, .sl (h.length + 1) 0 2, .sl (h.length + 2) 0 2, .sl (h.length + 3) 0 2, .sl (h.length + 4) 0 2]) := by
    rw [hk.2 _ (by omega) (by omega), List.getElem?_append_right (by omega), Nat.add_sub_cancel_left]; rfl
  have hs : ∀ j, j < 5 → h'[h.length + j]? = (noneObjs h.length)[j]? := fun j hj => by
    rw [hk.2 _ (by omega) (by omega), List.getElem?_append_right (by omega), Nat.add_sub_cancel_left]
  have hrow := hs v (by omega)
  simp only [loadP, tyBoxAgg, cellsAt, hb, hrow]
  have : v = 0 ∨ v = 1 ∨ v = 2 ∨ v = 3 ∨ v = 4 := by omega
  rcases this with rfl | rfl | rfl | rfl | rfl <;> exact ⟨_, _, rfl, rfl, by omega, by omega, by omega, by omega⟩

theorem row_get {h : PHeap} {i : Nat} {r c : Int} (hc : cellsAt h i = [.int .i64 r, .int .i64 c]) :
    indexAddrP Tryd.prog 33 (.sl i 0 2) (.int .i64 0) = some (.ptr i 0) ∧ loadP Tryd.prog 3 (.ptr i 0) h = some (.int .i64 r) ∧
    indexAddrP Tryd.prog 33 (.sl i 0 2) (.int .i64 1) = some (.ptr i 1) ∧ loadP Tryd.prog 3 (.ptr i 1) h = some (.int .i64 c) := by
  refine ⟨by simp [indexAddrP, tyS, tySize], ?_, by simp [indexAddrP, tyS, tySize], ?_⟩ <;> simp [loadP, tyAgg, hc]

variable (g : Nat → PV) (lf n : Nat)

set_option maxHeartbeats 1000000 in
theorem board_calls {h : PHeap} {id m : Nat} (N : Nat) (hN : 3 ≤ N) (k : Int) (hr : Rd h id m) (hm : m ≤ 900000) (hk : k ≤ 1000000) (hk0 : 0 ≤ k) :
    ∃ (r c : Int) (h' : PHeap), CL g lf N fn_spec_l20Board [.ptr id 0, .int .i64 k] h = some (.tup [.int .i64 r, .int .i64 c], h') ∧ Rd h' id (m + 3) ∧ KeepX id h.length h h' ∧ -1 ≤ r ∧ r ≤ 5 ∧ -1 ≤ c ∧ c ≤ 5 := by
  obtain ⟨n, rfl⟩ : ∃ n, N = n + 1 := ⟨N - 1, by omega⟩
  rw [spec_l20Board.call_eq]
  have hid := hr.lt
  have hrt := hr.keep (Keep.append h.length h (boardObjs h.length) (Nat.le_refl _)) hid
  obtain ⟨v, h1, e1, r1, o1, v0, v1, _⟩ := pick_calls g lf n (by omega) 13 hrt (by omega) (by omega)
  obtain ⟨V, rfl⟩ := Int.eq_ofNat_of_zero_le v0
  have hV : V < 13 := by have := v1 (by omega); omega
  obtain ⟨b, h2, e2, r2, o2⟩ := odd_calls0 g lf n (by omega) k r1 (by omega) hk hk0
  have kx1 : KeepX id (h.length + 14) (h ++ boardObjs h.length) h1 := o1.x
  have kx2 : KeepX id (h.length + 14) (h ++ boardObjs h.length) h2 := kx1.trans o2.x
  have kxb : KeepX id h.length h h2 := (Keep.append h.length h (boardObjs h.length) (Nat.le_refl _)).x.trans (kx2.mono (by omega))
  obtain ⟨_, _, l1, _⟩ := board_row h h1 id hid kx1 V hV
  obtain ⟨r, c, _, cc, hrc⟩ := board_row h h2 id hid kx2 V hV
  have hix : indexAddrP Tryd.prog 61 (.sl (h.length + 13) 0 13) (.int .i64 (V : Int)) = some (.ptr (h.length + 13) (0 + V)) := by
    have : (V : Int) < 13 := by omega
    simp [indexAddrP, tyBoxU, tyBoxSize, this]
  obtain ⟨g1, g2, g3, g4⟩ := row_get cc
  cases b with
  | false =>
    refine ⟨r, c, h2, ?_, r2.mono (by omega), kxb, hrc⟩
    unfold spec_l20Board.main
    refine bd (v := (PV.sl (h.length + 0) 0 2, h ++ [PObj.own 1 [.int .i64 1, .int .i64 1]])) (by have := lit2 h [] 1 1; simpa using this) ?_
    refine bd (v := (PV.sl (h.length + 1) 0 2, h ++ [PObj.own 1 [.int .i64 1, .int .i64 1], .own 1 [.int .i64 1, .int .i64 2]])) (lit2 h [PObj.own 1 [.int .i64 1, .int .i64 1]] 1 2) ?_
    refine bd (v := (PV.sl (h.length + 2) 0 2, h ++ [PObj.own 1 [.int .i64 1, .int .i64 1], .own 1 [.int .i64 1, .int .i64 2], .own 1 [.int .i64 2, .int .i64 1]])) (lit2 h [PObj.own 1 [.int .i64 1, .int .i64 1], .own 1 [.int .i64 1, .int .i64 2]] 2 1) ?_
    refine bd (v := (PV.sl (h.length + 3) 0 2, h ++ [PObj.own 1 [.int .i64 1, .int .i64 1], .own 1 [.int .i64 1, .int .i64 2], .own 1 [.int .i64 2, .int .i64 1], .own 1 [.int .i64 2, .int .i64 2]])) (lit2 h [PObj.own 1 [.int .i64 1, .int .i64 1], .own 1 [.int .i64 1, .int .i64 2], .own 1 [.int .i64 2, .int .i64 1]] 2 2) ?_
    refine bd (v := (PV.sl (h.length + 4) 0 2, h ++ [PObj.own 1 [.int .i64 1, .int .i64 1], .own 1 [.int .i64 1, .int .i64 2], .own 1 [.int .i64 2, .int .i64 1], .own 1 [.int .i64 2, .int .i64 2], .own 1 [.int .i64 2, .int .i64 3]])) (lit2 h [PObj.own 1 [.int .i64 1, .int .i64 1], .own 1 [.int .i64 1, .int .i64 2], .own 1 [.int .i64 2, .int .i64 1], .own 1 [.int .i64 2, .int .i64 2]] 2 3) ?_
    refine bd (v := (PV.sl (h.length + 5) 0 2, h ++ [PObj.own 1 [.int .i64 1, .int .i64 1], .own 1 [.int .i64 1, .int .i64 2], .own 1 [.int .i64 2, .int .i64 1], .own 1 [.int .i64 2, .int .i64 2], .own 1 [.int .i64 2, .int .i64 3], .own 1 [.int .i64 3, .int .i64 2]])) (lit2 h [PObj.own 1 [.int .i64 1, .int .i64 1], .own 1 [.int .i64 1, .int .i64 2], .own 1 [.int .i64 2, .int .i64 1], .own 1 [.int .i64 2, .int .i64 2], .own 1 [.int .i64 2, .int .i64 3]] 3 2) ?_
    refine bd (v := (PV.sl (h.length + 6) 0 2, h ++ [PObj.own 1 [.int .i64 1, .int .i64 1], .own 1 [.int .i64 1, .int .i64 2], .own 1 [.int .i64 2, .int .i64 1], .own 1 [.int .i64 2, .int .i64 2], .own 1 [.int .i64 2, .int .i64 3], .own 1 [.int .i64 3, .int .i64 2], .own 1 [.int .i64 3, .int .i64 3]])) (lit2 h [PObj.own 1 [.int .i64 1, .int .i64 1], .own 1 [.int .i64 1, .int .i64 2], .own 1 [.int .i64 2, .int .i64 1], .own 1 [.int .i64 2, .int .i64 2], .own 1 [.int .i64 2, .int .i64 3], .own 1 [.int .i64 3, .int .i64 2]] 3 3) ?_
    refine bd (v := (PV.sl (h.length + 7) 0 2, h ++ [PObj.own 1 [.int .i64 1, .int .i64 1], .own 1 [.int .i64 1, .int .i64 2], .own 1 [.int .i64 2, .int .i64 1], .own 1 [.int .i64 2, .int .i64 2], .own 1 [.int .i64 2, .int .i64 3], .own 1 [.int .i64 3, .int .i64 2], .own 1 [.int .i64 3, .int .i64 3], .own 1 [.int .i64 2, .int .i64 4]])) (lit2 h [PObj.own 1 [.int .i64 1, .int .i64 1], .own 1 [.int .i64 1, .int .i64 2], .own 1 [.int .i64 2, .int .i64 1], .own 1 [.int .i64 2, .int .i64 2], .own 1 [.int .i64 2, .int .i64 3], .own 1 [.int .i64 3, .int .i64 2], .own 1 [.int .i64 3, .int .i64 3]] 2 4) ?_
    refine bd (v := (PV.sl (h.length + 8) 0 2, h ++ [PObj.own 1 [.int .i64 1, .int .i64 1], .own 1 [.int .i64 1, .int .i64 2], .own 1 [.int .i64 2, .int .i64 1], .own 1 [.int .i64 2, .int .i64 2], .own 1 [.int .i64 2, .int .i64 3], .own 1 [.int .i64 3, .int .i64 2], .own 1 [.int .i64 3, .int .i64 3], .own 1 [.int .i64 2, .int .i64 4], .own 1 [.int .i64 4, .int .i64 2]])) (lit2 h [PObj.own 1 [.int .i64 1, .int .i64 1], .own 1 [.int .i64 1, .int .i64 2], .own 1 [.int .i64 2, .int .i64 1], .own 1 [.int .i64 2, .int .i64 2], .own 1 [.int .i64 2, .int .i64 3], .own 1 [.int .i64 3, .int .i64 2], .own 1 [.int .i64 3, .int .i64 3], .own 1 [.int .i64 2, .int .i64 4]] 4 2) ?_
    refine bd (v := (PV.sl (h.length + 9) 0 2, h ++ [PObj.own 1 [.int .i64 1, .int .i64 1], .own 1 [.int .i64 1, .int .i64 2], .own 1 [.int .i64 2, .int .i64 1], .own 1 [.int .i64 2, .int .i64 2], .own 1 [.int .i64 2, .int .i64 3], .own 1 [.int .i64 3, .int .i64 2], .own 1 [.int .i64 3, .int .i64 3], .own 1 [.int .i64 2, .int .i64 4], .own 1 [.int .i64 4, .int .i64 2], .own 1 [.int .i64 1, .int .i64 4]])) (lit2 h [PObj.own 1 [.int .i64 1, .int .i64 1], .own 1 [.int .i64 1, .int .i64 2], .own 1 [.int .i64 2, .int .i64 1], .own 1 [.int .i64 2, .int .i64 2], .own 1 [.int .i64 2, .int .i64 3], .own 1 [.int .i64 3, .int .i64 2], .own 1 [.int .i64 3, .int .i64 3], .own 1 [.int .i64 2, .int .i64 4], .own 1 [.int .i64 4, .int .i64 2]] 1 4) ?_
    refine bd (v := (PV.sl (h.length + 10) 0 2, h ++ [PObj.own 1 [.int .i64 1, .int .i64 1], .own 1 [.int .i64 1, .int .i64 2], .own 1 [.int .i64 2, .int .i64 1], .own 1 [.int .i64 2, .int .i64 2], .own 1 [.int .i64 2, .int .i64 3], .own 1 [.int .i64 3, .int .i64 2], .own 1 [.int .i64 3, .int .i64 3], .own 1 [.int .i64 2, .int .i64 4], .own 1 [.int .i64 4, .int .i64 2], .own 1 [.int .i64 1, .int .i64 4], .own 1 [.int .i64 2, .int .i64 2]])) (lit2 h [PObj.own 1 [.int .i64 1, .int .i64 1], .own 1 [.int .i64 1, .int .i64 2], .own 1 [.int .i64 2, .int .i64 1], .own 1 [.int .i64 2, .int .i64 2], .own 1 [.int .i64 2, .int .i64 3], .own 1 [.int .i64 3, .int .i64 2], .own 1 [.int .i64 3, .int .i64 3], .own 1 [.int .i64 2, .int .i64 4], .own 1 [.int .i64 4, .int .i64 2], .own 1 [.int .i64 1, .int .i64 4]] 2 2) ?_
    refine bd (v := (PV.sl (h.length + 11) 0 2, h ++ [PObj.own 1 [.int .i64 1, .int .i64 1], .own 1 [.int .i64 1, .int .i64 2], .own 1 [.int .i64 2, .int .i64 1], .own 1 [.int .i64 2, .int .i64 2], .own 1 [.int .i64 2, .int .i64 3], .own 1 [.int .i64 3, .int .i64 2], .own 1 [.int .i64 3, .int .i64 3], .own 1 [.int .i64 2, .int .i64 4], .own 1 [.int .i64 4, .int .i64 2], .own 1 [.int .i64 1, .int .i64 4], .own 1 [.int .i64 2, .int .i64 2], .own 1 [.int .i64 2, .int .i64 3]])) (lit2 h [PObj.own 1 [.int .i64 1, .int .i64 1], .own 1 [.int .i64 1, .int .i64 2], .own 1 [.int .i64 2, .int .i64 1], .own 1 [.int .i64 2, .int .i64 2], .own 1 [.int .i64 2, .int .i64 3], .own 1 [.int .i64 3, .int .i64 2], .own 1 [.int .i64 3, .int .i64 3], .own 1 [.int .i64 2, .int .i64 4], .own 1 [.int .i64 4, .int .i64 2], .own 1 [.int .i64 1, .int .i64 4], .own 1 [.int .i64 2, .int .i64 2]] 2 3) ?_
    refine bd (v := (PV.sl (h.length + 12) 0 2, h ++ [PObj.own 1 [.int .i64 1, .int .i64 1], .own 1 [.int .i64 1, .int .i64 2], .own 1 [.int .i64 2, .int .i64 1], .own 1 [.int .i64 2, .int .i64 2], .own 1 [.int .i64 2, .int .i64 3], .own 1 [.int .i64 3, .int .i64 2], .own 1 [.int .i64 3, .int .i64 3], .own 1 [.int .i64 2, .int .i64 4], .own 1 [.int .i64 4, .int .i64 2], .own 1 [.int .i64 1, .int .i64 4], .own 1 [.int .i64 2, .int .i64 2], .own 1 [.int .i64 2, .int .i64 3], .own 1 [.int .i64 3, .int .i64 2]])) (lit2 h [PObj.own 1 [.int .i64 1, .int .i64 1], .own 1 [.int .i64 1, .int .i64 2], .own 1 [.int .i64 2, .int .i64 1], .own 1 [.int .i64 2, .int .i64 2], .own 1 [.int .i64 2, .int .i64 3], .own 1 [.int .i64 3, .int .i64 2], .own 1 [.int .i64 3, .int .i64 3], .own 1 [.int .i64 2, .int .i64 4], .own 1 [.int .i64 4, .int .i64 2], .own 1 [.int .i64 1, .int .i64 4], .own 1 [.int .i64 2, .int .i64 2], .own 1 [.int .i64 2, .int .i64 3]] 3 2) ?_
    refine bd (v := (PV.sl (h.length + 13) 0 13, h ++ boardObjs h.length)) ?_ ?_
    · refine (lit13 _ _ _ _ _ _ _ _ _ _ _ _ _ _).trans ?_; simp [boardObjs]
    refine bd e1 (bd hix (bd l1 (bd e2 ?_)))
    refine cdF (bd g1 (bd g2 (bd g3 (bd g4 (bd res_int (bd res_int rfl))))))
  | true =>
    have hid2 := r2.lt
    have hrt3 := r2.keep (Keep.append h2.length h2 (noneObjs h2.length) (Nat.le_refl _)) hid2
    obtain ⟨v', h3, e3, r3, o3, v0', v1', _⟩ := pick_calls g lf n (by omega) 5 hrt3 (by omega) (by omega)
    obtain ⟨V', rfl⟩ := Int.eq_ofNat_of_zero_le v0'
    have hV' : V' < 5 := by have := v1' (by omega); omega
    have kx3 : KeepX id (h2.length + 6) (h2 ++ noneObjs h2.length) h3 := o3.x
    obtain ⟨r', c', l3, cc', hrc'⟩ := none_row h2 h3 id hid2 kx3 V' hV'
    have hix' : indexAddrP Tryd.prog 61 (.sl (h2.length + 5) 0 5) (.int .i64 (V' : Int)) = some (.ptr (h2.length + 5) (0 + V')) := by
      have : (V' : Int) < 5 := by omega
      simp [indexAddrP, tyBoxU, tyBoxSize, this]
    obtain ⟨g1', g2', g3', g4'⟩ := row_get cc'
    have kx4 : KeepX id h.length h h3 := kxb.trans (((Keep.append h2.length h2 (noneObjs h2.length) (Nat.le_refl _)).x.mono kxb.1).trans (kx3.mono (by have := kxb.1; omega)))
    refine ⟨r', c', h3, ?_, r3, kx4, hrc'⟩
    unfold spec_l20Board.main
    refine bd (v := (PV.sl (h.length + 0) 0 2, h ++ [PObj.own 1 [.int .i64 1, .int .i64 1]])) (by have := lit2 h [] 1 1; simpa using this) ?_
    refine bd (v := (PV.sl (h.length + 1) 0 2, h ++ [PObj.own 1 [.int .i64 1, .int .i64 1], .own 1 [.int .i64 1, .int .i64 2]])) (lit2 h [PObj.own 1 [.int .i64 1, .int .i64 1]] 1 2) ?_
    refine bd (v := (PV.sl (h.length + 2) 0 2, h ++ [PObj.own 1 [.int .i64 1, .int .i64 1], .own 1 [.int .i64 1, .int .i64 2], .own 1 [.int .i64 2, .int .i64 1]])) (lit2 h [PObj.own 1 [.int .i64 1, .int .i64 1], .own 1 [.int .i64 1, .int .i64 2]] 2 1) ?_
    refine bd (v := (PV.sl (h.length + 3) 0 2, h ++ [PObj.own 1 [.int .i64 1, .int .i64 1], .own 1 [.int .i64 1, .int .i64 2], .own 1 [.int .i64 2, .int .i64 1], .own 1 [.int .i64 2, .int .i64 2]])) (lit2 h [PObj.own 1 [.int .i64 1, .int .i64 1], .own 1 [.int .i64 1, .int .i64 2], .own 1 [.int .i64 2, .int .i64 1]] 2 2) ?_
    refine bd (v := (PV.sl (h.length + 4) 0 2, h ++ [PObj.own 1 [.int .i64 1, .int .i64 1], .own 1 [.int .i64 1, .int .i64 2], .own 1 [.int .i64 2, .int .i64 1], .own 1 [.int .i64 2, .int .i64 2], .own 1 [.int .i64 2, .int .i64 3]])) (lit2 h [PObj.own 1 [.int .i64 1, .int .i64 1], .own 1 [.int .i64 1, .int .i64 2], .own 1 [.int .i64 2, .int .i64 1], .own 1 [.int .i64 2, .int .i64 2]] 2 3) ?_
    refine bd (v := (PV.sl (h.length + 5) 0 2, h ++ [PObj.own 1 [.int .i64 1, .int .i64 1], .own 1 [.int .i64 1, .int .i64 2], .own 1 [.int .i64 2, .int .i64 1], .own 1 [.int .i64 2, .int .i64 2], .own 1 [.int .i64 2, .int .i64 3], .own 1 [.int .i64 3, .int .i64 2]])) (lit2 h [PObj.own 1 [.int .i64 1, .int .i64 1], .own 1 [.int .i64 1, .int .i64 2], .own 1 [.int .i64 2, .int .i64 1], .own 1 [.int .i64 2, .int .i64 2], .own 1 [.int .i64 2, .int .i64 3]] 3 2) ?_
    refine bd (v := (PV.sl (h.length + 6) 0 2, h ++ [PObj.own 1 [.int .i64 1, .int .i64 1], .own 1 [.int .i64 1, .int .i64 2], .own 1 [.int .i64 2, .int .i64 1], .own 1 [.int .i64 2, .int .i64 2], .own 1 [.int .i64 2, .int .i64 3], .own 1 [.int .i64 3, .int .i64 2], .own 1 [.int .i64 3, .int .i64 3]])) (lit2 h [PObj.own 1 [.int .i64 1, .int .i64 1], .own 1 [.int .i64 1, .int .i64 2], .own 1 [.int .i64 2, .int .i64 1], .own 1 [.int .i64 2, .int .i64 2], .own 1 [.int .i64 2, .int .i64 3], .own 1 [.int .i64 3, .int .i64 2]] 3 3) ?_
    refine bd (v := (PV.sl (h.length + 7) 0 2, h ++ [PObj.own 1 [.int .i64 1, .int .i64 1], .own 1 [.int .i64 1, .int .i64 2], .own 1 [.int .i64 2, .int .i64 1], .own 1 [.int .i64 2, .int .i64 2], .own 1 [.int .i64 2, .int .i64 3], .own 1 [.int .i64 3, .int .i64 2], .own 1 [.int .i64 3, .int .i64 3], .own 1 [.int .i64 2, .int .i64 4]])) (lit2 h [PObj.own 1 [.int .i64 1, .int .i64 1], .own 1 [.int .i64 1, .int .i64 2], .own 1 [.int .i64 2, .int .i64 1], .own 1 [.int .i64 2, .int .i64 2], .own 1 [.int .i64 2, .int .i64 3], .own 1 [.int .i64 3, .int .i64 2], .own 1 [.int .i64 3, .int .i64 3]] 2 4) ?_
    refine bd (v := (PV.sl (h.length + 8) 0 2, h ++ [PObj.own 1 [.int .i64 1, .int .i64 1], .own 1 [.int .i64 1, .int .i64 2], .own 1 [.int .i64 2, .int .i64 1], .own 1 [.int .i64 2, .int .i64 2], .own 1 [.int .i64 2, .int .i64 3], .own 1 [.int .i64 3, .int .i64 2], .own 1 [.int .i64 3, .int .i64 3], .own 1 [.int .i64 2, .int .i64 4], .own 1 [.int .i64 4, .int .i64 2]])) (lit2 h [PObj.own 1 [.int .i64 1, .int .i64 1], .own 1 [.int .i64 1, .int .i64 2], .own 1 [.int .i64 2, .int .i64 1], .own 1 [.int .i64 2, .int .i64 2], .own 1 [.int .i64 2, .int .i64 3], .own 1 [.int .i64 3, .int .i64 2], .own 1 [.int .i64 3, .int .i64 3], .own 1 [.int .i64 2, .int .i64 4]] 4 2) ?_
    refine bd (v := (PV.sl (h.length + 9) 0 2, h ++ [PObj.own 1 [.int .i64 1, .int .i64 1], .own 1 [.int .i64 1, .int .i64 2], .own 1 [.int .i64 2, .int .i64 1], .own 1 [.int .i64 2, .int .i64 2], .own 1 [.int .i64 2, .int .i64 3], .own 1 [.int .i64 3, .int .i64 2], .own 1 [.int .i64 3, .int .i64 3], .own 1 [.int .i64 2, .int .i64 4], .own 1 [.int .i64 4, .int .i64 2], .own 1 [.int .i64 1, .int .i64 4]])) (lit2 h [PObj.own 1 [.int .i64 1, .int .i64 1], .own 1 [.int .i64 1, .int .i64 2], .own 1 [.int .i64 2, .int .i64 1], .own 1 [.int .i64 2, .int .i64 2], .own 1 [.int .i64 2, .int .i64 3], .own 1 [.int .i64 3, .int .i64 2], .own 1 [.int .i64 3, .int .i64 3], .own 1 [.int .i64 2, .int .i64 4], .own 1 [.int .i64 4, .int .i64 2]] 1 4) ?_
    refine bd (v := (PV.sl (h.length + 10) 0 2, h ++ [PObj.own 1 [.int .i64 1, .int .i64 1], .own 1 [.int .i64 1, .int .i64 2], .own 1 [.int .i64 2, .int .i64 1], .own 1 [.int .i64 2, .int .i64 2], .own 1 [.int .i64 2, .int .i64 3], .own 1 [.int .i64 3, .int .i64 2], .own 1 [.int .i64 3, .int .i64 3], .own 1 [.int .i64 2, .int .i64 4], .own 1 [.int .i64 4, .int .i64 2], .own 1 [.int .i64 1, .int .i64 4], .own 1 [.int .i64 2, .int .i64 2]])) (lit2 h [PObj.own 1 [.int .i64 1, .int .i64 1], .own 1 [.int .i64 1, .int .i64 2], .own 1 [.int .i64 2, .int .i64 1], .own 1 [.int .i64 2, .int .i64 2], .own 1 [.int .i64 2, .int .i64 3], .own 1 [.int .i64 3, .int .i64 2], .own 1 [.int .i64 3, .int .i64 3], .own 1 [.int .i64 2, .int .i64 4], .own 1 [.int .i64 4, .int .i64 2], .own 1 [.int .i64 1, .int .i64 4]] 2 2) ?_
    refine bd (v := (PV.sl (h.length + 11) 0 2, h ++ [PObj.own 1 [.int .i64 1, .int .i64 1], .own 1 [.int .i64 1, .int .i64 2], .own 1 [.int .i64 2, .int .i64 1], .own 1 [.int .i64 2, .int .i64 2], .own 1 [.int .i64 2, .int .i64 3], .own 1 [.int .i64 3, .int .i64 2], .own 1 [.int .i64 3, .int .i64 3], .own 1 [.int .i64 2, .int .i64 4], .own 1 [.int .i64 4, .int .i64 2], .own 1 [.int .i64 1, .int .i64 4], .own 1 [.int .i64 2, .int .i64 2], .own 1 [.int .i64 2, .int .i64 3]])) (lit2 h [PObj.own 1 [.int .i64 1, .int .i64 1], .own 1 [.int .i64 1, .int .i64 2], .own 1 [.int .i64 2, .int .i64 1], .own 1 [.int .i64 2, .int .i64 2], .own 1 [.int .i64 2, .int .i64 3], .own 1 [.int .i64 3, .int .i64 2], .own 1 [.int .i64 3, .int .i64 3], .own 1 [.int .i64 2, .int .i64 4], .own 1 [.int .i64 4, .int .i64 2], .own 1 [.int .i64 1, .int .i64 4], .own 1 [.int .i64 2, .int .i64 2]] 2 3) ?_
    refine bd (v := (PV.sl (h.length + 12) 0 2, h ++ [PObj.own 1 [.int .i64 1, .int .i64 1], .own 1 [.int .i64 1, .int .i64 2], .own 1 [.int .i64 2, .int .i64 1], .own 1 [.int .i64 2, .int .i64 2], .own 1 [.int .i64 2, .int .i64 3], .own 1 [.int .i64 3, .int .i64 2], .own 1 [.int .i64 3, .int .i64 3], .own 1 [.int .i64 2, .int .i64 4], .own 1 [.int .i64 4, .int .i64 2], .own 1 [.int .i64 1, .int .i64 4], .own 1 [.int .i64 2, .int .i64 2], .own 1 [.int .i64 2, .int .i64 3], .own 1 [.int .i64 3, .int .i64 2]])) (lit2 h [PObj.own 1 [.int .i64 1, .int .i64 1], .own 1 [.int .i64 1, .int .i64 2], .own 1 [.int .i64 2, .int .i64 1], .own 1 [.int .i64 2, .int .i64 2], .own 1 [.int .i64 2, .int .i64 3], .own 1 [.int .i64 3, .int .i64 2], .own 1 [.int .i64 3, .int .i64 3], .own 1 [.int .i64 2, .int .i64 4], .own 1 [.int .i64 4, .int .i64 2], .own 1 [.int .i64 1, .int .i64 4], .own 1 [.int .i64 2, .int .i64 2], .own 1 [.int .i64 2, .int .i64 3]] 3 2) ?_
    refine bd (v := (PV.sl (h.length + 13) 0 13, h ++ boardObjs h.length)) ?_ ?_
    · refine (lit13 _ _ _ _ _ _ _ _ _ _ _ _ _ _).trans ?_; simp [boardObjs]
    refine bd e1 (bd hix (bd l1 (bd e2 ?_)))
    refine cdT ?_
    refine bd (v := (PV.sl (h2.length + 0) 0 2, h2 ++ [PObj.own 1 [.int .i64 0, .int .i64 2]])) (by have := lit2 h2 [] 0 2; simpa using this) ?_
    refine bd (v := (PV.sl (h2.length + 1) 0 2, h2 ++ [PObj.own 1 [.int .i64 0, .int .i64 2], .own 1 [.int .i64 3, .int .i64 4]])) (lit2 h2 [PObj.own 1 [.int .i64 0, .int .i64 2]] 3 4) ?_
    refine bd (v := (PV.sl (h2.length + 2) 0 2, h2 ++ [PObj.own 1 [.int .i64 0, .int .i64 2], .own 1 [.int .i64 3, .int .i64 4], .own 1 [.int .i64 5, .int .i64 1]])) (lit2 h2 [PObj.own 1 [.int .i64 0, .int .i64 2], .own 1 [.int .i64 3, .int .i64 4]] 5 1) ?_
    refine bd (v := (PV.sl (h2.length + 3) 0 2, h2 ++ [PObj.own 1 [.int .i64 0, .int .i64 2], .own 1 [.int .i64 3, .int .i64 4], .own 1 [.int .i64 5, .int .i64 1], .own 1 [.int .i64 2, .int .i64 (-1)]])) (lit2 h2 [PObj.own 1 [.int .i64 0, .int .i64 2], .own 1 [.int .i64 3, .int .i64 4], .own 1 [.int .i64 5, .int .i64 1]] 2 (-1)) ?_
    refine bd (v := (PV.sl (h2.length + 4) 0 2, h2 ++ [PObj.own 1 [.int .i64 0, .int .i64 2], .own 1 [.int .i64 3, .int .i64 4], .own 1 [.int .i64 5, .int .i64 1], .own 1 [.int .i64 2, .int .i64 (-1)], .own 1 [.int .i64 1, .int .i64 5]])) (lit2 h2 [PObj.own 1 [.int .i64 0, .int .i64 2], .own 1 [.int .i64 3, .int .i64 4], .own 1 [.int .i64 5, .int .i64 1], .own 1 [.int .i64 2, .int .i64 (-1)]] 1 5) ?_
    refine bd (v := (PV.sl (h2.length + 5) 0 5, h2 ++ noneObjs h2.length)) ?_ ?_
    · refine (lit5 _ _ _ _ _ _).trans ?_; simp [noneObjs]
    refine bd e3 (bd hix' (bd l3 ?_))
    exact bd g1' (bd g2' (bd g3' (bd g4' (bd res_int (bd res_int rfl)))))

end Go.Proofs.YtpaehbfknlpkbaaDoor

/- Promise 1: boards are turned. -/
set_option maxRecDepth 20000
namespace Go.Proofs.YtpaehbfknlpkbaaDoor
open Go Go.Ip Go.RowKit G

variable (g : Nat → PV) (lf n : Nat)

theorem boardOk_N (N : Nat) (hN : 2 ≤ N) (h : PHeap) (r c : Int) : CL g lf N fn_impl_BoardOk [.int .i64 r, .int .i64 c] h = some (.bool (boardB r c), h) := by
  obtain ⟨n, rfl⟩ : ∃ n, N = n + 2 := ⟨N - 2, by omega⟩
  exact boardOk_calls g lf n h r c
theorem specBoardOk_N (N : Nat) (hN : 2 ≤ N) (h : PHeap) (r c : Int) : CL g lf N fn_spec_BoardOk [.int .i64 r, .int .i64 c] h = some (.bool (boardB r c), h) := by
  obtain ⟨n, rfl⟩ : ∃ n, N = n + 2 := ⟨N - 2, by omega⟩
  exact specBoardOk_calls g lf n h r c

end Go.Proofs.YtpaehbfknlpkbaaDoor

/- The position that the model draws: at most ten numbers, whatever they are. -/
set_option maxRecDepth 20000
namespace Go.Proofs.YtpaehbfknlpkbaaDoor
open Go Go.Ip Go.RowKit G

variable (g : Nat → PV) (lf n : Nat)

theorem mul_bound {r c : Int} (h1 : -1 ≤ r) (h2 : r ≤ 5) (h3 : -1 ≤ c) (h4 : c ≤ 5) : -5 ≤ r * c ∧ r * c ≤ 25 := by
  have : r = -1 ∨ r = 0 ∨ r = 1 ∨ r = 2 ∨ r = 3 ∨ r = 4 ∨ r = 5 := by omega
  rcases this with rfl | rfl | rfl | rfl | rfl | rfl | rfl <;> omega

theorem OwnSl.keepOnly {n id : Nat} {h h' : PHeap} {p : PV} {xs : List Int} (s : OwnSl n h p xs) (hk : Only id (id + 1) h h') (hn : id < n) : OwnSl n h' p xs :=
  s.keepX (m := h.length) hk.x hn (Nat.le_refl _)

end Go.Proofs.YtpaehbfknlpkbaaDoor

/- Promise 3: free boards are positions. -/
set_option maxRecDepth 20000
namespace Go.Proofs.YtpaehbfknlpkbaaDoor
open Go Go.Ip Go.RowKit G

variable (g : Nat → PV) (lf n : Nat)

theorem alive_calls (N : Nat) (hN : 3 ≤ N) (h : PHeap) : CL g lf N fn_laws_alive [] h = some (.bool true, h) := by
  obtain ⟨n, rfl⟩ : ∃ n, N = n + 1 := ⟨N - 1, by omega⟩
  rw [laws_alive.call_eq]
  have b22 : boardB 2 2 = true := by decide
  have b02 : boardB 0 2 = false := by decide
  have e1 := boardOk_N g lf n (by omega) h 2 2
  have e2 := boardOk_N g lf n (by omega) h 0 2
  rw [b22] at e1
  rw [b02] at e2
  unfold laws_alive.main
  exact bd e1 (bd (want_bool (x := true) (y := true)) (bd e2 (bd (want_bool (x := true) (y := true)) (bd (v := (PV.bool true, h)) rfl (bd (v := PV.bool true) rfl (bd res_bool rfl))))))

theorem positionOk_N {xs : List Int} {p : PV} {h : PHeap} (N : Nat) (hN : 3 ≤ N) (r c : Int) (hp : IntSl .i64 h p xs) (hl : xs.length ≤ 2 ^ 36) (hf : xs.length < lf) :
    CL g lf N fn_impl_PositionOk [.int .i64 r, .int .i64 c, p] h = some (.bool (posB r c xs), h) := by
  obtain ⟨n, rfl⟩ : ∃ n, N = n + 3 := ⟨N - 3, by omega⟩
  exact positionOk_calls g lf n r c hp hl hf
theorem specPositionOk_N {xs : List Int} {p : PV} {h : PHeap} (N : Nat) (hN : 3 ≤ N) (r c : Int) (hp : IntSl .i64 h p xs) (hl : xs.length ≤ 2 ^ 36) (hf : xs.length < lf) :
    CL g lf N fn_spec_PositionOk [.int .i64 r, .int .i64 c, p] h = some (.bool (posB r c xs), h) := by
  obtain ⟨n, rfl⟩ : ∃ n, N = n + 3 := ⟨N - 3, by omega⟩
  exact specPositionOk_calls g lf n r c hp hl hf

theorem posB_free {r c : Int} {m : Nat} (hb : boardB r c = true) (hm : (m : Int) = r * c) : posB r c (List.replicate m 0) = true := by
  unfold posB
  rw [Bool.and_eq_true, Bool.and_eq_true]
  refine ⟨⟨hb, decide_eq_true (by rw [List.length_replicate]; exact hm)⟩, ?_⟩
  rw [List.all_eq_true]
  intro y hy
  rw [List.eq_of_mem_replicate hy]
  decide

end Go.Proofs.YtpaehbfknlpkbaaDoor

/- Promise 5: turned by half a turn twice it is as before. -/
set_option maxRecDepth 20000
namespace Go.Proofs.YtpaehbfknlpkbaaDoor
open Go Go.Ip Go.RowKit G

variable (g : Nat → PV) (lf n : Nat)

/-! ### sameInts: are two lists equal? -/
theorem sameInts_loop {xs ys : List Int} {p q : PV} {h : PHeap} (hp : IntSl .i64 h p xs) (hq : IntSl .i64 h q ys) (hxy : xs.length = ys.length) (hl : xs.length ≤ 2 ^ 36) : ∀ (m i fuel : Nat), i + m = xs.length → m < fuel →
    loopK (ev ((env g lf n).cx Tryd.prog laws_sameInts.kl) laws_sameInts.lp0) fuel (laws_sameInts.st0 p q (.int .i64 i) h) (laws_sameInts.K0 (env g lf n) (kTop Tryd.prog Tryd.f22)) = some (.bool (decide (xs.drop i = ys.drop i)), h)
  | 0, i, fuel, him, hf => by
    obtain ⟨f, rfl⟩ : ∃ f, fuel = f + 1 := ⟨fuel - 1, by omega⟩
    rw [loopK_succ, laws_sameInts.body0_eq]
    have hlt : ¬ ((i : Int) < (xs.length : Int)) := by omega
    have hd : xs.drop i = ys.drop i := by rw [List.drop_eq_nil_of_le (by omega), List.drop_eq_nil_of_le (by omega)]
    simp [laws_sameInts.body0, hp.len', hlt, laws_sameInts.after0_se0_0_1_5_14, hd]
  | m + 1, i, fuel, him, hf => by
    obtain ⟨f, rfl⟩ : ∃ f, fuel = f + 1 := ⟨fuel - 1, by omega⟩
    have hi : i < xs.length := by omega
    have hi' : i < ys.length := by omega
    obtain ⟨a, ha, hla⟩ := hp.at' hi
    obtain ⟨b, hb, hlb⟩ := hq.at' hi'
    have ih := sameInts_loop hp hq hxy hl m (i + 1) f (by omega) (by omega)
    have hlt : (i : Int) < (xs.length : Int) := by omega
    rw [loopK_succ, laws_sameInts.body0_eq]
    have hdx : xs.drop i = xs[i] :: xs.drop (i + 1) := List.drop_eq_getElem_cons hi
    have hdy : ys.drop i = ys[i] :: ys.drop (i + 1) := List.drop_eq_getElem_cons hi'
    by_cases he : xs[i] = ys[i]
    · have hne : (xs[i] != ys[i]) = false := by simp [he]
      simp only [laws_sameInts.body0, env_len, env_bin, env_indexAddr, env_load, hp.len', bin_lss, hlt, decide_true, Option.bind_some, cond_bool, cond_true, ha, hla, hb, hlb, bin_neq, hne, cond_false, bin_add, nx (show i < 2 ^ 40 by omega), kLoop_normal, ih]
      rw [hdx, hdy, he]
      simp only [List.cons.injEq, true_and]
    · have hne : (xs[i] != ys[i]) = true := by simp [he]
      simp only [laws_sameInts.body0, env_len, env_bin, env_indexAddr, env_load, hp.len', bin_lss, hlt, decide_true, Option.bind_some, cond_bool, cond_true, ha, hla, hb, hlb, bin_neq, hne, kLoop_ret, laws_sameInts.K0_ret, laws_sameInts.top_sr_4, res_bool, Option.bind_some]
      rw [hdx, hdy]
      simp only [List.cons.injEq, he, false_and, decide_false]

theorem sameInts_N {xs ys : List Int} {p q : PV} {h : PHeap} (N : Nat) (hN : 1 ≤ N) (hp : IntSl .i64 h p xs) (hq : IntSl .i64 h q ys) (hl : xs.length ≤ 2 ^ 36) (hf : xs.length < lf) :
    CL g lf N fn_laws_sameInts [p, q] h = some (.bool (decide (xs = ys)), h) := by
  obtain ⟨n, rfl⟩ : ∃ n, N = n + 1 := ⟨N - 1, by omega⟩
  rw [laws_sameInts.call_eq]
  by_cases hxy : xs.length = ys.length
  · have := sameInts_loop g lf n hp hq hxy hl xs.length 0 lf (by omega) hf
    simp only [laws_sameInts.main, env_len, env_bin, env_lf, hp.len', hq.len', Option.bind_some, bin_neq, hxy, bne_self_eq_false, cond_bool, cond_false]
    simpa using this
  · have hne : ((xs.length : Int) != (ys.length : Int)) = true := by simp; omega
    have hd : ¬ xs = ys := fun e => hxy (by rw [e])
    simp [laws_sameInts.main, hp.len', hq.len', hne, hd]

theorem cellsFrom_count (x : Int) : ∀ (ys : List Int) (i : Nat), (cellsFrom x i ys).length = ys.count x
  | [], _ => rfl
  | y :: ys, i => by
    have := cellsFrom_count x ys (i + 1)
    rw [cellsFrom, List.count_cons]
    by_cases h : y = x
    · rw [if_pos h, List.length_cons, this, if_pos (by simp [h])]
    · rw [if_neg h, this, if_neg (by simp [h])]; rfl

end Go.Proofs.YtpaehbfknlpkbaaDoor

/- Promise 4: each cell is of one kind. -/
set_option maxRecDepth 20000
namespace Go.Proofs.YtpaehbfknlpkbaaDoor
open Go Go.Ip Go.RowKit G

variable (g : Nat → PV) (lf n : Nat)

/-! ### what is listed -/
/-! ### ascend -/
/-! ### the law's own loops -/
end Go.Proofs.YtpaehbfknlpkbaaDoor

/- What both functions that mirror a position compute, and the exact law on them. -/
set_option maxRecDepth 20000
namespace Go.Proofs.YtpaehbfknlpkbaaDoor
open Go Go.Ip Go.RowKit G

variable (g : Nat → PV) (lf n : Nat)

def swapI (x : Int) : Int := if x = 1 then 2 else if x = 2 then 1 else x
/-- Where the mirrored position's cell k comes from: of a board of R rows and C columns. -/
def sig (R C k : Nat) : Nat := k % R * C + k / R
/-- A board's sides, as numbers. -/
def Sides (r c : Int) (R C : Nat) (xs : List Int) : Prop := r = (R : Int) ∧ c = (C : Int) ∧ 1 ≤ R ∧ R ≤ 4 ∧ 1 ≤ C ∧ C ≤ 4 ∧ R * C ≤ 9 ∧ xs.length = R * C ∧ xs.all contentB = true

theorem sides_of {r c : Int} {xs : List Int} (h : posB r c xs = true) : ∃ R C, Sides r c R C xs := by
  unfold posB at h
  rw [Bool.and_eq_true, Bool.and_eq_true] at h
  have hb := h.1.1
  unfold boardB at hb
  have hm := of_decide_eq_true hb
  have hl := of_decide_eq_true h.1.2
  obtain ⟨R, rfl⟩ := Int.eq_ofNat_of_zero_le (show 0 ≤ r by omega)
  obtain ⟨C, rfl⟩ := Int.eq_ofNat_of_zero_le (show 0 ≤ c by omega)
  have h9 := hm.2.2.2.2
  rw [← Int.natCast_mul] at h9 hl
  exact ⟨R, C, rfl, rfl, by omega, by omega, by omega, by omega, by omega, by omega, h.2⟩

theorem f_rem (i R : Nat) (hR : 1 ≤ R) : binP Tryd.prog .rem 3 (.int .i64 (i : Int)) (.int .i64 (R : Int)) = some (.int .i64 ((i % R : Nat) : Int)) := by
  rw [bin_rem (show (R : Int) ≠ 0 by omega)]; rfl
theorem f_quo (i R : Nat) (hR : 1 ≤ R) (hi : i ≤ 1000) : binP Tryd.prog .quo 3 (.int .i64 (i : Int)) (.int .i64 (R : Int)) = some (.int .i64 ((i / R : Nat) : Int)) := by
  rw [bin_quo (show (R : Int) ≠ 0 by omega), show ((i : Int).tdiv (R : Int)) = ((i / R : Nat) : Int) from rfl]
  have := Nat.div_le_self i R
  obtain ⟨q, hq⟩ : ∃ q, q = i / R := ⟨_, rfl⟩
  rw [← hq] at this ⊢
  rw [wr (by omega)]
theorem f_mul (a b : Nat) (h : a * b ≤ 1000) : binP Tryd.prog .mul 3 (.int .i64 (a : Int)) (.int .i64 (b : Int)) = some (.int .i64 ((a * b : Nat) : Int)) := by
  rw [bin_mul, ← Int.natCast_mul, wr (by omega)]
theorem f_add (a b : Nat) (h : a + b ≤ 1000) : binP Tryd.prog .add 3 (.int .i64 (a : Int)) (.int .i64 (b : Int)) = some (.int .i64 ((a + b : Nat) : Int)) := by
  rw [bin_add, ← Int.natCast_add, wr (by omega)]

theorem l1Other_N (N : Nat) (hN : 1 ≤ N) (h : PHeap) {x : Int} (hx : contentB x = true) : CL g lf N fn_spec_l1Other [.int .i64 x] h = some (.int .i64 (swapI x), h) := by
  obtain ⟨n, rfl⟩ : ∃ n, N = n + 1 := ⟨N - 1, by omega⟩
  rw [spec_l1Other.call_eq]
  unfold contentB at hx
  have hx := of_decide_eq_true hx
  have : x = 0 ∨ x = 1 ∨ x = 2 := by omega
  rcases this with rfl | rfl | rfl
  · simp [spec_l1Other.main, swapI]
  · simp [spec_l1Other.main, swapI, wr]
  · simp [spec_l1Other.main, swapI, wr]

end Go.Proofs.YtpaehbfknlpkbaaDoor

