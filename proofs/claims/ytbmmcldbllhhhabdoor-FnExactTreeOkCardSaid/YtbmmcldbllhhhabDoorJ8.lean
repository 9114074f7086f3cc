/- Texts of this seat, in their order, put together by program. -/
import Derived.Test.YtbmmcldbllhhhabDoorJ7
import Derived.IntWalk
import Derived.Test.YtbmmcldbllhhhabDoorProg
import Derived.KernelRfl
set_option linter.unusedSimpArgs false
set_option linter.unusedVariables false
set_option linter.unusedSectionVars false
/- What the operations come to on values that are written out: rules for the simplifier; and the types of this program. -/
set_option maxRecDepth 20000
namespace Go.Proofs.YtbmmcldbllhhhabDoor
open Go Go.Ip

section
variable {P : Program} {t : TypeId} {k : IntKind} {a b : Int} {h : PHeap}

@[simp] theorem bin_add : binP P .add t (.int k a) (.int k b) = some (.int k (k.wrap (a + b))) := by simp [binP, binI]
@[simp] theorem bin_sub : binP P .sub t (.int k a) (.int k b) = some (.int k (k.wrap (a - b))) := by simp [binP, binI]
@[simp] theorem bin_mul : binP P .mul t (.int k a) (.int k b) = some (.int k (k.wrap (a * b))) := by simp [binP, binI]
theorem bin_quo (hb : b ≠ 0) : binP P .quo t (.int k a) (.int k b) = some (.int k (k.wrap (a.tdiv b))) := by simp [binP, binI, hb]
theorem bin_rem (hb : b ≠ 0) : binP P .rem t (.int k a) (.int k b) = some (.int k (a.tmod b)) := by simp [binP, binI, hb]
@[simp] theorem bin_eql : binP P .eql t (.int k a) (.int k b) = some (.bool (a == b)) := by simp [binP, binI]
@[simp] theorem bin_neq : binP P .neq t (.int k a) (.int k b) = some (.bool (a != b)) := by simp [binP, binI]
@[simp] theorem bin_lss : binP P .lss t (.int k a) (.int k b) = some (.bool (decide (a < b))) := by simp [binP, binI]
@[simp] theorem bin_leq : binP P .leq t (.int k a) (.int k b) = some (.bool (decide (a ≤ b))) := by simp [binP, binI]
@[simp] theorem bin_gtr : binP P .gtr t (.int k a) (.int k b) = some (.bool (decide (b < a))) := by simp [binP, binI]
@[simp] theorem bin_geq : binP P .geq t (.int k a) (.int k b) = some (.bool (decide (b ≤ a))) := by simp [binP, binI]
@[simp] theorem un_not {x : Bool} : unP .not (.bool x) = some (.bool (!x)) := rfl
@[simp] theorem un_neg : unP .neg (.int k a) = some (.int k (k.wrap (0 - a))) := rfl
@[simp] theorem pick_bool {x : Bool} {u v : PV} : pickP (.bool x) u v = some (bif x then u else v) := rfl
@[simp] theorem want_bool {x y : Bool} : wantV (.bool x) y = some (x == y) := rfl
@[simp] theorem want_undef {y : Bool} : wantV (.tup []) y = some false := rfl
@[simp] theorem cond_bool {x : Bool} {u v : Res} : condP (.bool x) u v = bif x then u else v := rfl
@[simp] theorem res_int : resV (.int k a) = some (.int k a) := rfl
@[simp] theorem res_bool {x : Bool} : resV (.bool x) = some (.bool x) := rfl
@[simp] theorem res_sl {i o l : Nat} : resV (.sl i o l) = some (.sl i o l) := rfl
@[simp] theorem res_nilsl : resV .nilsl = some .nilsl := rfl
@[simp] theorem res_ptr {i o : Nat} : resV (.ptr i o) = some (.ptr i o) := rfl
@[simp] theorem pv_some' {v : PV} : pv h (some v) = some (v, h) := rfl
@[simp] theorem ptr_ptr {i o : Nat} : ptrP (.ptr i o) = some (.ptr i o) := rfl
@[simp] theorem extract_tup {l : List PV} {i : Nat} : extractP (.tup l) i = l[i]? := rfl
@[simp] theorem fold_nil {f : PV → PV → Option PV} {x : PV} : foldP f x [] = some x := rfl
@[simp] theorem fold_cons {f : PV → PV → Option PV} {x y : PV} {ys : List PV} : foldP f x (y :: ys) = (f x y).bind fun z => foldP f z ys := rfl
@[simp] theorem max2_int {k' : IntKind} : maxP2 (.int k a) (.int k' b) = some (.int k (if b > a then b else a)) := rfl
@[simp] theorem min2_int {k' : IntKind} : minP2 (.int k a) (.int k' b) = some (.int k (if b < a then b else a)) := rfl
theorem wr {x : Int} (hx : -9223372036854775808 ≤ x ∧ x ≤ 9223372036854775807) : IntKind.i64.wrap x = x := by rw [IntKind.wrap_i64]; omega

theorem bin_eqlB {x y : Bool} (ht : isBoolT P t = true) : binP P .eql t (.bool x) (.bool y) = some (.bool (x == y)) := by simp [binP, ht]
theorem bin_neqB {x y : Bool} (ht : isBoolT P t = true) : binP P .neq t (.bool x) (.bool y) = some (.bool (!(x == y))) := by simp [binP, ht]
end

@[simp] theorem ty_bool : isBoolT Tryd.prog 4 = true := by kernel_rfl
@[simp] theorem neqB {x y : Bool} : binP Tryd.prog .neq 4 (.bool x) (.bool y) = some (.bool (!(x == y))) := bin_neqB ty_bool
@[simp] theorem eqlB {x y : Bool} : binP Tryd.prog .eql 4 (.bool x) (.bool y) = some (.bool (x == y)) := bin_eqlB ty_bool

end Go.Proofs.YtbmmcldbllhhhabDoor

/- Slices of integers on the interpreter's heap: how they are read, made, written and appended to. -/
set_option maxRecDepth 20000
namespace Go.Proofs.YtbmmcldbllhhhabDoor
open Go Go.Ip G

def kLoop (f : St → (PX → St → Res) → Res) (n : Nat) (k : PX → St → Res) : PX → St → Res := fun x s => match x with | .normal => loopK f n s k | x => k x s
theorem loopK_succ (f : St → (PX → St → Res) → Res) (n : Nat) (s : St) (k : PX → St → Res) : loopK f (n + 1) s k = f s (kLoop f n k) := rfl
@[simp] theorem kLoop_normal (f : St → (PX → St → Res) → Res) (n : Nat) (s : St) (k : PX → St → Res) : kLoop f n k .normal s = loopK f n s k := rfl
@[simp] theorem kLoop_exit (f : St → (PX → St → Res) → Res) (n i : Nat) (s : St) (k : PX → St → Res) : kLoop f n k (.exit i) s = k (.exit i) s := rfl
@[simp] theorem kLoop_ret (f : St → (PX → St → Res) → Res) (n : Nat) (s : St) (k : PX → St → Res) : kLoop f n k .ret s = k .ret s := rfl

/-- The first n objects are as they were. -/
def Keep (n : Nat) (h h' : PHeap) : Prop := h.length ≤ h'.length ∧ ∀ i, i < n → h'[i]? = h[i]?

theorem Keep.refl (n : Nat) (h : PHeap) : Keep n h h := ⟨Nat.le_refl _, fun _ _ => rfl⟩
theorem Keep.trans {n : Nat} {a b c : PHeap} (h : Keep n a b) (k : Keep n b c) : Keep n a c := ⟨Nat.le_trans h.1 k.1, fun i hi => (k.2 i hi).trans (h.2 i hi)⟩
theorem Keep.mono {n m : Nat} {a b : PHeap} (h : Keep n a b) (hm : m ≤ n) : Keep m a b := ⟨h.1, fun i hi => h.2 i (by omega)⟩
theorem Keep.append (n : Nat) (h E : PHeap) (hn : n ≤ h.length) : Keep n h (h ++ E) := ⟨by simp, fun i hi => List.getElem?_append_left (by omega)⟩
theorem Keep.set (n : Nat) (h : PHeap) (i : Nat) (o : PObj) (hi : n ≤ i) : Keep n h (h.set i o) := ⟨by simp, fun j hj => List.getElem?_set_ne (by omega)⟩

theorem cellsAt_keep {n : Nat} {h h' : PHeap} (k : Keep n h h') {id : Nat} (hi : id < n) : cellsAt h' id = cellsAt h id := by
  unfold cellsAt; rw [k.2 id hi]

theorem lt_of_cell {h : PHeap} {id j : Nat} {v : PV} (hv : (cellsAt h id)[j]? = some v) : id < h.length := by
  unfold cellsAt at hv
  cases ho : h[id]? with
  | none => rw [ho] at hv; simp at hv
  | some o => exact (List.getElem?_eq_some_iff.1 ho).1

theorem IntSl.keep {k : IntKind} {h h' : PHeap} {p : PV} {xs : List Int} (s : IntSl k h p xs) (hk : Keep h.length h h') : IntSl k h' p xs := by
  rcases s with s | ⟨id, off, hp, hc⟩
  · exact .inl s
  · exact .inr ⟨id, off, hp, fun i x hx => by rw [cellsAt_keep hk (lt_of_cell (hc i x hx))]; exact hc i x hx⟩

theorem IntSl.nil (k : IntKind) (h : PHeap) : IntSl k h .nilsl [] := .inl ⟨rfl, rfl⟩

section
variable {P : Program} {T I : TypeId}

theorem IntSl.len {k : IntKind} {h : PHeap} {p : PV} {xs : List Int} (s : IntSl k h p xs) (hT : P.underlying T = some (.slice I)) : lenP P T p = some (.int .i64 xs.length) := by
  rcases s with ⟨rfl, rfl⟩ | ⟨id, off, rfl, hc⟩ <;> simp [lenP, hT]

theorem IntSl.at {k : IntKind} {h : PHeap} {p : PV} {xs : List Int} (s : IntSl k h p xs) (hT : P.underlying T = some (.slice I)) (hS : sizeT P I = some 1) (hA : isAggT P I = some false) {i : Nat} (hi : i < xs.length) :
    ∃ a, indexAddrP P T p (.int .i64 i) = some a ∧ loadP P I a h = some (.int k xs[i]) := by
  rcases s with ⟨rfl, rfl⟩ | ⟨id, off, rfl, hc⟩
  · simp at hi
  · refine ⟨.ptr id (off + i), ?_, ?_⟩
    · simp [indexAddrP, hT, hS, hi]
    · simp only [loadP, hA]
      exact hc i _ (List.getElem?_eq_getElem hi)
end

/-- A slice of integers that the call itself made, from object n on. -/
def OwnSl (n : Nat) (h : PHeap) (p : PV) (xs : List Int) : Prop :=
  (p = .nilsl ∧ xs = []) ∨ ∃ id, n ≤ id ∧ p = .sl id 0 xs.length ∧ h[id]? = some (.own 1 (xs.map (.int .i64)))

theorem OwnSl.int {n : Nat} {h : PHeap} {p : PV} {xs : List Int} (s : OwnSl n h p xs) : IntSl .i64 h p xs := by
  rcases s with s | ⟨id, _, hp, ho⟩
  · exact .inl s
  · refine .inr ⟨id, 0, hp, fun i x hx => ?_⟩
    simp [cellsAt, ho, PObj.get, hx]

theorem OwnSl.mono {n m : Nat} {h : PHeap} {p : PV} {xs : List Int} (s : OwnSl n h p xs) (hm : m ≤ n) : OwnSl m h p xs := by
  rcases s with s | ⟨id, h1, h2⟩
  · exact .inl s
  · exact .inr ⟨id, by omega, h2⟩

theorem OwnSl.keep {n : Nat} {h h' : PHeap} {p : PV} {xs : List Int} (s : OwnSl n h p xs) (hk : Keep h.length h h') : OwnSl n h' p xs := by
  rcases s with s | ⟨id, h1, h2, h3⟩
  · exact .inl s
  · exact .inr ⟨id, h1, h2, by rw [hk.2 id (List.getElem?_eq_some_iff.1 h3).1]; exact h3⟩

theorem OwnSl.nil (n : Nat) (h : PHeap) : OwnSl n h .nilsl [] := .inl ⟨rfl, rfl⟩

theorem tyS : Tryd.prog.underlying 35 = some (.slice 3) := by kernel_rfl
theorem tySize : sizeT Tryd.prog 3 = some 1 := by kernel_rfl
theorem tyAgg : isAggT Tryd.prog 3 = some false := by kernel_rfl
theorem tyElem : elemT Tryd.prog 35 = some 3 := by kernel_rfl
theorem tyZero : zeroCellsT Tryd.prog 3 = some [.int .i64 0] := by kernel_rfl
theorem tySmall : smallT Tryd.prog 3 = true := by kernel_rfl

theorem IntSl.len' {k : IntKind} {h : PHeap} {p : PV} {xs : List Int} (s : IntSl k h p xs) : lenP Tryd.prog 35 p = some (.int .i64 xs.length) := s.len tyS
theorem IntSl.at' {k : IntKind} {h : PHeap} {p : PV} {xs : List Int} (s : IntSl k h p xs) {i : Nat} (hi : i < xs.length) :
    ∃ a, indexAddrP Tryd.prog 35 p (.int .i64 i) = some a ∧ loadP Tryd.prog 3 a h = some (.int k xs[i]) := s.at tyS tySize tyAgg hi

theorem OwnSl.store {n : Nat} {h : PHeap} {p : PV} {xs : List Int} (s : OwnSl n h p xs) {i : Nat} (hi : i < xs.length) (x : Int) :
    ∃ a h', indexAddrP Tryd.prog 35 p (.int .i64 i) = some a ∧ storeP Tryd.prog 3 a (.int .i64 x) h = some h' ∧ OwnSl n h' p (xs.set i x) ∧ Keep n h h' ∧ h'.length = h.length := by
  rcases s with ⟨rfl, rfl⟩ | ⟨id, h1, rfl, h3⟩
  · simp at hi
  · have hid : id < h.length := (List.getElem?_eq_some_iff.1 h3).1
    refine ⟨.ptr id (0 + i), h.set id (.own 1 ((xs.set i x).map (.int .i64))), by simp [indexAddrP, tySize, hi], ?_, .inr ⟨id, h1, by simp, by rw [List.getElem?_set_self hid]⟩, Keep.set _ _ _ _ h1, by simp⟩
    simp only [storeP, h3, PV.cells, tySize, Nat.zero_add]
    rw [if_pos ⟨rfl, by simp; omega⟩]
    simp [setCells, List.map_set]

/-- One element more. -/
theorem OwnSl.append {n : Nat} {h : PHeap} {p : PV} {xs : List Int} (s : OwnSl n h p xs) (hn : n ≤ h.length) (x : Int) (hl : xs.length + 1 ≤ 2 ^ 36) :
    ∃ v p' h', buildSliceP Tryd.prog 35 1 [(0, .int .i64 x)] h = some v ∧ appendP Tryd.prog 35 35 p v.1 v.2 = some (p', h') ∧ OwnSl n h' p' (xs ++ [x]) ∧ Keep n h h' := by
  have hb : buildSliceP Tryd.prog 35 1 [(0, .int .i64 x)] h = some (.sl h.length 0 1, h ++ [.own 1 [.int .i64 x]]) := by
    simp [buildSliceP, tyElem, tySize, tyZero, repeatCells, fillP, PV.cells, setCells]
  have hsrc : srcP (h ++ [.own 1 [.int .i64 x]]) 1 (.sl h.length 0 1) = some (1, [.int .i64 x]) := by
    simp [srcP, cellsAt, PObj.get]
  rcases s with ⟨rfl, rfl⟩ | ⟨id, h1, rfl, h3⟩
  · refine ⟨_, .sl (h.length + 1) 0 1, h ++ [.own 1 [.int .i64 x]] ++ [.own 1 [.int .i64 x]], hb, ?_, .inr ⟨h.length + 1, by omega, rfl, ?_⟩, ?_⟩
    · simp [appendP, tyElem, tySize, tySmall, hsrc]
    · rw [List.getElem?_append_right (by simp)]; simp
    · rw [List.append_assoc]; exact Keep.append _ _ _ hn
  · have hid : id < h.length := (List.getElem?_eq_some_iff.1 h3).1
    have h3' : (h ++ [PObj.own 1 [.int .i64 x]])[id]? = some (.own 1 (xs.map (.int .i64))) := by rw [List.getElem?_append_left hid]; exact h3
    refine ⟨_, .sl (h.length + 1) 0 (xs.length + 1), ((h ++ [PObj.own 1 [.int .i64 x]]).set id .dead ++ [PObj.own 1 (xs.map (.int .i64) ++ [.int .i64 x])]), hb, ?_, .inr ⟨h.length + 1, by omega, by simp, ?_⟩, ?_⟩
    · simp [appendP, tyElem, tySize, tySmall, hsrc, h3', hl]
    · rw [List.getElem?_append_right (by simp)]; simp
    · exact ((Keep.append n h _ hn).trans (Keep.set n _ id .dead h1)).trans (Keep.append _ _ _ (by simp; omega))

/-- An empty literal. -/
theorem empty_lit {h : PHeap} : ∃ p h', buildSliceP Tryd.prog 35 0 [] h = some (p, h') ∧ OwnSl h.length h' p [] ∧ Keep h.length h h' := by
  refine ⟨.sl h.length 0 0, h ++ [.own 1 []], by simp [buildSliceP, tyElem, tySize, tyZero, repeatCells, fillP], .inr ⟨h.length, Nat.le_refl _, rfl, by simp⟩, Keep.append _ _ _ (Nat.le_refl _)⟩

theorem nx {i : Nat} (hi : i < 2 ^ 40) : IntKind.i64.wrap ((i : Int) + 1) = ((i + 1 : Nat) : Int) := by
  rw [wr (by omega)]; rfl

end Go.Proofs.YtbmmcldbllhhhabDoor

/- Of each function of this seat's program its plain form over the interpreter, written by program; each equation is the kernel's. -/
set_option linter.unusedVariables false
set_option maxRecDepth 100000
namespace Go.Proofs.YtbmmcldbllhhhabDoor.G
open Go Go.Ip Go.Proofs

namespace laws_FnTreeReply
noncomputable def main (E : Env) (x0 : PV) (h : PHeap) : Res :=
    (E.p.len 22 x0).bind fun v1 =>
    (E.p.bin .gtr 3 v1 (.int .i64 1048576)).bind fun v2 =>
    condP v2
     (
      (resV (.bool true)).bind fun v3 =>
      some (v3, h))
     (
      (E.C fn_spec_DrawTreeReply [x0] h).bind fun v4 =>
      (E.p.extract v4.1 0).bind fun v5 =>
      (E.p.extract v4.1 1).bind fun v6 =>
      (E.p.extract v4.1 2).bind fun v7 =>
      (E.p.extract v4.1 3).bind fun v8 =>
      (E.p.extract v4.1 4).bind fun v9 =>
      (E.C fn_impl_TreeReply [v5, v6, v7, v8, v9] v4.2).bind fun v10 =>
      (E.C fn_spec_TreeReply [v5, v6, v7, v8, v9] v10.2).bind fun v11 =>
      (E.p.bin .neq 3 v10.1 v11.1).bind fun v12 =>
      condP v12
       (
        (resV (.bool false)).bind fun v13 =>
        some (v13, v11.2))
       (
        (E.p.bin .lss 3 v10.1 (.int .i64 0)).bind fun v14 =>
        condP v14
         (
          (E.p.bin .eql 3 v10.1 (.int .i64 (-1))).bind fun v15 =>
          (wantV v15 true).bind fun v16 =>
          (bif v16 then some (v5, v11.2) else some (.tup [], v11.2)).bind fun v17 =>
          (wantV v15 true).bind fun v18 =>
          (bif v18 then some (v6, v17.2) else some (.tup [], v17.2)).bind fun v19 =>
          (wantV v15 true).bind fun v20 =>
          (bif v20 then some (v7, v19.2) else some (.tup [], v19.2)).bind fun v21 =>
          (wantV v15 true).bind fun v22 =>
          (bif v22 then E.C fn_impl_TreeOk [v17.1, v19.1, v21.1] v21.2 else some (.tup [], v21.2)).bind fun v23 =>
          (wantV v15 true).bind fun v24 =>
          (bif v24 then pv v23.2 (E.p.un .not v23.1) else some (.tup [], v23.2)).bind fun v25 =>
          (wantV v15 true).bind fun v26 =>
          (bif v26 then some (v25.1, v25.2) else some (.tup [], v25.2)).bind fun v27 =>
          (wantV v27.1 false).bind fun v28 =>
          (bif v28 then some (v5, v27.2) else some (.tup [], v27.2)).bind fun v29 =>
          (wantV v27.1 false).bind fun v30 =>
          (bif v30 then some (v6, v29.2) else some (.tup [], v29.2)).bind fun v31 =>
          (wantV v27.1 false).bind fun v32 =>
          (bif v32 then some (v8, v31.2) else some (.tup [], v31.2)).bind fun v33 =>
          (wantV v27.1 false).bind fun v34 =>
          (bif v34 then E.C fn_impl_TreeOk [v29.1, v31.1, v33.1] v33.2 else some (.tup [], v33.2)).bind fun v35 =>
          (wantV v27.1 false).bind fun v36 =>
          (bif v36 then pv v35.2 (E.p.un .not v35.1) else some (.tup [], v35.2)).bind fun v37 =>
          (wantV v15 true).bind fun v38 =>
          (bif v38 then pv v37.2 (E.p.pick v27.1 (.bool true) v37.1) else some (.tup [], v37.2)).bind fun v39 =>
          (wantV v15 true).bind fun v40 =>
          (bif v40 then some (v39.1, v39.2) else some (.tup [], v39.2)).bind fun v41 =>
          (wantV v41.1 false).bind fun v42 =>
          (bif v42 then some (v9, v41.2) else some (.tup [], v41.2)).bind fun v43 =>
          (wantV v41.1 false).bind fun v44 =>
          (bif v44 then some (v6, v43.2) else some (.tup [], v43.2)).bind fun v45 =>
          (wantV v41.1 false).bind fun v46 =>
          (bif v46 then pv v45.2 (E.p.len 23 v45.1) else some (.tup [], v45.2)).bind fun v47 =>
          (wantV v41.1 false).bind fun v48 =>
          (bif v48 then pv v47.2 (E.p.bin .geq 3 v43.1 v47.1) else some (.tup [], v47.2)).bind fun v49 =>
          (wantV v15 true).bind fun v50 =>
          (bif v50 then pv v49.2 (E.p.pick v41.1 (.bool true) v49.1) else some (.tup [], v49.2)).bind fun v51 =>
          (wantV v15 true).bind fun v52 =>
          (bif v52 then some (v51.1, v51.2) else some (.tup [], v51.2)).bind fun v53 =>
          (wantV v53.1 false).bind fun v54 =>
          (bif v54 then some (v7, v53.2) else some (.tup [], v53.2)).bind fun v55 =>
          (wantV v53.1 false).bind fun v56 =>
          (bif v56 then some (v9, v55.2) else some (.tup [], v55.2)).bind fun v57 =>
          (wantV v53.1 false).bind fun v58 =>
          (bif v58 then pv v57.2 (E.p.bin .shr 3 v55.1 v57.1) else some (.tup [], v57.2)).bind fun v59 =>
          (wantV v53.1 false).bind fun v60 =>
          (bif v60 then pv v59.2 (E.p.bin .rem 3 v59.1 (.int .i64 2)) else some (.tup [], v59.2)).bind fun v61 =>
          (wantV v53.1 false).bind fun v62 =>
          (bif v62 then pv v61.2 (E.p.bin .eql 3 v61.1 (.int .i64 0)) else some (.tup [], v61.2)).bind fun v63 =>
          (wantV v15 true).bind fun v64 =>
          (bif v64 then pv v63.2 (E.p.pick v53.1 (.bool true) v63.1) else some (.tup [], v63.2)).bind fun v65 =>
          (E.p.pick v15 v65.1 (.bool false)).bind fun v66 =>
          (wantV v66 true).bind fun v67 =>
          (bif v67 then E.C fn_laws_alive [] v65.2 else some (.tup [], v65.2)).bind fun v68 =>
          (E.p.pick v66 v68.1 (.bool false)).bind fun v69 =>
          (resV v69).bind fun v70 =>
          some (v70, v68.2))
         (
          (E.p.len 23 v6).bind fun v71 =>
          (E.p.bin .lss 3 v10.1 v71).bind fun v72 =>
          (wantV v72 true).bind fun v73 =>
          (bif v73 then some (v8, v11.2) else some (.tup [], v11.2)).bind fun v74 =>
          (wantV v72 true).bind fun v75 =>
          (bif v75 then some (v10.1, v74.2) else some (.tup [], v74.2)).bind fun v76 =>
          (wantV v72 true).bind fun v77 =>
          (bif v77 then pv v76.2 (E.p.bin .shr 3 v74.1 v76.1) else some (.tup [], v76.2)).bind fun v78 =>
          (wantV v72 true).bind fun v79 =>
          (bif v79 then pv v78.2 (E.p.bin .rem 3 v78.1 (.int .i64 2)) else some (.tup [], v78.2)).bind fun v80 =>
          (wantV v72 true).bind fun v81 =>
          (bif v81 then pv v80.2 (E.p.bin .eql 3 v80.1 (.int .i64 1)) else some (.tup [], v80.2)).bind fun v82 =>
          (E.p.pick v72 v82.1 (.bool false)).bind fun v83 =>
          (wantV v83 true).bind fun v84 =>
          (bif v84 then some (v5, v82.2) else some (.tup [], v82.2)).bind fun v85 =>
          (wantV v83 true).bind fun v86 =>
          (bif v86 then some (v6, v85.2) else some (.tup [], v85.2)).bind fun v87 =>
          (wantV v83 true).bind fun v88 =>
          (bif v88 then some (v7, v87.2) else some (.tup [], v87.2)).bind fun v89 =>
          (wantV v83 true).bind fun v90 =>
          (bif v90 then some (v9, v89.2) else some (.tup [], v89.2)).bind fun v91 =>
          (wantV v83 true).bind fun v92 =>
          (bif v92 then pv v91.2 (E.p.bin .shl 3 (.int .i64 1) v91.1) else some (.tup [], v91.2)).bind fun v93 =>
          (wantV v83 true).bind fun v94 =>
          (bif v94 then pv v93.2 (E.p.bin .andNot 3 v89.1 v93.1) else some (.tup [], v93.2)).bind fun v95 =>
          (wantV v83 true).bind fun v96 =>
          (bif v96 then some (v10.1, v95.2) else some (.tup [], v95.2)).bind fun v97 =>
          (wantV v83 true).bind fun v98 =>
          (bif v98 then pv v97.2 (E.p.bin .shl 3 (.int .i64 1) v97.1) else some (.tup [], v97.2)).bind fun v99 =>
          (wantV v83 true).bind fun v100 =>
          (bif v100 then pv v99.2 (E.p.bin .or 3 v95.1 v99.1) else some (.tup [], v99.2)).bind fun v101 =>
          (wantV v83 true).bind fun v102 =>
          (bif v102 then E.C fn_impl_TreeOk [v85.1, v87.1, v101.1] v101.2 else some (.tup [], v101.2)).bind fun v103 =>
          (E.p.pick v83 v103.1 (.bool false)).bind fun v104 =>
          (resV v104).bind fun v105 =>
          some (v105, v103.2))))
theorem main_eq (E : Env) (x0 : PV) (h : PHeap) : runBody (E.cx Tryd.prog kl) Tryd.f3 [x0] h = main E x0 h := by kernel_rfl
theorem call_eq (g : Nat → PV) (lf n : Nat) (x0 : PV) (h : PHeap) : CL g lf (n + 1) fn_laws_FnTreeReply [x0] h = main (env g lf n) x0 h := by
  rw [← main_eq]
  show call Tryd.prog g KL lf (n + 1) 3 [x0] h = _
  rw [call_succ, Tryd.func3]
  kernel_rfl
end laws_FnTreeReply
namespace laws_FnTreesThrough
noncomputable def lp0 : Code := (codeAt (bodyOf Tryd.f4) [1, 1, 1, 1, 1, 1, 1, 0, 1, 0, 0])
def st0 (x3 x4 x5 x6 x7 x8 : PV) (h : PHeap) : St := ⟨[.junk, .junk, .junk, x3, x4, x5, x6, x7, x8, .junk, .junk, .junk, .junk, .junk, .junk, .junk, .junk, .junk, .junk, .junk, .junk, .junk, .junk, .junk, .junk, .junk, .junk, .junk, .junk, .junk, .junk, .junk, .junk, .junk, .junk, .junk, .junk, .junk, .junk, .junk, .junk, .junk, .junk, .junk, .junk, .junk, .junk, .junk, .junk, .junk, .junk, .junk, .junk, .junk, .junk, .junk, .junk, .junk, .junk, .junk, .junk, .junk, .junk, .junk, .junk, .junk, .junk, .junk, .junk, .junk, .junk, .junk, .junk, .junk, .junk, .junk, .junk, .junk, .junk, .junk, .junk, .junk, .junk, .junk, .junk, .junk, .junk, .junk, .junk, .junk, .junk, .junk, .junk, .junk, .junk, .junk, .junk, .junk, .junk, .junk], h⟩
def sr_2 (x2 : PV) (h : PHeap) : St := ⟨[.junk, .junk, x2, .junk, .junk, .junk, .junk, .junk, .junk, .junk, .junk, .junk, .junk, .junk, .junk, .junk, .junk, .junk, .junk, .junk, .junk, .junk, .junk, .junk, .junk, .junk, .junk, .junk, .junk, .junk, .junk, .junk, .junk, .junk, .junk, .junk, .junk, .junk, .junk, .junk, .junk, .junk, .junk, .junk, .junk, .junk, .junk, .junk, .junk, .junk, .junk, .junk, .junk, .junk, .junk, .junk, .junk, .junk, .junk, .junk, .junk, .junk, .junk, .junk, .junk, .junk, .junk, .junk, .junk, .junk, .junk, .junk, .junk, .junk, .junk, .junk, .junk, .junk, .junk, .junk, .junk, .junk, .junk, .junk, .junk, .junk, .junk, .junk, .junk, .junk, .junk, .junk, .junk, .junk, .junk, .junk, .junk, .junk, .junk, .junk], h⟩
def se0_3_4_5_6_7_8_40 (x3 x4 x5 x6 x7 x8 x40 : PV) (h : PHeap) : St := ⟨[.junk, .junk, .junk, x3, x4, x5, x6, x7, x8, .junk, .junk, .junk, .junk, .junk, .junk, .junk, .junk, .junk, .junk, .junk, .junk, .junk, .junk, .junk, .junk, .junk, .junk, .junk, .junk, .junk, .junk, .junk, .junk, .junk, .junk, .junk, .junk, .junk, .junk, .junk, x40, .junk, .junk, .junk, .junk, .junk, .junk, .junk, .junk, .junk, .junk, .junk, .junk, .junk, .junk, .junk, .junk, .junk, .junk, .junk, .junk, .junk, .junk, .junk, .junk, .junk, .junk, .junk, .junk, .junk, .junk, .junk, .junk, .junk, .junk, .junk, .junk, .junk, .junk, .junk, .junk, .junk, .junk, .junk, .junk, .junk, .junk, .junk, .junk, .junk, .junk, .junk, .junk, .junk, .junk, .junk, .junk, .junk, .junk, .junk], h⟩
noncomputable def K0 (E : Env) (K : PX → St → Res) : PX → St → Res := (kBlock 0 (kSeq (ev (E.cx Tryd.prog kl) (codeAt (bodyOf Tryd.f4) [1, 1, 1, 1, 1, 1, 1, 1])) K))
@[simp] theorem K0_ret (E : Env) (K : PX → St → Res) (s : St) : K0 E K .ret s = K .ret s := by kernel_rfl
noncomputable def body0 (E : Env) (K : PX → St → Res) (x3 x4 x5 x6 x7 x8 : PV) (h : PHeap) : Res :=
    (E.p.len 23 x4).bind fun v90 =>
    (E.p.bin .lss 3 x8 v90).bind fun v91 =>
    condP v91
     (
      (E.C fn_impl_TreesThrough [x3, x4, x8] h).bind fun v92 =>
      (E.p.bin .add 3 x7 v92.1).bind fun v93 =>
      (E.p.indexAddr 23 x4 x8).bind fun v94 =>
      (E.p.load 34 v94 v92.2).bind fun v95 =>
      (E.p.indexAddr 23 x4 x5).bind fun v96 =>
      (E.p.load 34 v96 v92.2).bind fun v97 =>
      (E.p.bin .eql 34 v95 v97).bind fun v98 =>
      (wantV v98 false).bind fun v99 =>
      (bif v99 then some (x4, v92.2) else some (.tup [], v92.2)).bind fun v100 =>
      (wantV v98 false).bind fun v101 =>
      (bif v101 then some (x8, v100.2) else some (.tup [], v100.2)).bind fun v102 =>
      (wantV v98 false).bind fun v103 =>
      (bif v103 then pv v102.2 (E.p.indexAddr 23 v100.1 v102.1) else some (.tup [], v102.2)).bind fun v104 =>
      (wantV v98 false).bind fun v105 =>
      (bif v105 then pv v104.2 (E.p.fieldAddr 34 v104.1 0) else some (.tup [], v104.2)).bind fun v106 =>
      (wantV v98 false).bind fun v107 =>
      (bif v107 then pv v106.2 (E.p.load 3 v106.1 v106.2) else some (.tup [], v106.2)).bind fun v108 =>
      (wantV v98 false).bind fun v109 =>
      (bif v109 then some (x4, v108.2) else some (.tup [], v108.2)).bind fun v110 =>
      (wantV v98 false).bind fun v111 =>
      (bif v111 then some (x5, v110.2) else some (.tup [], v110.2)).bind fun v112 =>
      (wantV v98 false).bind fun v113 =>
      (bif v113 then pv v112.2 (E.p.indexAddr 23 v110.1 v112.1) else some (.tup [], v112.2)).bind fun v114 =>
      (wantV v98 false).bind fun v115 =>
      (bif v115 then pv v114.2 (E.p.fieldAddr 34 v114.1 1) else some (.tup [], v114.2)).bind fun v116 =>
      (wantV v98 false).bind fun v117 =>
      (bif v117 then pv v116.2 (E.p.load 3 v116.1 v116.2) else some (.tup [], v116.2)).bind fun v118 =>
      (wantV v98 false).bind fun v119 =>
      (bif v119 then pv v118.2 (E.p.bin .eql 3 v108.1 v118.1) else some (.tup [], v118.2)).bind fun v120 =>
      (wantV v98 false).bind fun v121 =>
      (bif v121 then some (v120.1, v120.2) else some (.tup [], v120.2)).bind fun v122 =>
      (wantV v122.1 true).bind fun v123 =>
      (bif v123 then some (x4, v122.2) else some (.tup [], v122.2)).bind fun v124 =>
      (wantV v122.1 true).bind fun v125 =>
      (bif v125 then some (x8, v124.2) else some (.tup [], v124.2)).bind fun v126 =>
      (wantV v122.1 true).bind fun v127 =>
      (bif v127 then pv v126.2 (E.p.indexAddr 23 v124.1 v126.1) else some (.tup [], v126.2)).bind fun v128 =>
      (wantV v122.1 true).bind fun v129 =>
      (bif v129 then pv v128.2 (E.p.fieldAddr 34 v128.1 1) else some (.tup [], v128.2)).bind fun v130 =>
      (wantV v122.1 true).bind fun v131 =>
      (bif v131 then pv v130.2 (E.p.load 3 v130.1 v130.2) else some (.tup [], v130.2)).bind fun v132 =>
      (wantV v122.1 true).bind fun v133 =>
      (bif v133 then some (x4, v132.2) else some (.tup [], v132.2)).bind fun v134 =>
      (wantV v122.1 true).bind fun v135 =>
      (bif v135 then some (x5, v134.2) else some (.tup [], v134.2)).bind fun v136 =>
      (wantV v122.1 true).bind fun v137 =>
      (bif v137 then pv v136.2 (E.p.indexAddr 23 v134.1 v136.1) else some (.tup [], v136.2)).bind fun v138 =>
      (wantV v122.1 true).bind fun v139 =>
      (bif v139 then pv v138.2 (E.p.fieldAddr 34 v138.1 0) else some (.tup [], v138.2)).bind fun v140 =>
      (wantV v122.1 true).bind fun v141 =>
      (bif v141 then pv v140.2 (E.p.load 3 v140.1 v140.2) else some (.tup [], v140.2)).bind fun v142 =>
      (wantV v122.1 true).bind fun v143 =>
      (bif v143 then pv v142.2 (E.p.bin .eql 3 v132.1 v142.1) else some (.tup [], v142.2)).bind fun v144 =>
      (wantV v98 false).bind fun v145 =>
      (bif v145 then pv v144.2 (E.p.pick v122.1 v144.1 (.bool false)) else some (.tup [], v144.2)).bind fun v146 =>
      (E.p.pick v98 (.bool true) v146.1).bind fun v147 =>
      (wantV v147 true).bind fun v148 =>
      (bif v148 then some (v92.1, v146.2) else some (.tup [], v146.2)).bind fun v149 =>
      (wantV v147 true).bind fun v150 =>
      (bif v150 then some (x6, v149.2) else some (.tup [], v149.2)).bind fun v151 =>
      (wantV v147 true).bind fun v152 =>
      (bif v152 then pv v151.2 (E.p.bin .neq 3 v149.1 v151.1) else some (.tup [], v151.2)).bind fun v153 =>
      (E.p.pick v147 v153.1 (.bool false)).bind fun v154 =>
      condP v154
       (
        K .ret (sr_2 (.bool false) v153.2))
       (
        (E.p.bin .add 3 x8 (.int .i64 1)).bind fun v155 =>
        K .normal (st0 x3 x4 x5 x6 v93 v155 v153.2)))
     (
      K (.exit 0) (se0_3_4_5_6_7_8_40 x3 x4 x5 x6 x7 x8 v91 h))
theorem body0_eq (E : Env) (K : PX → St → Res) (x3 x4 x5 x6 x7 x8 : PV) (h : PHeap) : ev (E.cx Tryd.prog kl) lp0 (st0 x3 x4 x5 x6 x7 x8 h) K = body0 E K x3 x4 x5 x6 x7 x8 h := by kernel_rfl
theorem after0_se0_3_4_5_6_7_8_40 (E : Env) (x3 x4 x5 x6 x7 x8 x40 : PV) (h : PHeap) : K0 E (kTop Tryd.prog Tryd.f4) (.exit 0) (se0_3_4_5_6_7_8_40 x3 x4 x5 x6 x7 x8 x40 h) =
    (E.C fn_impl_TreesOf [x3, x4] h).bind fun v84 =>
    (E.p.len 35 v84.1).bind fun v85 =>
    (E.p.bin .sub 3 x3 (.int .i64 1)).bind fun v86 =>
    (E.p.bin .mul 3 v85 v86).bind fun v87 =>
    (E.p.bin .eql 3 x7 v87).bind fun v88 =>
    (resV v88).bind fun v89 =>
    some (v89, v84.2) := by kernel_rfl
theorem top_sr_2 (x2 : PV) (h : PHeap) : kTop Tryd.prog Tryd.f4 .ret (sr_2 x2 h) =
    (resV x2).bind fun v156 =>
    some (v156, h) := by kernel_rfl
noncomputable def main (E : Env) (x0 : PV) (h : PHeap) : Res :=
    (E.p.len 22 x0).bind fun v1 =>
    (E.p.bin .gtr 3 v1 (.int .i64 1048576)).bind fun v2 =>
    condP v2
     (
      (resV (.bool true)).bind fun v3 =>
      some (v3, h))
     (
      (E.C fn_spec_DrawTreesThrough [x0] h).bind fun v4 =>
      (E.p.extract v4.1 0).bind fun v5 =>
      (E.p.extract v4.1 1).bind fun v6 =>
      (E.p.extract v4.1 2).bind fun v7 =>
      (E.C fn_impl_TreesThrough [v5, v6, v7] v4.2).bind fun v8 =>
      (E.C fn_spec_TreesThrough [v5, v6, v7] v8.2).bind fun v9 =>
      (E.p.bin .neq 3 v8.1 v9.1).bind fun v10 =>
      condP v10
       (
        (resV (.bool false)).bind fun v11 =>
        some (v11, v9.2))
       (
        (E.p.bin .lss 3 v8.1 (.int .i64 0)).bind fun v12 =>
        condP v12
         (
          (E.p.bin .eql 3 v8.1 (.int .i64 (-1))).bind fun v13 =>
          (wantV v13 true).bind fun v14 =>
          (bif v14 then E.C fn_laws_alive [] v9.2 else some (.tup [], v9.2)).bind fun v15 =>
          (E.p.pick v13 v15.1 (.bool false)).bind fun v16 =>
          (resV v16).bind fun v17 =>
          some (v17, v15.2))
         (
          loopK (ev (E.cx Tryd.prog laws_FnTreesThrough.kl) laws_FnTreesThrough.lp0) E.lf (laws_FnTreesThrough.st0 v5 v6 v7 v8.1 (.int .i64 0) (.int .i64 0) v9.2) (laws_FnTreesThrough.K0 E (kTop Tryd.prog Tryd.f4)))))
theorem main_eq (E : Env) (x0 : PV) (h : PHeap) : runBody (E.cx Tryd.prog kl) Tryd.f4 [x0] h = main E x0 h := by kernel_rfl
theorem call_eq (g : Nat → PV) (lf n : Nat) (x0 : PV) (h : PHeap) : CL g lf (n + 1) fn_laws_FnTreesThrough [x0] h = main (env g lf n) x0 h := by
  rw [← main_eq]
  show call Tryd.prog g KL lf (n + 1) 4 [x0] h = _
  rw [call_succ, Tryd.func4]
  kernel_rfl
end laws_FnTreesThrough
namespace laws_FnTreesGrow
noncomputable def main (E : Env) (x0 : PV) (h : PHeap) : Res :=
    (E.p.len 22 x0).bind fun v1 =>
    (E.p.bin .gtr 3 v1 (.int .i64 1048576)).bind fun v2 =>
    condP v2
     (
      (resV (.bool true)).bind fun v3 =>
      some (v3, h))
     (
      (E.C fn_spec_DrawTreesOf [x0] h).bind fun v4 =>
      (E.p.extract v4.1 0).bind fun v5 =>
      (E.p.extract v4.1 1).bind fun v6 =>
      (E.C fn_spec_WiresOk [v5, v6] v4.2).bind fun v7 =>
      (E.p.un .not v7.1).bind fun v8 =>
      (wantV v8 false).bind fun v9 =>
      (bif v9 then some (v6, v7.2) else some (.tup [], v7.2)).bind fun v10 =>
      (wantV v8 false).bind fun v11 =>
      (bif v11 then pv v10.2 (E.p.len 23 v10.1) else some (.tup [], v10.2)).bind fun v12 =>
      (wantV v8 false).bind fun v13 =>
      (bif v13 then pv v12.2 (E.p.bin .geq 3 v12.1 (.int .i64 8)) else some (.tup [], v12.2)).bind fun v14 =>
      (E.p.pick v8 (.bool true) v14.1).bind fun v15 =>
      condP v15
       (
        (E.C fn_spec_WiresOk [v5, v6] v14.2).bind fun v16 =>
        (wantV v16.1 false).bind fun v17 =>
        (bif v17 then some (v5, v16.2) else some (.tup [], v16.2)).bind fun v18 =>
        (wantV v16.1 false).bind fun v19 =>
        (bif v19 then some (v6, v18.2) else some (.tup [], v18.2)).bind fun v20 =>
        (wantV v16.1 false).bind fun v21 =>
        (bif v21 then E.C fn_impl_TreesOf [v18.1, v20.1] v20.2 else some (.tup [], v20.2)).bind fun v22 =>
        (wantV v16.1 false).bind fun v23 =>
        (bif v23 then pv v22.2 (E.p.len 35 v22.1) else some (.tup [], v22.2)).bind fun v24 =>
        (wantV v16.1 false).bind fun v25 =>
        (bif v25 then pv v24.2 (E.p.bin .eql 3 v24.1 (.int .i64 0)) else some (.tup [], v24.2)).bind fun v26 =>
        (E.p.pick v16.1 (.bool true) v26.1).bind fun v27 =>
        (wantV v27 true).bind fun v28 =>
        (bif v28 then E.C fn_laws_alive [] v26.2 else some (.tup [], v26.2)).bind fun v29 =>
        (E.p.pick v27 v29.1 (.bool false)).bind fun v30 =>
        (resV v30).bind fun v31 =>
        some (v31, v29.2))
       (
        (E.p.buildSlice 23 0 [] v14.2).bind fun v32 =>
        (E.p.append 23 23 v32.1 v6 v32.2).bind fun v33 =>
        (E.p.build 34 [(0, (.int .i64 0)), (1, (.int .i64 1))]).bind fun v34 =>
        (E.p.buildSlice 23 1 [(0, v34)] v33.2).bind fun v35 =>
        (E.p.append 23 23 v33.1 v35.1 v35.2).bind fun v36 =>
        (E.C fn_impl_TreesOf [v5, v36.1] v36.2).bind fun v37 =>
        (E.p.len 35 v37.1).bind fun v38 =>
        (E.C fn_impl_TreesOf [v5, v6] v37.2).bind fun v39 =>
        (E.p.len 35 v39.1).bind fun v40 =>
        (E.p.len 23 v6).bind fun v41 =>
        (E.C fn_impl_TreesThrough [v5, v36.1, v41] v39.2).bind fun v42 =>
        (E.p.bin .add 3 v40 v42.1).bind fun v43 =>
        (E.p.bin .eql 3 v38 v43).bind fun v44 =>
        (wantV v44 true).bind fun v45 =>
        (bif v45 then E.C fn_laws_alive [] v42.2 else some (.tup [], v42.2)).bind fun v46 =>
        (E.p.pick v44 v46.1 (.bool false)).bind fun v47 =>
        (resV v47).bind fun v48 =>
        some (v48, v46.2)))
theorem main_eq (E : Env) (x0 : PV) (h : PHeap) : runBody (E.cx Tryd.prog kl) Tryd.f5 [x0] h = main E x0 h := by kernel_rfl
theorem call_eq (g : Nat → PV) (lf n : Nat) (x0 : PV) (h : PHeap) : CL g lf (n + 1) fn_laws_FnTreesGrow [x0] h = main (env g lf n) x0 h := by
  rw [← main_eq]
  show call Tryd.prog g KL lf (n + 1) 5 [x0] h = _
  rw [call_succ, Tryd.func5]
  kernel_rfl
end laws_FnTreesGrow
namespace laws_FnExactTreeOk
noncomputable def main (E : Env) (x0 x1 x2 : PV) (h : PHeap) : Res :=
    (E.C fn_laws_szWireS [x1, (.int .i64 1048576)] h).bind fun v1 =>
    (E.p.bin .lss 3 v1.1 (.int .i64 0)).bind fun v2 =>
    condP v2
     (
      (resV (.bool true)).bind fun v3 =>
      some (v3, v1.2))
     (
      (E.C fn_laws_toWireS [x1] v1.2).bind fun v4 =>
      (E.C fn_spec_TreeOk [x0, v4.1, x2] v4.2).bind fun v5 =>
      (E.C fn_laws_toWireS [x1] v5.2).bind fun v6 =>
      (E.C fn_impl_TreeOk [x0, v6.1, x2] v6.2).bind fun v7 =>
      (E.p.bin .neq 4 v7.1 v5.1).bind fun v8 =>
      condP v8
       (
        (resV (.bool false)).bind fun v9 =>
        some (v9, v7.2))
       (
        (E.C fn_laws_toWireS [x1] v7.2).bind fun v10 =>
        (E.C fn_laws_eqWireS [v6.1, v10.1] v10.2).bind fun v11 =>
        (E.p.un .not v11.1).bind fun v12 =>
        condP v12
         (
          (resV (.bool false)).bind fun v13 =>
          some (v13, v11.2))
         (
          (resV (.bool true)).bind fun v14 =>
          some (v14, v11.2))))
theorem main_eq (E : Env) (x0 x1 x2 : PV) (h : PHeap) : runBody (E.cx Tryd.prog kl) Tryd.f6 [x0, x1, x2] h = main E x0 x1 x2 h := by kernel_rfl
theorem call_eq (g : Nat → PV) (lf n : Nat) (x0 x1 x2 : PV) (h : PHeap) : CL g lf (n + 1) fn_laws_FnExactTreeOk [x0, x1, x2] h = main (env g lf n) x0 x1 x2 h := by
  rw [← main_eq]
  show call Tryd.prog g KL lf (n + 1) 6 [x0, x1, x2] h = _
  rw [call_succ, Tryd.func6]
  kernel_rfl
end laws_FnExactTreeOk
namespace laws_FnExactTreesOf
noncomputable def main (E : Env) (x0 x1 : PV) (h : PHeap) : Res :=
    (E.C fn_laws_szWireS [x1, (.int .i64 1048576)] h).bind fun v1 =>
    (E.p.bin .lss 3 v1.1 (.int .i64 0)).bind fun v2 =>
    condP v2
     (
      (resV (.bool true)).bind fun v3 =>
      some (v3, v1.2))
     (
      (E.C fn_laws_toWireS [x1] v1.2).bind fun v4 =>
      (E.C fn_spec_TreesOf [x0, v4.1] v4.2).bind fun v5 =>
      (E.C fn_laws_toWireS [x1] v5.2).bind fun v6 =>
      (E.C fn_impl_TreesOf [x0, v6.1] v6.2).bind fun v7 =>
      (E.C fn_laws_eqIntS [v7.1, v5.1] v7.2).bind fun v8 =>
      (E.p.un .not v8.1).bind fun v9 =>
      condP v9
       (
        (resV (.bool false)).bind fun v10 =>
        some (v10, v8.2))
       (
        (E.C fn_laws_toWireS [x1] v8.2).bind fun v11 =>
        (E.C fn_laws_eqWireS [v6.1, v11.1] v11.2).bind fun v12 =>
        (E.p.un .not v12.1).bind fun v13 =>
        condP v13
         (
          (resV (.bool false)).bind fun v14 =>
          some (v14, v12.2))
         (
          (E.C fn_laws_markWireS [v6.1, (.int .i64 1)] v12.2).bind fun v15 =>
          (E.p.bin .lss 3 v15.1 (.int .i64 0)).bind fun v16 =>
          (wantV v16 false).bind fun v17 =>
          (bif v17 then some (v7.1, v15.2) else some (.tup [], v15.2)).bind fun v18 =>
          (wantV v16 false).bind fun v19 =>
          (bif v19 then some (v5.1, v18.2) else some (.tup [], v18.2)).bind fun v20 =>
          (wantV v16 false).bind fun v21 =>
          (bif v21 then E.C fn_laws_eqIntS [v18.1, v20.1] v20.2 else some (.tup [], v20.2)).bind fun v22 =>
          (wantV v16 false).bind fun v23 =>
          (bif v23 then pv v22.2 (E.p.un .not v22.1) else some (.tup [], v22.2)).bind fun v24 =>
          (E.p.pick v16 (.bool true) v24.1).bind fun v25 =>
          condP v25
           (
            (resV (.bool false)).bind fun v26 =>
            some (v26, v24.2))
           (
            (E.C fn_laws_markIntS [v7.1, (.int .i64 1)] v24.2).bind fun v27 =>
            (E.C fn_laws_heldIntS [v7.1, (.int .i64 1)] v27.2).bind fun v28 =>
            (E.p.bin .lss 3 v28.1 (.int .i64 0)).bind fun v29 =>
            condP v29
             (
              (resV (.bool false)).bind fun v30 =>
              some (v30, v28.2))
             (
              (E.p.bin .neq 3 v28.1 v27.1).bind fun v31 =>
              condP v31
               (
                (resV (.bool false)).bind fun v32 =>
                some (v32, v28.2))
               (
                (E.C fn_laws_toWireS [x1] v28.2).bind fun v33 =>
                (E.C fn_impl_TreesOf [x0, v33.1] v33.2).bind fun v34 =>
                (E.C fn_laws_eqIntS [v34.1, v5.1] v34.2).bind fun v35 =>
                (E.p.un .not v35.1).bind fun v36 =>
                condP v36
                 (
                  (resV (.bool false)).bind fun v37 =>
                  some (v37, v35.2))
                 (
                  (E.C fn_laws_heldIntS [v7.1, (.int .i64 1)] v35.2).bind fun v38 =>
                  (E.p.bin .lss 3 v38.1 (.int .i64 0)).bind fun v39 =>
                  condP v39
                   (
                    (resV (.bool false)).bind fun v40 =>
                    some (v40, v38.2))
                   (
                    (E.p.bin .neq 3 v38.1 v27.1).bind fun v41 =>
                    condP v41
                     (
                      (resV (.bool false)).bind fun v42 =>
                      some (v42, v38.2))
                     (
                      (resV (.bool true)).bind fun v43 =>
                      some (v43, v38.2))))))))))
theorem main_eq (E : Env) (x0 x1 : PV) (h : PHeap) : runBody (E.cx Tryd.prog kl) Tryd.f7 [x0, x1] h = main E x0 x1 h := by kernel_rfl
theorem call_eq (g : Nat → PV) (lf n : Nat) (x0 x1 : PV) (h : PHeap) : CL g lf (n + 1) fn_laws_FnExactTreesOf [x0, x1] h = main (env g lf n) x0 x1 h := by
  rw [← main_eq]
  show call Tryd.prog g KL lf (n + 1) 7 [x0, x1] h = _
  rw [call_succ, Tryd.func7]
  kernel_rfl
end laws_FnExactTreesOf
namespace spec_DrawTreeReply
noncomputable def main (E : Env) (x0 : PV) (h : PHeap) : Res :=
    (E.C fn_spec_l20Open [x0] h).bind fun v1 =>
    (E.C fn_spec_l20Rich [v1.1] v1.2).bind fun v2 =>
    (E.p.extract v2.1 0).bind fun v3 =>
    (E.p.extract v2.1 1).bind fun v4 =>
    (E.C fn_spec_TreesOf [v3, v4] v2.2).bind fun v5 =>
    (E.p.len 23 v4).bind fun v6 =>
    (E.p.bin .shl 3 (.int .i64 1) v6).bind fun v7 =>
    (E.C fn_spec_l20Rd_pick [v1.1, v7] v5.2).bind fun v8 =>
    (E.p.len 23 v4).bind fun v9 =>
    (E.p.bin .shl 3 (.int .i64 1) v9).bind fun v10 =>
    (E.C fn_spec_l20Rd_pick [v1.1, v10] v8.2).bind fun v11 =>
    (E.p.len 35 v5.1).bind fun v12 =>
    (E.p.bin .gtr 3 v12 (.int .i64 0)).bind fun v13 =>
    (wantV v13 true).bind fun v14 =>
    (bif v14 then some (v1.1, v11.2) else some (.tup [], v11.2)).bind fun v15 =>
    (wantV v13 true).bind fun v16 =>
    (bif v16 then E.C fn_spec_l20Rd_pick [v15.1, (.int .i64 9)] v15.2 else some (.tup [], v15.2)).bind fun v17 =>
    (wantV v13 true).bind fun v18 =>
    (bif v18 then pv v17.2 (E.p.bin .gtr 3 v17.1 (.int .i64 0)) else some (.tup [], v17.2)).bind fun v19 =>
    (E.p.pick v13 v19.1 (.bool false)).bind fun v20 =>
    condP v20
     (
      (E.p.len 35 v5.1).bind fun v21 =>
      (E.C fn_spec_l20Rd_pick [v1.1, v21] v19.2).bind fun v22 =>
      (E.p.indexAddr 35 v5.1 v22.1).bind fun v23 =>
      (E.p.load 3 v23 v22.2).bind fun v24 =>
      (E.p.len 35 v5.1).bind fun v25 =>
      (E.C fn_spec_l20Rd_pick [v1.1, v25] v22.2).bind fun v26 =>
      (E.p.indexAddr 35 v5.1 v26.1).bind fun v27 =>
      (E.p.load 3 v27 v26.2).bind fun v28 =>
      (E.p.len 23 v4).bind fun v29 =>
      (E.C fn_spec_l20Rd_pick [v1.1, v29] v26.2).bind fun v30 =>
      (E.C fn_spec_l20Rd_pick [v1.1, (.int .i64 40)] v30.2).bind fun v31 =>
      (E.p.bin .quo 3 v31.1 (.int .i64 39)).bind fun v32 =>
      (E.p.bin .mul 3 v32 (.int .i64 8)).bind fun v33 =>
      (E.p.bin .add 3 v30.1 v33).bind fun v34 =>
      (resV v3).bind fun v35 =>
      (resV v4).bind fun v36 =>
      (resV v24).bind fun v37 =>
      (resV v28).bind fun v38 =>
      (resV v34).bind fun v39 =>
      some (.tup [v35, v36, v37, v38, v39], v31.2))
     (
      (E.p.len 23 v4).bind fun v40 =>
      (E.C fn_spec_l20Rd_pick [v1.1, v40] v19.2).bind fun v41 =>
      (E.C fn_spec_l20Rd_pick [v1.1, (.int .i64 40)] v41.2).bind fun v42 =>
      (E.p.bin .quo 3 v42.1 (.int .i64 39)).bind fun v43 =>
      (E.p.bin .mul 3 v43 (.int .i64 8)).bind fun v44 =>
      (E.p.bin .add 3 v41.1 v44).bind fun v45 =>
      (resV v3).bind fun v46 =>
      (resV v4).bind fun v47 =>
      (resV v8.1).bind fun v48 =>
      (resV v11.1).bind fun v49 =>
      (resV v45).bind fun v50 =>
      some (.tup [v46, v47, v48, v49, v50], v42.2))
theorem main_eq (E : Env) (x0 : PV) (h : PHeap) : runBody (E.cx Tryd.prog kl) Tryd.f8 [x0] h = main E x0 h := by kernel_rfl
theorem call_eq (g : Nat → PV) (lf n : Nat) (x0 : PV) (h : PHeap) : CL g lf (n + 1) fn_spec_DrawTreeReply [x0] h = main (env g lf n) x0 h := by
  rw [← main_eq]
  show call Tryd.prog g KL lf (n + 1) 8 [x0] h = _
  rw [call_succ, Tryd.func8]
  kernel_rfl
end spec_DrawTreeReply
namespace impl_TreeReply
noncomputable def lp0 : Code := (codeAt (bodyOf Tryd.f9) [1, 1, 1, 0, 1, 0, 0])
def st0 (x0 x1 x3 x11 x42 x43 : PV) (h : PHeap) : St := ⟨[x0, x1, .junk, x3, .junk, .junk, .junk, .junk, .junk, .junk, .junk, x11, .junk, .junk, .junk, .junk, .junk, .junk, .junk, .junk, .junk, .junk, .junk, .junk, .junk, .junk, .junk, .junk, .junk, .junk, .junk, .junk, .junk, .junk, .junk, .junk, .junk, .junk, .junk, .junk, .junk, .junk, x42, x43, .junk, .junk, .junk, .junk, .junk, .junk, .junk, .junk, .junk, .junk, .junk, .junk, .junk, .junk, .junk, .junk], h⟩
def sr_10 (x10 : PV) (h : PHeap) : St := ⟨[.junk, .junk, .junk, .junk, .junk, .junk, .junk, .junk, .junk, .junk, x10, .junk, .junk, .junk, .junk, .junk, .junk, .junk, .junk, .junk, .junk, .junk, .junk, .junk, .junk, .junk, .junk, .junk, .junk, .junk, .junk, .junk, .junk, .junk, .junk, .junk, .junk, .junk, .junk, .junk, .junk, .junk, .junk, .junk, .junk, .junk, .junk, .junk, .junk, .junk, .junk, .junk, .junk, .junk, .junk, .junk, .junk, .junk, .junk, .junk], h⟩
def se0_0_1_3_11_42_43_44 (x0 x1 x3 x11 x42 x43 x44 : PV) (h : PHeap) : St := ⟨[x0, x1, .junk, x3, .junk, .junk, .junk, .junk, .junk, .junk, .junk, x11, .junk, .junk, .junk, .junk, .junk, .junk, .junk, .junk, .junk, .junk, .junk, .junk, .junk, .junk, .junk, .junk, .junk, .junk, .junk, .junk, .junk, .junk, .junk, .junk, .junk, .junk, .junk, .junk, .junk, .junk, x42, x43, x44, .junk, .junk, .junk, .junk, .junk, .junk, .junk, .junk, .junk, .junk, .junk, .junk, .junk, .junk, .junk], h⟩
noncomputable def K0 (E : Env) (K : PX → St → Res) : PX → St → Res := (kBlock 0 (kSeq (ev (E.cx Tryd.prog kl) (codeAt (bodyOf Tryd.f9) [1, 1, 1, 1])) K))
@[simp] theorem K0_ret (E : Env) (K : PX → St → Res) (s : St) : K0 E K .ret s = K .ret s := by kernel_rfl
noncomputable def body0 (E : Env) (K : PX → St → Res) (x0 x1 x3 x11 x42 x43 : PV) (h : PHeap) : Res :=
    (E.p.bin .lss 3 x43 x42).bind fun v55 =>
    condP v55
     (
      (E.C fn_impl_hasWire [x3, x43] h).bind fun v56 =>
      (wantV v56.1 true).bind fun v57 =>
      (bif v57 then some (x0, v56.2) else some (.tup [], v56.2)).bind fun v58 =>
      (wantV v56.1 true).bind fun v59 =>
      (bif v59 then some (x1, v58.2) else some (.tup [], v58.2)).bind fun v60 =>
      (wantV v56.1 true).bind fun v61 =>
      (bif v61 then some (x11, v60.2) else some (.tup [], v60.2)).bind fun v62 =>
      (wantV v56.1 true).bind fun v63 =>
      (bif v63 then some (x43, v62.2) else some (.tup [], v62.2)).bind fun v64 =>
      (wantV v56.1 true).bind fun v65 =>
      (bif v65 then pv v64.2 (E.p.bin .shl 3 (.int .i64 1) v64.1) else some (.tup [], v64.2)).bind fun v66 =>
      (wantV v56.1 true).bind fun v67 =>
      (bif v67 then pv v66.2 (E.p.bin .or 3 v62.1 v66.1) else some (.tup [], v66.2)).bind fun v68 =>
      (wantV v56.1 true).bind fun v69 =>
      (bif v69 then E.C fn_impl_TreeOk [v58.1, v60.1, v68.1] v68.2 else some (.tup [], v68.2)).bind fun v70 =>
      (E.p.pick v56.1 v70.1 (.bool false)).bind fun v71 =>
      condP v71
       (
        K .ret (sr_10 x43 v70.2))
       (
        (E.p.bin .add 3 x43 (.int .i64 1)).bind fun v72 =>
        K .normal (st0 x0 x1 x3 x11 x42 v72 v70.2)))
     (
      K (.exit 0) (se0_0_1_3_11_42_43_44 x0 x1 x3 x11 x42 x43 v55 h))
theorem body0_eq (E : Env) (K : PX → St → Res) (x0 x1 x3 x11 x42 x43 : PV) (h : PHeap) : ev (E.cx Tryd.prog kl) lp0 (st0 x0 x1 x3 x11 x42 x43 h) K = body0 E K x0 x1 x3 x11 x42 x43 h := by kernel_rfl
theorem after0_se0_0_1_3_11_42_43_44 (E : Env) (x0 x1 x3 x11 x42 x43 x44 : PV) (h : PHeap) : K0 E (kTop Tryd.prog Tryd.f9) (.exit 0) (se0_0_1_3_11_42_43_44 x0 x1 x3 x11 x42 x43 x44 h) =
    (resV (.int .i64 (-1))).bind fun v54 =>
    some (v54, h) := by kernel_rfl
theorem top_sr_10 (x10 : PV) (h : PHeap) : kTop Tryd.prog Tryd.f9 .ret (sr_10 x10 h) =
    (resV x10).bind fun v73 =>
    some (v73, h) := by kernel_rfl
noncomputable def main (E : Env) (x0 x1 x2 x3 x4 : PV) (h : PHeap) : Res :=
    (E.C fn_impl_TreeOk [x0, x1, x2] h).bind fun v1 =>
    (E.p.un .not v1.1).bind fun v2 =>
    (wantV v2 false).bind fun v3 =>
    (bif v3 then some (x0, v1.2) else some (.tup [], v1.2)).bind fun v4 =>
    (wantV v2 false).bind fun v5 =>
    (bif v5 then some (x1, v4.2) else some (.tup [], v4.2)).bind fun v6 =>
    (wantV v2 false).bind fun v7 =>
    (bif v7 then some (x3, v6.2) else some (.tup [], v6.2)).bind fun v8 =>
    (wantV v2 false).bind fun v9 =>
    (bif v9 then E.C fn_impl_TreeOk [v4.1, v6.1, v8.1] v8.2 else some (.tup [], v8.2)).bind fun v10 =>
    (wantV v2 false).bind fun v11 =>
    (bif v11 then pv v10.2 (E.p.un .not v10.1) else some (.tup [], v10.2)).bind fun v12 =>
    (E.p.pick v2 (.bool true) v12.1).bind fun v13 =>
    (wantV v13 false).bind fun v14 =>
    (bif v14 then some (x1, v12.2) else some (.tup [], v12.2)).bind fun v15 =>
    (wantV v13 false).bind fun v16 =>
    (bif v16 then some (x4, v15.2) else some (.tup [], v15.2)).bind fun v17 =>
    (wantV v13 false).bind fun v18 =>
    (bif v18 then E.C fn_impl_wireOk [v15.1, v17.1] v17.2 else some (.tup [], v17.2)).bind fun v19 =>
    (wantV v13 false).bind fun v20 =>
    (bif v20 then pv v19.2 (E.p.un .not v19.1) else some (.tup [], v19.2)).bind fun v21 =>
    (E.p.pick v13 (.bool true) v21.1).bind fun v22 =>
    (wantV v22 false).bind fun v23 =>
    (bif v23 then some (x2, v21.2) else some (.tup [], v21.2)).bind fun v24 =>
    (wantV v22 false).bind fun v25 =>
    (bif v25 then some (x4, v24.2) else some (.tup [], v24.2)).bind fun v26 =>
    (wantV v22 false).bind fun v27 =>
    (bif v27 then E.C fn_impl_hasWire [v24.1, v26.1] v26.2 else some (.tup [], v26.2)).bind fun v28 =>
    (wantV v22 false).bind fun v29 =>
    (bif v29 then pv v28.2 (E.p.un .not v28.1) else some (.tup [], v28.2)).bind fun v30 =>
    (E.p.pick v22 (.bool true) v30.1).bind fun v31 =>
    condP v31
     (
      (resV (.int .i64 (-1))).bind fun v32 =>
      some (v32, v30.2))
     (
      (E.p.bin .shl 3 (.int .i64 1) x4).bind fun v33 =>
      (E.p.bin .andNot 3 x2 v33).bind fun v34 =>
      (E.p.len 23 x1).bind fun v35 =>
      loopK (ev (E.cx Tryd.prog impl_TreeReply.kl) impl_TreeReply.lp0) E.lf (impl_TreeReply.st0 x0 x1 x3 v34 v35 (.int .i64 0) v30.2) (impl_TreeReply.K0 E (kTop Tryd.prog Tryd.f9)))
theorem main_eq (E : Env) (x0 x1 x2 x3 x4 : PV) (h : PHeap) : runBody (E.cx Tryd.prog kl) Tryd.f9 [x0, x1, x2, x3, x4] h = main E x0 x1 x2 x3 x4 h := by kernel_rfl
theorem call_eq (g : Nat → PV) (lf n : Nat) (x0 x1 x2 x3 x4 : PV) (h : PHeap) : CL g lf (n + 1) fn_impl_TreeReply [x0, x1, x2, x3, x4] h = main (env g lf n) x0 x1 x2 x3 x4 h := by
  rw [← main_eq]
  show call Tryd.prog g KL lf (n + 1) 9 [x0, x1, x2, x3, x4] h = _
  rw [call_succ, Tryd.func9]
  kernel_rfl
end impl_TreeReply
namespace spec_TreeReply
noncomputable def lp0 : Code := (codeAt (bodyOf Tryd.f10) [1, 1, 0, 1, 0, 0])
def st0 (x0 x1 x2 x3 x4 x11 : PV) (h : PHeap) : St := ⟨[x0, x1, x2, x3, x4, .junk, .junk, .junk, .junk, .junk, .junk, x11, .junk, .junk, .junk, .junk, .junk, .junk, .junk, .junk, .junk, .junk, .junk, .junk, .junk, .junk, .junk, .junk, .junk, .junk, .junk, .junk, .junk, .junk, .junk, .junk, .junk, .junk, .junk, .junk, .junk, .junk, .junk, .junk, .junk, .junk, .junk, .junk, .junk, .junk, .junk, .junk, .junk, .junk, .junk, .junk, .junk, .junk, .junk, .junk, .junk, .junk, .junk, .junk, .junk], h⟩
def sr_10 (x10 : PV) (h : PHeap) : St := ⟨[.junk, .junk, .junk, .junk, .junk, .junk, .junk, .junk, .junk, .junk, x10, .junk, .junk, .junk, .junk, .junk, .junk, .junk, .junk, .junk, .junk, .junk, .junk, .junk, .junk, .junk, .junk, .junk, .junk, .junk, .junk, .junk, .junk, .junk, .junk, .junk, .junk, .junk, .junk, .junk, .junk, .junk, .junk, .junk, .junk, .junk, .junk, .junk, .junk, .junk, .junk, .junk, .junk, .junk, .junk, .junk, .junk, .junk, .junk, .junk, .junk, .junk, .junk, .junk, .junk], h⟩
def se0_0_1_2_3_4_11_42 (x0 x1 x2 x3 x4 x11 x42 : PV) (h : PHeap) : St := ⟨[x0, x1, x2, x3, x4, .junk, .junk, .junk, .junk, .junk, .junk, x11, .junk, .junk, .junk, .junk, .junk, .junk, .junk, .junk, .junk, .junk, .junk, .junk, .junk, .junk, .junk, .junk, .junk, .junk, .junk, .junk, .junk, .junk, .junk, .junk, .junk, .junk, .junk, .junk, .junk, .junk, x42, .junk, .junk, .junk, .junk, .junk, .junk, .junk, .junk, .junk, .junk, .junk, .junk, .junk, .junk, .junk, .junk, .junk, .junk, .junk, .junk, .junk, .junk], h⟩
noncomputable def K0 (E : Env) (K : PX → St → Res) : PX → St → Res := (kBlock 0 (kSeq (ev (E.cx Tryd.prog kl) (codeAt (bodyOf Tryd.f10) [1, 1, 1])) K))
@[simp] theorem K0_ret (E : Env) (K : PX → St → Res) (s : St) : K0 E K .ret s = K .ret s := by kernel_rfl
noncomputable def body0 (E : Env) (K : PX → St → Res) (x0 x1 x2 x3 x4 x11 : PV) (h : PHeap) : Res :=
    (E.p.len 23 x1).bind fun v71 =>
    (E.p.bin .lss 3 x11 v71).bind fun v72 =>
    condP v72
     (
      (E.p.bin .shr 3 x3 x11).bind fun v73 =>
      (E.p.bin .rem 3 v73 (.int .i64 2)).bind fun v74 =>
      (E.p.bin .eql 3 v74 (.int .i64 1)).bind fun v75 =>
      (wantV v75 true).bind fun v76 =>
      (bif v76 then some (x1, h) else some (.tup [], h)).bind fun v77 =>
      (wantV v75 true).bind fun v78 =>
      (bif v78 then some (x2, v77.2) else some (.tup [], v77.2)).bind fun v79 =>
      (wantV v75 true).bind fun v80 =>
      (bif v80 then some (x4, v79.2) else some (.tup [], v79.2)).bind fun v81 =>
      (wantV v75 true).bind fun v82 =>
      (bif v82 then pv v81.2 (E.p.bin .shl 3 (.int .i64 1) v81.1) else some (.tup [], v81.2)).bind fun v83 =>
      (wantV v75 true).bind fun v84 =>
      (bif v84 then pv v83.2 (E.p.bin .andNot 3 v79.1 v83.1) else some (.tup [], v83.2)).bind fun v85 =>
      (wantV v75 true).bind fun v86 =>
      (bif v86 then some (x11, v85.2) else some (.tup [], v85.2)).bind fun v87 =>
      (wantV v75 true).bind fun v88 =>
      (bif v88 then pv v87.2 (E.p.bin .shl 3 (.int .i64 1) v87.1) else some (.tup [], v87.2)).bind fun v89 =>
      (wantV v75 true).bind fun v90 =>
      (bif v90 then pv v89.2 (E.p.bin .or 3 v85.1 v89.1) else some (.tup [], v89.2)).bind fun v91 =>
      (wantV v75 true).bind fun v92 =>
      (bif v92 then some (x0, v91.2) else some (.tup [], v91.2)).bind fun v93 =>
      (wantV v75 true).bind fun v94 =>
      (bif v94 then pv v93.2 (E.p.bin .shl 3 (.int .i64 1) v93.1) else some (.tup [], v93.2)).bind fun v95 =>
      (wantV v75 true).bind fun v96 =>
      (bif v96 then pv v95.2 (E.p.bin .sub 3 v95.1 (.int .i64 1)) else some (.tup [], v95.2)).bind fun v97 =>
      (wantV v75 true).bind fun v98 =>
      (bif v98 then E.C fn_spec_l10Tree [v77.1, v91.1, v97.1] v97.2 else some (.tup [], v97.2)).bind fun v99 =>
      (E.p.pick v75 v99.1 (.bool false)).bind fun v100 =>
      condP v100
       (
        K .ret (sr_10 x11 v99.2))
       (
        (E.p.bin .add 3 x11 (.int .i64 1)).bind fun v101 =>
        K .normal (st0 x0 x1 x2 x3 x4 v101 v99.2)))
     (
      K (.exit 0) (se0_0_1_2_3_4_11_42 x0 x1 x2 x3 x4 x11 v72 h))
theorem body0_eq (E : Env) (K : PX → St → Res) (x0 x1 x2 x3 x4 x11 : PV) (h : PHeap) : ev (E.cx Tryd.prog kl) lp0 (st0 x0 x1 x2 x3 x4 x11 h) K = body0 E K x0 x1 x2 x3 x4 x11 h := by kernel_rfl
theorem after0_se0_0_1_2_3_4_11_42 (E : Env) (x0 x1 x2 x3 x4 x11 x42 : PV) (h : PHeap) : K0 E (kTop Tryd.prog Tryd.f10) (.exit 0) (se0_0_1_2_3_4_11_42 x0 x1 x2 x3 x4 x11 x42 h) =
    (resV (.int .i64 (-1))).bind fun v70 =>
    some (v70, h) := by kernel_rfl
theorem top_sr_10 (x10 : PV) (h : PHeap) : kTop Tryd.prog Tryd.f10 .ret (sr_10 x10 h) =
    (resV x10).bind fun v102 =>
    some (v102, h) := by kernel_rfl
noncomputable def main (E : Env) (x0 x1 x2 x3 x4 : PV) (h : PHeap) : Res :=
    (E.C fn_spec_TreeOk [x0, x1, x2] h).bind fun v1 =>
    (E.p.un .not v1.1).bind fun v2 =>
    (wantV v2 false).bind fun v3 =>
    (bif v3 then some (x0, v1.2) else some (.tup [], v1.2)).bind fun v4 =>
    (wantV v2 false).bind fun v5 =>
    (bif v5 then some (x1, v4.2) else some (.tup [], v4.2)).bind fun v6 =>
    (wantV v2 false).bind fun v7 =>
    (bif v7 then some (x3, v6.2) else some (.tup [], v6.2)).bind fun v8 =>
    (wantV v2 false).bind fun v9 =>
    (bif v9 then E.C fn_spec_TreeOk [v4.1, v6.1, v8.1] v8.2 else some (.tup [], v8.2)).bind fun v10 =>
    (wantV v2 false).bind fun v11 =>
    (bif v11 then pv v10.2 (E.p.un .not v10.1) else some (.tup [], v10.2)).bind fun v12 =>
    (E.p.pick v2 (.bool true) v12.1).bind fun v13 =>
    (wantV v13 false).bind fun v14 =>
    (bif v14 then some (x4, v12.2) else some (.tup [], v12.2)).bind fun v15 =>
    (wantV v13 false).bind fun v16 =>
    (bif v16 then some (x1, v15.2) else some (.tup [], v15.2)).bind fun v17 =>
    (wantV v13 false).bind fun v18 =>
    (bif v18 then pv v17.2 (E.p.len 23 v17.1) else some (.tup [], v17.2)).bind fun v19 =>
    (wantV v13 false).bind fun v20 =>
    (bif v20 then pv v19.2 (E.p.bin .sub 3 v19.1 (.int .i64 1)) else some (.tup [], v19.2)).bind fun v21 =>
    (wantV v13 false).bind fun v22 =>
    (bif v22 then E.C fn_spec_l1In [v15.1, (.int .i64 0), v21.1] v21.2 else some (.tup [], v21.2)).bind fun v23 =>
    (wantV v13 false).bind fun v24 =>
    (bif v24 then pv v23.2 (E.p.un .not v23.1) else some (.tup [], v23.2)).bind fun v25 =>
    (E.p.pick v13 (.bool true) v25.1).bind fun v26 =>
    (wantV v26 false).bind fun v27 =>
    (bif v27 then some (x2, v25.2) else some (.tup [], v25.2)).bind fun v28 =>
    (wantV v26 false).bind fun v29 =>
    (bif v29 then some (x4, v28.2) else some (.tup [], v28.2)).bind fun v30 =>
    (wantV v26 false).bind fun v31 =>
    (bif v31 then pv v30.2 (E.p.bin .shr 3 v28.1 v30.1) else some (.tup [], v30.2)).bind fun v32 =>
    (wantV v26 false).bind fun v33 =>
    (bif v33 then pv v32.2 (E.p.bin .rem 3 v32.1 (.int .i64 2)) else some (.tup [], v32.2)).bind fun v34 =>
    (wantV v26 false).bind fun v35 =>
    (bif v35 then pv v34.2 (E.p.bin .eql 3 v34.1 (.int .i64 0)) else some (.tup [], v34.2)).bind fun v36 =>
    (E.p.pick v26 (.bool true) v36.1).bind fun v37 =>
    condP v37
     (
      (resV (.int .i64 (-1))).bind fun v38 =>
      some (v38, v36.2))
     (
      loopK (ev (E.cx Tryd.prog spec_TreeReply.kl) spec_TreeReply.lp0) E.lf (spec_TreeReply.st0 x0 x1 x2 x3 x4 (.int .i64 0) v36.2) (spec_TreeReply.K0 E (kTop Tryd.prog Tryd.f10)))
theorem main_eq (E : Env) (x0 x1 x2 x3 x4 : PV) (h : PHeap) : runBody (E.cx Tryd.prog kl) Tryd.f10 [x0, x1, x2, x3, x4] h = main E x0 x1 x2 x3 x4 h := by kernel_rfl
theorem call_eq (g : Nat → PV) (lf n : Nat) (x0 x1 x2 x3 x4 : PV) (h : PHeap) : CL g lf (n + 1) fn_spec_TreeReply [x0, x1, x2, x3, x4] h = main (env g lf n) x0 x1 x2 x3 x4 h := by
  rw [← main_eq]
  show call Tryd.prog g KL lf (n + 1) 10 [x0, x1, x2, x3, x4] h = _
  rw [call_succ, Tryd.func10]
  kernel_rfl
end spec_TreeReply
namespace impl_TreeOk
noncomputable def main (E : Env) (x0 x1 x2 : PV) (h : PHeap) : Res :=
    (E.C fn_impl_WiresOk [x0, x1] h).bind fun v1 =>
    (wantV v1.1 true).bind fun v2 =>
    (bif v2 then some (x1, v1.2) else some (.tup [], v1.2)).bind fun v3 =>
    (wantV v1.1 true).bind fun v4 =>
    (bif v4 then some (x2, v3.2) else some (.tup [], v3.2)).bind fun v5 =>
    (wantV v1.1 true).bind fun v6 =>
    (bif v6 then E.C fn_impl_wireSetOk [v3.1, v5.1] v5.2 else some (.tup [], v5.2)).bind fun v7 =>
    (E.p.pick v1.1 v7.1 (.bool false)).bind fun v8 =>
    (wantV v8 true).bind fun v9 =>
    (bif v9 then some (x1, v7.2) else some (.tup [], v7.2)).bind fun v10 =>
    (wantV v8 true).bind fun v11 =>
    (bif v11 then some (x0, v10.2) else some (.tup [], v10.2)).bind fun v12 =>
    (wantV v8 true).bind fun v13 =>
    (bif v13 then E.C fn_impl_allNodes [v12.1] v12.2 else some (.tup [], v12.2)).bind fun v14 =>
    (wantV v8 true).bind fun v15 =>
    (bif v15 then some (x2, v14.2) else some (.tup [], v14.2)).bind fun v16 =>
    (wantV v8 true).bind fun v17 =>
    (bif v17 then E.C fn_impl_treeOn [v10.1, v14.1, v16.1] v16.2 else some (.tup [], v16.2)).bind fun v18 =>
    (E.p.pick v8 v18.1 (.bool false)).bind fun v19 =>
    (resV v19).bind fun v20 =>
    some (v20, v18.2)
theorem main_eq (E : Env) (x0 x1 x2 : PV) (h : PHeap) : runBody (E.cx Tryd.prog kl) Tryd.f11 [x0, x1, x2] h = main E x0 x1 x2 h := by kernel_rfl
theorem call_eq (g : Nat → PV) (lf n : Nat) (x0 x1 x2 : PV) (h : PHeap) : CL g lf (n + 1) fn_impl_TreeOk [x0, x1, x2] h = main (env g lf n) x0 x1 x2 h := by
  rw [← main_eq]
  show call Tryd.prog g KL lf (n + 1) 11 [x0, x1, x2] h = _
  rw [call_succ, Tryd.func11]
  kernel_rfl
end impl_TreeOk
namespace laws_alive
noncomputable def main (E : Env) (h : PHeap) : Res :=
    (E.C fn_impl_BoardOk [(.int .i64 2), (.int .i64 2)] h).bind fun v1 =>
    (wantV v1.1 true).bind fun v2 =>
    (bif v2 then E.C fn_impl_BoardOk [(.int .i64 0), (.int .i64 2)] v1.2 else some (.tup [], v1.2)).bind fun v3 =>
    (wantV v1.1 true).bind fun v4 =>
    (bif v4 then pv v3.2 (E.p.un .not v3.1) else some (.tup [], v3.2)).bind fun v5 =>
    (E.p.pick v1.1 v5.1 (.bool false)).bind fun v6 =>
    (resV v6).bind fun v7 =>
    some (v7, v5.2)
theorem main_eq (E : Env) (h : PHeap) : runBody (E.cx Tryd.prog kl) Tryd.f12 [] h = main E  h := by kernel_rfl
theorem call_eq (g : Nat → PV) (lf n : Nat) (h : PHeap) : CL g lf (n + 1) fn_laws_alive [] h = main (env g lf n)  h := by
  rw [← main_eq]
  show call Tryd.prog g KL lf (n + 1) 12 [] h = _
  rw [call_succ, Tryd.func12]
  kernel_rfl
end laws_alive
namespace spec_DrawTreesThrough
noncomputable def main (E : Env) (x0 : PV) (h : PHeap) : Res :=
    (E.C fn_spec_l20Open [x0] h).bind fun v1 =>
    (E.C fn_spec_l20Rich [v1.1] v1.2).bind fun v2 =>
    (E.p.extract v2.1 0).bind fun v3 =>
    (E.p.extract v2.1 1).bind fun v4 =>
    (E.p.len 23 v4).bind fun v5 =>
    (E.C fn_spec_l20Rd_pick [v1.1, v5] v2.2).bind fun v6 =>
    (E.C fn_spec_l20Rd_pick [v1.1, (.int .i64 40)] v6.2).bind fun v7 =>
    (E.p.bin .quo 3 v7.1 (.int .i64 39)).bind fun v8 =>
    (E.p.bin .mul 3 v8 (.int .i64 8)).bind fun v9 =>
    (E.p.bin .add 3 v6.1 v9).bind fun v10 =>
    (resV v3).bind fun v11 =>
    (resV v4).bind fun v12 =>
    (resV v10).bind fun v13 =>
    some (.tup [v11, v12, v13], v7.2)
theorem main_eq (E : Env) (x0 : PV) (h : PHeap) : runBody (E.cx Tryd.prog kl) Tryd.f13 [x0] h = main E x0 h := by kernel_rfl
theorem call_eq (g : Nat → PV) (lf n : Nat) (x0 : PV) (h : PHeap) : CL g lf (n + 1) fn_spec_DrawTreesThrough [x0] h = main (env g lf n) x0 h := by
  rw [← main_eq]
  show call Tryd.prog g KL lf (n + 1) 13 [x0] h = _
  rw [call_succ, Tryd.func13]
  kernel_rfl
end spec_DrawTreesThrough
namespace impl_TreesThrough
noncomputable def lp0 : Code := (codeAt (bodyOf Tryd.f14) [1, 1, 1, 0, 1, 0, 0])
def st0 (x2 x7 x22 x23 x24 : PV) (h : PHeap) : St := ⟨[.junk, .junk, x2, .junk, .junk, .junk, .junk, x7, .junk, .junk, .junk, .junk, .junk, .junk, .junk, .junk, .junk, .junk, .junk, .junk, .junk, .junk, x22, x23, x24, .junk, .junk, .junk, .junk, .junk, .junk, .junk, .junk, .junk, .junk], h⟩
def se0_2_7_22_23_24_25 (x2 x7 x22 x23 x24 x25 : PV) (h : PHeap) : St := ⟨[.junk, .junk, x2, .junk, .junk, .junk, .junk, x7, .junk, .junk, .junk, .junk, .junk, .junk, .junk, .junk, .junk, .junk, .junk, .junk, .junk, .junk, x22, x23, x24, x25, .junk, .junk, .junk, .junk, .junk, .junk, .junk, .junk, .junk], h⟩
noncomputable def K0 (E : Env) (K : PX → St → Res) : PX → St → Res := (kBlock 0 (kSeq (ev (E.cx Tryd.prog kl) (codeAt (bodyOf Tryd.f14) [1, 1, 1, 1])) K))
@[simp] theorem K0_ret (E : Env) (K : PX → St → Res) (s : St) : K0 E K .ret s = K .ret s := by kernel_rfl
noncomputable def body0 (E : Env) (K : PX → St → Res) (x2 x7 x22 x23 x24 : PV) (h : PHeap) : Res :=
    (E.p.bin .lss 3 x24 x23).bind fun v23 =>
    condP v23
     (
      (E.p.indexAddr 35 x22 x24).bind fun v24 =>
      (E.p.load 3 v24 h).bind fun v25 =>
      (E.C fn_impl_hasWire [v25, x2] h).bind fun v26 =>
      condP v26.1
       (
        (E.p.bin .add 3 x7 (.int .i64 1)).bind fun v27 =>
        (E.p.bin .add 3 x24 (.int .i64 1)).bind fun v28 =>
        K .normal (st0 x2 v27 x22 x23 v28 v26.2))
       (
        (E.p.bin .add 3 x24 (.int .i64 1)).bind fun v29 =>
        K .normal (st0 x2 x7 x22 x23 v29 v26.2)))
     (
      K (.exit 0) (se0_2_7_22_23_24_25 x2 x7 x22 x23 x24 v23 h))
theorem body0_eq (E : Env) (K : PX → St → Res) (x2 x7 x22 x23 x24 : PV) (h : PHeap) : ev (E.cx Tryd.prog kl) lp0 (st0 x2 x7 x22 x23 x24 h) K = body0 E K x2 x7 x22 x23 x24 h := by kernel_rfl
theorem after0_se0_2_7_22_23_24_25 (E : Env) (x2 x7 x22 x23 x24 x25 : PV) (h : PHeap) : K0 E (kTop Tryd.prog Tryd.f14) (.exit 0) (se0_2_7_22_23_24_25 x2 x7 x22 x23 x24 x25 h) =
    (resV x7).bind fun v22 =>
    some (v22, h) := by kernel_rfl
noncomputable def main (E : Env) (x0 x1 x2 : PV) (h : PHeap) : Res :=
    (E.C fn_impl_WiresOk [x0, x1] h).bind fun v1 =>
    (E.p.un .not v1.1).bind fun v2 =>
    (wantV v2 false).bind fun v3 =>
    (bif v3 then some (x1, v1.2) else some (.tup [], v1.2)).bind fun v4 =>
    (wantV v2 false).bind fun v5 =>
    (bif v5 then some (x2, v4.2) else some (.tup [], v4.2)).bind fun v6 =>
    (wantV v2 false).bind fun v7 =>
    (bif v7 then E.C fn_impl_wireOk [v4.1, v6.1] v6.2 else some (.tup [], v6.2)).bind fun v8 =>
    (wantV v2 false).bind fun v9 =>
    (bif v9 then pv v8.2 (E.p.un .not v8.1) else some (.tup [], v8.2)).bind fun v10 =>
    (E.p.pick v2 (.bool true) v10.1).bind fun v11 =>
    condP v11
     (
      (resV (.int .i64 (-1))).bind fun v12 =>
      some (v12, v10.2))
     (
      (E.C fn_impl_TreesOf [x0, x1] v10.2).bind fun v13 =>
      (E.p.len 35 v13.1).bind fun v14 =>
      loopK (ev (E.cx Tryd.prog impl_TreesThrough.kl) impl_TreesThrough.lp0) E.lf (impl_TreesThrough.st0 x2 (.int .i64 0) v13.1 v14 (.int .i64 0) v13.2) (impl_TreesThrough.K0 E (kTop Tryd.prog Tryd.f14)))
theorem main_eq (E : Env) (x0 x1 x2 : PV) (h : PHeap) : runBody (E.cx Tryd.prog kl) Tryd.f14 [x0, x1, x2] h = main E x0 x1 x2 h := by kernel_rfl
theorem call_eq (g : Nat → PV) (lf n : Nat) (x0 x1 x2 : PV) (h : PHeap) : CL g lf (n + 1) fn_impl_TreesThrough [x0, x1, x2] h = main (env g lf n) x0 x1 x2 h := by
  rw [← main_eq]
  show call Tryd.prog g KL lf (n + 1) 14 [x0, x1, x2] h = _
  rw [call_succ, Tryd.func14]
  kernel_rfl
end impl_TreesThrough
namespace spec_TreesThrough
noncomputable def lp0 : Code := (codeAt (bodyOf Tryd.f15) [1, 1, 1, 1, 0, 1, 0, 0])
def st0 (x2 x7 x8 x9 : PV) (h : PHeap) : St := ⟨[.junk, .junk, x2, .junk, .junk, .junk, .junk, x7, x8, x9, .junk, .junk, .junk, .junk, .junk, .junk, .junk, .junk, .junk, .junk, .junk, .junk, .junk, .junk, .junk, .junk, .junk, .junk, .junk, .junk, .junk, .junk, .junk, .junk, .junk, .junk, .junk, .junk, .junk, .junk, .junk], h⟩
def se0_2_7_8_9_28 (x2 x7 x8 x9 x28 : PV) (h : PHeap) : St := ⟨[.junk, .junk, x2, .junk, .junk, .junk, .junk, x7, x8, x9, .junk, .junk, .junk, .junk, .junk, .junk, .junk, .junk, .junk, .junk, .junk, .junk, .junk, .junk, .junk, .junk, .junk, .junk, x28, .junk, .junk, .junk, .junk, .junk, .junk, .junk, .junk, .junk, .junk, .junk, .junk], h⟩
noncomputable def K0 (E : Env) (K : PX → St → Res) : PX → St → Res := (kBlock 0 (kSeq (ev (E.cx Tryd.prog kl) (codeAt (bodyOf Tryd.f15) [1, 1, 1, 1, 1])) K))
@[simp] theorem K0_ret (E : Env) (K : PX → St → Res) (s : St) : K0 E K .ret s = K .ret s := by kernel_rfl
noncomputable def body0 (E : Env) (K : PX → St → Res) (x2 x7 x8 x9 : PV) (h : PHeap) : Res :=
    (E.p.len 35 x8).bind fun v27 =>
    (E.p.bin .lss 3 x9 v27).bind fun v28 =>
    condP v28
     (
      (E.p.indexAddr 35 x8 x9).bind fun v29 =>
      (E.p.load 3 v29 h).bind fun v30 =>
      (E.p.bin .shr 3 v30 x2).bind fun v31 =>
      (E.p.bin .rem 3 v31 (.int .i64 2)).bind fun v32 =>
      (E.p.bin .add 3 x7 v32).bind fun v33 =>
      (E.p.bin .add 3 x9 (.int .i64 1)).bind fun v34 =>
      K .normal (st0 x2 v33 x8 v34 h))
     (
      K (.exit 0) (se0_2_7_8_9_28 x2 x7 x8 x9 v28 h))
theorem body0_eq (E : Env) (K : PX → St → Res) (x2 x7 x8 x9 : PV) (h : PHeap) : ev (E.cx Tryd.prog kl) lp0 (st0 x2 x7 x8 x9 h) K = body0 E K x2 x7 x8 x9 h := by kernel_rfl
theorem after0_se0_2_7_8_9_28 (E : Env) (x2 x7 x8 x9 x28 : PV) (h : PHeap) : K0 E (kTop Tryd.prog Tryd.f15) (.exit 0) (se0_2_7_8_9_28 x2 x7 x8 x9 x28 h) =
    (resV x7).bind fun v26 =>
    some (v26, h) := by kernel_rfl
noncomputable def main (E : Env) (x0 x1 x2 : PV) (h : PHeap) : Res :=
    (E.C fn_spec_WiresOk [x0, x1] h).bind fun v1 =>
    (E.p.un .not v1.1).bind fun v2 =>
    (wantV v2 false).bind fun v3 =>
    (bif v3 then some (x2, v1.2) else some (.tup [], v1.2)).bind fun v4 =>
    (wantV v2 false).bind fun v5 =>
    (bif v5 then some (x1, v4.2) else some (.tup [], v4.2)).bind fun v6 =>
    (wantV v2 false).bind fun v7 =>
    (bif v7 then pv v6.2 (E.p.len 23 v6.1) else some (.tup [], v6.2)).bind fun v8 =>
    (wantV v2 false).bind fun v9 =>
    (bif v9 then pv v8.2 (E.p.bin .sub 3 v8.1 (.int .i64 1)) else some (.tup [], v8.2)).bind fun v10 =>
    (wantV v2 false).bind fun v11 =>
    (bif v11 then E.C fn_spec_l1In [v4.1, (.int .i64 0), v10.1] v10.2 else some (.tup [], v10.2)).bind fun v12 =>
    (wantV v2 false).bind fun v13 =>
    (bif v13 then pv v12.2 (E.p.un .not v12.1) else some (.tup [], v12.2)).bind fun v14 =>
    (E.p.pick v2 (.bool true) v14.1).bind fun v15 =>
    condP v15
     (
      (resV (.int .i64 (-1))).bind fun v16 =>
      some (v16, v14.2))
     (
      (E.C fn_spec_TreesOf [x0, x1] v14.2).bind fun v17 =>
      loopK (ev (E.cx Tryd.prog spec_TreesThrough.kl) spec_TreesThrough.lp0) E.lf (spec_TreesThrough.st0 x2 (.int .i64 0) v17.1 (.int .i64 0) v17.2) (spec_TreesThrough.K0 E (kTop Tryd.prog Tryd.f15)))
theorem main_eq (E : Env) (x0 x1 x2 : PV) (h : PHeap) : runBody (E.cx Tryd.prog kl) Tryd.f15 [x0, x1, x2] h = main E x0 x1 x2 h := by kernel_rfl
theorem call_eq (g : Nat → PV) (lf n : Nat) (x0 x1 x2 : PV) (h : PHeap) : CL g lf (n + 1) fn_spec_TreesThrough [x0, x1, x2] h = main (env g lf n) x0 x1 x2 h := by
  rw [← main_eq]
  show call Tryd.prog g KL lf (n + 1) 15 [x0, x1, x2] h = _
  rw [call_succ, Tryd.func15]
  kernel_rfl
end spec_TreesThrough
namespace impl_TreesOf
noncomputable def main (E : Env) (x0 x1 : PV) (h : PHeap) : Res :=
    (E.C fn_impl_WiresOk [x0, x1] h).bind fun v1 =>
    (E.p.un .not v1.1).bind fun v2 =>
    condP v2
     (
      (resV .nilsl).bind fun v3 =>
      some (v3, v1.2))
     (
      (E.C fn_impl_allNodes [x0] v1.2).bind fun v4 =>
      (E.C fn_impl_treesOn [x1, v4.1] v4.2).bind fun v5 =>
      (resV v5.1).bind fun v6 =>
      some (v6, v5.2))
theorem main_eq (E : Env) (x0 x1 : PV) (h : PHeap) : runBody (E.cx Tryd.prog kl) Tryd.f16 [x0, x1] h = main E x0 x1 h := by kernel_rfl
theorem call_eq (g : Nat → PV) (lf n : Nat) (x0 x1 : PV) (h : PHeap) : CL g lf (n + 1) fn_impl_TreesOf [x0, x1] h = main (env g lf n) x0 x1 h := by
  rw [← main_eq]
  show call Tryd.prog g KL lf (n + 1) 16 [x0, x1] h = _
  rw [call_succ, Tryd.func16]
  kernel_rfl
end impl_TreesOf
namespace spec_DrawTreesOf
noncomputable def main (E : Env) (x0 : PV) (h : PHeap) : Res :=
    (E.C fn_spec_l20Open [x0] h).bind fun v1 =>
    (E.C fn_spec_l20Rich [v1.1] v1.2).bind fun v2 =>
    (E.p.extract v2.1 0).bind fun v3 =>
    (E.p.extract v2.1 1).bind fun v4 =>
    (resV v3).bind fun v5 =>
    (resV v4).bind fun v6 =>
    some (.tup [v5, v6], v2.2)
theorem main_eq (E : Env) (x0 : PV) (h : PHeap) : runBody (E.cx Tryd.prog kl) Tryd.f17 [x0] h = main E x0 h := by kernel_rfl
theorem call_eq (g : Nat → PV) (lf n : Nat) (x0 : PV) (h : PHeap) : CL g lf (n + 1) fn_spec_DrawTreesOf [x0] h = main (env g lf n) x0 h := by
  rw [← main_eq]
  show call Tryd.prog g KL lf (n + 1) 17 [x0] h = _
  rw [call_succ, Tryd.func17]
  kernel_rfl
end spec_DrawTreesOf
namespace spec_WiresOk
noncomputable def lp0 : Code := (codeAt (bodyOf Tryd.f18) [1, 0, 1, 0, 0])
def st0 (x0 x1 x5 : PV) (h : PHeap) : St := ⟨[x0, x1, .junk, .junk, .junk, x5, .junk, .junk, .junk, .junk, .junk, .junk, .junk, .junk, .junk, .junk, .junk, .junk, .junk, .junk, .junk, .junk, .junk, .junk, .junk, .junk, .junk, .junk, .junk, .junk, .junk, .junk, .junk, .junk, .junk, .junk, .junk, .junk, .junk, .junk, .junk, .junk, .junk, .junk, .junk, .junk, .junk, .junk, .junk, .junk, .junk], h⟩
def sr_4 (x4 : PV) (h : PHeap) : St := ⟨[.junk, .junk, .junk, .junk, x4, .junk, .junk, .junk, .junk, .junk, .junk, .junk, .junk, .junk, .junk, .junk, .junk, .junk, .junk, .junk, .junk, .junk, .junk, .junk, .junk, .junk, .junk, .junk, .junk, .junk, .junk, .junk, .junk, .junk, .junk, .junk, .junk, .junk, .junk, .junk, .junk, .junk, .junk, .junk, .junk, .junk, .junk, .junk, .junk, .junk, .junk], h⟩
def se0_0_1_5_10 (x0 x1 x5 x10 : PV) (h : PHeap) : St := ⟨[x0, x1, .junk, .junk, .junk, x5, .junk, .junk, .junk, .junk, x10, .junk, .junk, .junk, .junk, .junk, .junk, .junk, .junk, .junk, .junk, .junk, .junk, .junk, .junk, .junk, .junk, .junk, .junk, .junk, .junk, .junk, .junk, .junk, .junk, .junk, .junk, .junk, .junk, .junk, .junk, .junk, .junk, .junk, .junk, .junk, .junk, .junk, .junk, .junk, .junk], h⟩
noncomputable def K0 (E : Env) (K : PX → St → Res) : PX → St → Res := (kBlock 0 (kSeq (ev (E.cx Tryd.prog kl) (codeAt (bodyOf Tryd.f18) [1, 1])) K))
@[simp] theorem K0_ret (E : Env) (K : PX → St → Res) (s : St) : K0 E K .ret s = K .ret s := by kernel_rfl
noncomputable def body0 (E : Env) (K : PX → St → Res) (x0 x1 x5 : PV) (h : PHeap) : Res :=
    (E.p.len 23 x1).bind fun v56 =>
    (E.p.bin .lss 3 x5 v56).bind fun v57 =>
    condP v57
     (
      (E.p.indexAddr 23 x1 x5).bind fun v58 =>
      (E.p.load 34 v58 h).bind fun v59 =>
      (E.p.alloc 34 h).bind fun v60 =>
      (E.p.store 34 v60.1 v59 v60.2).bind fun v61 =>
      (E.p.fieldAddr 34 v60.1 0).bind fun v62 =>
      (E.p.load 3 v62 v61).bind fun v63 =>
      (E.p.bin .lss 3 v63 (.int .i64 0)).bind fun v64 =>
      (wantV v64 false).bind fun v65 =>
      (bif v65 then pv v61 (E.p.fieldAddr 34 v60.1 0) else some (.tup [], v61)).bind fun v66 =>
      (wantV v64 false).bind fun v67 =>
      (bif v67 then pv v66.2 (E.p.load 3 v66.1 v66.2) else some (.tup [], v66.2)).bind fun v68 =>
      (wantV v64 false).bind fun v69 =>
      (bif v69 then some (x0, v68.2) else some (.tup [], v68.2)).bind fun v70 =>
      (wantV v64 false).bind fun v71 =>
      (bif v71 then pv v70.2 (E.p.bin .geq 3 v68.1 v70.1) else some (.tup [], v70.2)).bind fun v72 =>
      (E.p.pick v64 (.bool true) v72.1).bind fun v73 =>
      (wantV v73 false).bind fun v74 =>
      (bif v74 then pv v72.2 (E.p.fieldAddr 34 v60.1 1) else some (.tup [], v72.2)).bind fun v75 =>
      (wantV v73 false).bind fun v76 =>
      (bif v76 then pv v75.2 (E.p.load 3 v75.1 v75.2) else some (.tup [], v75.2)).bind fun v77 =>
      (wantV v73 false).bind fun v78 =>
      (bif v78 then pv v77.2 (E.p.bin .lss 3 v77.1 (.int .i64 0)) else some (.tup [], v77.2)).bind fun v79 =>
      (E.p.pick v73 (.bool true) v79.1).bind fun v80 =>
      (wantV v80 false).bind fun v81 =>
      (bif v81 then pv v79.2 (E.p.fieldAddr 34 v60.1 1) else some (.tup [], v79.2)).bind fun v82 =>
      (wantV v80 false).bind fun v83 =>
      (bif v83 then pv v82.2 (E.p.load 3 v82.1 v82.2) else some (.tup [], v82.2)).bind fun v84 =>
      (wantV v80 false).bind fun v85 =>
      (bif v85 then some (x0, v84.2) else some (.tup [], v84.2)).bind fun v86 =>
      (wantV v80 false).bind fun v87 =>
      (bif v87 then pv v86.2 (E.p.bin .geq 3 v84.1 v86.1) else some (.tup [], v86.2)).bind fun v88 =>
      (E.p.pick v80 (.bool true) v88.1).bind fun v89 =>
      (wantV v89 false).bind fun v90 =>
      (bif v90 then pv v88.2 (E.p.fieldAddr 34 v60.1 0) else some (.tup [], v88.2)).bind fun v91 =>
      (wantV v89 false).bind fun v92 =>
      (bif v92 then pv v91.2 (E.p.load 3 v91.1 v91.2) else some (.tup [], v91.2)).bind fun v93 =>
      (wantV v89 false).bind fun v94 =>
      (bif v94 then pv v93.2 (E.p.fieldAddr 34 v60.1 1) else some (.tup [], v93.2)).bind fun v95 =>
      (wantV v89 false).bind fun v96 =>
      (bif v96 then pv v95.2 (E.p.load 3 v95.1 v95.2) else some (.tup [], v95.2)).bind fun v97 =>
      (wantV v89 false).bind fun v98 =>
      (bif v98 then pv v97.2 (E.p.bin .eql 3 v93.1 v97.1) else some (.tup [], v97.2)).bind fun v99 =>
      (E.p.pick v89 (.bool true) v99.1).bind fun v100 =>
      condP v100
       (
        K .ret (sr_4 (.bool false) v99.2))
       (
        (E.p.bin .add 3 x5 (.int .i64 1)).bind fun v101 =>
        K .normal (st0 x0 x1 v101 v99.2)))
     (
      K (.exit 0) (se0_0_1_5_10 x0 x1 x5 v57 h))
theorem body0_eq (E : Env) (K : PX → St → Res) (x0 x1 x5 : PV) (h : PHeap) : ev (E.cx Tryd.prog kl) lp0 (st0 x0 x1 x5 h) K = body0 E K x0 x1 x5 h := by kernel_rfl
theorem after0_se0_0_1_5_10 (E : Env) (x0 x1 x5 x10 : PV) (h : PHeap) : K0 E (kTop Tryd.prog Tryd.f18) (.exit 0) (se0_0_1_5_10 x0 x1 x5 x10 h) =
    (E.C fn_spec_l1In [x0, (.int .i64 2), (.int .i64 5)] h).bind fun v47 =>
    (wantV v47.1 true).bind fun v48 =>
    (bif v48 then some (x1, v47.2) else some (.tup [], v47.2)).bind fun v49 =>
    (wantV v47.1 true).bind fun v50 =>
    (bif v50 then pv v49.2 (E.p.len 23 v49.1) else some (.tup [], v49.2)).bind fun v51 =>
    (wantV v47.1 true).bind fun v52 =>
    (bif v52 then pv v51.2 (E.p.bin .leq 3 v51.1 (.int .i64 8)) else some (.tup [], v51.2)).bind fun v53 =>
    (E.p.pick v47.1 v53.1 (.bool false)).bind fun v54 =>
    (resV v54).bind fun v55 =>
    some (v55, v53.2) := by kernel_rfl
theorem top_sr_4 (x4 : PV) (h : PHeap) : kTop Tryd.prog Tryd.f18 .ret (sr_4 x4 h) =
    (resV x4).bind fun v102 =>
    some (v102, h) := by kernel_rfl
noncomputable def main (E : Env) (x0 x1 : PV) (h : PHeap) : Res :=
    loopK (ev (E.cx Tryd.prog spec_WiresOk.kl) spec_WiresOk.lp0) E.lf (spec_WiresOk.st0 x0 x1 (.int .i64 0) h) (spec_WiresOk.K0 E (kTop Tryd.prog Tryd.f18))
theorem main_eq (E : Env) (x0 x1 : PV) (h : PHeap) : runBody (E.cx Tryd.prog kl) Tryd.f18 [x0, x1] h = main E x0 x1 h := by kernel_rfl
theorem call_eq (g : Nat → PV) (lf n : Nat) (x0 x1 : PV) (h : PHeap) : CL g lf (n + 1) fn_spec_WiresOk [x0, x1] h = main (env g lf n) x0 x1 h := by
  rw [← main_eq]
  show call Tryd.prog g KL lf (n + 1) 18 [x0, x1] h = _
  rw [call_succ, Tryd.func18]
  kernel_rfl
end spec_WiresOk
namespace laws_szWireS
noncomputable def main (E : Env) (x0 x1 : PV) (h : PHeap) : Res :=
    (E.p.len 40 x0).bind fun v1 =>
    (E.p.bin .sub 3 x1 v1).bind fun v2 =>
    (E.p.bin .lss 3 v2 (.int .i64 0)).bind fun v3 =>
    condP v3
     (
      (resV (.int .i64 (-1))).bind fun v4 =>
      some (v4, h))
     (
      (resV v2).bind fun v5 =>
      some (v5, h))
theorem main_eq (E : Env) (x0 x1 : PV) (h : PHeap) : runBody (E.cx Tryd.prog kl) Tryd.f19 [x0, x1] h = main E x0 x1 h := by kernel_rfl
theorem call_eq (g : Nat → PV) (lf n : Nat) (x0 x1 : PV) (h : PHeap) : CL g lf (n + 1) fn_laws_szWireS [x0, x1] h = main (env g lf n) x0 x1 h := by
  rw [← main_eq]
  show call Tryd.prog g KL lf (n + 1) 19 [x0, x1] h = _
  rw [call_succ, Tryd.func19]
  kernel_rfl
end laws_szWireS
namespace spec_TreeOk
noncomputable def main (E : Env) (x0 x1 x2 : PV) (h : PHeap) : Res :=
    (E.C fn_spec_WiresOk [x0, x1] h).bind fun v1 =>
    (wantV v1.1 true).bind fun v2 =>
    (bif v2 then some (x2, v1.2) else some (.tup [], v1.2)).bind fun v3 =>
    (wantV v1.1 true).bind fun v4 =>
    (bif v4 then some (x1, v3.2) else some (.tup [], v3.2)).bind fun v5 =>
    (wantV v1.1 true).bind fun v6 =>
    (bif v6 then pv v5.2 (E.p.len 23 v5.1) else some (.tup [], v5.2)).bind fun v7 =>
    (wantV v1.1 true).bind fun v8 =>
    (bif v8 then pv v7.2 (E.p.bin .shl 3 (.int .i64 1) v7.1) else some (.tup [], v7.2)).bind fun v9 =>
    (wantV v1.1 true).bind fun v10 =>
    (bif v10 then pv v9.2 (E.p.bin .sub 3 v9.1 (.int .i64 1)) else some (.tup [], v9.2)).bind fun v11 =>
    (wantV v1.1 true).bind fun v12 =>
    (bif v12 then E.C fn_spec_l1In [v3.1, (.int .i64 0), v11.1] v11.2 else some (.tup [], v11.2)).bind fun v13 =>
    (E.p.pick v1.1 v13.1 (.bool false)).bind fun v14 =>
    (wantV v14 true).bind fun v15 =>
    (bif v15 then some (x1, v13.2) else some (.tup [], v13.2)).bind fun v16 =>
    (wantV v14 true).bind fun v17 =>
    (bif v17 then some (x2, v16.2) else some (.tup [], v16.2)).bind fun v18 =>
    (wantV v14 true).bind fun v19 =>
    (bif v19 then some (x0, v18.2) else some (.tup [], v18.2)).bind fun v20 =>
    (wantV v14 true).bind fun v21 =>
    (bif v21 then pv v20.2 (E.p.bin .shl 3 (.int .i64 1) v20.1) else some (.tup [], v20.2)).bind fun v22 =>
    (wantV v14 true).bind fun v23 =>
    (bif v23 then pv v22.2 (E.p.bin .sub 3 v22.1 (.int .i64 1)) else some (.tup [], v22.2)).bind fun v24 =>
    (wantV v14 true).bind fun v25 =>
    (bif v25 then E.C fn_spec_l10Tree [v16.1, v18.1, v24.1] v24.2 else some (.tup [], v24.2)).bind fun v26 =>
    (E.p.pick v14 v26.1 (.bool false)).bind fun v27 =>
    (resV v27).bind fun v28 =>
    some (v28, v26.2)
theorem main_eq (E : Env) (x0 x1 x2 : PV) (h : PHeap) : runBody (E.cx Tryd.prog kl) Tryd.f20 [x0, x1, x2] h = main E x0 x1 x2 h := by kernel_rfl
theorem call_eq (g : Nat → PV) (lf n : Nat) (x0 x1 x2 : PV) (h : PHeap) : CL g lf (n + 1) fn_spec_TreeOk [x0, x1, x2] h = main (env g lf n) x0 x1 x2 h := by
  rw [← main_eq]
  show call Tryd.prog g KL lf (n + 1) 20 [x0, x1, x2] h = _
  rw [call_succ, Tryd.func20]
  kernel_rfl
end spec_TreeOk
namespace laws_toWireS
noncomputable def lp0 : Code := (codeAt (bodyOf Tryd.f21) [1, 1, 0, 1, 0, 0])
def st0 (x0 x3 x4 : PV) (h : PHeap) : St := ⟨[x0, .junk, .junk, x3, x4, .junk, .junk, .junk, .junk, .junk, .junk, .junk, .junk, .junk, .junk, .junk, .junk, .junk, .junk, .junk, .junk, .junk, .junk], h⟩
def se0_0_3_4_11 (x0 x3 x4 x11 : PV) (h : PHeap) : St := ⟨[x0, .junk, .junk, x3, x4, .junk, .junk, .junk, .junk, .junk, .junk, x11, .junk, .junk, .junk, .junk, .junk, .junk, .junk, .junk, .junk, .junk, .junk], h⟩
noncomputable def K0 (E : Env) (K : PX → St → Res) : PX → St → Res := (kBlock 0 (kSeq (ev (E.cx Tryd.prog kl) (codeAt (bodyOf Tryd.f21) [1, 1, 1])) K))
@[simp] theorem K0_ret (E : Env) (K : PX → St → Res) (s : St) : K0 E K .ret s = K .ret s := by kernel_rfl
noncomputable def body0 (E : Env) (K : PX → St → Res) (x0 x3 x4 : PV) (h : PHeap) : Res :=
    (E.p.len 40 x0).bind fun v12 =>
    (E.p.bin .lss 3 x4 v12).bind fun v13 =>
    condP v13
     (
      (E.p.indexAddr 40 x0 x4).bind fun v14 =>
      (E.p.load 59 v14 h).bind fun v15 =>
      (E.C fn_laws_toWire [v15] h).bind fun v16 =>
      (E.p.indexAddr 23 x3 x4).bind fun v17 =>
      (E.p.store 34 v17 v16.1 v16.2).bind fun v18 =>
      (E.p.bin .add 3 x4 (.int .i64 1)).bind fun v19 =>
      K .normal (st0 x0 x3 v19 v18))
     (
      K (.exit 0) (se0_0_3_4_11 x0 x3 x4 v13 h))
theorem body0_eq (E : Env) (K : PX → St → Res) (x0 x3 x4 : PV) (h : PHeap) : ev (E.cx Tryd.prog kl) lp0 (st0 x0 x3 x4 h) K = body0 E K x0 x3 x4 h := by kernel_rfl
theorem after0_se0_0_3_4_11 (E : Env) (x0 x3 x4 x11 : PV) (h : PHeap) : K0 E (kTop Tryd.prog Tryd.f21) (.exit 0) (se0_0_3_4_11 x0 x3 x4 x11 h) =
    (resV x3).bind fun v11 =>
    some (v11, h) := by kernel_rfl
noncomputable def main (E : Env) (x0 : PV) (h : PHeap) : Res :=
    (E.p.len 40 x0).bind fun v1 =>
    (E.p.make 23 v1 v1 h).bind fun v2 =>
    loopK (ev (E.cx Tryd.prog laws_toWireS.kl) laws_toWireS.lp0) E.lf (laws_toWireS.st0 x0 v2.1 (.int .i64 0) v2.2) (laws_toWireS.K0 E (kTop Tryd.prog Tryd.f21))
theorem main_eq (E : Env) (x0 : PV) (h : PHeap) : runBody (E.cx Tryd.prog kl) Tryd.f21 [x0] h = main E x0 h := by kernel_rfl
theorem call_eq (g : Nat → PV) (lf n : Nat) (x0 : PV) (h : PHeap) : CL g lf (n + 1) fn_laws_toWireS [x0] h = main (env g lf n) x0 h := by
  rw [← main_eq]
  show call Tryd.prog g KL lf (n + 1) 21 [x0] h = _
  rw [call_succ, Tryd.func21]
  kernel_rfl
end laws_toWireS
namespace laws_eqWireS
noncomputable def lp0 : Code := (codeAt (bodyOf Tryd.f22) [1, 1, 0, 1, 0, 0])
def st0 (x0 x1 x5 : PV) (h : PHeap) : St := ⟨[x0, x1, .junk, .junk, .junk, x5, .junk, .junk, .junk, .junk, .junk, .junk, .junk, .junk, .junk, .junk, .junk, .junk, .junk, .junk, .junk, .junk, .junk, .junk, .junk, .junk, .junk], h⟩
def sr_4 (x4 : PV) (h : PHeap) : St := ⟨[.junk, .junk, .junk, .junk, x4, .junk, .junk, .junk, .junk, .junk, .junk, .junk, .junk, .junk, .junk, .junk, .junk, .junk, .junk, .junk, .junk, .junk, .junk, .junk, .junk, .junk, .junk], h⟩
def se0_0_1_5_14 (x0 x1 x5 x14 : PV) (h : PHeap) : St := ⟨[x0, x1, .junk, .junk, .junk, x5, .junk, .junk, .junk, .junk, .junk, .junk, .junk, .junk, x14, .junk, .junk, .junk, .junk, .junk, .junk, .junk, .junk, .junk, .junk, .junk, .junk], h⟩
noncomputable def K0 (E : Env) (K : PX → St → Res) : PX → St → Res := (kBlock 0 (kSeq (ev (E.cx Tryd.prog kl) (codeAt (bodyOf Tryd.f22) [1, 1, 1])) K))
@[simp] theorem K0_ret (E : Env) (K : PX → St → Res) (s : St) : K0 E K .ret s = K .ret s := by kernel_rfl
noncomputable def body0 (E : Env) (K : PX → St → Res) (x0 x1 x5 : PV) (h : PHeap) : Res :=
    (E.p.len 23 x0).bind fun v17 =>
    (E.p.bin .lss 3 x5 v17).bind fun v18 =>
    condP v18
     (
      (E.p.indexAddr 23 x0 x5).bind fun v19 =>
      (E.p.load 34 v19 h).bind fun v20 =>
      (E.p.indexAddr 23 x1 x5).bind fun v21 =>
      (E.p.load 34 v21 h).bind fun v22 =>
      (E.C fn_laws_eqWire [v20, v22] h).bind fun v23 =>
      (E.p.load 34 v21 v23.2).bind fun v24 =>
      ckP (plainEq v22 v24) (
      (E.p.load 34 v19 v23.2).bind fun v25 =>
      ckP (plainEq v20 v25) (
      (E.p.un .not v23.1).bind fun v26 =>
      condP v26
       (
        K .ret (sr_4 (.bool false) v23.2))
       (
        (E.p.bin .add 3 x5 (.int .i64 1)).bind fun v27 =>
        K .normal (st0 x0 x1 v27 v23.2)))))
     (
      K (.exit 0) (se0_0_1_5_14 x0 x1 x5 v18 h))
theorem body0_eq (E : Env) (K : PX → St → Res) (x0 x1 x5 : PV) (h : PHeap) : ev (E.cx Tryd.prog kl) lp0 (st0 x0 x1 x5 h) K = body0 E K x0 x1 x5 h := by kernel_rfl
theorem after0_se0_0_1_5_14 (E : Env) (x0 x1 x5 x14 : PV) (h : PHeap) : K0 E (kTop Tryd.prog Tryd.f22) (.exit 0) (se0_0_1_5_14 x0 x1 x5 x14 h) =
    (resV (.bool true)).bind fun v16 =>
    some (v16, h) := by kernel_rfl
theorem top_sr_4 (x4 : PV) (h : PHeap) : kTop Tryd.prog Tryd.f22 .ret (sr_4 x4 h) =
    (resV x4).bind fun v28 =>
    some (v28, h) := by kernel_rfl
noncomputable def main (E : Env) (x0 x1 : PV) (h : PHeap) : Res :=
    (E.p.len 23 x0).bind fun v1 =>
    (E.p.len 23 x1).bind fun v2 =>
    (E.p.bin .neq 3 v1 v2).bind fun v3 =>
    condP v3
     (
      (resV (.bool false)).bind fun v4 =>
      some (v4, h))
     (
      loopK (ev (E.cx Tryd.prog laws_eqWireS.kl) laws_eqWireS.lp0) E.lf (laws_eqWireS.st0 x0 x1 (.int .i64 0) h) (laws_eqWireS.K0 E (kTop Tryd.prog Tryd.f22)))
theorem main_eq (E : Env) (x0 x1 : PV) (h : PHeap) : runBody (E.cx Tryd.prog kl) Tryd.f22 [x0, x1] h = main E x0 x1 h := by kernel_rfl
theorem call_eq (g : Nat → PV) (lf n : Nat) (x0 x1 : PV) (h : PHeap) : CL g lf (n + 1) fn_laws_eqWireS [x0, x1] h = main (env g lf n) x0 x1 h := by
  rw [← main_eq]
  show call Tryd.prog g KL lf (n + 1) 22 [x0, x1] h = _
  rw [call_succ, Tryd.func22]
  kernel_rfl
end laws_eqWireS
namespace spec_TreesOf
noncomputable def lp0 : Code := (codeAt (bodyOf Tryd.f23) [1, 1, 0, 1, 0, 0])
def st0 (x0 x1 x5 x6 : PV) (h : PHeap) : St := ⟨[x0, x1, .junk, .junk, .junk, x5, x6, .junk, .junk, .junk, .junk, .junk, .junk, .junk, .junk, .junk, .junk, .junk, .junk, .junk, .junk, .junk, .junk, .junk, .junk, .junk, .junk, .junk, .junk, .junk, .junk], h⟩
def se0_0_1_5_6_17 (x0 x1 x5 x6 x17 : PV) (h : PHeap) : St := ⟨[x0, x1, .junk, .junk, .junk, x5, x6, .junk, .junk, .junk, .junk, .junk, .junk, .junk, .junk, .junk, .junk, x17, .junk, .junk, .junk, .junk, .junk, .junk, .junk, .junk, .junk, .junk, .junk, .junk, .junk], h⟩
noncomputable def K0 (E : Env) (K : PX → St → Res) : PX → St → Res := (kBlock 0 (kSeq (ev (E.cx Tryd.prog kl) (codeAt (bodyOf Tryd.f23) [1, 1, 1])) K))
@[simp] theorem K0_ret (E : Env) (K : PX → St → Res) (s : St) : K0 E K .ret s = K .ret s := by kernel_rfl
noncomputable def body0 (E : Env) (K : PX → St → Res) (x0 x1 x5 x6 : PV) (h : PHeap) : Res :=
    (E.C fn_spec_WiresOk [x0, x1] h).bind fun v22 =>
    (wantV v22.1 true).bind fun v23 =>
    (bif v23 then some (x6, v22.2) else some (.tup [], v22.2)).bind fun v24 =>
    (wantV v22.1 true).bind fun v25 =>
    (bif v25 then some (x1, v24.2) else some (.tup [], v24.2)).bind fun v26 =>
    (wantV v22.1 true).bind fun v27 =>
    (bif v27 then pv v26.2 (E.p.len 23 v26.1) else some (.tup [], v26.2)).bind fun v28 =>
    (wantV v22.1 true).bind fun v29 =>
    (bif v29 then pv v28.2 (E.p.bin .shl 3 (.int .i64 1) v28.1) else some (.tup [], v28.2)).bind fun v30 =>
    (wantV v22.1 true).bind fun v31 =>
    (bif v31 then pv v30.2 (E.p.bin .lss 3 v24.1 v30.1) else some (.tup [], v30.2)).bind fun v32 =>
    (E.p.pick v22.1 v32.1 (.bool false)).bind fun v33 =>
    condP v33
     (
      (E.p.bin .shl 3 (.int .i64 1) x0).bind fun v34 =>
      (E.p.bin .sub 3 v34 (.int .i64 1)).bind fun v35 =>
      (E.C fn_spec_l10Tree [x1, x6, v35] v32.2).bind fun v36 =>
      condP v36.1
       (
        (E.p.buildSlice 35 1 [(0, x6)] v36.2).bind fun v37 =>
        (E.p.append 35 35 x5 v37.1 v37.2).bind fun v38 =>
        (E.p.bin .add 3 x6 (.int .i64 1)).bind fun v39 =>
        K .normal (st0 x0 x1 v38.1 v39 v38.2))
       (
        (E.p.bin .add 3 x6 (.int .i64 1)).bind fun v40 =>
        K .normal (st0 x0 x1 x5 v40 v36.2)))
     (
      K (.exit 0) (se0_0_1_5_6_17 x0 x1 x5 x6 v33 v32.2))
theorem body0_eq (E : Env) (K : PX → St → Res) (x0 x1 x5 x6 : PV) (h : PHeap) : ev (E.cx Tryd.prog kl) lp0 (st0 x0 x1 x5 x6 h) K = body0 E K x0 x1 x5 x6 h := by kernel_rfl
theorem after0_se0_0_1_5_6_17 (E : Env) (x0 x1 x5 x6 x17 : PV) (h : PHeap) : K0 E (kTop Tryd.prog Tryd.f23) (.exit 0) (se0_0_1_5_6_17 x0 x1 x5 x6 x17 h) =
    (resV x5).bind fun v21 =>
    some (v21, h) := by kernel_rfl
noncomputable def main (E : Env) (x0 x1 : PV) (h : PHeap) : Res :=
    (E.p.buildSlice 35 0 [] h).bind fun v1 =>
    loopK (ev (E.cx Tryd.prog spec_TreesOf.kl) spec_TreesOf.lp0) E.lf (spec_TreesOf.st0 x0 x1 v1.1 (.int .i64 0) v1.2) (spec_TreesOf.K0 E (kTop Tryd.prog Tryd.f23))
theorem main_eq (E : Env) (x0 x1 : PV) (h : PHeap) : runBody (E.cx Tryd.prog kl) Tryd.f23 [x0, x1] h = main E x0 x1 h := by kernel_rfl
theorem call_eq (g : Nat → PV) (lf n : Nat) (x0 x1 : PV) (h : PHeap) : CL g lf (n + 1) fn_spec_TreesOf [x0, x1] h = main (env g lf n) x0 x1 h := by
  rw [← main_eq]
  show call Tryd.prog g KL lf (n + 1) 23 [x0, x1] h = _
  rw [call_succ, Tryd.func23]
  kernel_rfl
end spec_TreesOf
namespace laws_eqIntS
noncomputable def lp0 : Code := (codeAt (bodyOf Tryd.f24) [1, 1, 0, 1, 0, 0])
def st0 (x0 x1 x5 : PV) (h : PHeap) : St := ⟨[x0, x1, .junk, .junk, .junk, x5, .junk, .junk, .junk, .junk, .junk, .junk, .junk, .junk, .junk, .junk, .junk, .junk, .junk, .junk, .junk, .junk, .junk, .junk, .junk, .junk], h⟩
def sr_4 (x4 : PV) (h : PHeap) : St := ⟨[.junk, .junk, .junk, .junk, x4, .junk, .junk, .junk, .junk, .junk, .junk, .junk, .junk, .junk, .junk, .junk, .junk, .junk, .junk, .junk, .junk, .junk, .junk, .junk, .junk, .junk], h⟩
def se0_0_1_5_14 (x0 x1 x5 x14 : PV) (h : PHeap) : St := ⟨[x0, x1, .junk, .junk, .junk, x5, .junk, .junk, .junk, .junk, .junk, .junk, .junk, .junk, x14, .junk, .junk, .junk, .junk, .junk, .junk, .junk, .junk, .junk, .junk, .junk], h⟩
noncomputable def K0 (E : Env) (K : PX → St → Res) : PX → St → Res := (kBlock 0 (kSeq (ev (E.cx Tryd.prog kl) (codeAt (bodyOf Tryd.f24) [1, 1, 1])) K))
@[simp] theorem K0_ret (E : Env) (K : PX → St → Res) (s : St) : K0 E K .ret s = K .ret s := by kernel_rfl
noncomputable def body0 (E : Env) (K : PX → St → Res) (x0 x1 x5 : PV) (h : PHeap) : Res :=
    (E.p.len 35 x0).bind fun v14 =>
    (E.p.bin .lss 3 x5 v14).bind fun v15 =>
    condP v15
     (
      (E.p.indexAddr 35 x0 x5).bind fun v16 =>
      (E.p.load 3 v16 h).bind fun v17 =>
      (E.p.indexAddr 35 x1 x5).bind fun v18 =>
      (E.p.load 3 v18 h).bind fun v19 =>
      (E.p.bin .neq 3 v17 v19).bind fun v20 =>
      condP v20
       (
        K .ret (sr_4 (.bool false) h))
       (
        (E.p.bin .add 3 x5 (.int .i64 1)).bind fun v21 =>
        K .normal (st0 x0 x1 v21 h)))
     (
      K (.exit 0) (se0_0_1_5_14 x0 x1 x5 v15 h))
theorem body0_eq (E : Env) (K : PX → St → Res) (x0 x1 x5 : PV) (h : PHeap) : ev (E.cx Tryd.prog kl) lp0 (st0 x0 x1 x5 h) K = body0 E K x0 x1 x5 h := by kernel_rfl
theorem after0_se0_0_1_5_14 (E : Env) (x0 x1 x5 x14 : PV) (h : PHeap) : K0 E (kTop Tryd.prog Tryd.f24) (.exit 0) (se0_0_1_5_14 x0 x1 x5 x14 h) =
    (resV (.bool true)).bind fun v13 =>
    some (v13, h) := by kernel_rfl
theorem top_sr_4 (x4 : PV) (h : PHeap) : kTop Tryd.prog Tryd.f24 .ret (sr_4 x4 h) =
    (resV x4).bind fun v22 =>
    some (v22, h) := by kernel_rfl
noncomputable def main (E : Env) (x0 x1 : PV) (h : PHeap) : Res :=
    (E.p.len 35 x0).bind fun v1 =>
    (E.p.len 35 x1).bind fun v2 =>
    (E.p.bin .neq 3 v1 v2).bind fun v3 =>
    condP v3
     (
      (resV (.bool false)).bind fun v4 =>
      some (v4, h))
     (
      loopK (ev (E.cx Tryd.prog laws_eqIntS.kl) laws_eqIntS.lp0) E.lf (laws_eqIntS.st0 x0 x1 (.int .i64 0) h) (laws_eqIntS.K0 E (kTop Tryd.prog Tryd.f24)))
theorem main_eq (E : Env) (x0 x1 : PV) (h : PHeap) : runBody (E.cx Tryd.prog kl) Tryd.f24 [x0, x1] h = main E x0 x1 h := by kernel_rfl
theorem call_eq (g : Nat → PV) (lf n : Nat) (x0 x1 : PV) (h : PHeap) : CL g lf (n + 1) fn_laws_eqIntS [x0, x1] h = main (env g lf n) x0 x1 h := by
  rw [← main_eq]
  show call Tryd.prog g KL lf (n + 1) 24 [x0, x1] h = _
  rw [call_succ, Tryd.func24]
  kernel_rfl
end laws_eqIntS
namespace laws_markWireS
noncomputable def lp0 : Code := (codeAt (bodyOf Tryd.f25) [1, 0, 1, 0, 0])
def st0 (x0 x1 x5 : PV) (h : PHeap) : St := ⟨[x0, x1, .junk, .junk, .junk, x5, .junk, .junk, .junk, .junk, .junk, .junk, .junk, .junk, .junk, .junk, .junk, .junk, .junk, .junk, .junk, .junk, .junk, .junk, .junk, .junk, .junk], h⟩
def se0_0_1_5_9 (x0 x1 x5 x9 : PV) (h : PHeap) : St := ⟨[x0, x1, .junk, .junk, .junk, x5, .junk, .junk, .junk, x9, .junk, .junk, .junk, .junk, .junk, .junk, .junk, .junk, .junk, .junk, .junk, .junk, .junk, .junk, .junk, .junk, .junk], h⟩
noncomputable def K0 (E : Env) (K : PX → St → Res) : PX → St → Res := (kBlock 0 (kSeq (ev (E.cx Tryd.prog kl) (codeAt (bodyOf Tryd.f25) [1, 1])) K))
@[simp] theorem K0_ret (E : Env) (K : PX → St → Res) (s : St) : K0 E K .ret s = K .ret s := by kernel_rfl
noncomputable def body0 (E : Env) (K : PX → St → Res) (x0 x1 x5 : PV) (h : PHeap) : Res :=
    (E.p.len 23 x0).bind fun v13 =>
    (E.p.bin .lss 3 x5 v13).bind fun v14 =>
    condP v14
     (
      (E.p.indexAddr 23 x0 x5).bind fun v15 =>
      (E.p.fieldAddr 34 v15 0).bind fun v16 =>
      (E.p.store 3 v16 x1 h).bind fun v17 =>
      (E.p.bin .add 3 x1 (.int .i64 1)).bind fun v18 =>
      (E.p.indexAddr 23 x0 x5).bind fun v19 =>
      (E.p.fieldAddr 34 v19 1).bind fun v20 =>
      (E.p.store 3 v20 v18 v17).bind fun v21 =>
      (E.p.bin .add 3 v18 (.int .i64 1)).bind fun v22 =>
      (E.p.bin .add 3 x5 (.int .i64 1)).bind fun v23 =>
      K .normal (st0 x0 v22 v23 v21))
     (
      K (.exit 0) (se0_0_1_5_9 x0 x1 x5 v14 h))
theorem body0_eq (E : Env) (K : PX → St → Res) (x0 x1 x5 : PV) (h : PHeap) : ev (E.cx Tryd.prog kl) lp0 (st0 x0 x1 x5 h) K = body0 E K x0 x1 x5 h := by kernel_rfl
theorem after0_se0_0_1_5_9 (E : Env) (x0 x1 x5 x9 : PV) (h : PHeap) : K0 E (kTop Tryd.prog Tryd.f25) (.exit 0) (se0_0_1_5_9 x0 x1 x5 x9 h) =
    (resV x1).bind fun v12 =>
    some (v12, h) := by kernel_rfl
noncomputable def main (E : Env) (x0 x1 : PV) (h : PHeap) : Res :=
    loopK (ev (E.cx Tryd.prog laws_markWireS.kl) laws_markWireS.lp0) E.lf (laws_markWireS.st0 x0 x1 (.int .i64 0) h) (laws_markWireS.K0 E (kTop Tryd.prog Tryd.f25))
theorem main_eq (E : Env) (x0 x1 : PV) (h : PHeap) : runBody (E.cx Tryd.prog kl) Tryd.f25 [x0, x1] h = main E x0 x1 h := by kernel_rfl
theorem call_eq (g : Nat → PV) (lf n : Nat) (x0 x1 : PV) (h : PHeap) : CL g lf (n + 1) fn_laws_markWireS [x0, x1] h = main (env g lf n) x0 x1 h := by
  rw [← main_eq]
  show call Tryd.prog g KL lf (n + 1) 25 [x0, x1] h = _
  rw [call_succ, Tryd.func25]
  kernel_rfl
end laws_markWireS
namespace laws_markIntS
noncomputable def lp0 : Code := (codeAt (bodyOf Tryd.f26) [1, 0, 1, 0, 0])
def st0 (x0 x1 x5 : PV) (h : PHeap) : St := ⟨[x0, x1, .junk, .junk, .junk, x5, .junk, .junk, .junk, .junk, .junk, .junk, .junk, .junk, .junk, .junk, .junk, .junk, .junk], h⟩
def se0_0_1_5_9 (x0 x1 x5 x9 : PV) (h : PHeap) : St := ⟨[x0, x1, .junk, .junk, .junk, x5, .junk, .junk, .junk, x9, .junk, .junk, .junk, .junk, .junk, .junk, .junk, .junk, .junk], h⟩
noncomputable def K0 (E : Env) (K : PX → St → Res) : PX → St → Res := (kBlock 0 (kSeq (ev (E.cx Tryd.prog kl) (codeAt (bodyOf Tryd.f26) [1, 1])) K))
@[simp] theorem K0_ret (E : Env) (K : PX → St → Res) (s : St) : K0 E K .ret s = K .ret s := by kernel_rfl
noncomputable def body0 (E : Env) (K : PX → St → Res) (x0 x1 x5 : PV) (h : PHeap) : Res :=
    (E.p.len 35 x0).bind fun v8 =>
    (E.p.bin .lss 3 x5 v8).bind fun v9 =>
    condP v9
     (
      (E.p.indexAddr 35 x0 x5).bind fun v10 =>
      (E.p.store 3 v10 x1 h).bind fun v11 =>
      (E.p.bin .add 3 x1 (.int .i64 1)).bind fun v12 =>
      (E.p.bin .add 3 x5 (.int .i64 1)).bind fun v13 =>
      K .normal (st0 x0 v12 v13 v11))
     (
      K (.exit 0) (se0_0_1_5_9 x0 x1 x5 v9 h))
theorem body0_eq (E : Env) (K : PX → St → Res) (x0 x1 x5 : PV) (h : PHeap) : ev (E.cx Tryd.prog kl) lp0 (st0 x0 x1 x5 h) K = body0 E K x0 x1 x5 h := by kernel_rfl
theorem after0_se0_0_1_5_9 (E : Env) (x0 x1 x5 x9 : PV) (h : PHeap) : K0 E (kTop Tryd.prog Tryd.f26) (.exit 0) (se0_0_1_5_9 x0 x1 x5 x9 h) =
    (resV x1).bind fun v7 =>
    some (v7, h) := by kernel_rfl
noncomputable def main (E : Env) (x0 x1 : PV) (h : PHeap) : Res :=
    loopK (ev (E.cx Tryd.prog laws_markIntS.kl) laws_markIntS.lp0) E.lf (laws_markIntS.st0 x0 x1 (.int .i64 0) h) (laws_markIntS.K0 E (kTop Tryd.prog Tryd.f26))
theorem main_eq (E : Env) (x0 x1 : PV) (h : PHeap) : runBody (E.cx Tryd.prog kl) Tryd.f26 [x0, x1] h = main E x0 x1 h := by kernel_rfl
theorem call_eq (g : Nat → PV) (lf n : Nat) (x0 x1 : PV) (h : PHeap) : CL g lf (n + 1) fn_laws_markIntS [x0, x1] h = main (env g lf n) x0 x1 h := by
  rw [← main_eq]
  show call Tryd.prog g KL lf (n + 1) 26 [x0, x1] h = _
  rw [call_succ, Tryd.func26]
  kernel_rfl
end laws_markIntS
namespace laws_heldIntS
noncomputable def lp0 : Code := (codeAt (bodyOf Tryd.f27) [1, 0, 1, 0, 0])
def st0 (x0 x1 x5 : PV) (h : PHeap) : St := ⟨[x0, x1, .junk, .junk, .junk, x5, .junk, .junk, .junk, .junk, .junk, .junk, .junk, .junk, .junk, .junk, .junk, .junk, .junk, .junk, .junk], h⟩
def sr_4 (x4 : PV) (h : PHeap) : St := ⟨[.junk, .junk, .junk, .junk, x4, .junk, .junk, .junk, .junk, .junk, .junk, .junk, .junk, .junk, .junk, .junk, .junk, .junk, .junk, .junk, .junk], h⟩
def se0_0_1_5_9 (x0 x1 x5 x9 : PV) (h : PHeap) : St := ⟨[x0, x1, .junk, .junk, .junk, x5, .junk, .junk, .junk, x9, .junk, .junk, .junk, .junk, .junk, .junk, .junk, .junk, .junk, .junk, .junk], h⟩
noncomputable def K0 (E : Env) (K : PX → St → Res) : PX → St → Res := (kBlock 0 (kSeq (ev (E.cx Tryd.prog kl) (codeAt (bodyOf Tryd.f27) [1, 1])) K))
@[simp] theorem K0_ret (E : Env) (K : PX → St → Res) (s : St) : K0 E K .ret s = K .ret s := by kernel_rfl
noncomputable def body0 (E : Env) (K : PX → St → Res) (x0 x1 x5 : PV) (h : PHeap) : Res :=
    (E.p.len 35 x0).bind fun v9 =>
    (E.p.bin .lss 3 x5 v9).bind fun v10 =>
    condP v10
     (
      (E.p.indexAddr 35 x0 x5).bind fun v11 =>
      (E.p.load 3 v11 h).bind fun v12 =>
      (E.p.bin .neq 3 v12 x1).bind fun v13 =>
      condP v13
       (
        K .ret (sr_4 (.int .i64 (-1)) h))
       (
        (E.p.bin .add 3 x1 (.int .i64 1)).bind fun v14 =>
        (E.p.bin .add 3 x5 (.int .i64 1)).bind fun v15 =>
        K .normal (st0 x0 v14 v15 h)))
     (
      K (.exit 0) (se0_0_1_5_9 x0 x1 x5 v10 h))
theorem body0_eq (E : Env) (K : PX → St → Res) (x0 x1 x5 : PV) (h : PHeap) : ev (E.cx Tryd.prog kl) lp0 (st0 x0 x1 x5 h) K = body0 E K x0 x1 x5 h := by kernel_rfl
theorem after0_se0_0_1_5_9 (E : Env) (x0 x1 x5 x9 : PV) (h : PHeap) : K0 E (kTop Tryd.prog Tryd.f27) (.exit 0) (se0_0_1_5_9 x0 x1 x5 x9 h) =
    (resV x1).bind fun v8 =>
    some (v8, h) := by kernel_rfl
theorem top_sr_4 (x4 : PV) (h : PHeap) : kTop Tryd.prog Tryd.f27 .ret (sr_4 x4 h) =
    (resV x4).bind fun v16 =>
    some (v16, h) := by kernel_rfl
noncomputable def main (E : Env) (x0 x1 : PV) (h : PHeap) : Res :=
    loopK (ev (E.cx Tryd.prog laws_heldIntS.kl) laws_heldIntS.lp0) E.lf (laws_heldIntS.st0 x0 x1 (.int .i64 0) h) (laws_heldIntS.K0 E (kTop Tryd.prog Tryd.f27))
theorem main_eq (E : Env) (x0 x1 : PV) (h : PHeap) : runBody (E.cx Tryd.prog kl) Tryd.f27 [x0, x1] h = main E x0 x1 h := by kernel_rfl
theorem call_eq (g : Nat → PV) (lf n : Nat) (x0 x1 : PV) (h : PHeap) : CL g lf (n + 1) fn_laws_heldIntS [x0, x1] h = main (env g lf n) x0 x1 h := by
  rw [← main_eq]
  show call Tryd.prog g KL lf (n + 1) 27 [x0, x1] h = _
  rw [call_succ, Tryd.func27]
  kernel_rfl
end laws_heldIntS
namespace spec_l20Open
noncomputable def main (E : Env) (x0 : PV) (h : PHeap) : Res :=
    (E.p.len 22 x0).bind fun v1 =>
    (E.p.bin .gtr 3 v1 (.int .i64 2000)).bind fun v2 =>
    condP v2
     (
      (E.p.slice 22 x0 none (some (.int .i64 2000)) h).bind fun v3 =>
      (E.p.build 62 [(0, v3)]).bind fun v4 =>
      (E.p.box v4 h).bind fun v5 =>
      (resV v5.1).bind fun v6 =>
      some (v6, v5.2))
     (
      (E.p.build 62 [(0, x0)]).bind fun v7 =>
      (E.p.box v7 h).bind fun v8 =>
      (resV v8.1).bind fun v9 =>
      some (v9, v8.2))
theorem main_eq (E : Env) (x0 : PV) (h : PHeap) : runBody (E.cx Tryd.prog kl) Tryd.f28 [x0] h = main E x0 h := by kernel_rfl
theorem call_eq (g : Nat → PV) (lf n : Nat) (x0 : PV) (h : PHeap) : CL g lf (n + 1) fn_spec_l20Open [x0] h = main (env g lf n) x0 h := by
  rw [← main_eq]
  show call Tryd.prog g KL lf (n + 1) 28 [x0] h = _
  rw [call_succ, Tryd.func28]
  kernel_rfl
end spec_l20Open
namespace spec_l20Rich
noncomputable def lp0 : Code := (codeAt (bodyOf Tryd.f29) [1, 1, 0, 1, 0, 1, 1, 0, 1, 0, 0])
def st0 (x0 x4 x5 x6 : PV) (h : PHeap) : St := ⟨[x0, .junk, .junk, .junk, x4, x5, x6, .junk, .junk, .junk, .junk, .junk, .junk, .junk, .junk, .junk, .junk, .junk, .junk, .junk, .junk, .junk, .junk, .junk, .junk, .junk, .junk, .junk, .junk, .junk, .junk, .junk, .junk, .junk, .junk, .junk, .junk, .junk, .junk, .junk, .junk, .junk, .junk, .junk], h⟩
noncomputable def lp1 : Code := (codeAt (bodyOf Tryd.f29) [1, 1, 0, 1, 0, 1, 1, 0, 1, 0, 0, 1, 0, 0, 1, 0, 0])
def st1 (x0 x4 x5 x6 x7 : PV) (h : PHeap) : St := ⟨[x0, .junk, .junk, .junk, x4, x5, x6, x7, .junk, .junk, .junk, .junk, .junk, .junk, .junk, .junk, .junk, .junk, .junk, .junk, .junk, .junk, .junk, .junk, .junk, .junk, .junk, .junk, .junk, .junk, .junk, .junk, .junk, .junk, .junk, .junk, .junk, .junk, .junk, .junk, .junk, .junk, .junk, .junk], h⟩
def se0_0_4_5_6_21 (x0 x4 x5 x6 x21 : PV) (h : PHeap) : St := ⟨[x0, .junk, .junk, .junk, x4, x5, x6, .junk, .junk, .junk, .junk, .junk, .junk, .junk, .junk, .junk, .junk, .junk, .junk, .junk, .junk, x21, .junk, .junk, .junk, .junk, .junk, .junk, .junk, .junk, .junk, .junk, .junk, .junk, .junk, .junk, .junk, .junk, .junk, .junk, .junk, .junk, .junk, .junk], h⟩
def se2_0_4_5_6_7_26 (x0 x4 x5 x6 x7 x26 : PV) (h : PHeap) : St := ⟨[x0, .junk, .junk, .junk, x4, x5, x6, x7, .junk, .junk, .junk, .junk, .junk, .junk, .junk, .junk, .junk, .junk, .junk, .junk, .junk, .junk, .junk, .junk, .junk, .junk, x26, .junk, .junk, .junk, .junk, .junk, .junk, .junk, .junk, .junk, .junk, .junk, .junk, .junk, .junk, .junk, .junk, .junk], h⟩
noncomputable def K0 (E : Env) (K : PX → St → Res) : PX → St → Res := (kBlock 0 (kSeq (ev (E.cx Tryd.prog kl) (codeAt (bodyOf Tryd.f29) [1, 1, 0, 1, 0, 1, 1, 1])) (kSeq (ev (E.cx Tryd.prog kl) (codeAt (bodyOf Tryd.f29) [1, 1, 1])) K)))
@[simp] theorem K0_ret (E : Env) (K : PX → St → Res) (s : St) : K0 E K .ret s = K .ret s := by kernel_rfl
noncomputable def K1 (E : Env) (K : PX → St → Res) : PX → St → Res := (kBlock 2 (kBlock 1 (kSeq (ev (E.cx Tryd.prog kl) (codeAt (bodyOf Tryd.f29) [1, 1, 0, 1, 0, 1, 1, 0, 1, 0, 0, 1, 1])) K)))
@[simp] theorem K1_ret (E : Env) (K : PX → St → Res) (s : St) : K1 E K .ret s = K .ret s := by kernel_rfl
noncomputable def body0 (E : Env) (K : PX → St → Res) (x0 x4 x5 x6 : PV) (h : PHeap) : Res :=
    (E.p.bin .lss 3 x6 (.int .i64 2)).bind fun v26 =>
    condP v26
     (
      loopK (ev (E.cx Tryd.prog spec_l20Rich.kl) spec_l20Rich.lp1) E.lf (spec_l20Rich.st1 x0 x4 x5 x6 (.int .i64 1) h) (spec_l20Rich.K1 E K))
     (
      K (.exit 0) (se0_0_4_5_6_21 x0 x4 x5 x6 v26 h))
theorem body0_eq (E : Env) (K : PX → St → Res) (x0 x4 x5 x6 : PV) (h : PHeap) : ev (E.cx Tryd.prog kl) lp0 (st0 x0 x4 x5 x6 h) K = body0 E K x0 x4 x5 x6 h := by kernel_rfl
noncomputable def body1 (E : Env) (K : PX → St → Res) (x0 x4 x5 x6 x7 : PV) (h : PHeap) : Res :=
    (E.p.bin .lss 3 x7 x4).bind fun v27 =>
    condP v27
     (
      (E.C fn_spec_l20Rd_pick [x0, x7] h).bind fun v28 =>
      (E.p.build 34 [(0, v28.1), (1, x7)]).bind fun v29 =>
      (E.p.buildSlice 23 1 [(0, v29)] v28.2).bind fun v30 =>
      (E.p.append 23 23 x5 v30.1 v30.2).bind fun v31 =>
      (E.p.bin .add 3 x7 (.int .i64 1)).bind fun v32 =>
      K .normal (st1 x0 x4 v31.1 x6 v32 v31.2))
     (
      K (.exit 2) (se2_0_4_5_6_7_26 x0 x4 x5 x6 x7 v27 h))
theorem body1_eq (E : Env) (K : PX → St → Res) (x0 x4 x5 x6 x7 : PV) (h : PHeap) : ev (E.cx Tryd.prog kl) lp1 (st1 x0 x4 x5 x6 x7 h) K = body1 E K x0 x4 x5 x6 x7 h := by kernel_rfl
theorem after0_se0_0_4_5_6_21 (E : Env) (x0 x4 x5 x6 x21 : PV) (h : PHeap) : K0 E (kTop Tryd.prog Tryd.f29) (.exit 0) (se0_0_4_5_6_21 x0 x4 x5 x6 x21 h) =
    (E.C fn_spec_l20Rd_pick [x0, (.int .i64 3)] h).bind fun v18 =>
    (E.p.bin .eql 3 v18.1 (.int .i64 0)).bind fun v19 =>
    condP v19
     (
      (E.p.slice 23 x5 (some (.int .i64 1)) none v18.2).bind fun v20 =>
      (resV x4).bind fun v21 =>
      (resV v20).bind fun v22 =>
      some (.tup [v21, v22], v18.2))
     (
      (resV x4).bind fun v23 =>
      (resV x5).bind fun v24 =>
      some (.tup [v23, v24], v18.2)) := by kernel_rfl
theorem after1_se2_0_4_5_6_7_26 (E : Env) (K : PX → St → Res) (x0 x4 x5 x6 x7 x26 : PV) (h : PHeap) : K1 E K (.exit 2) (se2_0_4_5_6_7_26 x0 x4 x5 x6 x7 x26 h) =
    (E.p.bin .add 3 x6 (.int .i64 1)).bind fun v25 =>
    K .normal (st0 x0 x4 x5 v25 h) := by kernel_rfl
noncomputable def main (E : Env) (x0 : PV) (h : PHeap) : Res :=
    (E.C fn_spec_l20Wires [x0, (.int .i64 20)] h).bind fun v1 =>
    (E.p.extract v1.1 0).bind fun v2 =>
    (E.p.extract v1.1 1).bind fun v3 =>
    (E.C fn_spec_l20Rd_pick [x0, (.int .i64 2)] v1.2).bind fun v4 =>
    (E.p.bin .eql 3 v4.1 (.int .i64 0)).bind fun v5 =>
    condP v5
     (
      (E.C fn_spec_l20Rd_pick [x0, (.int .i64 3)] v4.2).bind fun v6 =>
      (E.p.bin .add 3 (.int .i64 2) v6.1).bind fun v7 =>
      (E.p.buildSlice 23 0 [] v6.2).bind fun v8 =>
      loopK (ev (E.cx Tryd.prog spec_l20Rich.kl) spec_l20Rich.lp0) E.lf (spec_l20Rich.st0 x0 v7 v8.1 (.int .i64 0) v8.2) (spec_l20Rich.K0 E (kTop Tryd.prog Tryd.f29)))
     (
      (resV v2).bind fun v9 =>
      (resV v3).bind fun v10 =>
      some (.tup [v9, v10], v4.2))
theorem main_eq (E : Env) (x0 : PV) (h : PHeap) : runBody (E.cx Tryd.prog kl) Tryd.f29 [x0] h = main E x0 h := by kernel_rfl
theorem call_eq (g : Nat → PV) (lf n : Nat) (x0 : PV) (h : PHeap) : CL g lf (n + 1) fn_spec_l20Rich [x0] h = main (env g lf n) x0 h := by
  rw [← main_eq]
  show call Tryd.prog g KL lf (n + 1) 29 [x0] h = _
  rw [call_succ, Tryd.func29]
  kernel_rfl
end spec_l20Rich
namespace spec_l20Rd_pick
noncomputable def main (E : Env) (x0 x1 : PV) (h : PHeap) : Res :=
    (E.p.ptr x0).bind fun v1 =>
    (E.p.fieldAddr 62 v1 1).bind fun v2 =>
    (E.p.load 3 v2 h).bind fun v3 =>
    (E.p.bin .add 3 v3 (.int .i64 1)).bind fun v4 =>
    (E.p.ptr x0).bind fun v5 =>
    (E.p.fieldAddr 62 v5 1).bind fun v6 =>
    (E.p.store 3 v6 v4 h).bind fun v7 =>
    (E.p.bin .lss 3 x1 (.int .i64 1)).bind fun v8 =>
    (wantV v8 false).bind fun v9 =>
    (bif v9 then some (x0, v7) else some (.tup [], v7)).bind fun v10 =>
    (wantV v8 false).bind fun v11 =>
    (bif v11 then pv v10.2 (E.p.ptr v10.1) else some (.tup [], v10.2)).bind fun v12 =>
    (wantV v8 false).bind fun v13 =>
    (bif v13 then pv v12.2 (E.p.fieldAddr 62 v12.1 0) else some (.tup [], v12.2)).bind fun v14 =>
    (wantV v8 false).bind fun v15 =>
    (bif v15 then pv v14.2 (E.p.load 22 v14.1 v14.2) else some (.tup [], v14.2)).bind fun v16 =>
    (wantV v8 false).bind fun v17 =>
    (bif v17 then pv v16.2 (E.p.len 22 v16.1) else some (.tup [], v16.2)).bind fun v18 =>
    (wantV v8 false).bind fun v19 =>
    (bif v19 then pv v18.2 (E.p.bin .eql 3 v18.1 (.int .i64 0)) else some (.tup [], v18.2)).bind fun v20 =>
    (E.p.pick v8 (.bool true) v20.1).bind fun v21 =>
    condP v21
     (
      (resV (.int .i64 0)).bind fun v22 =>
      some (v22, v20.2))
     (
      (E.p.ptr x0).bind fun v23 =>
      (E.p.fieldAddr 62 v23 1).bind fun v24 =>
      (E.p.load 3 v24 v20.2).bind fun v25 =>
      (E.p.bin .sub 3 v25 (.int .i64 1)).bind fun v26 =>
      (E.p.ptr x0).bind fun v27 =>
      (E.p.fieldAddr 62 v27 0).bind fun v28 =>
      (E.p.load 22 v28 v20.2).bind fun v29 =>
      (E.p.len 22 v29).bind fun v30 =>
      (E.p.bin .lss 3 v26 v30).bind fun v31 =>
      condP v31
       (
        (E.p.ptr x0).bind fun v32 =>
        (E.p.fieldAddr 62 v32 0).bind fun v33 =>
        (E.p.load 22 v33 v20.2).bind fun v34 =>
        (E.p.indexAddr 22 v34 v26).bind fun v35 =>
        (E.p.load 5 v35 v20.2).bind fun v36 =>
        (E.p.conv 5 3 v36).bind fun v37 =>
        (E.p.bin .rem 3 v37 x1).bind fun v38 =>
        (resV v38).bind fun v39 =>
        some (v39, v20.2))
       (
        (E.p.ptr x0).bind fun v40 =>
        (E.p.fieldAddr 62 v40 0).bind fun v41 =>
        (E.p.load 22 v41 v20.2).bind fun v42 =>
        (E.p.ptr x0).bind fun v43 =>
        (E.p.fieldAddr 62 v43 0).bind fun v44 =>
        (E.p.load 22 v44 v20.2).bind fun v45 =>
        (E.p.len 22 v45).bind fun v46 =>
        (E.p.bin .rem 3 v26 v46).bind fun v47 =>
        (E.p.indexAddr 22 v42 v47).bind fun v48 =>
        (E.p.load 5 v48 v20.2).bind fun v49 =>
        (E.p.conv 5 3 v49).bind fun v50 =>
        (E.p.bin .mul 3 v50 (.int .i64 131)).bind fun v51 =>
        (E.p.ptr x0).bind fun v52 =>
        (E.p.fieldAddr 62 v52 0).bind fun v53 =>
        (E.p.load 22 v53 v20.2).bind fun v54 =>
        (E.p.bin .mul 3 v26 (.int .i64 7)).bind fun v55 =>
        (E.p.bin .add 3 v55 (.int .i64 3)).bind fun v56 =>
        (E.p.ptr x0).bind fun v57 =>
        (E.p.fieldAddr 62 v57 0).bind fun v58 =>
        (E.p.load 22 v58 v20.2).bind fun v59 =>
        (E.p.len 22 v59).bind fun v60 =>
        (E.p.bin .rem 3 v56 v60).bind fun v61 =>
        (E.p.indexAddr 22 v54 v61).bind fun v62 =>
        (E.p.load 5 v62 v20.2).bind fun v63 =>
        (E.p.conv 5 3 v63).bind fun v64 =>
        (E.p.bin .mul 3 v64 (.int .i64 1117)).bind fun v65 =>
        (E.p.bin .add 3 v51 v65).bind fun v66 =>
        (E.p.bin .mul 3 v26 (.int .i64 29)).bind fun v67 =>
        (E.p.bin .add 3 v66 v67).bind fun v68 =>
        (E.p.ptr x0).bind fun v69 =>
        (E.p.fieldAddr 62 v69 0).bind fun v70 =>
        (E.p.load 22 v70 v20.2).bind fun v71 =>
        (E.p.len 22 v71).bind fun v72 =>
        (E.p.bin .quo 3 v26 v72).bind fun v73 =>
        (E.p.bin .mul 3 v73 (.int .i64 53)).bind fun v74 =>
        (E.p.bin .add 3 v68 v74).bind fun v75 =>
        (E.p.bin .quo 3 v75 (.int .i64 64)).bind fun v76 =>
        (E.p.bin .xor 3 v75 v76).bind fun v77 =>
        (E.p.bin .rem 3 v77 x1).bind fun v78 =>
        (resV v78).bind fun v79 =>
        some (v79, v20.2)))
theorem main_eq (E : Env) (x0 x1 : PV) (h : PHeap) : runBody (E.cx Tryd.prog kl) Tryd.f30 [x0, x1] h = main E x0 x1 h := by kernel_rfl
theorem call_eq (g : Nat → PV) (lf n : Nat) (x0 x1 : PV) (h : PHeap) : CL g lf (n + 1) fn_spec_l20Rd_pick [x0, x1] h = main (env g lf n) x0 x1 h := by
  rw [← main_eq]
  show call Tryd.prog g KL lf (n + 1) 30 [x0, x1] h = _
  rw [call_succ, Tryd.func30]
  kernel_rfl
end spec_l20Rd_pick
namespace impl_wireOk
noncomputable def main (E : Env) (x0 x1 : PV) (h : PHeap) : Res :=
    (E.p.bin .geq 3 x1 (.int .i64 0)).bind fun v1 =>
    (wantV v1 true).bind fun v2 =>
    (bif v2 then some (x1, h) else some (.tup [], h)).bind fun v3 =>
    (wantV v1 true).bind fun v4 =>
    (bif v4 then some (x0, v3.2) else some (.tup [], v3.2)).bind fun v5 =>
    (wantV v1 true).bind fun v6 =>
    (bif v6 then pv v5.2 (E.p.len 23 v5.1) else some (.tup [], v5.2)).bind fun v7 =>
    (wantV v1 true).bind fun v8 =>
    (bif v8 then pv v7.2 (E.p.bin .lss 3 v3.1 v7.1) else some (.tup [], v7.2)).bind fun v9 =>
    (E.p.pick v1 v9.1 (.bool false)).bind fun v10 =>
    (resV v10).bind fun v11 =>
    some (v11, v9.2)
theorem main_eq (E : Env) (x0 x1 : PV) (h : PHeap) : runBody (E.cx Tryd.prog kl) Tryd.f31 [x0, x1] h = main E x0 x1 h := by kernel_rfl
theorem call_eq (g : Nat → PV) (lf n : Nat) (x0 x1 : PV) (h : PHeap) : CL g lf (n + 1) fn_impl_wireOk [x0, x1] h = main (env g lf n) x0 x1 h := by
  rw [← main_eq]
  show call Tryd.prog g KL lf (n + 1) 31 [x0, x1] h = _
  rw [call_succ, Tryd.func31]
  kernel_rfl
end impl_wireOk
namespace impl_hasWire
noncomputable def main (E : Env) (x0 x1 : PV) (h : PHeap) : Res :=
    (E.p.bin .shr 3 x0 x1).bind fun v1 =>
    (E.p.bin .and 3 v1 (.int .i64 1)).bind fun v2 =>
    (E.p.bin .eql 3 v2 (.int .i64 1)).bind fun v3 =>
    (resV v3).bind fun v4 =>
    some (v4, h)
theorem main_eq (E : Env) (x0 x1 : PV) (h : PHeap) : runBody (E.cx Tryd.prog kl) Tryd.f32 [x0, x1] h = main E x0 x1 h := by kernel_rfl
theorem call_eq (g : Nat → PV) (lf n : Nat) (x0 x1 : PV) (h : PHeap) : CL g lf (n + 1) fn_impl_hasWire [x0, x1] h = main (env g lf n) x0 x1 h := by
  rw [← main_eq]
  show call Tryd.prog g KL lf (n + 1) 32 [x0, x1] h = _
  rw [call_succ, Tryd.func32]
  kernel_rfl
end impl_hasWire
namespace spec_l1In
noncomputable def main (E : Env) (x0 x1 x2 : PV) (h : PHeap) : Res :=
    (E.p.bin .geq 3 x0 x1).bind fun v1 =>
    (wantV v1 true).bind fun v2 =>
    (bif v2 then some (x0, h) else some (.tup [], h)).bind fun v3 =>
    (wantV v1 true).bind fun v4 =>
    (bif v4 then some (x2, v3.2) else some (.tup [], v3.2)).bind fun v5 =>
    (wantV v1 true).bind fun v6 =>
    (bif v6 then pv v5.2 (E.p.bin .leq 3 v3.1 v5.1) else some (.tup [], v5.2)).bind fun v7 =>
    (E.p.pick v1 v7.1 (.bool false)).bind fun v8 =>
    (resV v8).bind fun v9 =>
    some (v9, v7.2)
theorem main_eq (E : Env) (x0 x1 x2 : PV) (h : PHeap) : runBody (E.cx Tryd.prog kl) Tryd.f33 [x0, x1, x2] h = main E x0 x1 x2 h := by kernel_rfl
theorem call_eq (g : Nat → PV) (lf n : Nat) (x0 x1 x2 : PV) (h : PHeap) : CL g lf (n + 1) fn_spec_l1In [x0, x1, x2] h = main (env g lf n) x0 x1 x2 h := by
  rw [← main_eq]
  show call Tryd.prog g KL lf (n + 1) 33 [x0, x1, x2] h = _
  rw [call_succ, Tryd.func33]
  kernel_rfl
end spec_l1In
namespace spec_l10Tree
noncomputable def lp0 : Code := (codeAt (bodyOf Tryd.f34) [1, 0, 1, 0, 0])
def st0 (x0 x1 x2 x7 : PV) (h : PHeap) : St := ⟨[x0, x1, x2, .junk, .junk, .junk, .junk, x7, .junk, .junk, .junk, .junk, .junk, .junk, .junk, .junk, .junk, .junk, .junk, .junk, .junk, .junk, .junk, .junk, .junk, .junk, .junk, .junk, .junk, .junk, .junk, .junk, .junk, .junk, .junk, .junk, .junk, .junk, .junk, .junk, .junk, .junk, .junk, .junk, .junk, .junk, .junk, .junk, .junk, .junk, .junk, .junk, .junk, .junk], h⟩
def sr_6 (x6 : PV) (h : PHeap) : St := ⟨[.junk, .junk, .junk, .junk, .junk, .junk, x6, .junk, .junk, .junk, .junk, .junk, .junk, .junk, .junk, .junk, .junk, .junk, .junk, .junk, .junk, .junk, .junk, .junk, .junk, .junk, .junk, .junk, .junk, .junk, .junk, .junk, .junk, .junk, .junk, .junk, .junk, .junk, .junk, .junk, .junk, .junk, .junk, .junk, .junk, .junk, .junk, .junk, .junk, .junk, .junk, .junk, .junk, .junk], h⟩
def se0_0_1_2_7_11 (x0 x1 x2 x7 x11 : PV) (h : PHeap) : St := ⟨[x0, x1, x2, .junk, .junk, .junk, .junk, x7, .junk, .junk, .junk, x11, .junk, .junk, .junk, .junk, .junk, .junk, .junk, .junk, .junk, .junk, .junk, .junk, .junk, .junk, .junk, .junk, .junk, .junk, .junk, .junk, .junk, .junk, .junk, .junk, .junk, .junk, .junk, .junk, .junk, .junk, .junk, .junk, .junk, .junk, .junk, .junk, .junk, .junk, .junk, .junk, .junk, .junk], h⟩
noncomputable def K0 (E : Env) (K : PX → St → Res) : PX → St → Res := (kBlock 0 (kSeq (ev (E.cx Tryd.prog kl) (codeAt (bodyOf Tryd.f34) [1, 1])) K))
@[simp] theorem K0_ret (E : Env) (K : PX → St → Res) (s : St) : K0 E K .ret s = K .ret s := by kernel_rfl
noncomputable def body0 (E : Env) (K : PX → St → Res) (x0 x1 x2 x7 : PV) (h : PHeap) : Res :=
    (E.p.len 23 x0).bind fun v64 =>
    (E.p.bin .lss 3 x7 v64).bind fun v65 =>
    condP v65
     (
      (E.p.bin .shr 3 x1 x7).bind fun v66 =>
      (E.p.bin .rem 3 v66 (.int .i64 2)).bind fun v67 =>
      (E.p.bin .eql 3 v67 (.int .i64 1)).bind fun v68 =>
      (wantV v68 true).bind fun v69 =>
      (bif v69 then some (x2, h) else some (.tup [], h)).bind fun v70 =>
      (wantV v68 true).bind fun v71 =>
      (bif v71 then some (x0, v70.2) else some (.tup [], v70.2)).bind fun v72 =>
      (wantV v68 true).bind fun v73 =>
      (bif v73 then some (x7, v72.2) else some (.tup [], v72.2)).bind fun v74 =>
      (wantV v68 true).bind fun v75 =>
      (bif v75 then pv v74.2 (E.p.indexAddr 23 v72.1 v74.1) else some (.tup [], v74.2)).bind fun v76 =>
      (wantV v68 true).bind fun v77 =>
      (bif v77 then pv v76.2 (E.p.fieldAddr 34 v76.1 0) else some (.tup [], v76.2)).bind fun v78 =>
      (wantV v68 true).bind fun v79 =>
      (bif v79 then pv v78.2 (E.p.load 3 v78.1 v78.2) else some (.tup [], v78.2)).bind fun v80 =>
      (wantV v68 true).bind fun v81 =>
      (bif v81 then pv v80.2 (E.p.bin .shr 3 v70.1 v80.1) else some (.tup [], v80.2)).bind fun v82 =>
      (wantV v68 true).bind fun v83 =>
      (bif v83 then pv v82.2 (E.p.bin .rem 3 v82.1 (.int .i64 2)) else some (.tup [], v82.2)).bind fun v84 =>
      (wantV v68 true).bind fun v85 =>
      (bif v85 then pv v84.2 (E.p.bin .eql 3 v84.1 (.int .i64 0)) else some (.tup [], v84.2)).bind fun v86 =>
      (wantV v68 true).bind fun v87 =>
      (bif v87 then some (v86.1, v86.2) else some (.tup [], v86.2)).bind fun v88 =>
      (wantV v88.1 false).bind fun v89 =>
      (bif v89 then some (x2, v88.2) else some (.tup [], v88.2)).bind fun v90 =>
      (wantV v88.1 false).bind fun v91 =>
      (bif v91 then some (x0, v90.2) else some (.tup [], v90.2)).bind fun v92 =>
      (wantV v88.1 false).bind fun v93 =>
      (bif v93 then some (x7, v92.2) else some (.tup [], v92.2)).bind fun v94 =>
      (wantV v88.1 false).bind fun v95 =>
      (bif v95 then pv v94.2 (E.p.indexAddr 23 v92.1 v94.1) else some (.tup [], v94.2)).bind fun v96 =>
      (wantV v88.1 false).bind fun v97 =>
      (bif v97 then pv v96.2 (E.p.fieldAddr 34 v96.1 1) else some (.tup [], v96.2)).bind fun v98 =>
      (wantV v88.1 false).bind fun v99 =>
      (bif v99 then pv v98.2 (E.p.load 3 v98.1 v98.2) else some (.tup [], v98.2)).bind fun v100 =>
      (wantV v88.1 false).bind fun v101 =>
      (bif v101 then pv v100.2 (E.p.bin .shr 3 v90.1 v100.1) else some (.tup [], v100.2)).bind fun v102 =>
      (wantV v88.1 false).bind fun v103 =>
      (bif v103 then pv v102.2 (E.p.bin .rem 3 v102.1 (.int .i64 2)) else some (.tup [], v102.2)).bind fun v104 =>
      (wantV v88.1 false).bind fun v105 =>
      (bif v105 then pv v104.2 (E.p.bin .eql 3 v104.1 (.int .i64 0)) else some (.tup [], v104.2)).bind fun v106 =>
      (wantV v68 true).bind fun v107 =>
      (bif v107 then pv v106.2 (E.p.pick v88.1 (.bool true) v106.1) else some (.tup [], v106.2)).bind fun v108 =>
      (E.p.pick v68 v108.1 (.bool false)).bind fun v109 =>
      condP v109
       (
        K .ret (sr_6 (.bool false) v108.2))
       (
        (E.p.bin .add 3 x7 (.int .i64 1)).bind fun v110 =>
        K .normal (st0 x0 x1 x2 v110 v108.2)))
     (
      K (.exit 0) (se0_0_1_2_7_11 x0 x1 x2 x7 v65 h))
theorem body0_eq (E : Env) (K : PX → St → Res) (x0 x1 x2 x7 : PV) (h : PHeap) : ev (E.cx Tryd.prog kl) lp0 (st0 x0 x1 x2 x7 h) K = body0 E K x0 x1 x2 x7 h := by kernel_rfl
theorem after0_se0_0_1_2_7_11 (E : Env) (x0 x1 x2 x7 x11 : PV) (h : PHeap) : K0 E (kTop Tryd.prog Tryd.f34) (.exit 0) (se0_0_1_2_7_11 x0 x1 x2 x7 x11 h) =
    (E.C fn_spec_l6Size [x1] h).bind fun v48 =>
    (E.C fn_spec_l6Size [x2] v48.2).bind fun v49 =>
    (E.p.bin .sub 3 v49.1 (.int .i64 1)).bind fun v50 =>
    (E.p.bin .eql 3 v48.1 v50).bind fun v51 =>
    (wantV v51 true).bind fun v52 =>
    (bif v52 then some (x0, v49.2) else some (.tup [], v49.2)).bind fun v53 =>
    (wantV v51 true).bind fun v54 =>
    (bif v54 then some (x1, v53.2) else some (.tup [], v53.2)).bind fun v55 =>
    (wantV v51 true).bind fun v56 =>
    (bif v56 then E.C fn_spec_l9Reach [v53.1, v55.1, (.int .i64 0)] v55.2 else some (.tup [], v55.2)).bind fun v57 =>
    (wantV v51 true).bind fun v58 =>
    (bif v58 then some (x2, v57.2) else some (.tup [], v57.2)).bind fun v59 =>
    (wantV v51 true).bind fun v60 =>
    (bif v60 then pv v59.2 (E.p.bin .eql 3 v57.1 v59.1) else some (.tup [], v59.2)).bind fun v61 =>
    (E.p.pick v51 v61.1 (.bool false)).bind fun v62 =>
    (resV v62).bind fun v63 =>
    some (v63, v61.2) := by kernel_rfl
theorem top_sr_6 (x6 : PV) (h : PHeap) : kTop Tryd.prog Tryd.f34 .ret (sr_6 x6 h) =
    (resV x6).bind fun v111 =>
    some (v111, h) := by kernel_rfl
noncomputable def main (E : Env) (x0 x1 x2 : PV) (h : PHeap) : Res :=
    loopK (ev (E.cx Tryd.prog spec_l10Tree.kl) spec_l10Tree.lp0) E.lf (spec_l10Tree.st0 x0 x1 x2 (.int .i64 0) h) (spec_l10Tree.K0 E (kTop Tryd.prog Tryd.f34))
theorem main_eq (E : Env) (x0 x1 x2 : PV) (h : PHeap) : runBody (E.cx Tryd.prog kl) Tryd.f34 [x0, x1, x2] h = main E x0 x1 x2 h := by kernel_rfl
theorem call_eq (g : Nat → PV) (lf n : Nat) (x0 x1 x2 : PV) (h : PHeap) : CL g lf (n + 1) fn_spec_l10Tree [x0, x1, x2] h = main (env g lf n) x0 x1 x2 h := by
  rw [← main_eq]
  show call Tryd.prog g KL lf (n + 1) 34 [x0, x1, x2] h = _
  rw [call_succ, Tryd.func34]
  kernel_rfl
end spec_l10Tree
namespace impl_WiresOk
noncomputable def lp0 : Code := (codeAt (bodyOf Tryd.f35) [1, 1, 0, 1, 0, 0])
def st0 (x0 x18 x19 x20 : PV) (h : PHeap) : St := ⟨[x0, .junk, .junk, .junk, .junk, .junk, .junk, .junk, .junk, .junk, .junk, .junk, .junk, .junk, .junk, .junk, .junk, .junk, x18, x19, x20, .junk, .junk, .junk, .junk, .junk, .junk, .junk, .junk, .junk, .junk, .junk, .junk, .junk, .junk, .junk, .junk, .junk, .junk, .junk, .junk, .junk, .junk, .junk], h⟩
def sr_4 (x4 : PV) (h : PHeap) : St := ⟨[.junk, .junk, .junk, .junk, x4, .junk, .junk, .junk, .junk, .junk, .junk, .junk, .junk, .junk, .junk, .junk, .junk, .junk, .junk, .junk, .junk, .junk, .junk, .junk, .junk, .junk, .junk, .junk, .junk, .junk, .junk, .junk, .junk, .junk, .junk, .junk, .junk, .junk, .junk, .junk, .junk, .junk, .junk, .junk], h⟩
def se0_0_18_19_20_21 (x0 x18 x19 x20 x21 : PV) (h : PHeap) : St := ⟨[x0, .junk, .junk, .junk, .junk, .junk, .junk, .junk, .junk, .junk, .junk, .junk, .junk, .junk, .junk, .junk, .junk, .junk, x18, x19, x20, x21, .junk, .junk, .junk, .junk, .junk, .junk, .junk, .junk, .junk, .junk, .junk, .junk, .junk, .junk, .junk, .junk, .junk, .junk, .junk, .junk, .junk, .junk], h⟩
noncomputable def K0 (E : Env) (K : PX → St → Res) : PX → St → Res := (kBlock 0 (kSeq (ev (E.cx Tryd.prog kl) (codeAt (bodyOf Tryd.f35) [1, 1, 1])) K))
@[simp] theorem K0_ret (E : Env) (K : PX → St → Res) (s : St) : K0 E K .ret s = K .ret s := by kernel_rfl
noncomputable def body0 (E : Env) (K : PX → St → Res) (x0 x18 x19 x20 : PV) (h : PHeap) : Res :=
    (E.p.bin .lss 3 x20 x19).bind fun v50 =>
    condP v50
     (
      (E.p.indexAddr 23 x18 x20).bind fun v51 =>
      (E.p.load 34 v51 h).bind fun v52 =>
      (E.p.alloc 34 h).bind fun v53 =>
      (E.p.store 34 v53.1 v52 v53.2).bind fun v54 =>
      (E.p.fieldAddr 34 v53.1 0).bind fun v55 =>
      (E.p.load 3 v55 v54).bind fun v56 =>
      (E.p.fieldAddr 34 v53.1 1).bind fun v57 =>
      (E.p.load 3 v57 v54).bind fun v58 =>
      (E.p.bin .eql 3 v56 v58).bind fun v59 =>
      (wantV v59 false).bind fun v60 =>
      (bif v60 then some (x0, v54) else some (.tup [], v54)).bind fun v61 =>
      (wantV v59 false).bind fun v62 =>
      (bif v62 then pv v61.2 (E.p.fieldAddr 34 v53.1 0) else some (.tup [], v61.2)).bind fun v63 =>
      (wantV v59 false).bind fun v64 =>
      (bif v64 then pv v63.2 (E.p.load 3 v63.1 v63.2) else some (.tup [], v63.2)).bind fun v65 =>
      (wantV v59 false).bind fun v66 =>
      (bif v66 then E.C fn_impl_nodeOk [v61.1, v65.1] v65.2 else some (.tup [], v65.2)).bind fun v67 =>
      (wantV v59 false).bind fun v68 =>
      (bif v68 then pv v67.2 (E.p.un .not v67.1) else some (.tup [], v67.2)).bind fun v69 =>
      (E.p.pick v59 (.bool true) v69.1).bind fun v70 =>
      (wantV v70 false).bind fun v71 =>
      (bif v71 then some (x0, v69.2) else some (.tup [], v69.2)).bind fun v72 =>
      (wantV v70 false).bind fun v73 =>
      (bif v73 then pv v72.2 (E.p.fieldAddr 34 v53.1 1) else some (.tup [], v72.2)).bind fun v74 =>
      (wantV v70 false).bind fun v75 =>
      (bif v75 then pv v74.2 (E.p.load 3 v74.1 v74.2) else some (.tup [], v74.2)).bind fun v76 =>
      (wantV v70 false).bind fun v77 =>
      (bif v77 then E.C fn_impl_nodeOk [v72.1, v76.1] v76.2 else some (.tup [], v76.2)).bind fun v78 =>
      (wantV v70 false).bind fun v79 =>
      (bif v79 then pv v78.2 (E.p.un .not v78.1) else some (.tup [], v78.2)).bind fun v80 =>
      (E.p.pick v70 (.bool true) v80.1).bind fun v81 =>
      condP v81
       (
        K .ret (sr_4 (.bool false) v80.2))
       (
        (E.p.bin .add 3 x20 (.int .i64 1)).bind fun v82 =>
        K .normal (st0 x0 x18 x19 v82 v80.2)))
     (
      K (.exit 0) (se0_0_18_19_20_21 x0 x18 x19 x20 v50 h))
theorem body0_eq (E : Env) (K : PX → St → Res) (x0 x18 x19 x20 : PV) (h : PHeap) : ev (E.cx Tryd.prog kl) lp0 (st0 x0 x18 x19 x20 h) K = body0 E K x0 x18 x19 x20 h := by kernel_rfl
theorem after0_se0_0_18_19_20_21 (E : Env) (x0 x18 x19 x20 x21 : PV) (h : PHeap) : K0 E (kTop Tryd.prog Tryd.f35) (.exit 0) (se0_0_18_19_20_21 x0 x18 x19 x20 x21 h) =
    (resV (.bool true)).bind fun v49 =>
    some (v49, h) := by kernel_rfl
theorem top_sr_4 (x4 : PV) (h : PHeap) : kTop Tryd.prog Tryd.f35 .ret (sr_4 x4 h) =
    (resV x4).bind fun v83 =>
    some (v83, h) := by kernel_rfl
noncomputable def main (E : Env) (x0 x1 : PV) (h : PHeap) : Res :=
    (E.p.bin .lss 3 x0 (.int .i64 2)).bind fun v1 =>
    (wantV v1 false).bind fun v2 =>
    (bif v2 then some (x0, h) else some (.tup [], h)).bind fun v3 =>
    (wantV v1 false).bind fun v4 =>
    (bif v4 then pv v3.2 (E.p.bin .gtr 3 v3.1 (.int .i64 5)) else some (.tup [], v3.2)).bind fun v5 =>
    (E.p.pick v1 (.bool true) v5.1).bind fun v6 =>
    (wantV v6 false).bind fun v7 =>
    (bif v7 then some (x1, v5.2) else some (.tup [], v5.2)).bind fun v8 =>
    (wantV v6 false).bind fun v9 =>
    (bif v9 then pv v8.2 (E.p.len 23 v8.1) else some (.tup [], v8.2)).bind fun v10 =>
    (wantV v6 false).bind fun v11 =>
    (bif v11 then pv v10.2 (E.p.bin .gtr 3 v10.1 (.int .i64 8)) else some (.tup [], v10.2)).bind fun v12 =>
    (E.p.pick v6 (.bool true) v12.1).bind fun v13 =>
    condP v13
     (
      (resV (.bool false)).bind fun v14 =>
      some (v14, v12.2))
     (
      (E.p.len 23 x1).bind fun v15 =>
      loopK (ev (E.cx Tryd.prog impl_WiresOk.kl) impl_WiresOk.lp0) E.lf (impl_WiresOk.st0 x0 x1 v15 (.int .i64 0) v12.2) (impl_WiresOk.K0 E (kTop Tryd.prog Tryd.f35)))
theorem main_eq (E : Env) (x0 x1 : PV) (h : PHeap) : runBody (E.cx Tryd.prog kl) Tryd.f35 [x0, x1] h = main E x0 x1 h := by kernel_rfl
theorem call_eq (g : Nat → PV) (lf n : Nat) (x0 x1 : PV) (h : PHeap) : CL g lf (n + 1) fn_impl_WiresOk [x0, x1] h = main (env g lf n) x0 x1 h := by
  rw [← main_eq]
  show call Tryd.prog g KL lf (n + 1) 35 [x0, x1] h = _
  rw [call_succ, Tryd.func35]
  kernel_rfl
end impl_WiresOk
namespace impl_wireSetOk
noncomputable def main (E : Env) (x0 x1 : PV) (h : PHeap) : Res :=
    (E.p.bin .geq 3 x1 (.int .i64 0)).bind fun v1 =>
    (wantV v1 true).bind fun v2 =>
    (bif v2 then some (x1, h) else some (.tup [], h)).bind fun v3 =>
    (wantV v1 true).bind fun v4 =>
    (bif v4 then some (x0, v3.2) else some (.tup [], v3.2)).bind fun v5 =>
    (wantV v1 true).bind fun v6 =>
    (bif v6 then E.C fn_impl_allWires [v5.1] v5.2 else some (.tup [], v5.2)).bind fun v7 =>
    (wantV v1 true).bind fun v8 =>
    (bif v8 then pv v7.2 (E.p.bin .leq 3 v3.1 v7.1) else some (.tup [], v7.2)).bind fun v9 =>
    (E.p.pick v1 v9.1 (.bool false)).bind fun v10 =>
    (resV v10).bind fun v11 =>
    some (v11, v9.2)
theorem main_eq (E : Env) (x0 x1 : PV) (h : PHeap) : runBody (E.cx Tryd.prog kl) Tryd.f36 [x0, x1] h = main E x0 x1 h := by kernel_rfl
theorem call_eq (g : Nat → PV) (lf n : Nat) (x0 x1 : PV) (h : PHeap) : CL g lf (n + 1) fn_impl_wireSetOk [x0, x1] h = main (env g lf n) x0 x1 h := by
  rw [← main_eq]
  show call Tryd.prog g KL lf (n + 1) 36 [x0, x1] h = _
  rw [call_succ, Tryd.func36]
  kernel_rfl
end impl_wireSetOk
namespace impl_treeOn
noncomputable def main (E : Env) (x0 x1 x2 : PV) (h : PHeap) : Res :=
    (E.C fn_impl_countIn [x2] h).bind fun v1 =>
    (E.C fn_impl_countIn [x1] v1.2).bind fun v2 =>
    (E.p.bin .sub 3 v2.1 (.int .i64 1)).bind fun v3 =>
    (E.p.bin .eql 3 v1.1 v3).bind fun v4 =>
    (wantV v4 true).bind fun v5 =>
    (bif v5 then some (x0, v2.2) else some (.tup [], v2.2)).bind fun v6 =>
    (wantV v4 true).bind fun v7 =>
    (bif v7 then some (x2, v6.2) else some (.tup [], v6.2)).bind fun v8 =>
    (wantV v4 true).bind fun v9 =>
    (bif v9 then E.C fn_impl_nodesReached [v6.1, v8.1, (.int .i64 1)] v8.2 else some (.tup [], v8.2)).bind fun v10 =>
    (wantV v4 true).bind fun v11 =>
    (bif v11 then some (x1, v10.2) else some (.tup [], v10.2)).bind fun v12 =>
    (wantV v4 true).bind fun v13 =>
    (bif v13 then pv v12.2 (E.p.bin .eql 3 v10.1 v12.1) else some (.tup [], v12.2)).bind fun v14 =>
    (E.p.pick v4 v14.1 (.bool false)).bind fun v15 =>
    (resV v15).bind fun v16 =>
    some (v16, v14.2)
theorem main_eq (E : Env) (x0 x1 x2 : PV) (h : PHeap) : runBody (E.cx Tryd.prog kl) Tryd.f37 [x0, x1, x2] h = main E x0 x1 x2 h := by kernel_rfl
theorem call_eq (g : Nat → PV) (lf n : Nat) (x0 x1 x2 : PV) (h : PHeap) : CL g lf (n + 1) fn_impl_treeOn [x0, x1, x2] h = main (env g lf n) x0 x1 x2 h := by
  rw [← main_eq]
  show call Tryd.prog g KL lf (n + 1) 37 [x0, x1, x2] h = _
  rw [call_succ, Tryd.func37]
  kernel_rfl
end impl_treeOn
namespace impl_allNodes
noncomputable def main (E : Env) (x0 : PV) (h : PHeap) : Res :=
    (E.p.bin .shl 3 (.int .i64 1) x0).bind fun v1 =>
    (E.p.bin .sub 3 v1 (.int .i64 1)).bind fun v2 =>
    (resV v2).bind fun v3 =>
    some (v3, h)
theorem main_eq (E : Env) (x0 : PV) (h : PHeap) : runBody (E.cx Tryd.prog kl) Tryd.f38 [x0] h = main E x0 h := by kernel_rfl
theorem call_eq (g : Nat → PV) (lf n : Nat) (x0 : PV) (h : PHeap) : CL g lf (n + 1) fn_impl_allNodes [x0] h = main (env g lf n) x0 h := by
  rw [← main_eq]
  show call Tryd.prog g KL lf (n + 1) 38 [x0] h = _
  rw [call_succ, Tryd.func38]
  kernel_rfl
end impl_allNodes
namespace impl_BoardOk
noncomputable def main (E : Env) (x0 x1 : PV) (h : PHeap) : Res :=
    (E.C fn_impl_sizeOk [x0] h).bind fun v1 =>
    (wantV v1.1 true).bind fun v2 =>
    (bif v2 then some (x1, v1.2) else some (.tup [], v1.2)).bind fun v3 =>
    (wantV v1.1 true).bind fun v4 =>
    (bif v4 then E.C fn_impl_sizeOk [v3.1] v3.2 else some (.tup [], v3.2)).bind fun v5 =>
    (E.p.pick v1.1 v5.1 (.bool false)).bind fun v6 =>
    (wantV v6 true).bind fun v7 =>
    (bif v7 then some (x0, v5.2) else some (.tup [], v5.2)).bind fun v8 =>
    (wantV v6 true).bind fun v9 =>
    (bif v9 then some (x1, v8.2) else some (.tup [], v8.2)).bind fun v10 =>
    (wantV v6 true).bind fun v11 =>
    (bif v11 then pv v10.2 (E.p.bin .mul 3 v8.1 v10.1) else some (.tup [], v10.2)).bind fun v12 =>
    (wantV v6 true).bind fun v13 =>
    (bif v13 then pv v12.2 (E.p.bin .leq 3 v12.1 (.int .i64 9)) else some (.tup [], v12.2)).bind fun v14 =>
    (E.p.pick v6 v14.1 (.bool false)).bind fun v15 =>
    (resV v15).bind fun v16 =>
    some (v16, v14.2)
theorem main_eq (E : Env) (x0 x1 : PV) (h : PHeap) : runBody (E.cx Tryd.prog kl) Tryd.f39 [x0, x1] h = main E x0 x1 h := by kernel_rfl
theorem call_eq (g : Nat → PV) (lf n : Nat) (x0 x1 : PV) (h : PHeap) : CL g lf (n + 1) fn_impl_BoardOk [x0, x1] h = main (env g lf n) x0 x1 h := by
  rw [← main_eq]
  show call Tryd.prog g KL lf (n + 1) 39 [x0, x1] h = _
  rw [call_succ, Tryd.func39]
  kernel_rfl
end impl_BoardOk
namespace impl_treesOn
noncomputable def lp0 : Code := (codeAt (bodyOf Tryd.f40) [1, 1, 0, 1, 0, 0])
def st0 (x0 x1 x5 x10 x11 x12 : PV) (h : PHeap) : St := ⟨[x0, x1, .junk, .junk, .junk, x5, .junk, .junk, .junk, .junk, x10, x11, x12, .junk, .junk, .junk, .junk, .junk, .junk, .junk, .junk, .junk, .junk, .junk, .junk, .junk], h⟩
def se0_0_1_5_10_11_12_13 (x0 x1 x5 x10 x11 x12 x13 : PV) (h : PHeap) : St := ⟨[x0, x1, .junk, .junk, .junk, x5, .junk, .junk, .junk, .junk, x10, x11, x12, x13, .junk, .junk, .junk, .junk, .junk, .junk, .junk, .junk, .junk, .junk, .junk, .junk], h⟩
noncomputable def K0 (E : Env) (K : PX → St → Res) : PX → St → Res := (kBlock 0 (kSeq (ev (E.cx Tryd.prog kl) (codeAt (bodyOf Tryd.f40) [1, 1, 1])) K))
@[simp] theorem K0_ret (E : Env) (K : PX → St → Res) (s : St) : K0 E K .ret s = K .ret s := by kernel_rfl
noncomputable def body0 (E : Env) (K : PX → St → Res) (x0 x1 x5 x10 x11 x12 : PV) (h : PHeap) : Res :=
    (E.p.bin .lss 3 x12 x11).bind fun v13 =>
    condP v13
     (
      (E.p.indexAddr 35 x10 x12).bind fun v14 =>
      (E.p.load 3 v14 h).bind fun v15 =>
      (E.C fn_impl_treeOn [x0, x1, v15] h).bind fun v16 =>
      condP v16.1
       (
        (E.p.buildSlice 35 1 [(0, v15)] v16.2).bind fun v17 =>
        (E.p.append 35 35 x5 v17.1 v17.2).bind fun v18 =>
        (E.p.bin .add 3 x12 (.int .i64 1)).bind fun v19 =>
        K .normal (st0 x0 x1 v18.1 x10 x11 v19 v18.2))
       (
        (E.p.bin .add 3 x12 (.int .i64 1)).bind fun v20 =>
        K .normal (st0 x0 x1 x5 x10 x11 v20 v16.2)))
     (
      K (.exit 0) (se0_0_1_5_10_11_12_13 x0 x1 x5 x10 x11 x12 v13 h))
theorem body0_eq (E : Env) (K : PX → St → Res) (x0 x1 x5 x10 x11 x12 : PV) (h : PHeap) : ev (E.cx Tryd.prog kl) lp0 (st0 x0 x1 x5 x10 x11 x12 h) K = body0 E K x0 x1 x5 x10 x11 x12 h := by kernel_rfl
theorem after0_se0_0_1_5_10_11_12_13 (E : Env) (x0 x1 x5 x10 x11 x12 x13 : PV) (h : PHeap) : K0 E (kTop Tryd.prog Tryd.f40) (.exit 0) (se0_0_1_5_10_11_12_13 x0 x1 x5 x10 x11 x12 x13 h) =
    (resV x5).bind fun v12 =>
    some (v12, h) := by kernel_rfl
noncomputable def main (E : Env) (x0 x1 : PV) (h : PHeap) : Res :=
    (E.C fn_impl_allWires [x0] h).bind fun v1 =>
    (E.C fn_impl_partsOf [v1.1] v1.2).bind fun v2 =>
    (E.p.len 35 v2.1).bind fun v3 =>
    loopK (ev (E.cx Tryd.prog impl_treesOn.kl) impl_treesOn.lp0) E.lf (impl_treesOn.st0 x0 x1 .nilsl v2.1 v3 (.int .i64 0) v2.2) (impl_treesOn.K0 E (kTop Tryd.prog Tryd.f40))
theorem main_eq (E : Env) (x0 x1 : PV) (h : PHeap) : runBody (E.cx Tryd.prog kl) Tryd.f40 [x0, x1] h = main E x0 x1 h := by kernel_rfl
theorem call_eq (g : Nat → PV) (lf n : Nat) (x0 x1 : PV) (h : PHeap) : CL g lf (n + 1) fn_impl_treesOn [x0, x1] h = main (env g lf n) x0 x1 h := by
  rw [← main_eq]
  show call Tryd.prog g KL lf (n + 1) 40 [x0, x1] h = _
  rw [call_succ, Tryd.func40]
  kernel_rfl
end impl_treesOn
namespace laws_toWire
noncomputable def main (E : Env) (x0 : PV) (h : PHeap) : Res :=
    (E.p.box x0 h).bind fun v1 =>
    (E.p.alloc 34 v1.2).bind fun v2 =>
    (E.p.alloc 34 v2.2).bind fun v3 =>
    (E.p.fieldAddr 59 v1.1 0).bind fun v4 =>
    (E.p.load 3 v4 v3.2).bind fun v5 =>
    (E.p.fieldAddr 34 v3.1 0).bind fun v6 =>
    (E.p.store 3 v6 v5 v3.2).bind fun v7 =>
    (E.p.fieldAddr 59 v1.1 1).bind fun v8 =>
    (E.p.load 3 v8 v7).bind fun v9 =>
    (E.p.fieldAddr 34 v3.1 1).bind fun v10 =>
    (E.p.store 3 v10 v9 v7).bind fun v11 =>
    (E.p.load 34 v3.1 v11).bind fun v12 =>
    (E.p.store 34 v2.1 v12 v11).bind fun v13 =>
    (loadP Tryd.prog 34 v2.1 v13).bind fun v14 =>
    some (v14, v13)
theorem main_eq (E : Env) (x0 : PV) (h : PHeap) : runBody (E.cx Tryd.prog kl) Tryd.f41 [x0] h = main E x0 h := by kernel_rfl
theorem call_eq (g : Nat → PV) (lf n : Nat) (x0 : PV) (h : PHeap) : CL g lf (n + 1) fn_laws_toWire [x0] h = main (env g lf n) x0 h := by
  rw [← main_eq]
  show call Tryd.prog g KL lf (n + 1) 41 [x0] h = _
  rw [call_succ, Tryd.func41]
  kernel_rfl
end laws_toWire
namespace laws_eqWire
noncomputable def main (E : Env) (x0 x1 : PV) (h : PHeap) : Res :=
    (E.p.box x0 h).bind fun v1 =>
    (E.p.box x1 v1.2).bind fun v2 =>
    (E.p.fieldAddr 34 v1.1 0).bind fun v3 =>
    (E.p.load 3 v3 v2.2).bind fun v4 =>
    (E.p.fieldAddr 34 v2.1 0).bind fun v5 =>
    (E.p.load 3 v5 v2.2).bind fun v6 =>
    (E.p.bin .neq 3 v4 v6).bind fun v7 =>
    condP v7
     (
      (resV (.bool false)).bind fun v8 =>
      some (v8, v2.2))
     (
      (E.p.fieldAddr 34 v1.1 1).bind fun v9 =>
      (E.p.load 3 v9 v2.2).bind fun v10 =>
      (E.p.fieldAddr 34 v2.1 1).bind fun v11 =>
      (E.p.load 3 v11 v2.2).bind fun v12 =>
      (E.p.bin .neq 3 v10 v12).bind fun v13 =>
      condP v13
       (
        (resV (.bool false)).bind fun v14 =>
        some (v14, v2.2))
       (
        (resV (.bool true)).bind fun v15 =>
        some (v15, v2.2)))
theorem main_eq (E : Env) (x0 x1 : PV) (h : PHeap) : runBody (E.cx Tryd.prog kl) Tryd.f42 [x0, x1] h = main E x0 x1 h := by kernel_rfl
theorem call_eq (g : Nat → PV) (lf n : Nat) (x0 x1 : PV) (h : PHeap) : CL g lf (n + 1) fn_laws_eqWire [x0, x1] h = main (env g lf n) x0 x1 h := by
  rw [← main_eq]
  show call Tryd.prog g KL lf (n + 1) 42 [x0, x1] h = _
  rw [call_succ, Tryd.func42]
  kernel_rfl
end laws_eqWire
namespace spec_l20Wires
noncomputable def lp0 : Code := (codeAt (bodyOf Tryd.f43) [1, 1, 1, 0, 1, 0, 0])
def st0 (x0 x1 x6 x7 x8 : PV) (h : PHeap) : St := ⟨[x0, x1, .junk, .junk, .junk, .junk, x6, x7, x8, .junk, .junk, .junk, .junk, .junk, .junk, .junk, .junk, .junk, .junk, .junk, .junk, .junk, .junk, .junk, .junk, .junk, .junk, .junk, .junk, .junk, .junk, .junk, .junk, .junk, .junk, .junk, .junk, .junk, .junk, .junk, .junk, .junk, .junk, .junk, .junk, .junk, .junk, .junk, .junk, .junk, .junk, .junk, .junk, .junk, .junk, .junk, .junk, .junk, .junk, .junk, .junk, .junk, .junk, .junk, .junk, .junk], h⟩
def se0_0_1_6_7_8_19 (x0 x1 x6 x7 x8 x19 : PV) (h : PHeap) : St := ⟨[x0, x1, .junk, .junk, .junk, .junk, x6, x7, x8, .junk, .junk, .junk, .junk, .junk, .junk, .junk, .junk, .junk, .junk, x19, .junk, .junk, .junk, .junk, .junk, .junk, .junk, .junk, .junk, .junk, .junk, .junk, .junk, .junk, .junk, .junk, .junk, .junk, .junk, .junk, .junk, .junk, .junk, .junk, .junk, .junk, .junk, .junk, .junk, .junk, .junk, .junk, .junk, .junk, .junk, .junk, .junk, .junk, .junk, .junk, .junk, .junk, .junk, .junk, .junk, .junk], h⟩
noncomputable def K0 (E : Env) (K : PX → St → Res) : PX → St → Res := (kBlock 0 (kSeq (ev (E.cx Tryd.prog kl) (codeAt (bodyOf Tryd.f43) [1, 1, 1, 1])) K))
@[simp] theorem K0_ret (E : Env) (K : PX → St → Res) (s : St) : K0 E K .ret s = K .ret s := by kernel_rfl
noncomputable def body0 (E : Env) (K : PX → St → Res) (x0 x1 x6 x7 x8 : PV) (h : PHeap) : Res :=
    (E.p.bin .gtr 3 x8 (.int .i64 0)).bind fun v39 =>
    condP v39
     (
      (E.C fn_spec_l20Rd_pick [x0, x6] h).bind fun v40 =>
      (E.p.bin .add 3 v40.1 (.int .i64 1)).bind fun v41 =>
      (E.p.bin .sub 3 x6 (.int .i64 1)).bind fun v42 =>
      (E.C fn_spec_l20Rd_pick [x0, v42] v40.2).bind fun v43 =>
      (E.p.bin .add 3 v41 v43.1).bind fun v44 =>
      (E.p.bin .rem 3 v44 x6).bind fun v45 =>
      (E.p.build 34 [(0, v40.1), (1, v45)]).bind fun v46 =>
      (E.p.buildSlice 23 1 [(0, v46)] v43.2).bind fun v47 =>
      (E.p.append 23 23 x7 v47.1 v47.2).bind fun v48 =>
      (E.p.bin .sub 3 x8 (.int .i64 1)).bind fun v49 =>
      K .normal (st0 x0 x1 x6 v48.1 v49 v48.2))
     (
      K (.exit 0) (se0_0_1_6_7_8_19 x0 x1 x6 x7 x8 v39 h))
theorem body0_eq (E : Env) (K : PX → St → Res) (x0 x1 x6 x7 x8 : PV) (h : PHeap) : ev (E.cx Tryd.prog kl) lp0 (st0 x0 x1 x6 x7 x8 h) K = body0 E K x0 x1 x6 x7 x8 h := by kernel_rfl
theorem after0_se0_0_1_6_7_8_19 (E : Env) (x0 x1 x6 x7 x8 x19 : PV) (h : PHeap) : K0 E (kTop Tryd.prog Tryd.f43) (.exit 0) (se0_0_1_6_7_8_19 x0 x1 x6 x7 x8 x19 h) =
    (E.C fn_spec_l20Rd_odd [x0, x1] h).bind fun v17 =>
    condP v17.1
     (
      (E.C fn_spec_l20Rd_pick [x0, (.int .i64 3)] v17.2).bind fun v18 =>
      (E.p.bin .eql 3 v18.1 (.int .i64 0)).bind fun v19 =>
      condP v19
       (
        (E.p.build 34 [(0, (.int .i64 1)), (1, (.int .i64 1))]).bind fun v20 =>
        (E.p.buildSlice 23 1 [(0, v20)] v18.2).bind fun v21 =>
        (E.p.append 23 23 x7 v21.1 v21.2).bind fun v22 =>
        (resV x6).bind fun v23 =>
        (resV v22.1).bind fun v24 =>
        some (.tup [v23, v24], v22.2))
       (
        (E.p.bin .eql 3 v18.1 (.int .i64 1)).bind fun v25 =>
        condP v25
         (
          (E.p.build 34 [(0, (.int .i64 0)), (1, x6)]).bind fun v26 =>
          (E.p.buildSlice 23 1 [(0, v26)] v18.2).bind fun v27 =>
          (E.p.append 23 23 x7 v27.1 v27.2).bind fun v28 =>
          (resV x6).bind fun v29 =>
          (resV v28.1).bind fun v30 =>
          some (.tup [v29, v30], v28.2))
         (
          (E.p.buildSlice 35 2 [(0, (.int .i64 1)), (1, (.int .i64 6))] v18.2).bind fun v31 =>
          (E.C fn_spec_l20Rd_pick [x0, (.int .i64 2)] v31.2).bind fun v32 =>
          (E.p.indexAddr 35 v31.1 v32.1).bind fun v33 =>
          (E.p.load 3 v33 v32.2).bind fun v34 =>
          (resV v34).bind fun v35 =>
          (resV x7).bind fun v36 =>
          some (.tup [v35, v36], v32.2))))
     (
      (resV x6).bind fun v37 =>
      (resV x7).bind fun v38 =>
      some (.tup [v37, v38], v17.2)) := by kernel_rfl
noncomputable def main (E : Env) (x0 x1 : PV) (h : PHeap) : Res :=
    (E.C fn_spec_l20Rd_pick [x0, (.int .i64 4)] h).bind fun v1 =>
    (E.p.bin .add 3 (.int .i64 2) v1.1).bind fun v2 =>
    (E.p.buildSlice 23 0 [] v1.2).bind fun v3 =>
    (E.C fn_spec_l20Rd_pick [x0, (.int .i64 7)] v3.2).bind fun v4 =>
    (E.p.bin .add 3 (.int .i64 1) v4.1).bind fun v5 =>
    loopK (ev (E.cx Tryd.prog spec_l20Wires.kl) spec_l20Wires.lp0) E.lf (spec_l20Wires.st0 x0 x1 v2 v3.1 v5 v4.2) (spec_l20Wires.K0 E (kTop Tryd.prog Tryd.f43))
theorem main_eq (E : Env) (x0 x1 : PV) (h : PHeap) : runBody (E.cx Tryd.prog kl) Tryd.f43 [x0, x1] h = main E x0 x1 h := by kernel_rfl
theorem call_eq (g : Nat → PV) (lf n : Nat) (x0 x1 : PV) (h : PHeap) : CL g lf (n + 1) fn_spec_l20Wires [x0, x1] h = main (env g lf n) x0 x1 h := by
  rw [← main_eq]
  show call Tryd.prog g KL lf (n + 1) 43 [x0, x1] h = _
  rw [call_succ, Tryd.func43]
  kernel_rfl
end spec_l20Wires
namespace spec_l6Size
noncomputable def main (E : Env) (x0 : PV) (h : PHeap) : Res :=
    (E.C fn_spec_l2List [x0] h).bind fun v1 =>
    (E.p.len 35 v1.1).bind fun v2 =>
    (resV v2).bind fun v3 =>
    some (v3, v1.2)
theorem main_eq (E : Env) (x0 : PV) (h : PHeap) : runBody (E.cx Tryd.prog kl) Tryd.f44 [x0] h = main E x0 h := by kernel_rfl
theorem call_eq (g : Nat → PV) (lf n : Nat) (x0 : PV) (h : PHeap) : CL g lf (n + 1) fn_spec_l6Size [x0] h = main (env g lf n) x0 h := by
  rw [← main_eq]
  show call Tryd.prog g KL lf (n + 1) 44 [x0] h = _
  rw [call_succ, Tryd.func44]
  kernel_rfl
end spec_l6Size
namespace spec_l9Reach
noncomputable def lp0 : Code := (codeAt (bodyOf Tryd.f45) [1, 1, 0, 1, 0, 0])
def st0 (x0 x1 x7 x8 : PV) (h : PHeap) : St := ⟨[x0, x1, .junk, .junk, .junk, .junk, .junk, x7, x8, .junk, .junk, .junk, .junk, .junk, .junk, .junk, .junk, .junk, .junk, .junk, .junk, .junk, .junk, .junk, .junk, .junk, .junk, .junk, .junk, .junk, .junk, .junk, .junk, .junk, .junk, .junk, .junk, .junk, .junk, .junk, .junk, .junk, .junk, .junk, .junk, .junk, .junk, .junk, .junk, .junk, .junk, .junk, .junk, .junk, .junk, .junk, .junk, .junk, .junk], h⟩
noncomputable def lp1 : Code := (codeAt (bodyOf Tryd.f45) [1, 1, 0, 1, 0, 0, 1, 0, 1, 1, 0, 0])
def st1 (x0 x1 x7 x8 x9 : PV) (h : PHeap) : St := ⟨[x0, x1, .junk, .junk, .junk, .junk, .junk, x7, x8, x9, .junk, .junk, .junk, .junk, .junk, .junk, .junk, .junk, .junk, .junk, .junk, .junk, .junk, .junk, .junk, .junk, .junk, .junk, .junk, .junk, .junk, .junk, .junk, .junk, .junk, .junk, .junk, .junk, .junk, .junk, .junk, .junk, .junk, .junk, .junk, .junk, .junk, .junk, .junk, .junk, .junk, .junk, .junk, .junk, .junk, .junk, .junk, .junk, .junk], h⟩
def se0_0_1_7_12 (x0 x1 x7 x12 : PV) (h : PHeap) : St := ⟨[x0, x1, .junk, .junk, .junk, .junk, .junk, x7, .junk, .junk, .junk, .junk, x12, .junk, .junk, .junk, .junk, .junk, .junk, .junk, .junk, .junk, .junk, .junk, .junk, .junk, .junk, .junk, .junk, .junk, .junk, .junk, .junk, .junk, .junk, .junk, .junk, .junk, .junk, .junk, .junk, .junk, .junk, .junk, .junk, .junk, .junk, .junk, .junk, .junk, .junk, .junk, .junk, .junk, .junk, .junk, .junk, .junk, .junk], h⟩
def se2_0_1_7_8_9_16 (x0 x1 x7 x8 x9 x16 : PV) (h : PHeap) : St := ⟨[x0, x1, .junk, .junk, .junk, .junk, .junk, x7, x8, x9, .junk, .junk, .junk, .junk, .junk, .junk, x16, .junk, .junk, .junk, .junk, .junk, .junk, .junk, .junk, .junk, .junk, .junk, .junk, .junk, .junk, .junk, .junk, .junk, .junk, .junk, .junk, .junk, .junk, .junk, .junk, .junk, .junk, .junk, .junk, .junk, .junk, .junk, .junk, .junk, .junk, .junk, .junk, .junk, .junk, .junk, .junk, .junk, .junk], h⟩
def sn_0_1_7_8_9_16 (x0 x1 x7 x8 x9 x16 : PV) (h : PHeap) : St := ⟨[x0, x1, .junk, .junk, .junk, .junk, .junk, x7, x8, x9, .junk, .junk, .junk, .junk, .junk, .junk, x16, .junk, .junk, .junk, .junk, .junk, .junk, .junk, .junk, .junk, .junk, .junk, .junk, .junk, .junk, .junk, .junk, .junk, .junk, .junk, .junk, .junk, .junk, .junk, .junk, .junk, .junk, .junk, .junk, .junk, .junk, .junk, .junk, .junk, .junk, .junk, .junk, .junk, .junk, .junk, .junk, .junk, .junk], h⟩
noncomputable def K0 (E : Env) (K : PX → St → Res) : PX → St → Res := (kBlock 0 (kSeq (ev (E.cx Tryd.prog kl) (codeAt (bodyOf Tryd.f45) [1, 1, 1])) K))
@[simp] theorem K0_ret (E : Env) (K : PX → St → Res) (s : St) : K0 E K .ret s = K .ret s := by kernel_rfl
noncomputable def K1 (E : Env) (K : PX → St → Res) : PX → St → Res := (kBlock 2 (kBlock 1 K))
@[simp] theorem K1_ret (E : Env) (K : PX → St → Res) (s : St) : K1 E K .ret s = K .ret s := by kernel_rfl
noncomputable def body0 (E : Env) (K : PX → St → Res) (x0 x1 x7 x8 : PV) (h : PHeap) : Res :=
    condP x8
     (
      loopK (ev (E.cx Tryd.prog spec_l9Reach.kl) spec_l9Reach.lp1) E.lf (spec_l9Reach.st1 x0 x1 x7 (.bool false) (.int .i64 0) h) (spec_l9Reach.K1 E K))
     (
      K (.exit 0) (se0_0_1_7_12 x0 x1 x7 x8 h))
theorem body0_eq (E : Env) (K : PX → St → Res) (x0 x1 x7 x8 : PV) (h : PHeap) : ev (E.cx Tryd.prog kl) lp0 (st0 x0 x1 x7 x8 h) K = body0 E K x0 x1 x7 x8 h := by kernel_rfl
noncomputable def body1 (E : Env) (K : PX → St → Res) (x0 x1 x7 x8 x9 : PV) (h : PHeap) : Res :=
    (E.p.len 23 x0).bind fun v55 =>
    (E.p.bin .lss 3 x9 v55).bind fun v56 =>
    condP v56
     (
      (E.p.bin .shr 3 x1 x9).bind fun v57 =>
      (E.p.bin .rem 3 v57 (.int .i64 2)).bind fun v58 =>
      (E.p.bin .eql 3 v58 (.int .i64 0)).bind fun v59 =>
      (wantV v59 false).bind fun v60 =>
      (bif v60 then some (x7, h) else some (.tup [], h)).bind fun v61 =>
      (wantV v59 false).bind fun v62 =>
      (bif v62 then some (x0, v61.2) else some (.tup [], v61.2)).bind fun v63 =>
      (wantV v59 false).bind fun v64 =>
      (bif v64 then some (x9, v63.2) else some (.tup [], v63.2)).bind fun v65 =>
      (wantV v59 false).bind fun v66 =>
      (bif v66 then pv v65.2 (E.p.indexAddr 23 v63.1 v65.1) else some (.tup [], v65.2)).bind fun v67 =>
      (wantV v59 false).bind fun v68 =>
      (bif v68 then pv v67.2 (E.p.fieldAddr 34 v67.1 0) else some (.tup [], v67.2)).bind fun v69 =>
      (wantV v59 false).bind fun v70 =>
      (bif v70 then pv v69.2 (E.p.load 3 v69.1 v69.2) else some (.tup [], v69.2)).bind fun v71 =>
      (wantV v59 false).bind fun v72 =>
      (bif v72 then pv v71.2 (E.p.bin .shr 3 v61.1 v71.1) else some (.tup [], v71.2)).bind fun v73 =>
      (wantV v59 false).bind fun v74 =>
      (bif v74 then pv v73.2 (E.p.bin .rem 3 v73.1 (.int .i64 2)) else some (.tup [], v73.2)).bind fun v75 =>
      (wantV v59 false).bind fun v76 =>
      (bif v76 then some (x7, v75.2) else some (.tup [], v75.2)).bind fun v77 =>
      (wantV v59 false).bind fun v78 =>
      (bif v78 then some (x0, v77.2) else some (.tup [], v77.2)).bind fun v79 =>
      (wantV v59 false).bind fun v80 =>
      (bif v80 then some (x9, v79.2) else some (.tup [], v79.2)).bind fun v81 =>
      (wantV v59 false).bind fun v82 =>
      (bif v82 then pv v81.2 (E.p.indexAddr 23 v79.1 v81.1) else some (.tup [], v81.2)).bind fun v83 =>
      (wantV v59 false).bind fun v84 =>
      (bif v84 then pv v83.2 (E.p.fieldAddr 34 v83.1 1) else some (.tup [], v83.2)).bind fun v85 =>
      (wantV v59 false).bind fun v86 =>
      (bif v86 then pv v85.2 (E.p.load 3 v85.1 v85.2) else some (.tup [], v85.2)).bind fun v87 =>
      (wantV v59 false).bind fun v88 =>
      (bif v88 then pv v87.2 (E.p.bin .shr 3 v77.1 v87.1) else some (.tup [], v87.2)).bind fun v89 =>
      (wantV v59 false).bind fun v90 =>
      (bif v90 then pv v89.2 (E.p.bin .rem 3 v89.1 (.int .i64 2)) else some (.tup [], v89.2)).bind fun v91 =>
      (wantV v59 false).bind fun v92 =>
      (bif v92 then pv v91.2 (E.p.bin .eql 3 v75.1 v91.1) else some (.tup [], v91.2)).bind fun v93 =>
      (E.p.pick v59 (.bool true) v93.1).bind fun v94 =>
      condP v94
       (
        (E.p.bin .add 3 x9 (.int .i64 1)).bind fun v95 =>
        K .normal (st1 x0 x1 x7 x8 v95 v93.2))
       (
        (E.p.indexAddr 23 x0 x9).bind fun v96 =>
        (E.p.fieldAddr 34 v96 0).bind fun v97 =>
        (E.p.load 3 v97 v93.2).bind fun v98 =>
        (E.p.bin .shl 3 (.int .i64 1) v98).bind fun v99 =>
        (E.p.bin .or 3 x7 v99).bind fun v100 =>
        (E.p.indexAddr 23 x0 x9).bind fun v101 =>
        (E.p.fieldAddr 34 v101 1).bind fun v102 =>
        (E.p.load 3 v102 v93.2).bind fun v103 =>
        (E.p.bin .shl 3 (.int .i64 1) v103).bind fun v104 =>
        (E.p.bin .or 3 v100 v104).bind fun v105 =>
        (E.p.bin .add 3 x9 (.int .i64 1)).bind fun v106 =>
        K .normal (st1 x0 x1 v105 (.bool true) v106 v93.2)))
     (
      K (.exit 2) (se2_0_1_7_8_9_16 x0 x1 x7 x8 x9 v56 h))
theorem body1_eq (E : Env) (K : PX → St → Res) (x0 x1 x7 x8 x9 : PV) (h : PHeap) : ev (E.cx Tryd.prog kl) lp1 (st1 x0 x1 x7 x8 x9 h) K = body1 E K x0 x1 x7 x8 x9 h := by kernel_rfl
theorem body0_sn_0_1_7_8_9_16 (E : Env) (K : PX → St → Res) (x0 x1 x7 x8 x9 x16 : PV) (h : PHeap) : ev (E.cx Tryd.prog kl) lp0 (sn_0_1_7_8_9_16 x0 x1 x7 x8 x9 x16 h) K = body0 E K x0 x1 x7 x8 h := by kernel_rfl
theorem after0_se0_0_1_7_12 (E : Env) (x0 x1 x7 x12 : PV) (h : PHeap) : K0 E (kTop Tryd.prog Tryd.f45) (.exit 0) (se0_0_1_7_12 x0 x1 x7 x12 h) =
    (resV x7).bind fun v54 =>
    some (v54, h) := by kernel_rfl
theorem after1_se2_0_1_7_8_9_16 (E : Env) (K : PX → St → Res) (x0 x1 x7 x8 x9 x16 : PV) (h : PHeap) : K1 E K (.exit 2) (se2_0_1_7_8_9_16 x0 x1 x7 x8 x9 x16 h) =
    K .normal (sn_0_1_7_8_9_16 x0 x1 x7 x8 x9 x16 h) := by kernel_rfl
noncomputable def main (E : Env) (x0 x1 x2 : PV) (h : PHeap) : Res :=
    (E.p.bin .shl 3 (.int .i64 1) x2).bind fun v1 =>
    loopK (ev (E.cx Tryd.prog spec_l9Reach.kl) spec_l9Reach.lp0) E.lf (spec_l9Reach.st0 x0 x1 v1 (.bool true) h) (spec_l9Reach.K0 E (kTop Tryd.prog Tryd.f45))
theorem main_eq (E : Env) (x0 x1 x2 : PV) (h : PHeap) : runBody (E.cx Tryd.prog kl) Tryd.f45 [x0, x1, x2] h = main E x0 x1 x2 h := by kernel_rfl
theorem call_eq (g : Nat → PV) (lf n : Nat) (x0 x1 x2 : PV) (h : PHeap) : CL g lf (n + 1) fn_spec_l9Reach [x0, x1, x2] h = main (env g lf n) x0 x1 x2 h := by
  rw [← main_eq]
  show call Tryd.prog g KL lf (n + 1) 45 [x0, x1, x2] h = _
  rw [call_succ, Tryd.func45]
  kernel_rfl
end spec_l9Reach
namespace impl_nodeOk
noncomputable def main (E : Env) (x0 x1 : PV) (h : PHeap) : Res :=
    (E.p.bin .geq 3 x1 (.int .i64 0)).bind fun v1 =>
    (wantV v1 true).bind fun v2 =>
    (bif v2 then some (x1, h) else some (.tup [], h)).bind fun v3 =>
    (wantV v1 true).bind fun v4 =>
    (bif v4 then some (x0, v3.2) else some (.tup [], v3.2)).bind fun v5 =>
    (wantV v1 true).bind fun v6 =>
    (bif v6 then pv v5.2 (E.p.bin .lss 3 v3.1 v5.1) else some (.tup [], v5.2)).bind fun v7 =>
    (E.p.pick v1 v7.1 (.bool false)).bind fun v8 =>
    (resV v8).bind fun v9 =>
    some (v9, v7.2)
theorem main_eq (E : Env) (x0 x1 : PV) (h : PHeap) : runBody (E.cx Tryd.prog kl) Tryd.f46 [x0, x1] h = main E x0 x1 h := by kernel_rfl
theorem call_eq (g : Nat → PV) (lf n : Nat) (x0 x1 : PV) (h : PHeap) : CL g lf (n + 1) fn_impl_nodeOk [x0, x1] h = main (env g lf n) x0 x1 h := by
  rw [← main_eq]
  show call Tryd.prog g KL lf (n + 1) 46 [x0, x1] h = _
  rw [call_succ, Tryd.func46]
  kernel_rfl
end impl_nodeOk
namespace impl_allWires
noncomputable def main (E : Env) (x0 : PV) (h : PHeap) : Res :=
    (E.p.len 23 x0).bind fun v1 =>
    (E.p.bin .shl 3 (.int .i64 1) v1).bind fun v2 =>
    (E.p.bin .sub 3 v2 (.int .i64 1)).bind fun v3 =>
    (resV v3).bind fun v4 =>
    some (v4, h)
theorem main_eq (E : Env) (x0 : PV) (h : PHeap) : runBody (E.cx Tryd.prog kl) Tryd.f47 [x0] h = main E x0 h := by kernel_rfl
theorem call_eq (g : Nat → PV) (lf n : Nat) (x0 : PV) (h : PHeap) : CL g lf (n + 1) fn_impl_allWires [x0] h = main (env g lf n) x0 h := by
  rw [← main_eq]
  show call Tryd.prog g KL lf (n + 1) 47 [x0] h = _
  rw [call_succ, Tryd.func47]
  kernel_rfl
end impl_allWires
namespace impl_countIn
noncomputable def main (E : Env) (x0 : PV) (h : PHeap) : Res :=
    (E.p.conv 3 69 x0).bind fun v1 =>
    (E.C fn_bits_OnesCount [v1] h).bind fun v2 =>
    (resV v2.1).bind fun v3 =>
    some (v3, v2.2)
theorem main_eq (E : Env) (x0 : PV) (h : PHeap) : runBody (E.cx Tryd.prog kl) Tryd.f48 [x0] h = main E x0 h := by kernel_rfl
theorem call_eq (g : Nat → PV) (lf n : Nat) (x0 : PV) (h : PHeap) : CL g lf (n + 1) fn_impl_countIn [x0] h = main (env g lf n) x0 h := by
  rw [← main_eq]
  show call Tryd.prog g KL lf (n + 1) 48 [x0] h = _
  rw [call_succ, Tryd.func48]
  kernel_rfl
end impl_countIn
namespace impl_nodesReached
noncomputable def lp0 : Code := (codeAt (bodyOf Tryd.f49) [1, 0, 1, 0, 0])
def st0 (x0 x1 x2 x7 : PV) (h : PHeap) : St := ⟨[x0, x1, x2, .junk, .junk, .junk, .junk, x7, .junk, .junk, .junk, .junk, .junk, .junk, .junk, .junk, .junk, .junk, .junk, .junk, .junk], h⟩
def se0_0_1_2_7_10 (x0 x1 x2 x7 x10 : PV) (h : PHeap) : St := ⟨[x0, x1, x2, .junk, .junk, .junk, .junk, x7, .junk, .junk, x10, .junk, .junk, .junk, .junk, .junk, .junk, .junk, .junk, .junk, .junk], h⟩
noncomputable def K0 (E : Env) (K : PX → St → Res) : PX → St → Res := (kBlock 0 (kSeq (ev (E.cx Tryd.prog kl) (codeAt (bodyOf Tryd.f49) [1, 1])) K))
@[simp] theorem K0_ret (E : Env) (K : PX → St → Res) (s : St) : K0 E K .ret s = K .ret s := by kernel_rfl
noncomputable def body0 (E : Env) (K : PX → St → Res) (x0 x1 x2 x7 : PV) (h : PHeap) : Res :=
    (E.p.bin .neq 3 x7 (.int .i64 0)).bind fun v6 =>
    condP v6
     (
      (E.C fn_impl_nodesBeside [x0, x1, x7] h).bind fun v7 =>
      (E.p.bin .andNot 3 v7.1 x2).bind fun v8 =>
      (E.p.bin .or 3 x2 v8).bind fun v9 =>
      K .normal (st0 x0 x1 v9 v8 v7.2))
     (
      K (.exit 0) (se0_0_1_2_7_10 x0 x1 x2 x7 v6 h))
theorem body0_eq (E : Env) (K : PX → St → Res) (x0 x1 x2 x7 : PV) (h : PHeap) : ev (E.cx Tryd.prog kl) lp0 (st0 x0 x1 x2 x7 h) K = body0 E K x0 x1 x2 x7 h := by kernel_rfl
theorem after0_se0_0_1_2_7_10 (E : Env) (x0 x1 x2 x7 x10 : PV) (h : PHeap) : K0 E (kTop Tryd.prog Tryd.f49) (.exit 0) (se0_0_1_2_7_10 x0 x1 x2 x7 x10 h) =
    (resV x2).bind fun v5 =>
    some (v5, h) := by kernel_rfl
noncomputable def main (E : Env) (x0 x1 x2 : PV) (h : PHeap) : Res :=
    loopK (ev (E.cx Tryd.prog impl_nodesReached.kl) impl_nodesReached.lp0) E.lf (impl_nodesReached.st0 x0 x1 x2 x2 h) (impl_nodesReached.K0 E (kTop Tryd.prog Tryd.f49))
theorem main_eq (E : Env) (x0 x1 x2 : PV) (h : PHeap) : runBody (E.cx Tryd.prog kl) Tryd.f49 [x0, x1, x2] h = main E x0 x1 x2 h := by kernel_rfl
theorem call_eq (g : Nat → PV) (lf n : Nat) (x0 x1 x2 : PV) (h : PHeap) : CL g lf (n + 1) fn_impl_nodesReached [x0, x1, x2] h = main (env g lf n) x0 x1 x2 h := by
  rw [← main_eq]
  show call Tryd.prog g KL lf (n + 1) 49 [x0, x1, x2] h = _
  rw [call_succ, Tryd.func49]
  kernel_rfl
end impl_nodesReached
namespace impl_sizeOk
noncomputable def main (E : Env) (x0 : PV) (h : PHeap) : Res :=
    (E.p.bin .geq 3 x0 (.int .i64 1)).bind fun v1 =>
    (wantV v1 true).bind fun v2 =>
    (bif v2 then some (x0, h) else some (.tup [], h)).bind fun v3 =>
    (wantV v1 true).bind fun v4 =>
    (bif v4 then pv v3.2 (E.p.bin .leq 3 v3.1 (.int .i64 4)) else some (.tup [], v3.2)).bind fun v5 =>
    (E.p.pick v1 v5.1 (.bool false)).bind fun v6 =>
    (resV v6).bind fun v7 =>
    some (v7, v5.2)
theorem main_eq (E : Env) (x0 : PV) (h : PHeap) : runBody (E.cx Tryd.prog kl) Tryd.f50 [x0] h = main E x0 h := by kernel_rfl
theorem call_eq (g : Nat → PV) (lf n : Nat) (x0 : PV) (h : PHeap) : CL g lf (n + 1) fn_impl_sizeOk [x0] h = main (env g lf n) x0 h := by
  rw [← main_eq]
  show call Tryd.prog g KL lf (n + 1) 50 [x0] h = _
  rw [call_succ, Tryd.func50]
  kernel_rfl
end impl_sizeOk
namespace impl_partsOf
noncomputable def lp0 : Code := (codeAt (bodyOf Tryd.f51) [1, 1, 0, 1, 0, 0])
def st0 (x0 x3 x4 : PV) (h : PHeap) : St := ⟨[x0, .junk, .junk, x3, x4, .junk, .junk, .junk, .junk, .junk, .junk, .junk, .junk, .junk, .junk, .junk, .junk, .junk, .junk, .junk, .junk], h⟩
def se0_0_3_4_8 (x0 x3 x4 x8 : PV) (h : PHeap) : St := ⟨[x0, .junk, .junk, x3, x4, .junk, .junk, .junk, x8, .junk, .junk, .junk, .junk, .junk, .junk, .junk, .junk, .junk, .junk, .junk, .junk], h⟩
noncomputable def K0 (E : Env) (K : PX → St → Res) : PX → St → Res := (kBlock 0 (kSeq (ev (E.cx Tryd.prog kl) (codeAt (bodyOf Tryd.f51) [1, 1, 1])) K))
@[simp] theorem K0_ret (E : Env) (K : PX → St → Res) (s : St) : K0 E K .ret s = K .ret s := by kernel_rfl
noncomputable def body0 (E : Env) (K : PX → St → Res) (x0 x3 x4 : PV) (h : PHeap) : Res :=
    (E.p.bin .neq 3 x4 x0).bind fun v10 =>
    condP v10
     (
      (E.p.un .xor x0).bind fun v11 =>
      (E.p.bin .or 3 x4 v11).bind fun v12 =>
      (E.p.bin .add 3 v12 (.int .i64 1)).bind fun v13 =>
      (E.p.bin .and 3 v13 x0).bind fun v14 =>
      (E.p.buildSlice 35 1 [(0, v14)] h).bind fun v15 =>
      (E.p.append 35 35 x3 v15.1 v15.2).bind fun v16 =>
      K .normal (st0 x0 v16.1 v14 v16.2))
     (
      K (.exit 0) (se0_0_3_4_8 x0 x3 x4 v10 h))
theorem body0_eq (E : Env) (K : PX → St → Res) (x0 x3 x4 : PV) (h : PHeap) : ev (E.cx Tryd.prog kl) lp0 (st0 x0 x3 x4 h) K = body0 E K x0 x3 x4 h := by kernel_rfl
theorem after0_se0_0_3_4_8 (E : Env) (x0 x3 x4 x8 : PV) (h : PHeap) : K0 E (kTop Tryd.prog Tryd.f51) (.exit 0) (se0_0_3_4_8 x0 x3 x4 x8 h) =
    (resV x3).bind fun v9 =>
    some (v9, h) := by kernel_rfl
noncomputable def main (E : Env) (x0 : PV) (h : PHeap) : Res :=
    (E.p.buildSlice 35 1 [(0, (.int .i64 0))] h).bind fun v1 =>
    loopK (ev (E.cx Tryd.prog impl_partsOf.kl) impl_partsOf.lp0) E.lf (impl_partsOf.st0 x0 v1.1 (.int .i64 0) v1.2) (impl_partsOf.K0 E (kTop Tryd.prog Tryd.f51))
theorem main_eq (E : Env) (x0 : PV) (h : PHeap) : runBody (E.cx Tryd.prog kl) Tryd.f51 [x0] h = main E x0 h := by kernel_rfl
theorem call_eq (g : Nat → PV) (lf n : Nat) (x0 : PV) (h : PHeap) : CL g lf (n + 1) fn_impl_partsOf [x0] h = main (env g lf n) x0 h := by
  rw [← main_eq]
  show call Tryd.prog g KL lf (n + 1) 51 [x0] h = _
  rw [call_succ, Tryd.func51]
  kernel_rfl
end impl_partsOf
namespace spec_l20Rd_odd
noncomputable def main (E : Env) (x0 x1 : PV) (h : PHeap) : Res :=
    (E.p.bin .gtr 3 x1 (.int .i64 0)).bind fun v1 =>
    (wantV v1 true).bind fun v2 =>
    (bif v2 then some (x0, h) else some (.tup [], h)).bind fun v3 =>
    (wantV v1 true).bind fun v4 =>
    (bif v4 then some (x1, v3.2) else some (.tup [], v3.2)).bind fun v5 =>
    (wantV v1 true).bind fun v6 =>
    (bif v6 then E.C fn_spec_l20Rd_pick [v3.1, v5.1] v5.2 else some (.tup [], v5.2)).bind fun v7 =>
    (wantV v1 true).bind fun v8 =>
    (bif v8 then some (x1, v7.2) else some (.tup [], v7.2)).bind fun v9 =>
    (wantV v1 true).bind fun v10 =>
    (bif v10 then pv v9.2 (E.p.bin .sub 3 v9.1 (.int .i64 1)) else some (.tup [], v9.2)).bind fun v11 =>
    (wantV v1 true).bind fun v12 =>
    (bif v12 then pv v11.2 (E.p.bin .eql 3 v7.1 v11.1) else some (.tup [], v11.2)).bind fun v13 =>
    (E.p.pick v1 v13.1 (.bool false)).bind fun v14 =>
    (resV v14).bind fun v15 =>
    some (v15, v13.2)
theorem main_eq (E : Env) (x0 x1 : PV) (h : PHeap) : runBody (E.cx Tryd.prog kl) Tryd.f52 [x0, x1] h = main E x0 x1 h := by kernel_rfl
theorem call_eq (g : Nat → PV) (lf n : Nat) (x0 x1 : PV) (h : PHeap) : CL g lf (n + 1) fn_spec_l20Rd_odd [x0, x1] h = main (env g lf n) x0 x1 h := by
  rw [← main_eq]
  show call Tryd.prog g KL lf (n + 1) 52 [x0, x1] h = _
  rw [call_succ, Tryd.func52]
  kernel_rfl
end spec_l20Rd_odd
namespace spec_l2List
noncomputable def lp0 : Code := (codeAt (bodyOf Tryd.f53) [1, 1, 0, 1, 0, 0])
def st0 (x0 x3 x4 : PV) (h : PHeap) : St := ⟨[x0, .junk, .junk, x3, x4, .junk, .junk, .junk, .junk, .junk, .junk, .junk, .junk, .junk, .junk, .junk, .junk, .junk, .junk, .junk, .junk, .junk], h⟩
def se0_0_3_4_9 (x0 x3 x4 x9 : PV) (h : PHeap) : St := ⟨[x0, .junk, .junk, x3, x4, .junk, .junk, .junk, .junk, x9, .junk, .junk, .junk, .junk, .junk, .junk, .junk, .junk, .junk, .junk, .junk, .junk], h⟩
noncomputable def K0 (E : Env) (K : PX → St → Res) : PX → St → Res := (kBlock 0 (kSeq (ev (E.cx Tryd.prog kl) (codeAt (bodyOf Tryd.f53) [1, 1, 1])) K))
@[simp] theorem K0_ret (E : Env) (K : PX → St → Res) (s : St) : K0 E K .ret s = K .ret s := by kernel_rfl
noncomputable def body0 (E : Env) (K : PX → St → Res) (x0 x3 x4 : PV) (h : PHeap) : Res :=
    (E.p.bin .shr 3 x0 x4).bind fun v12 =>
    (E.p.bin .gtr 3 v12 (.int .i64 0)).bind fun v13 =>
    condP v13
     (
      (E.p.bin .shr 3 x0 x4).bind fun v14 =>
      (E.p.bin .rem 3 v14 (.int .i64 2)).bind fun v15 =>
      (E.p.bin .eql 3 v15 (.int .i64 1)).bind fun v16 =>
      condP v16
       (
        (E.p.buildSlice 35 1 [(0, x4)] h).bind fun v17 =>
        (E.p.append 35 35 x3 v17.1 v17.2).bind fun v18 =>
        (E.p.bin .add 3 x4 (.int .i64 1)).bind fun v19 =>
        K .normal (st0 x0 v18.1 v19 v18.2))
       (
        (E.p.bin .add 3 x4 (.int .i64 1)).bind fun v20 =>
        K .normal (st0 x0 x3 v20 h)))
     (
      K (.exit 0) (se0_0_3_4_9 x0 x3 x4 v13 h))
theorem body0_eq (E : Env) (K : PX → St → Res) (x0 x3 x4 : PV) (h : PHeap) : ev (E.cx Tryd.prog kl) lp0 (st0 x0 x3 x4 h) K = body0 E K x0 x3 x4 h := by kernel_rfl
theorem after0_se0_0_3_4_9 (E : Env) (x0 x3 x4 x9 : PV) (h : PHeap) : K0 E (kTop Tryd.prog Tryd.f53) (.exit 0) (se0_0_3_4_9 x0 x3 x4 x9 h) =
    (resV x3).bind fun v11 =>
    some (v11, h) := by kernel_rfl
noncomputable def main (E : Env) (x0 : PV) (h : PHeap) : Res :=
    (E.p.buildSlice 35 0 [] h).bind fun v1 =>
    loopK (ev (E.cx Tryd.prog spec_l2List.kl) spec_l2List.lp0) E.lf (spec_l2List.st0 x0 v1.1 (.int .i64 0) v1.2) (spec_l2List.K0 E (kTop Tryd.prog Tryd.f53))
theorem main_eq (E : Env) (x0 : PV) (h : PHeap) : runBody (E.cx Tryd.prog kl) Tryd.f53 [x0] h = main E x0 h := by kernel_rfl
theorem call_eq (g : Nat → PV) (lf n : Nat) (x0 : PV) (h : PHeap) : CL g lf (n + 1) fn_spec_l2List [x0] h = main (env g lf n) x0 h := by
  rw [← main_eq]
  show call Tryd.prog g KL lf (n + 1) 53 [x0] h = _
  rw [call_succ, Tryd.func53]
  kernel_rfl
end spec_l2List
namespace bits_OnesCount
noncomputable def main (E : Env) (x0 : PV) (h : PHeap) : Res :=
    condP (.bool false)
     (
      (E.p.conv 69 71 x0).bind fun v1 =>
      (E.C 56 [v1] h).bind fun v2 =>
      (resV v2.1).bind fun v3 =>
      some (v3, v2.2))
     (
      (E.C fn_bits_OnesCount64 [x0] h).bind fun v4 =>
      (resV v4.1).bind fun v5 =>
      some (v5, v4.2))
theorem main_eq (E : Env) (x0 : PV) (h : PHeap) : runBody (E.cx Tryd.prog kl) Tryd.f54 [x0] h = main E x0 h := by kernel_rfl
theorem call_eq (g : Nat → PV) (lf n : Nat) (x0 : PV) (h : PHeap) : CL g lf (n + 1) fn_bits_OnesCount [x0] h = main (env g lf n) x0 h := by
  rw [← main_eq]
  show call Tryd.prog g KL lf (n + 1) 54 [x0] h = _
  rw [call_succ, Tryd.func54]
  kernel_rfl
end bits_OnesCount
namespace impl_nodesBeside
noncomputable def lp0 : Code := (codeAt (bodyOf Tryd.f55) [1, 1, 0, 1, 0, 0])
def st0 (x0 x2 x7 x8 : PV) (h : PHeap) : St := ⟨[x0, .junk, x2, .junk, .junk, .junk, .junk, x7, x8, .junk, .junk, .junk, .junk, .junk, .junk, .junk, .junk, .junk, .junk, .junk, .junk, .junk, .junk, .junk, .junk, .junk, .junk, .junk, .junk, .junk, .junk, .junk, .junk, .junk, .junk, .junk, .junk, .junk], h⟩
def se0_0_2_7_8_13 (x0 x2 x7 x8 x13 : PV) (h : PHeap) : St := ⟨[x0, .junk, x2, .junk, .junk, .junk, .junk, x7, x8, .junk, .junk, .junk, .junk, x13, .junk, .junk, .junk, .junk, .junk, .junk, .junk, .junk, .junk, .junk, .junk, .junk, .junk, .junk, .junk, .junk, .junk, .junk, .junk, .junk, .junk, .junk, .junk, .junk], h⟩
noncomputable def K0 (E : Env) (K : PX → St → Res) : PX → St → Res := (kBlock 0 (kSeq (ev (E.cx Tryd.prog kl) (codeAt (bodyOf Tryd.f55) [1, 1, 1])) K))
@[simp] theorem K0_ret (E : Env) (K : PX → St → Res) (s : St) : K0 E K .ret s = K .ret s := by kernel_rfl
noncomputable def body0 (E : Env) (K : PX → St → Res) (x0 x2 x7 x8 : PV) (h : PHeap) : Res :=
    (E.p.bin .neq 3 x8 (.int .i64 0)).bind fun v22 =>
    condP v22
     (
      (E.C fn_impl_leastIn [x8] h).bind fun v23 =>
      (E.p.indexAddr 23 x0 v23.1).bind fun v24 =>
      (E.p.load 34 v24 v23.2).bind fun v25 =>
      (E.p.alloc 34 v23.2).bind fun v26 =>
      (E.p.store 34 v26.1 v25 v26.2).bind fun v27 =>
      (E.p.fieldAddr 34 v26.1 0).bind fun v28 =>
      (E.p.load 3 v28 v27).bind fun v29 =>
      (E.p.bin .shl 3 (.int .i64 1) v29).bind fun v30 =>
      (E.p.fieldAddr 34 v26.1 1).bind fun v31 =>
      (E.p.load 3 v31 v27).bind fun v32 =>
      (E.p.bin .shl 3 (.int .i64 1) v32).bind fun v33 =>
      (E.p.bin .or 3 v30 v33).bind fun v34 =>
      (E.p.bin .and 3 v34 x2).bind fun v35 =>
      (E.p.bin .neq 3 v35 (.int .i64 0)).bind fun v36 =>
      condP v36
       (
        (E.p.bin .or 3 x7 v34).bind fun v37 =>
        (E.p.bin .sub 3 x8 (.int .i64 1)).bind fun v38 =>
        (E.p.bin .and 3 x8 v38).bind fun v39 =>
        K .normal (st0 x0 x2 v37 v39 v27))
       (
        (E.p.bin .sub 3 x8 (.int .i64 1)).bind fun v40 =>
        (E.p.bin .and 3 x8 v40).bind fun v41 =>
        K .normal (st0 x0 x2 x7 v41 v27)))
     (
      K (.exit 0) (se0_0_2_7_8_13 x0 x2 x7 x8 v22 h))
theorem body0_eq (E : Env) (K : PX → St → Res) (x0 x2 x7 x8 : PV) (h : PHeap) : ev (E.cx Tryd.prog kl) lp0 (st0 x0 x2 x7 x8 h) K = body0 E K x0 x2 x7 x8 h := by kernel_rfl
theorem after0_se0_0_2_7_8_13 (E : Env) (x0 x2 x7 x8 x13 : PV) (h : PHeap) : K0 E (kTop Tryd.prog Tryd.f55) (.exit 0) (se0_0_2_7_8_13 x0 x2 x7 x8 x13 h) =
    (resV x7).bind fun v21 =>
    some (v21, h) := by kernel_rfl
noncomputable def main (E : Env) (x0 x1 x2 : PV) (h : PHeap) : Res :=
    loopK (ev (E.cx Tryd.prog impl_nodesBeside.kl) impl_nodesBeside.lp0) E.lf (impl_nodesBeside.st0 x0 x2 (.int .i64 0) x1 h) (impl_nodesBeside.K0 E (kTop Tryd.prog Tryd.f55))
theorem main_eq (E : Env) (x0 x1 x2 : PV) (h : PHeap) : runBody (E.cx Tryd.prog kl) Tryd.f55 [x0, x1, x2] h = main E x0 x1 x2 h := by kernel_rfl
theorem call_eq (g : Nat → PV) (lf n : Nat) (x0 x1 x2 : PV) (h : PHeap) : CL g lf (n + 1) fn_impl_nodesBeside [x0, x1, x2] h = main (env g lf n) x0 x1 x2 h := by
  rw [← main_eq]
  show call Tryd.prog g KL lf (n + 1) 55 [x0, x1, x2] h = _
  rw [call_succ, Tryd.func55]
  kernel_rfl
end impl_nodesBeside
namespace bits_OnesCount64
noncomputable def main (E : Env) (x0 : PV) (h : PHeap) : Res :=
    (E.p.bin .shr 73 x0 (.int .u64 1)).bind fun v1 =>
    (E.p.bin .and 73 v1 (.int .u64 6148914691236517205)).bind fun v2 =>
    (E.p.bin .and 73 x0 (.int .u64 6148914691236517205)).bind fun v3 =>
    (E.p.bin .add 73 v2 v3).bind fun v4 =>
    (E.p.bin .shr 73 v4 (.int .u64 2)).bind fun v5 =>
    (E.p.bin .and 73 v5 (.int .u64 3689348814741910323)).bind fun v6 =>
    (E.p.bin .and 73 v4 (.int .u64 3689348814741910323)).bind fun v7 =>
    (E.p.bin .add 73 v6 v7).bind fun v8 =>
    (E.p.bin .shr 73 v8 (.int .u64 4)).bind fun v9 =>
    (E.p.bin .add 73 v9 v8).bind fun v10 =>
    (E.p.bin .and 73 v10 (.int .u64 1085102592571150095)).bind fun v11 =>
    (E.p.bin .shr 73 v11 (.int .u64 8)).bind fun v12 =>
    (E.p.bin .add 73 v11 v12).bind fun v13 =>
    (E.p.bin .shr 73 v13 (.int .u64 16)).bind fun v14 =>
    (E.p.bin .add 73 v13 v14).bind fun v15 =>
    (E.p.bin .shr 73 v15 (.int .u64 32)).bind fun v16 =>
    (E.p.bin .add 73 v15 v16).bind fun v17 =>
    (E.p.conv 73 3 v17).bind fun v18 =>
    (E.p.bin .and 3 v18 (.int .i64 127)).bind fun v19 =>
    (resV v19).bind fun v20 =>
    some (v20, h)
theorem main_eq (E : Env) (x0 : PV) (h : PHeap) : runBody (E.cx Tryd.prog kl) Tryd.f57 [x0] h = main E x0 h := by kernel_rfl
theorem call_eq (g : Nat → PV) (lf n : Nat) (x0 : PV) (h : PHeap) : CL g lf (n + 1) fn_bits_OnesCount64 [x0] h = main (env g lf n) x0 h := by
  rw [← main_eq]
  show call Tryd.prog g KL lf (n + 1) 57 [x0] h = _
  rw [call_succ, Tryd.func57]
  kernel_rfl
end bits_OnesCount64
namespace impl_leastIn
noncomputable def main (E : Env) (x0 : PV) (h : PHeap) : Res :=
    (E.p.conv 3 69 x0).bind fun v1 =>
    (E.C fn_bits_TrailingZeros [v1] h).bind fun v2 =>
    (resV v2.1).bind fun v3 =>
    some (v3, v2.2)
theorem main_eq (E : Env) (x0 : PV) (h : PHeap) : runBody (E.cx Tryd.prog kl) Tryd.f58 [x0] h = main E x0 h := by kernel_rfl
theorem call_eq (g : Nat → PV) (lf n : Nat) (x0 : PV) (h : PHeap) : CL g lf (n + 1) fn_impl_leastIn [x0] h = main (env g lf n) x0 h := by
  rw [← main_eq]
  show call Tryd.prog g KL lf (n + 1) 58 [x0] h = _
  rw [call_succ, Tryd.func58]
  kernel_rfl
end impl_leastIn
namespace bits_TrailingZeros
noncomputable def main (E : Env) (x0 : PV) (h : PHeap) : Res :=
    condP (.bool false)
     (
      (E.p.conv 69 71 x0).bind fun v1 =>
      (E.C fn_bits_TrailingZeros32 [v1] h).bind fun v2 =>
      (resV v2.1).bind fun v3 =>
      some (v3, v2.2))
     (
      (E.C fn_bits_TrailingZeros64 [x0] h).bind fun v4 =>
      (resV v4.1).bind fun v5 =>
      some (v5, v4.2))
theorem main_eq (E : Env) (x0 : PV) (h : PHeap) : runBody (E.cx Tryd.prog kl) Tryd.f59 [x0] h = main E x0 h := by kernel_rfl
theorem call_eq (g : Nat → PV) (lf n : Nat) (x0 : PV) (h : PHeap) : CL g lf (n + 1) fn_bits_TrailingZeros [x0] h = main (env g lf n) x0 h := by
  rw [← main_eq]
  show call Tryd.prog g KL lf (n + 1) 59 [x0] h = _
  rw [call_succ, Tryd.func59]
  kernel_rfl
end bits_TrailingZeros
namespace bits_TrailingZeros32
noncomputable def main (E : Env) (x0 : PV) (h : PHeap) : Res :=
    (E.p.bin .eql 71 x0 (.int .u32 0)).bind fun v1 =>
    condP v1
     (
      (resV (.int .i64 32)).bind fun v2 =>
      some (v2, h))
     (
      (E.p.un .neg x0).bind fun v3 =>
      (E.p.bin .and 71 x0 v3).bind fun v4 =>
      (E.p.bin .mul 71 v4 (.int .u32 125613361)).bind fun v5 =>
      (E.p.bin .shr 71 v5 (.int .u64 27)).bind fun v6 =>
      (E.p.indexAddr 74 (E.g 0) v6).bind fun v7 =>
      (E.p.load 5 v7 h).bind fun v8 =>
      (E.p.conv 5 3 v8).bind fun v9 =>
      (resV v9).bind fun v10 =>
      some (v10, h))
theorem main_eq (E : Env) (x0 : PV) (h : PHeap) : runBody (E.cx Tryd.prog kl) Tryd.f60 [x0] h = main E x0 h := by kernel_rfl
theorem call_eq (g : Nat → PV) (lf n : Nat) (x0 : PV) (h : PHeap) : CL g lf (n + 1) fn_bits_TrailingZeros32 [x0] h = main (env g lf n) x0 h := by
  rw [← main_eq]
  show call Tryd.prog g KL lf (n + 1) 60 [x0] h = _
  rw [call_succ, Tryd.func60]
  kernel_rfl
end bits_TrailingZeros32
namespace bits_TrailingZeros64
noncomputable def main (E : Env) (x0 : PV) (h : PHeap) : Res :=
    (E.p.bin .eql 73 x0 (.int .u64 0)).bind fun v1 =>
    condP v1
     (
      (resV (.int .i64 64)).bind fun v2 =>
      some (v2, h))
     (
      (E.p.un .neg x0).bind fun v3 =>
      (E.p.bin .and 73 x0 v3).bind fun v4 =>
      (E.p.bin .mul 73 v4 (.int .u64 285870213051353865)).bind fun v5 =>
      (E.p.bin .shr 73 v5 (.int .u64 58)).bind fun v6 =>
      (E.p.indexAddr 75 (E.g 1) v6).bind fun v7 =>
      (E.p.load 5 v7 h).bind fun v8 =>
      (E.p.conv 5 3 v8).bind fun v9 =>
      (resV v9).bind fun v10 =>
      some (v10, h))
theorem main_eq (E : Env) (x0 : PV) (h : PHeap) : runBody (E.cx Tryd.prog kl) Tryd.f61 [x0] h = main E x0 h := by kernel_rfl
theorem call_eq (g : Nat → PV) (lf n : Nat) (x0 : PV) (h : PHeap) : CL g lf (n + 1) fn_bits_TrailingZeros64 [x0] h = main (env g lf n) x0 h := by
  rw [← main_eq]
  show call Tryd.prog g KL lf (n + 1) 61 [x0] h = _
  rw [call_succ, Tryd.func61]
  kernel_rfl
end bits_TrailingZeros64
end Go.Proofs.YtbmmcldbllhhhabDoor.G

/- Which boards there are: what the program's and the model's functions on a board's sides compute. -/
set_option maxRecDepth 20000
namespace Go.Proofs.YtbmmcldbllhhhabDoor
open Go Go.Ip G

def boardB (r c : Int) : Bool := decide (1 ≤ r ∧ r ≤ 4 ∧ 1 ≤ c ∧ c ≤ 4 ∧ r * c ≤ 9)

theorem mul_small {r c : Int} (h1 : 1 ≤ r) (h2 : r ≤ 4) (h3 : 1 ≤ c) (h4 : c ≤ 4) : IntKind.i64.wrap (r * c) = r * c := by
  have : r = 1 ∨ r = 2 ∨ r = 3 ∨ r = 4 := by omega
  rcases this with rfl | rfl | rfl | rfl <;> exact wr (by omega)

variable (g : Nat → PV) (lf n : Nat) (h : PHeap)

theorem sizeOk_calls (a : Int) : CL g lf (n + 1) fn_impl_sizeOk [.int .i64 a] h = some (.bool (decide (1 ≤ a ∧ a ≤ 4)), h) := by
  rw [impl_sizeOk.call_eq]
  by_cases h1 : 1 ≤ a <;> simp [impl_sizeOk.main, h1]

theorem boardOk_calls (r c : Int) : CL g lf (n + 2) fn_impl_BoardOk [.int .i64 r, .int .i64 c] h = some (.bool (boardB r c), h) := by
  rw [impl_BoardOk.call_eq]
  by_cases h1 : 1 ≤ r ∧ r ≤ 4
  · by_cases h2 : 1 ≤ c ∧ c ≤ 4
    · simp [impl_BoardOk.main, sizeOk_calls, h1, h2, boardB, mul_small h1.1 h1.2 h2.1 h2.2]
    · have hb : boardB r c = false := by unfold boardB; simp; omega
      simp [impl_BoardOk.main, sizeOk_calls, h1, h2, hb]
  · have hb : boardB r c = false := by unfold boardB; simp; omega
    simp [impl_BoardOk.main, sizeOk_calls, h1, hb]

theorem l1In_calls (a lo hi : Int) : CL g lf (n + 1) fn_spec_l1In [.int .i64 a, .int .i64 lo, .int .i64 hi] h = some (.bool (decide (lo ≤ a ∧ a ≤ hi)), h) := by
  rw [spec_l1In.call_eq]
  by_cases h1 : lo ≤ a <;> simp [spec_l1In.main, h1]

end Go.Proofs.YtbmmcldbllhhhabDoor

/- What the laws' helpers on slices of integers, and both functions that check a position, compute. -/
set_option maxRecDepth 20000
namespace Go.Proofs.YtbmmcldbllhhhabDoor
open Go Go.Ip G

variable (g : Nat → PV) (lf n : Nat)

/-! ### toIntS: a copy -/
/-! ### eqIntS: are two lists equal? -/
/-! ### positions -/
def contentB (x : Int) : Bool := decide (0 ≤ x ∧ x ≤ 2)
def posB (r c : Int) (xs : List Int) : Bool := boardB r c && decide ((xs.length : Int) = r * c) && xs.all contentB

end Go.Proofs.YtbmmcldbllhhhabDoor

/- The exact law on positions. -/
set_option maxRecDepth 20000
namespace Go.Proofs.YtbmmcldbllhhhabDoor
open Go Go.Ip G

variable (g : Nat → PV) (lf n : Nat)

end Go.Proofs.YtbmmcldbllhhhabDoor

/- The marks that the exact laws lay and look for, and the lists that both programs make of a position. -/
set_option maxRecDepth 20000
namespace Go.Proofs.YtbmmcldbllhhhabDoor
open Go Go.Ip G

/-- A slice of the call's own, among the objects from n up to m. -/
def OwnB (n m : Nat) (h : PHeap) (p : PV) (xs : List Int) : Prop :=
  (p = .nilsl ∧ xs = []) ∨ ∃ id, n ≤ id ∧ id < m ∧ p = .sl id 0 xs.length ∧ h[id]? = some (.own 1 (xs.map (.int .i64)))

theorem OwnSl.b {n : Nat} {h : PHeap} {p : PV} {xs : List Int} (s : OwnSl n h p xs) : OwnB n h.length h p xs := by
  rcases s with s | ⟨id, h1, h2, h3⟩
  · exact .inl s
  · exact .inr ⟨id, h1, (List.getElem?_eq_some_iff.1 h3).1, h2, h3⟩

theorem OwnB.sl {n m : Nat} {h : PHeap} {p : PV} {xs : List Int} (s : OwnB n m h p xs) : OwnSl n h p xs := by
  rcases s with s | ⟨id, h1, _, h2, h3⟩
  · exact .inl s
  · exact .inr ⟨id, h1, h2, h3⟩

theorem OwnB.int {n m : Nat} {h : PHeap} {p : PV} {xs : List Int} (s : OwnB n m h p xs) : IntSl .i64 h p xs := s.sl.int

/-- Only the objects from n up to m may have been written to. -/
def Only (n m : Nat) (h h' : PHeap) : Prop := h'.length = h.length ∧ ∀ i, (i < n ∨ m ≤ i) → h'[i]? = h[i]?

theorem Only.refl (n m : Nat) (h : PHeap) : Only n m h h := ⟨rfl, fun _ _ => rfl⟩
theorem Only.trans {n m : Nat} {a b c : PHeap} (h : Only n m a b) (k : Only n m b c) : Only n m a c := ⟨k.1.trans h.1, fun i hi => (k.2 i hi).trans (h.2 i hi)⟩
theorem Only.keep {n m : Nat} {a b : PHeap} (h : Only n m a b) : Keep n a b := ⟨by rw [h.1]; exact Nat.le_refl _, fun i hi => h.2 i (.inl hi)⟩

theorem OwnB.keep {n m : Nat} {h h' : PHeap} {p : PV} {xs : List Int} (s : OwnB n m h p xs) (k : Keep m h h') : OwnB n m h' p xs := by
  rcases s with s | ⟨id, h1, h2, h3, h4⟩
  · exact .inl s
  · exact .inr ⟨id, h1, h2, h3, by rw [k.2 id h2]; exact h4⟩

theorem OwnB.only {n m n' m' : Nat} {h h' : PHeap} {p : PV} {xs : List Int} (s : OwnB n m h p xs) (k : Only n' m' h h') (hd : m ≤ n' ∨ m' ≤ n) : OwnB n m h' p xs := by
  rcases s with s | ⟨id, h1, h2, h3, h4⟩
  · exact .inl s
  · exact .inr ⟨id, h1, h2, h3, by rw [k.2 id (by omega)]; exact h4⟩

theorem OwnB.store {n m : Nat} {h : PHeap} {p : PV} {xs : List Int} (s : OwnB n m h p xs) {i : Nat} (hi : i < xs.length) (x : Int) :
    ∃ a h', indexAddrP Tryd.prog 35 p (.int .i64 i) = some a ∧ storeP Tryd.prog 3 a (.int .i64 x) h = some h' ∧ OwnB n m h' p (xs.set i x) ∧ Only n m h h' := by
  rcases s with ⟨rfl, rfl⟩ | ⟨id, h1, h2, rfl, h3⟩
  · simp at hi
  · have hid : id < h.length := (List.getElem?_eq_some_iff.1 h3).1
    refine ⟨.ptr id (0 + i), h.set id (.own 1 ((xs.set i x).map (.int .i64))), by simp [indexAddrP, tySize, hi], ?_, .inr ⟨id, h1, h2, by simp, by rw [List.getElem?_set_self hid]⟩, ⟨by simp, fun j hj => List.getElem?_set_ne (by omega)⟩⟩
    simp only [storeP, h3, PV.cells, tySize, Nat.zero_add]
    rw [if_pos ⟨rfl, by simp; omega⟩]
    simp [setCells, List.map_set]

/-- k, k + 1, k + 2 .. -/
def marks (k : Int) : Nat → List Int
  | 0 => []
  | n + 1 => k :: marks (k + 1) n

variable (g : Nat → PV) (lf n : Nat)

end Go.Proofs.YtbmmcldbllhhhabDoor

/- The cells of one kind, and a position turned by half a turn: both programs, and their exact laws. -/
set_option maxRecDepth 20000
namespace Go.Proofs.YtbmmcldbllhhhabDoor
open Go Go.Ip G

variable (g : Nat → PV) (lf n : Nat)

theorem OwnSl.res {n : Nat} {h : PHeap} {p : PV} {xs : List Int} (s : OwnSl n h p xs) : resV p = some p := by
  rcases s with ⟨rfl, _⟩ | ⟨id, _, rfl, _⟩ <;> rfl

end Go.Proofs.YtbmmcldbllhhhabDoor

/- A position turned by half a turn: both programs, and the exact law. -/
set_option maxRecDepth 20000
namespace Go.Proofs.YtbmmcldbllhhhabDoor
open Go Go.Ip G

variable (g : Nat → PV) (lf n : Nat)

end Go.Proofs.YtbmmcldbllhhhabDoor

/- The reader from which the model draws: what a pick may come to. -/
set_option maxRecDepth 20000
namespace Go.Proofs.YtbmmcldbllhhhabDoor
open Go Go.Ip Go.RowKit G

/-- A slice of bytes that came in, as the interpreter's heap holds it: the first object. -/
def Arg (h : PHeap) (p : PV) (xs : List Int) : Prop :=
  (∀ h', Keep 1 h h' → IntSl .u8 h' p xs) ∧ 1 ≤ h.length ∧ (∀ id off len, p = .sl id off len → 0 < len → id = 0 ∧ eszAt h id = 1) ∧ ∀ b ∈ xs, 0 ≤ b ∧ b ≤ 255

theorem arg_of {w : World} {a : Option Addr} {len cap : Nat} {zs : List Int}
    (h : (a = none ∧ len = 0 ∧ cap = 0 ∧ zs = []) ∨ ∃ x, a = some x ∧ len ≤ cap ∧ cap ≤ maxLen ∧ zs.length = cap ∧ (∀ i, i < zs.length → w.cell? (x.add i) = some (.int .u8 (zs.getD i 0))) ∧ ∀ n ∈ zs, (Lit.int .u8 n).wf = true) :
    ∃ μ o p, Sim w.heap.size w μ [o] w ∧ rep μ p (.slice a len cap) ∧ Arg [o] p (zs.take len) := by
  obtain ⟨μ, o, p, sim, hr, hs, hlen, hmax, hwf, hobj⟩ := row_arg h
  have hb : ∀ b ∈ zs.take len, 0 ≤ b ∧ b ≤ 255 := by
    intro b hb
    have := hwf b hb
    simp only [Lit.wf, IntKind.has, IntKind.min, IntKind.max, IntKind.signed, IntKind.bits] at this
    simp at this
    omega
  by_cases h0 : len = 0
  · refine ⟨μ, o, p, sim, hr, ?_, Nat.le_refl _, ?_, hb⟩
    · intro h' _
      rcases hs with hs | ⟨id, off, hp, hc⟩
      · exact .inl hs
      · exact .inr ⟨id, off, hp, fun i x hx => by simp [h0] at hx⟩
    · intro id off l hp hl
      subst hp
      obtain ⟨_, _, _, _, e, _⟩ := rep_sl hr
      cases e
      omega
  · rcases hs with ⟨_, hs⟩ | ⟨id, off, hp, hc⟩
    · rw [hs] at hlen; simp at hlen; omega
    · have hlt : 0 < (zs.take len).length := by omega
      have hid : id = 0 := by
        have := lt_of_cell (hc 0 _ (List.getElem?_eq_getElem hlt))
        simp at this
        exact this
      subst hid
      refine ⟨μ, o, p, sim, hr, ?_, Nat.le_refl _, ?_, hb⟩
      · intro h' hk
        exact .inr ⟨0, off, hp, fun i x hx => by rw [cellsAt_keep hk (by omega)]; exact hc i x hx⟩
      · intro id' off' l hp' hl
        rw [hp] at hp'
        cases hp'
        refine ⟨rfl, ?_⟩
        rcases hobj with rfl | ⟨c, rfl⟩
        · have := hc 0 _ (List.getElem?_eq_getElem hlt)
          simp [cellsAt, PObj.get] at this
        · rfl

theorem fa0 (id off : Nat) : fieldAddrP Tryd.prog 62 (.ptr id off) 0 = some (.ptr id (off + 0)) := by kernel_rfl
theorem fa1 (id off : Nat) : fieldAddrP Tryd.prog 62 (.ptr id off) 1 = some (.ptr id (off + 1)) := by kernel_rfl
theorem tyB : Tryd.prog.underlying 22 = some (.slice 5) := by kernel_rfl
theorem tyBSize : sizeT Tryd.prog 5 = some 1 := by kernel_rfl
theorem tyBAgg : isAggT Tryd.prog 5 = some false := by kernel_rfl
theorem tyBsAgg : isAggT Tryd.prog 22 = some false := by kernel_rfl
theorem tyBElem : elemT Tryd.prog 22 = some 5 := by kernel_rfl
theorem conv_byte (k : IntKind) (x : Int) : convP Tryd.prog 5 3 (.int k x) = some (.int .i64 (IntKind.i64.wrap x)) := by kernel_rfl
theorem build_sl (a b c : Nat) : buildP Tryd.prog 62 [(0, .sl a b c)] = some (.agg [.sl a b c, .int .i64 0]) := by kernel_rfl
theorem build_nil : buildP Tryd.prog 62 [(0, .nilsl)] = some (.agg [.nilsl, .int .i64 0]) := by kernel_rfl

/-- The reader: object id, over a code of at most 2000 bytes, at most m picks behind. -/
def Rd (h : PHeap) (id m : Nat) : Prop :=
  ∃ bp bs pos, h[id]? = some (.own 1 [bp, .int .i64 pos]) ∧ (∀ h', Keep id h h' → IntSl .u8 h' bp bs) ∧ (∀ b ∈ bs, (0 : Int) ≤ b ∧ b ≤ 255) ∧ bs.length ≤ 2000 ∧ 0 ≤ pos ∧ pos ≤ (m : Int)

theorem Rd.keep {h h' : PHeap} {id m n : Nat} (r : Rd h id m) (hk : Keep n h h') (hn : id < n) : Rd h' id m := by
  obtain ⟨bp, bs, pos, h1, h2, rest⟩ := r
  exact ⟨bp, bs, pos, by rw [hk.2 id hn]; exact h1, fun h3 hk3 => h2 h3 ((hk.mono (by omega)).trans hk3), rest⟩

theorem Rd.lt {h : PHeap} {id m : Nat} (r : Rd h id m) : id < h.length := by
  obtain ⟨bp, bs, pos, h1, _⟩ := r
  exact (List.getElem?_eq_some_iff.1 h1).1

theorem xor_small {a b : Int} (ha : 0 ≤ a) (ha' : a < 4611686018427387904) (hb : 0 ≤ b) (hb' : b < 4611686018427387904) :
    0 ≤ IntKind.i64.wrap ((BitVec.ofInt IntKind.i64.bits a ^^^ BitVec.ofInt IntKind.i64.bits b).toNat : Int) := by
  obtain ⟨x, rfl⟩ := Int.eq_ofNat_of_zero_le ha
  obtain ⟨y, rfl⟩ := Int.eq_ofNat_of_zero_le hb
  have hx : x < 2 ^ 62 := by omega
  have hy : y < 2 ^ 62 := by omega
  have hz : x ^^^ y < 2 ^ 62 := Nat.xor_lt_two_pow hx hy
  have e : (BitVec.ofInt IntKind.i64.bits (x : Int) ^^^ BitVec.ofInt IntKind.i64.bits (y : Int)).toNat = x ^^^ y := by
    have hbits : IntKind.i64.bits = 64 := rfl
    rw [BitVec.toNat_xor, BitVec.toNat_ofInt, BitVec.toNat_ofInt, hbits]
    congr 1 <;> omega
  rw [e, wr (by omega)]
  omega

variable (g : Nat → PV) (lf n : Nat)

theorem open_calls {p : PV} {xs : List Int} {h : PHeap} (N : Nat) (hN : 1 ≤ N) (ha : Arg h p xs) :
    ∃ h', CL g lf N fn_spec_l20Open [p] h = some (.ptr h.length 0, h') ∧ Rd h' h.length 0 ∧ Keep h.length h h' := by
  obtain ⟨n, rfl⟩ : ∃ n, N = n + 1 := ⟨N - 1, by omega⟩
  rw [spec_l20Open.call_eq]
  obtain ⟨hs, hlen, hesz, hb⟩ := ha
  have hs0 := hs h (Keep.refl _ _)
  have hlenp : lenP Tryd.prog 22 p = some (.int .i64 xs.length) := hs0.len tyB
  by_cases hbig : (2000 : Int) < (xs.length : Int)
  · rcases hs0 with ⟨_, rfl⟩ | ⟨id, off, rfl, hc⟩
    · simp at hbig
    · obtain ⟨rfl, he⟩ := hesz id off xs.length rfl (by omega)
      have hsl : sliceP Tryd.prog 22 (.sl 0 off xs.length) none (some (.int .i64 2000)) h = some (.sl 0 off 2000) := by
        have : (2000 : Int) ≤ (xs.length : Int) := by omega
        simp [sliceP, tyBElem, tyBSize, he, boundP, this]
      refine ⟨h ++ [.own 1 [.sl 0 off 2000, .int .i64 0]], ?_, ?_, Keep.append _ _ _ (Nat.le_refl _)⟩
      · simp [spec_l20Open.main, hlenp, hbig, hsl, build_sl, boxP, PV.cells, PV.oneCell]
      · refine ⟨.sl 0 off 2000, xs.take 2000, 0, by simp, fun h' hk => ?_, fun b hb' => hb b (List.mem_of_mem_take hb'), by simp; omega, by omega, by omega⟩
        have hk' : Keep 1 h h' := ((Keep.append h.length h _ (Nat.le_refl _)).mono hlen).trans (hk.mono hlen)
        rcases hs h' hk' with ⟨hx, _⟩ | ⟨id', off', hx, hc'⟩
        · cases hx
        · cases hx
          refine .inr ⟨0, off, by simp; omega, fun i x hi => ?_⟩
          rw [List.getElem?_take] at hi
          split at hi
          · exact hc' i x hi
          · cases hi
  · refine ⟨h ++ [.own 1 [p, .int .i64 0]], ?_, ?_, Keep.append _ _ _ (Nat.le_refl _)⟩
    · rcases hs0 with ⟨rfl, rfl⟩ | ⟨id, off, rfl, hc⟩
      · simp [spec_l20Open.main, hlenp, build_nil, boxP, PV.cells, PV.oneCell]
      · simp [spec_l20Open.main, hlenp, hbig, build_sl, boxP, PV.cells, PV.oneCell]
    · exact ⟨p, xs, 0, by simp, fun h' hk => hs h' (((Keep.append h.length h _ (Nat.le_refl _)).mono hlen).trans (hk.mono hlen)), hb, by omega, by omega, by omega⟩

end Go.Proofs.YtbmmcldbllhhhabDoor

/- What a pick and a chance come to. -/
set_option maxRecDepth 20000
namespace Go.Proofs.YtbmmcldbllhhhabDoor
open Go Go.Ip Go.RowKit G

variable (g : Nat → PV) (lf n : Nat)

theorem tmod_range {x k : Int} (hx : 0 ≤ x) (hk : 1 ≤ k) : 0 ≤ x.tmod k ∧ x.tmod k < k := by
  rw [Int.tmod_eq_emod_of_nonneg hx]
  exact ⟨Int.emod_nonneg _ (by omega), Int.emod_lt_of_pos _ (by omega)⟩

theorem tdiv_range {x k : Int} (hx : 0 ≤ x) (hk : 1 ≤ k) : 0 ≤ x.tdiv k ∧ x.tdiv k ≤ x := by
  rw [Int.tdiv_eq_ediv_of_nonneg hx]
  exact ⟨Int.ediv_nonneg hx (by omega), Int.ediv_le_self _ hx⟩

theorem bd {α β : Type} {x : Option α} {v : α} {f : α → Option β} {r : Option β} (hx : x = some v) (hf : f v = r) : x.bind f = r := by rw [hx]; exact hf
theorem cdT {x y r : Res} (h : x = r) : condP (.bool true) x y = r := h
theorem cdF {x y r : Res} (h : y = r) : condP (.bool false) x y = r := h
/-- A pick of n: some number from 0 on, below n; the reader has gone on by one. -/
theorem pick_calls {h : PHeap} {id m : Nat} (N : Nat) (hN : 1 ≤ N) (k : Int) (hr : Rd h id m) (hm : m ≤ 1000000) (hk : k ≤ 1000000) :
    ∃ (v : Int) (h' : PHeap), CL g lf N fn_spec_l20Rd_pick [.ptr id 0, .int .i64 k] h = some (.int .i64 v, h') ∧ Rd h' id (m + 1) ∧ Only id (id + 1) h h' ∧ 0 ≤ v ∧ (1 ≤ k → v < k) ∧ (k < 1 → v = 0) := by
  obtain ⟨n, rfl⟩ : ∃ n, N = n + 1 := ⟨N - 1, by omega⟩
  rw [spec_l20Rd_pick.call_eq]
  obtain ⟨bp, bs, pos, ho, hs, hb, hl, hp0, hpm⟩ := hr
  have hid : id < h.length := (List.getElem?_eq_some_iff.1 ho).1
  have w1 : IntKind.i64.wrap (pos + 1) = pos + 1 := wr (by omega)
  have hld : loadP Tryd.prog 3 (.ptr id (0 + 1)) h = some (.int .i64 pos) := by simp [loadP, tyAgg, cellsAt, ho, PObj.get]
  obtain ⟨h7, hh7⟩ : ∃ h7, h7 = h.set id (.own 1 [bp, .int .i64 (pos + 1)]) := ⟨_, rfl⟩
  have hst : storeP Tryd.prog 3 (.ptr id (0 + 1)) (.int .i64 (pos + 1)) h = some h7 := by
    rw [hh7]
    simp [storeP, ho, PV.cells, tySize, setCells]
  have ho7 : h7[id]? = some (.own 1 [bp, .int .i64 (pos + 1)]) := by rw [hh7, List.getElem?_set_self hid]
  have hk7 : Keep id h h7 := by rw [hh7]; exact Keep.set _ _ _ _ (Nat.le_refl _)
  have hon : Only id (id + 1) h h7 := by rw [hh7]; exact ⟨by simp, fun j hj => List.getElem?_set_ne (by omega)⟩
  have hrd : Rd h7 id (m + 1) := ⟨bp, bs, pos + 1, ho7, fun h' hk' => hs h' (hk7.trans hk'), hb, hl, by omega, by push_cast; omega⟩
  have hl1 : loadP Tryd.prog 3 (.ptr id (0 + 1)) h7 = some (.int .i64 (pos + 1)) := by simp [loadP, tyAgg, cellsAt, ho7, PObj.get]
  have hl0 : loadP Tryd.prog 22 (.ptr id (0 + 0)) h7 = some bp := by simp [loadP, tyBsAgg, cellsAt, ho7, PObj.get]
  have hs7 := hs h7 hk7
  have hlen : lenP Tryd.prog 22 bp = some (.int .i64 bs.length) := hs7.len tyB
  have w2 : IntKind.i64.wrap (pos + 1 - 1) = pos := by rw [show pos + 1 - 1 = pos by omega]; exact wr (by omega)
  by_cases hk1 : k < 1
  · refine ⟨0, h7, ?_, hrd, hon, by omega, by omega, fun _ => rfl⟩
    have f_add : binP Tryd.prog .add 3 (.int .i64 pos) (.int .i64 1) = some (.int .i64 (pos + 1)) := by rw [bin_add, w1]
    have f_lss : binP Tryd.prog .lss 3 (.int .i64 k) (.int .i64 1) = some (.bool true) := by rw [bin_lss, decide_eq_true hk1]
    unfold spec_l20Rd_pick.main
    refine bd ptr_ptr (bd (fa1 _ _) (bd hld (bd f_add (bd ptr_ptr (bd (fa1 _ _) (bd hst (bd f_lss ?_)))))))
    refine bd (want_bool (x := true) (y := false)) (bd (v := (PV.tup [], h7)) rfl ?_)
    refine bd (want_bool (x := true) (y := false)) (bd (v := (PV.tup [], h7)) rfl ?_)
    refine bd (want_bool (x := true) (y := false)) (bd (v := (PV.tup [], h7)) rfl ?_)
    refine bd (want_bool (x := true) (y := false)) (bd (v := (PV.tup [], h7)) rfl ?_)
    refine bd (want_bool (x := true) (y := false)) (bd (v := (PV.tup [], h7)) rfl ?_)
    refine bd (want_bool (x := true) (y := false)) (bd (v := (PV.tup [], h7)) rfl ?_)
    refine bd (v := PV.bool true) rfl (cdT ?_)
    exact bd res_int rfl
  · have hk1' : 1 ≤ k := by omega
    by_cases hb0 : bs.length = 0
    · refine ⟨0, h7, ?_, hrd, hon, by omega, by omega, by omega⟩
      have f_add : binP Tryd.prog .add 3 (.int .i64 pos) (.int .i64 1) = some (.int .i64 (pos + 1)) := by rw [bin_add, w1]
      have f_lss : binP Tryd.prog .lss 3 (.int .i64 k) (.int .i64 1) = some (.bool false) := by rw [bin_lss, decide_eq_false hk1]
      have f_eql : binP Tryd.prog .eql 3 (.int .i64 (bs.length : Int)) (.int .i64 0) = some (.bool true) := by rw [bin_eql, hb0]; rfl
      unfold spec_l20Rd_pick.main
      refine bd ptr_ptr (bd (fa1 _ _) (bd hld (bd f_add (bd ptr_ptr (bd (fa1 _ _) (bd hst (bd f_lss ?_)))))))
      refine bd (want_bool (x := false) (y := false)) (bd (v := (PV.ptr id 0, h7)) rfl ?_)
      refine bd (want_bool (x := false) (y := false)) (bd (v := (PV.ptr id 0, h7)) rfl ?_)
      refine bd (want_bool (x := false) (y := false)) (bd (v := (PV.ptr id (0 + 0), h7)) (congrArg (pv h7) (fa0 id 0)) ?_)
      refine bd (want_bool (x := false) (y := false)) (bd (v := (bp, h7)) (congrArg (pv h7) hl0) ?_)
      refine bd (want_bool (x := false) (y := false)) (bd (v := (PV.int .i64 (bs.length : Int), h7)) (congrArg (pv h7) hlen) ?_)
      refine bd (want_bool (x := false) (y := false)) (bd (v := (PV.bool true, h7)) (congrArg (pv h7) f_eql) ?_)
      refine bd (v := PV.bool true) rfl (cdT ?_)
      exact bd res_int rfl
    · have hb1 : 1 ≤ (bs.length : Int) := by omega
      have hne : ((bs.length : Int) == 0) = false := beq_eq_false_iff_ne.2 (by omega)
      obtain ⟨P, hP⟩ := Int.eq_ofNat_of_zero_le hp0
      subst hP
      have byte : ∀ (j : Nat) (hj : j < bs.length), ∃ a, indexAddrP Tryd.prog 22 bp (.int .i64 j) = some a ∧ loadP Tryd.prog 5 a h7 = some (.int .u8 bs[j]) ∧ 0 ≤ bs[j] ∧ bs[j] ≤ 255 ∧ IntKind.i64.wrap bs[j] = bs[j] := by
        intro j hj
        obtain ⟨a, h1, h2⟩ := hs7.at tyB tyBSize tyBAgg hj
        have := hb _ (List.getElem_mem hj)
        exact ⟨a, h1, h2, this.1, this.2, wr (by omega)⟩
      by_cases hlt : (P : Int) < (bs.length : Int)
      · obtain ⟨a, ha, hla, hb2, hb3, hw⟩ := byte P (by omega)
        have hr := tmod_range hb2 hk1'
        refine ⟨bs[P].tmod k, h7, ?_, hrd, hon, hr.1, fun _ => hr.2, by omega⟩
        have hrem := bin_rem (P := Tryd.prog) (t := 3) (k := .i64) (a := bs[P]) (show k ≠ 0 by omega)
        have f_add : binP Tryd.prog .add 3 (.int .i64 (P : Int)) (.int .i64 1) = some (.int .i64 ((P : Int) + 1)) := by rw [bin_add, w1]
        have f_lss : binP Tryd.prog .lss 3 (.int .i64 k) (.int .i64 1) = some (.bool false) := by rw [bin_lss, decide_eq_false hk1]
        have f_eql : binP Tryd.prog .eql 3 (.int .i64 (bs.length : Int)) (.int .i64 0) = some (.bool false) := by rw [bin_eql, hne]
        have f_sub : binP Tryd.prog .sub 3 (.int .i64 ((P : Int) + 1)) (.int .i64 1) = some (.int .i64 (P : Int)) := by rw [bin_sub, w2]
        have f_lt : binP Tryd.prog .lss 3 (.int .i64 (P : Int)) (.int .i64 (bs.length : Int)) = some (.bool true) := by rw [bin_lss, decide_eq_true hlt]
        have f_conv : convP Tryd.prog 5 3 (.int .u8 bs[P]) = some (.int .i64 bs[P]) := by rw [conv_byte, hw]
        unfold spec_l20Rd_pick.main
        refine bd ptr_ptr (bd (fa1 _ _) (bd hld (bd f_add (bd ptr_ptr (bd (fa1 _ _) (bd hst (bd f_lss ?_)))))))
        refine bd (want_bool (x := false) (y := false)) (bd (v := (PV.ptr id 0, h7)) rfl ?_)
        refine bd (want_bool (x := false) (y := false)) (bd (v := (PV.ptr id 0, h7)) rfl ?_)
        refine bd (want_bool (x := false) (y := false)) (bd (v := (PV.ptr id (0 + 0), h7)) (congrArg (pv h7) (fa0 id 0)) ?_)
        refine bd (want_bool (x := false) (y := false)) (bd (v := (bp, h7)) (congrArg (pv h7) hl0) ?_)
        refine bd (want_bool (x := false) (y := false)) (bd (v := (PV.int .i64 (bs.length : Int), h7)) (congrArg (pv h7) hlen) ?_)
        refine bd (want_bool (x := false) (y := false)) (bd (v := (PV.bool false, h7)) (congrArg (pv h7) f_eql) ?_)
        refine bd (v := PV.bool false) rfl (cdF ?_)
        refine bd ptr_ptr (bd (fa1 _ _) (bd hl1 (bd f_sub (bd ptr_ptr (bd (fa0 _ _) (bd hl0 (bd hlen (bd f_lt (cdT ?_)))))))))
        refine bd ptr_ptr (bd (fa0 _ _) (bd hl0 (bd ha (bd hla (bd f_conv (bd hrem (bd res_int rfl)))))))
      · -- past its end
        have hr1 := tmod_range (x := (P : Int)) (k := (bs.length : Int)) (by omega) hb1
        obtain ⟨i1, hi1⟩ : ∃ i : Nat, (P : Int).tmod (bs.length : Int) = i := ⟨((P : Int).tmod bs.length).toNat, by omega⟩
        have hr2 := tmod_range (x := (P : Int) * 7 + 3) (k := (bs.length : Int)) (by omega) hb1
        obtain ⟨i2, hi2⟩ : ∃ i : Nat, ((P : Int) * 7 + 3).tmod (bs.length : Int) = i := ⟨(((P : Int) * 7 + 3).tmod bs.length).toNat, by omega⟩
        obtain ⟨a1, ha1, hla1, c1, c2, hw1⟩ := byte i1 (by omega)
        obtain ⟨a2, ha2, hla2, d1, d2, hw2⟩ := byte i2 (by omega)
        obtain ⟨b1, hb1'⟩ : ∃ b, b = bs[i1]'(by omega) := ⟨_, rfl⟩
        obtain ⟨b2, hb2'⟩ : ∃ b, b = bs[i2]'(by omega) := ⟨_, rfl⟩
        rw [← hb1'] at hla1 c1 c2 hw1
        rw [← hb2'] at hla2 d1 d2 hw2
        have hq := tdiv_range (x := (P : Int)) (k := (bs.length : Int)) (by omega) hb1
        have hquo := bin_quo (P := Tryd.prog) (t := 3) (k := .i64) (a := (P : Int)) (show (bs.length : Int) ≠ 0 by omega)
        have hrem1 := bin_rem (P := Tryd.prog) (t := 3) (k := .i64) (a := (P : Int)) (show (bs.length : Int) ≠ 0 by omega)
        have hrem2 := bin_rem (P := Tryd.prog) (t := 3) (k := .i64) (a := (P : Int) * 7 + 3) (show (bs.length : Int) ≠ 0 by omega)
        obtain ⟨q, hq'⟩ : ∃ q, q = (P : Int).tdiv (bs.length : Int) := ⟨_, rfl⟩
        rw [← hq'] at hq hquo
        have u1 : IntKind.i64.wrap (b1 * 131) = b1 * 131 := wr (by omega)
        have u2 : IntKind.i64.wrap ((P : Int) * 7) = (P : Int) * 7 := wr (by omega)
        have u3 : IntKind.i64.wrap ((P : Int) * 7 + 3) = (P : Int) * 7 + 3 := wr (by omega)
        have u4 : IntKind.i64.wrap (b2 * 1117) = b2 * 1117 := wr (by omega)
        have u5 : IntKind.i64.wrap (b1 * 131 + b2 * 1117) = b1 * 131 + b2 * 1117 := wr (by omega)
        have u6 : IntKind.i64.wrap ((P : Int) * 29) = (P : Int) * 29 := wr (by omega)
        have u7 : IntKind.i64.wrap (b1 * 131 + b2 * 1117 + (P : Int) * 29) = b1 * 131 + b2 * 1117 + (P : Int) * 29 := wr (by omega)
        have u8 : IntKind.i64.wrap q = q := wr (by omega)
        have u9 : IntKind.i64.wrap (q * 53) = q * 53 := wr (by omega)
        obtain ⟨X, hX⟩ : ∃ X, X = b1 * 131 + b2 * 1117 + (P : Int) * 29 + q * 53 := ⟨_, rfl⟩
        have u10 : IntKind.i64.wrap X = X := wr (by omega)
        have hX0 : 0 ≤ X := by omega
        have hX1 : X < 4611686018427387904 := by omega
        have hXq := tdiv_range (x := X) (k := 64) hX0 (by omega)
        have hquoX := bin_quo (P := Tryd.prog) (t := 3) (k := .i64) (a := X) (show (64 : Int) ≠ 0 by omega)
        obtain ⟨Y, hY⟩ : ∃ Y, Y = X.tdiv 64 := ⟨_, rfl⟩
        rw [← hY] at hXq hquoX
        have u11 : IntKind.i64.wrap Y = Y := wr (by omega)
        obtain ⟨Z, hZ⟩ : ∃ Z, Z = IntKind.i64.wrap ((BitVec.ofInt IntKind.i64.bits X ^^^ BitVec.ofInt IntKind.i64.bits Y).toNat : Int) := ⟨_, rfl⟩
        have hZ0 : 0 ≤ Z := by rw [hZ]; exact xor_small hX0 hX1 hXq.1 (by omega)
        have hxor : binP Tryd.prog .xor 3 (.int .i64 X) (.int .i64 Y) = some (.int .i64 Z) := by rw [hZ]; simp [binP, binI]
        have hremZ := bin_rem (P := Tryd.prog) (t := 3) (k := .i64) (a := Z) (show k ≠ 0 by omega)
        have hrZ := tmod_range hZ0 hk1'
        refine ⟨Z.tmod k, h7, ?_, hrd, hon, hrZ.1, fun _ => hrZ.2, by omega⟩
        have f_add : binP Tryd.prog .add 3 (.int .i64 (P : Int)) (.int .i64 1) = some (.int .i64 ((P : Int) + 1)) := by rw [bin_add, w1]
        have f_lss : binP Tryd.prog .lss 3 (.int .i64 k) (.int .i64 1) = some (.bool false) := by rw [bin_lss, decide_eq_false hk1]
        have f_eql : binP Tryd.prog .eql 3 (.int .i64 (bs.length : Int)) (.int .i64 0) = some (.bool false) := by rw [bin_eql, hne]
        have f_sub : binP Tryd.prog .sub 3 (.int .i64 ((P : Int) + 1)) (.int .i64 1) = some (.int .i64 (P : Int)) := by rw [bin_sub, w2]
        have f_lt : binP Tryd.prog .lss 3 (.int .i64 (P : Int)) (.int .i64 (bs.length : Int)) = some (.bool false) := by rw [bin_lss, decide_eq_false hlt]
        have f_conv1 : convP Tryd.prog 5 3 (.int .u8 b1) = some (.int .i64 b1) := by rw [conv_byte, hw1]
        have f_conv2 : convP Tryd.prog 5 3 (.int .u8 b2) = some (.int .i64 b2) := by rw [conv_byte, hw2]
        have f_rem1 : binP Tryd.prog .rem 3 (.int .i64 (P : Int)) (.int .i64 (bs.length : Int)) = some (.int .i64 (i1 : Int)) := by rw [hrem1, hi1]
        have f_rem2 : binP Tryd.prog .rem 3 (.int .i64 ((P : Int) * 7 + 3)) (.int .i64 (bs.length : Int)) = some (.int .i64 (i2 : Int)) := by rw [hrem2, hi2]
        have f1 : binP Tryd.prog .mul 3 (.int .i64 b1) (.int .i64 131) = some (.int .i64 (b1 * 131)) := by rw [bin_mul, u1]
        have f2 : binP Tryd.prog .mul 3 (.int .i64 (P : Int)) (.int .i64 7) = some (.int .i64 ((P : Int) * 7)) := by rw [bin_mul, u2]
        have f3 : binP Tryd.prog .add 3 (.int .i64 ((P : Int) * 7)) (.int .i64 3) = some (.int .i64 ((P : Int) * 7 + 3)) := by rw [bin_add, u3]
        have f4 : binP Tryd.prog .mul 3 (.int .i64 b2) (.int .i64 1117) = some (.int .i64 (b2 * 1117)) := by rw [bin_mul, u4]
        have f5 : binP Tryd.prog .add 3 (.int .i64 (b1 * 131)) (.int .i64 (b2 * 1117)) = some (.int .i64 (b1 * 131 + b2 * 1117)) := by rw [bin_add, u5]
        have f6 : binP Tryd.prog .mul 3 (.int .i64 (P : Int)) (.int .i64 29) = some (.int .i64 ((P : Int) * 29)) := by rw [bin_mul, u6]
        have f7 : binP Tryd.prog .add 3 (.int .i64 (b1 * 131 + b2 * 1117)) (.int .i64 ((P : Int) * 29)) = some (.int .i64 (b1 * 131 + b2 * 1117 + (P : Int) * 29)) := by rw [bin_add, u7]
        have f8 : binP Tryd.prog .quo 3 (.int .i64 (P : Int)) (.int .i64 (bs.length : Int)) = some (.int .i64 q) := by rw [hquo, u8]
        have f9 : binP Tryd.prog .mul 3 (.int .i64 q) (.int .i64 53) = some (.int .i64 (q * 53)) := by rw [bin_mul, u9]
        have f10 : binP Tryd.prog .add 3 (.int .i64 (b1 * 131 + b2 * 1117 + (P : Int) * 29)) (.int .i64 (q * 53)) = some (.int .i64 X) := by rw [bin_add, ← hX, u10]
        have f11 : binP Tryd.prog .quo 3 (.int .i64 X) (.int .i64 64) = some (.int .i64 Y) := by rw [hquoX, u11]
        clear hX hY hZ u1 u2 u3 u4 u5 u6 u7 u8 u9 u10 u11 hq' hquo hquoX hrem1 hrem2
        unfold spec_l20Rd_pick.main
        refine bd ptr_ptr (bd (fa1 _ _) (bd hld (bd f_add (bd ptr_ptr (bd (fa1 _ _) (bd hst (bd f_lss ?_)))))))
        refine bd (want_bool (x := false) (y := false)) (bd (v := (PV.ptr id 0, h7)) rfl ?_)
        refine bd (want_bool (x := false) (y := false)) (bd (v := (PV.ptr id 0, h7)) rfl ?_)
        refine bd (want_bool (x := false) (y := false)) (bd (v := (PV.ptr id (0 + 0), h7)) (congrArg (pv h7) (fa0 id 0)) ?_)
        refine bd (want_bool (x := false) (y := false)) (bd (v := (bp, h7)) (congrArg (pv h7) hl0) ?_)
        refine bd (want_bool (x := false) (y := false)) (bd (v := (PV.int .i64 (bs.length : Int), h7)) (congrArg (pv h7) hlen) ?_)
        refine bd (want_bool (x := false) (y := false)) (bd (v := (PV.bool false, h7)) (congrArg (pv h7) f_eql) ?_)
        refine bd (v := PV.bool false) rfl (cdF ?_)
        refine bd ptr_ptr (bd (fa1 _ _) (bd hl1 (bd f_sub (bd ptr_ptr (bd (fa0 _ _) (bd hl0 (bd hlen (bd f_lt (cdF ?_)))))))))
        refine bd ptr_ptr (bd (fa0 _ _) (bd hl0 (bd ptr_ptr (bd (fa0 _ _) (bd hl0 (bd hlen (bd f_rem1 (bd ha1 (bd hla1 (bd f_conv1 (bd f1 ?_)))))))))))
        refine bd ptr_ptr (bd (fa0 _ _) (bd hl0 (bd f2 (bd f3 (bd ptr_ptr (bd (fa0 _ _) (bd hl0 (bd hlen (bd f_rem2 (bd ha2 (bd hla2 (bd f_conv2 (bd f4 ?_)))))))))))))
        refine bd f5 (bd f6 (bd f7 (bd ptr_ptr (bd (fa0 _ _) (bd hl0 (bd hlen (bd f8 (bd f9 (bd f10 (bd f11 (bd hxor (bd hremZ (bd res_int rfl)))))))))))))

theorem odd_calls {h : PHeap} {id m : Nat} (N : Nat) (hN : 2 ≤ N) (k : Int) (hr : Rd h id m) (hm : m ≤ 1000000) (hk : k ≤ 1000000) (hk0 : 1 ≤ k) :
    ∃ (b : Bool) (h' : PHeap), CL g lf N fn_spec_l20Rd_odd [.ptr id 0, .int .i64 k] h = some (.bool b, h') ∧ Rd h' id (m + 1) ∧ Only id (id + 1) h h' := by
  obtain ⟨n, rfl⟩ : ∃ n, N = n + 1 := ⟨N - 1, by omega⟩
  rw [spec_l20Rd_odd.call_eq]
  obtain ⟨v, h', e, hr', ho, _⟩ := pick_calls g lf n (by omega) k hr hm hk
  have hpos : (0 : Int) < k := by omega
  have w1 : IntKind.i64.wrap (k - 1) = k - 1 := wr (by omega)
  refine ⟨v == k - 1, h', ?_, hr', ho⟩
  simp [spec_l20Rd_odd.main, hpos, e, w1]

end Go.Proofs.YtbmmcldbllhhhabDoor

/- The board that the model draws: small numbers, whatever they are. -/
set_option maxRecDepth 20000
namespace Go.Proofs.YtbmmcldbllhhhabDoor
open Go Go.Ip Go.RowKit G

/-- Below n nothing has turned but the object id. -/
def KeepX (id n : Nat) (h h' : PHeap) : Prop := h.length ≤ h'.length ∧ ∀ i, i < n → i ≠ id → h'[i]? = h[i]?

theorem KeepX.refl (id n : Nat) (h : PHeap) : KeepX id n h h := ⟨Nat.le_refl _, fun _ _ _ => rfl⟩
theorem KeepX.trans {id n : Nat} {a b c : PHeap} (h : KeepX id n a b) (k : KeepX id n b c) : KeepX id n a c := ⟨Nat.le_trans h.1 k.1, fun i hi hn => (k.2 i hi hn).trans (h.2 i hi hn)⟩
theorem KeepX.mono {id n m : Nat} {a b : PHeap} (h : KeepX id n a b) (hm : m ≤ n) : KeepX id m a b := ⟨h.1, fun i hi hn => h.2 i (by omega) hn⟩
theorem Keep.x {id n : Nat} {a b : PHeap} (h : Keep n a b) : KeepX id n a b := ⟨h.1, fun i hi _ => h.2 i hi⟩
theorem Only.x {id n : Nat} {a b : PHeap} (h : Only id (id + 1) a b) : KeepX id n a b := ⟨by rw [h.1]; exact Nat.le_refl _, fun i _ hn => h.2 i (by omega)⟩
theorem KeepX.keep {id n : Nat} {a b : PHeap} (h : KeepX id n a b) (hn : id ≤ n) : Keep id a b := ⟨h.1, fun i hi => h.2 i (by omega) (by omega)⟩

theorem OwnSl.keepX {id n m : Nat} {h h' : PHeap} {p : PV} {xs : List Int} (s : OwnSl n h p xs) (hk : KeepX id m h h') (hn : id < n) (hm : h.length ≤ m) : OwnSl n h' p xs := by
  rcases s with s | ⟨i, h1, h2, h3⟩
  · exact .inl s
  · have := (List.getElem?_eq_some_iff.1 h3).1
    exact .inr ⟨i, h1, h2, by rw [hk.2 i (by omega) (by omega)]; exact h3⟩

theorem Rd.mono {h : PHeap} {id m m' : Nat} (r : Rd h id m) (hm : m ≤ m') : Rd h id m' := by
  obtain ⟨bp, bs, pos, h1, h2, h3, h4, h5, h6⟩ := r
  exact ⟨bp, bs, pos, h1, h2, h3, h4, h5, by omega⟩

variable (g : Nat → PV) (lf n : Nat)

end Go.Proofs.YtbmmcldbllhhhabDoor

/- Promise 1: boards are turned. -/
set_option maxRecDepth 20000
namespace Go.Proofs.YtbmmcldbllhhhabDoor
open Go Go.Ip Go.RowKit G

variable (g : Nat → PV) (lf n : Nat)

theorem boardOk_N (N : Nat) (hN : 2 ≤ N) (h : PHeap) (r c : Int) : CL g lf N fn_impl_BoardOk [.int .i64 r, .int .i64 c] h = some (.bool (boardB r c), h) := by
  obtain ⟨n, rfl⟩ : ∃ n, N = n + 2 := ⟨N - 2, by omega⟩
  exact boardOk_calls g lf n h r c
end Go.Proofs.YtbmmcldbllhhhabDoor

/- The position that the model draws: at most ten numbers, whatever they are. -/
set_option maxRecDepth 20000
namespace Go.Proofs.YtbmmcldbllhhhabDoor
open Go Go.Ip Go.RowKit G

variable (g : Nat → PV) (lf n : Nat)

end Go.Proofs.YtbmmcldbllhhhabDoor

/- Promise 3: free boards are positions. -/
set_option maxRecDepth 20000
namespace Go.Proofs.YtbmmcldbllhhhabDoor
open Go Go.Ip Go.RowKit G

variable (g : Nat → PV) (lf n : Nat)

theorem alive_calls (N : Nat) (hN : 3 ≤ N) (h : PHeap) : CL g lf N fn_laws_alive [] h = some (.bool true, h) := by
  obtain ⟨n, rfl⟩ : ∃ n, N = n + 1 := ⟨N - 1, by omega⟩
  rw [laws_alive.call_eq]
  have b22 : boardB 2 2 = true := by decide
  have b02 : boardB 0 2 = false := by decide
  have e1 := boardOk_N g lf n (by omega) h 2 2
  have e2 := boardOk_N g lf n (by omega) h 0 2
  rw [b22] at e1
  rw [b02] at e2
  unfold laws_alive.main
  exact bd e1 (bd (want_bool (x := true) (y := true)) (bd e2 (bd (want_bool (x := true) (y := true)) (bd (v := (PV.bool true, h)) rfl (bd (v := PV.bool true) rfl (bd res_bool rfl))))))

end Go.Proofs.YtbmmcldbllhhhabDoor

/- Promise 5: turned by half a turn twice it is as before. -/
set_option maxRecDepth 20000
namespace Go.Proofs.YtbmmcldbllhhhabDoor
open Go Go.Ip Go.RowKit G

variable (g : Nat → PV) (lf n : Nat)

/-! ### sameInts: are two lists equal? -/
end Go.Proofs.YtbmmcldbllhhhabDoor

/- Promise 4: each cell is of one kind. -/
set_option maxRecDepth 20000
namespace Go.Proofs.YtbmmcldbllhhhabDoor
open Go Go.Ip Go.RowKit G

variable (g : Nat → PV) (lf n : Nat)

/-! ### what is listed -/
/-! ### ascend -/
/-! ### the law's own loops -/
end Go.Proofs.YtbmmcldbllhhhabDoor

/- What both functions that mirror a position compute, and the exact law on them. -/
set_option maxRecDepth 20000
namespace Go.Proofs.YtbmmcldbllhhhabDoor
open Go Go.Ip Go.RowKit G

variable (g : Nat → PV) (lf n : Nat)

/-- Where the mirrored position's cell k comes from: of a board of R rows and C columns. -/
def sig (R C k : Nat) : Nat := k % R * C + k / R
/-- A board's sides, as numbers. -/
def Sides (r c : Int) (R C : Nat) (xs : List Int) : Prop := r = (R : Int) ∧ c = (C : Int) ∧ 1 ≤ R ∧ R ≤ 4 ∧ 1 ≤ C ∧ C ≤ 4 ∧ R * C ≤ 9 ∧ xs.length = R * C ∧ xs.all contentB = true

theorem f_rem (i R : Nat) (hR : 1 ≤ R) : binP Tryd.prog .rem 3 (.int .i64 (i : Int)) (.int .i64 (R : Int)) = some (.int .i64 ((i % R : Nat) : Int)) := by
  rw [bin_rem (show (R : Int) ≠ 0 by omega)]; rfl
theorem f_add (a b : Nat) (h : a + b ≤ 1000) : binP Tryd.prog .add 3 (.int .i64 (a : Int)) (.int .i64 (b : Int)) = some (.int .i64 ((a + b : Nat) : Int)) := by
  rw [bin_add, ← Int.natCast_add, wr (by omega)]

end Go.Proofs.YtbmmcldbllhhhabDoor

/- The neighbours of a cell: the program's loop over its table of steps, the model's two loops, and the exact law. -/
set_option maxRecDepth 20000
namespace Go.Proofs.YtbmmcldbllhhhabDoor
open Go Go.Ip G

/-! ### the table of steps -/
def steps : List (Int × Int) := [(-1, 0), (-1, 1), (0, -1), (0, 1), (1, -1), (1, 0)]
def tab64N : List Nat := [0, 1, 56, 2, 57, 49, 28, 3, 61, 58, 42, 50, 38, 29, 17, 4, 62, 47, 59, 36, 45, 43, 51, 22, 53, 39, 33, 30, 24, 18, 12, 5, 63, 55, 48, 27, 60, 41, 37, 16, 46, 35, 44, 21, 52, 32, 23, 11, 54, 26, 40, 15, 34, 20, 31, 10, 25, 14, 19, 9, 13, 8, 7, 6]
def tab64Cells : List PV := tab64N.map fun n : Nat => .int .u8 (n : Int)
/-- Where the library's table of 64 bytes is known to lie, it reads so. -/
def Tab64 (g : Nat → PV) (h : PHeap) : Prop := ∀ id, g 1 = .ptr id 0 → h[id]? = some (.ro 1 tab64Cells)
theorem Tab64.keep {g : Nat → PV} {h h' : PHeap} (t : Tab64 g h) (k : Keep h.length h h') : Tab64 g h' := fun id e => by have ho := t id e; rw [k.2 id (List.getElem?_eq_some_iff.1 ho).1]; exact ho

/-! ### what is meant -/
def rowAt (C k : Nat) (s : Int × Int) : Int := ((k / C : Nat) : Int) + s.1
def colAt (C k : Nat) (s : Int × Int) : Int := ((k % C : Nat) : Int) + s.2
def inB (R C k : Nat) (s : Int × Int) : Bool := decide (0 ≤ rowAt C k s) && decide (rowAt C k s < R) && decide (0 ≤ colAt C k s) && decide (colAt C k s < C)
def nearFrom (R C k : Nat) (ss : List (Int × Int)) : List Int := (ss.filter (inB R C k)).map fun s => rowAt C k s * C + colAt C k s
def nearN (R C k : Nat) : List Int := nearFrom R C k steps
/-- An operation under a guard. -/
theorem gd {α β : Type} {b t : Bool} {x y : Option α} {f : α → Option β} {r : Option β} (hb : b = t) (hx : x.bind f = r) : ((wantV (.bool b) t).bind fun v => (bif v then x else y).bind f) = r := by
  subst hb; simpa using hx
variable (g : Nat → PV) (lf n : Nat)

/-! ### the program -/
end Go.Proofs.YtbmmcldbllhhhabDoor

/- The model's neighbours, 'is a number in a list', and the exact law on neighbours. -/
set_option maxRecDepth 20000
namespace Go.Proofs.YtbmmcldbllhhhabDoor
open Go Go.Ip G

variable (g : Nat → PV) (lf n : Nat)

theorem l1In_N (N : Nat) (hN : 1 ≤ N) (h : PHeap) (a lo hi : Int) : CL g lf N fn_spec_l1In [.int .i64 a, .int .i64 lo, .int .i64 hi] h = some (.bool (decide (lo ≤ a ∧ a ≤ hi)), h) := by
  obtain ⟨n, rfl⟩ : ∃ n, N = n + 1 := ⟨N - 1, by omega⟩
  exact l1In_calls g lf n h a lo hi

/-! ### hasInt -/
/-! ### the exact law -/
end Go.Proofs.YtbmmcldbllhhhabDoor

/- Promises 2 and 8: neighbours are so both ways; all neighbours are counted by rows and columns. -/
set_option maxRecDepth 20000
namespace Go.Proofs.YtbmmcldbllhhhabDoor
open Go Go.Ip G

/-! ### of all cells of all boards -/
variable (g : Nat → PV) (lf n : Nat)

/-! ### promise 8 -/
end Go.Proofs.YtbmmcldbllhhhabDoor

/- Promise 7 and the exact law on it: how far cells are from each other. -/
set_option maxRecDepth 20000
namespace Go.Proofs.YtbmmcldbllhhhabDoor
open Go Go.Ip G

/-! ### sets of cells as numbers -/
theorem f_shr (a i : Nat) (hi : i ≤ 60) : binP Tryd.prog .shr 3 (.int .i64 (a : Int)) (.int .i64 (i : Int)) = some (.int .i64 ((a >>> i : Nat) : Int)) := by
  have h0 : ¬ ((i : Int) < 0) := by omega
  have hm : min ((i : Int).toNat) (IntKind.i64.bits) = i := by
    have : IntKind.i64.bits = 64 := rfl
    rw [this]; omega
  simp only [binP, shI, if_neg h0, hm]
  congr 2
  rw [Nat.shiftRight_eq_div_pow]
  have : ((2 : Int) ^ i) = ((2 ^ i : Nat) : Int) := by simp
  rw [this, ← Int.ofNat_fdiv]

theorem f_shl (i : Nat) (hi : i ≤ 30) : binP Tryd.prog .shl 3 (.int .i64 1) (.int .i64 (i : Int)) = some (.int .i64 ((1 <<< i : Nat) : Int)) := by
  have h0 : ¬ ((i : Int) < 0) := by omega
  have hm : min ((i : Int).toNat) (IntKind.i64.bits) = i := by
    have : IntKind.i64.bits = 64 := rfl
    rw [this]; omega
  simp only [binP, shI, if_neg h0, hm]
  congr 2
  rw [Nat.one_shiftLeft]
  have : ((2 : Int) ^ i) = ((2 ^ i : Nat) : Int) := by simp
  rw [Int.one_mul, this]
  have hle : 2 ^ i ≤ 2 ^ 30 := Nat.pow_le_pow_right (by decide) hi
  obtain ⟨z, hz⟩ : ∃ z : Nat, z = 2 ^ i := ⟨_, rfl⟩
  rw [← hz] at hle ⊢
  exact wr (by omega)

theorem natEq (y k : Nat) : ((y : Int) == (k : Int)) = decide (y = k) := by rw [Bool.eq_iff_iff, beq_iff_eq, decide_eq_true_iff, Int.ofNat_inj]

theorem f_and {a b : Nat} (ha : a < 2 ^ 62) (hb : b < 2 ^ 62) : binP Tryd.prog .and 3 (.int .i64 (a : Int)) (.int .i64 (b : Int)) = some (.int .i64 ((a &&& b : Nat) : Int)) := by
  have hz : a &&& b < 2 ^ 62 := Nat.and_lt_two_pow a hb
  have e : (BitVec.ofInt IntKind.i64.bits (a : Int) &&& BitVec.ofInt IntKind.i64.bits (b : Int)).toNat = a &&& b := by
    have hbits : IntKind.i64.bits = 64 := rfl
    rw [BitVec.toNat_and, BitVec.toNat_ofInt, BitVec.toNat_ofInt, hbits]
    congr 1 <;> omega
  have : binP Tryd.prog .and 3 (.int .i64 (a : Int)) (.int .i64 (b : Int)) = some (.int .i64 (IntKind.i64.wrap ((BitVec.ofInt IntKind.i64.bits (a : Int) &&& BitVec.ofInt IntKind.i64.bits (b : Int)).toNat : Int))) := by simp only [binP, binI, if_true]
  rw [this, e, wr (by omega)]

theorem f_or {a b : Nat} (ha : a < 2 ^ 62) (hb : b < 2 ^ 62) : binP Tryd.prog .or 3 (.int .i64 (a : Int)) (.int .i64 (b : Int)) = some (.int .i64 ((a ||| b : Nat) : Int)) := by
  have hz : a ||| b < 2 ^ 62 := Nat.or_lt_two_pow ha hb
  have e : (BitVec.ofInt IntKind.i64.bits (a : Int) ||| BitVec.ofInt IntKind.i64.bits (b : Int)).toNat = a ||| b := by
    have hbits : IntKind.i64.bits = 64 := rfl
    rw [BitVec.toNat_or, BitVec.toNat_ofInt, BitVec.toNat_ofInt, hbits]
    congr 1 <;> omega
  have : binP Tryd.prog .or 3 (.int .i64 (a : Int)) (.int .i64 (b : Int)) = some (.int .i64 (IntKind.i64.wrap ((BitVec.ofInt IntKind.i64.bits (a : Int) ||| BitVec.ofInt IntKind.i64.bits (b : Int)).toNat : Int))) := by simp only [binP, binI, if_true]
  rw [this, e, wr (by omega)]

def orAll (w : Nat) : List Int → Nat
  | [] => w
  | e :: l => orAll (w ||| (1 <<< e.toNat)) l
def wideFrom (R C S : Nat) : Nat → Nat → Nat → Nat
  | 0, _, w => w
  | m + 1, i, w => wideFrom R C S m (i + 1) (if (S >>> i) &&& 1 = 0 then w else orAll w (nearN R C i))
def wideN (R C S : Nat) : Nat := wideFrom R C S (R * C) 0 S
/-! ### what the model says -/
variable (g : Nat → PV) (lf n : Nat)

/-! ### the program -/
theorem f_sub (a b : Int) (h : -1000 ≤ a - b ∧ a - b ≤ 1000) : binP Tryd.prog .sub 3 (.int .i64 a) (.int .i64 b) = some (.int .i64 (a - b)) := by rw [bin_sub, wr (by omega)]
end Go.Proofs.YtbmmcldbllhhhabDoor

/- Sets of cells as bits: what grows, what is reached, and at what cost. No program text. -/
set_option maxRecDepth 20000
namespace Go.Proofs.YtbmmcldbllhhhabDoor

theorem bit_iff (x k : Nat) : x >>> k % 2 = 1 ↔ x.testBit k = true := by
  rw [Nat.testBit_eq_decide_div_mod_eq, Nat.shiftRight_eq_div_pow, decide_eq_true_iff]

/-- Cell j is beside cell k: the masks tell the neighbours of each cell. -/
def Adj (M : List Nat) (k j : Nat) : Prop := (M.getD k 0).testBit j = true

inductive Reach (M : List Nat) (set fr : Nat) : Nat → Prop
  | start {j} (h : fr.testBit j = true) (hs : set.testBit j = true) : Reach M set fr j
  | step {k j} (h : Reach M set fr k) (ha : Adj M k j) (hs : set.testBit j = true) : Reach M set fr j

theorem Reach.inSet {M : List Nat} {set fr j : Nat} (h : Reach M set fr j) : set.testBit j = true := by
  cases h <;> assumption

theorem Reach.mono {M : List Nat} {set fr set' fr' : Nat} (hs : ∀ j, set.testBit j = true → set'.testBit j = true) (hf : ∀ j, fr.testBit j = true → fr'.testBit j = true) {j : Nat} (h : Reach M set fr j) : Reach M set' fr' j := by
  induction h with
  | start h h' => exact .start (hf _ h) (hs _ h')
  | step _ ha h' ih => exact .step ih ha (hs _ h')

theorem Reach.trans {M : List Nat} {set fr fr' : Nat} (hf : ∀ j, fr'.testBit j = true → Reach M set fr j) {j : Nat} (h : Reach M set fr' j) : Reach M set fr j := by
  induction h with
  | start h _ => exact hf _ h
  | step _ ha h' ih => exact .step ih ha h'

theorem one_bit (k j : Nat) : (1 <<< k).testBit j = decide (j = k) := by
  rw [Nat.one_shiftLeft, Nat.testBit_two_pow]
  by_cases h : j = k
  · subst h; simp
  · simp [h]; exact fun e => h e.symm

/-- From one cell to another, and back. -/
theorem Reach.back {M : List Nat} (sym : ∀ k j, Adj M k j → Adj M j k) {set a b : Nat} (ha : set.testBit a = true) (h : Reach M set (1 <<< a) b) : Reach M set (1 <<< b) a := by
  induction h with
  | @start j h _ =>
    rw [one_bit] at h
    have : j = a := of_decide_eq_true h
    subst this
    exact .start (by rw [one_bit]; simp) ha
  | @step k j _ hk hj ih =>
    refine ih.trans fun i hi => ?_
    rw [one_bit] at hi
    have : i = k := of_decide_eq_true hi
    subst this
    rename_i hk'
    exact .step (.start (by rw [one_bit]; simp) hj) (sym _ _ hk) hk'.inSet

/-! ### growing -/
def stepFrom (set now : Nat) : Nat → List Nat → Nat → Nat
  | _, [], nx => nx
  | k, m :: ms, nx => stepFrom set now (k + 1) ms (if now >>> k % 2 = 1 then nx ||| (m &&& set) else nx)

theorem stepFrom_le (set now : Nat) : ∀ (ms : List Nat) (k nx : Nat), nx ≤ stepFrom set now k ms nx
  | [], _, _ => Nat.le_refl _
  | m :: ms, k, nx => by
    rw [stepFrom]
    refine Nat.le_trans ?_ (stepFrom_le set now ms (k + 1) _)
    split
    · exact Nat.left_le_or
    · exact Nat.le_refl _

theorem stepFrom_bit (set now : Nat) (j : Nat) : ∀ (ms : List Nat) (k nx : Nat), (stepFrom set now k ms nx).testBit j = true ↔ nx.testBit j = true ∨ ∃ i, now.testBit (k + i) = true ∧ (ms.getD i 0).testBit j = true ∧ set.testBit j = true
  | [], k, nx => by simp [stepFrom]
  | m :: ms, k, nx => by
    rw [stepFrom, stepFrom_bit set now j ms (k + 1)]
    have hsplit : (∃ i, now.testBit (k + i) = true ∧ ((m :: ms).getD i 0).testBit j = true ∧ set.testBit j = true) ↔ (now.testBit k = true ∧ m.testBit j = true ∧ set.testBit j = true) ∨ ∃ i, now.testBit (k + 1 + i) = true ∧ (ms.getD i 0).testBit j = true ∧ set.testBit j = true := by
      constructor
      · rintro ⟨i, h⟩
        cases i with
        | zero => exact .inl (by simpa using h)
        | succ i => exact .inr ⟨i, by rw [show k + 1 + i = k + (i + 1) by omega]; simpa using h⟩
      · rintro (h | ⟨i, h⟩)
        · exact ⟨0, by simpa using h⟩
        · exact ⟨i + 1, by rw [show k + (i + 1) = k + 1 + i by omega]; simpa using h⟩
    rw [hsplit]
    by_cases hb : now >>> k % 2 = 1
    · rw [if_pos hb, Nat.testBit_or, Nat.testBit_and]
      have hb' := (bit_iff now k).1 hb
      simp [hb', or_assoc]
    · rw [if_neg hb]
      have hb' : ¬ now.testBit k = true := fun h => hb ((bit_iff now k).2 h)
      simp [hb']

def growF (M : List Nat) (set : Nat) : Nat → Nat → Nat
  | 0, now => now
  | f + 1, now => if stepFrom set now 0 M now = now then now else growF M set f (stepFrom set now 0 M now)
def growN (M : List Nat) (set fr : Nat) : Nat := growF M set 600 (fr &&& set)

theorem sub_and {a b : Nat} (h : ∀ j, a.testBit j = true → b.testBit j = true) : a &&& b = a := by
  apply Nat.eq_of_testBit_eq
  intro j
  rw [Nat.testBit_and]
  cases e : a.testBit j with
  | false => rfl
  | true => rw [h j e]; rfl

theorem sub_le {a b : Nat} (h : ∀ j, a.testBit j = true → b.testBit j = true) : a ≤ b := by
  rw [← sub_and h]; exact Nat.and_le_right

theorem step_sub {M : List Nat} {set now : Nat} (h : ∀ j, now.testBit j = true → set.testBit j = true) : ∀ j, (stepFrom set now 0 M now).testBit j = true → set.testBit j = true := by
  intro j hj
  rcases (stepFrom_bit set now j M 0 now).1 hj with hj | ⟨_, _, _, hj⟩
  · exact h j hj
  · exact hj

theorem growF_fix {M : List Nat} {set : Nat} : ∀ (f now : Nat), (∀ j, now.testBit j = true → set.testBit j = true) → set < now + f → stepFrom set (growF M set f now) 0 M (growF M set f now) = growF M set f now ∧ (∀ j, now.testBit j = true → (growF M set f now).testBit j = true)
  | 0, now, hs, hf => by have := sub_le hs; omega
  | f + 1, now, hs, hf => by
    rw [growF]
    split
    · rename_i h; exact ⟨h, fun _ h => h⟩
    · rename_i h
      have hle := stepFrom_le set now M 0 now
      have ih := growF_fix (M := M) f (stepFrom set now 0 M now) (step_sub hs) (by omega)
      exact ⟨ih.1, fun j hj => ih.2 j ((stepFrom_bit set now j M 0 now).2 (.inl hj))⟩

theorem growF_reach {M : List Nat} {set fr : Nat} : ∀ (f now : Nat), (∀ j, now.testBit j = true → Reach M set fr j) → ∀ j, (growF M set f now).testBit j = true → Reach M set fr j
  | 0, now, hs, j, hj => hs j hj
  | f + 1, now, hs, j, hj => by
    rw [growF] at hj
    split at hj
    · exact hs j hj
    · refine growF_reach f _ (fun i hi => ?_) j hj
      rcases (stepFrom_bit set now i M 0 now).1 hi with hi | ⟨k, h1, h2, h3⟩
      · exact hs i hi
      · rw [Nat.zero_add] at h1
        exact .step (hs k h1) h2 h3

theorem grow_bit {M : List Nat} {set fr : Nat} (hset : set < 2 ^ 9) (j : Nat) : (growN M set fr).testBit j = true ↔ Reach M set fr j := by
  have hsub : ∀ j, (fr &&& set).testBit j = true → set.testBit j = true := fun j hj => by rw [Nat.testBit_and, Bool.and_eq_true] at hj; exact hj.2
  constructor
  · refine growF_reach 600 _ (fun i hi => ?_) j
    rw [Nat.testBit_and, Bool.and_eq_true] at hi
    exact .start hi.1 hi.2
  · obtain ⟨hfix, hin⟩ := growF_fix (M := M) 600 (fr &&& set) hsub (by omega)
    intro h
    induction h with
    | start h hs => exact hin _ (by rw [Nat.testBit_and, h, hs]; rfl)
    | @step k j _ ha hs ih =>
      unfold growN at ih ⊢
      rw [← hfix]
      exact (stepFrom_bit set _ j M 0 _).2 (.inr ⟨k, by rw [Nat.zero_add]; exact ih, ha, hs⟩)

/-! ### at what cost -/
/-- Cell j is reached from the edge over own cells and at most k free ones. -/
inductive Cost (M : List Nat) (edge own free : Nat) : Nat → Nat → Prop
  | ownEdge {k j} (h : edge.testBit j = true) (ho : own.testBit j = true) : Cost M edge own free k j
  | freeEdge {k j} (h : edge.testBit j = true) (hf : free.testBit j = true) : Cost M edge own free (k + 1) j
  | ownStep {k i j} (h : Cost M edge own free k i) (ha : Adj M i j) (ho : own.testBit j = true) : Cost M edge own free k j
  | freeStep {k i j} (h : Cost M edge own free k i) (ha : Adj M i j) (hf : free.testBit j = true) : Cost M edge own free (k + 1) j

theorem Cost.more {M : List Nat} {edge own free k j : Nat} (h : Cost M edge own free k j) : Cost M edge own free (k + 1) j := by
  induction h with
  | ownEdge h ho => exact .ownEdge h ho
  | freeEdge h hf => exact .freeEdge h hf
  | ownStep _ ha ho ih => exact .ownStep ih ha ho
  | freeStep _ ha hf ih => exact .freeStep ih ha hf

/-- Own cells more, free cells that are now own: no dearer. -/
theorem Cost.mono {M : List Nat} {edge own free own' free' : Nat} (ho : ∀ j, own.testBit j = true → own'.testBit j = true) (hf : ∀ j, free.testBit j = true → own'.testBit j = true ∨ free'.testBit j = true) {k j : Nat} (h : Cost M edge own free k j) : Cost M edge own' free' k j := by
  induction h with
  | ownEdge h h' => exact .ownEdge h (ho _ h')
  | freeEdge h h' =>
    rcases hf _ h' with h' | h'
    · exact .ownEdge h h'
    · exact .freeEdge h h'
  | ownStep _ ha h' ih => exact .ownStep ih ha (ho _ h')
  | freeStep _ ha h' ih =>
    rcases hf _ h' with h' | h'
    · exact (Cost.ownStep ih ha h').more
    · exact .freeStep ih ha h'

/-- One own cell more, at c, makes it cheaper by one at most. -/
theorem Cost.less {M : List Nat} {edge own free own' free' c : Nat} (hc : free.testBit c = true) (ho : ∀ j, own'.testBit j = true → own.testBit j = true ∨ j = c) (hf : ∀ j, free'.testBit j = true → free.testBit j = true) {k j : Nat} (h : Cost M edge own' free' k j) :
    Cost M edge own free k j ∨ (Cost M edge own free (k + 1) j ∧ Cost M edge own free (k + 1) c) := by
  induction h with
  | ownEdge h h' =>
    rcases ho _ h' with h' | rfl
    · exact .inl (.ownEdge h h')
    · exact .inr ⟨.freeEdge h hc, .freeEdge h hc⟩
  | freeEdge h h' => exact .inl (.freeEdge h (hf _ h'))
  | ownStep _ ha h' ih =>
    rcases ho _ h' with h' | rfl
    · rcases ih with ih | ⟨ih, ih2⟩
      · exact .inl (.ownStep ih ha h')
      · exact .inr ⟨.ownStep ih ha h', ih2⟩
    · rcases ih with ih | ⟨_, ih2⟩
      · exact .inr ⟨.freeStep ih ha hc, .freeStep ih ha hc⟩
      · exact .inr ⟨ih2, ih2⟩
  | freeStep _ ha h' ih =>
    rcases ih with ih | ⟨ih, ih2⟩
    · exact .inl (.freeStep ih ha (hf _ h'))
    · exact .inr ⟨.freeStep ih ha (hf _ h'), ih2.more⟩

/-- What is dear by one more is so by some free cell: with that one own it is not. -/
theorem Cost.cell {M : List Nat} {edge own free k j : Nat} (h : Cost M edge own free (k + 1) j) :
    Cost M edge own free k j ∨ ∃ c, free.testBit c = true ∧ ∀ own' free', (∀ j, own.testBit j = true → own'.testBit j = true) → own'.testBit c = true → (∀ j, free.testBit j = true → own'.testBit j = true ∨ free'.testBit j = true) → Cost M edge own' free' k j := by
  generalize hk : k + 1 = k' at h
  induction h generalizing k with
  | ownEdge h h' => exact .inl (.ownEdge h h')
  | @freeEdge k0 j h h' => exact .inr ⟨j, h', fun own' free' _ hc _ => .ownEdge h hc⟩
  | ownStep _ ha h' ih =>
    rcases ih hk with ih | ⟨c, hc, ih⟩
    · exact .inl (.ownStep ih ha h')
    · exact .inr ⟨c, hc, fun own' free' ho hoc hf => .ownStep (ih own' free' ho hoc hf) ha (ho _ h')⟩
  | @freeStep k0 i j h0 ha h' _ =>
    obtain rfl : k = k0 := by omega
    exact .inr ⟨j, h', fun own' free' ho hoc hf => .ownStep (h0.mono ho hf) ha hoc⟩

end Go.Proofs.YtbmmcldbllhhhabDoor

/- Gaps: waves of cost tell the least number of free cells. No program text. -/
set_option maxRecDepth 20000
namespace Go.Proofs.YtbmmcldbllhhhabDoor

/-- The last side is reached at cost k. -/
def Hits (M : List Nat) (own free edge last k : Nat) : Prop := ∃ j, last.testBit j = true ∧ Cost M edge own free k j
def IsGap (M : List Nat) (own free edge last k : Nat) : Prop := Hits M own free edge last k ∧ ∀ i, i < k → ¬ Hits M own free edge last i

theorem IsGap.unique {M : List Nat} {own free edge last k k' : Nat} (h : IsGap M own free edge last k) (h' : IsGap M own free edge last k') : k = k' := by
  rcases Nat.lt_trichotomy k k' with hlt | e | hgt
  · exact absurd h.1 (h'.2 k hlt)
  · exact e
  · exact absurd h'.1 (h.2 k' hgt)

theorem and_zero {a b : Nat} : a &&& b = 0 ↔ ∀ j, a.testBit j = true → b.testBit j = true → False := by
  constructor
  · intro h j ha hb
    have := congrArg (fun x => x.testBit j) h
    simp [Nat.testBit_and, ha, hb] at this
  · intro h
    apply Nat.eq_of_testBit_eq
    intro j
    rw [Nat.testBit_and, Nat.zero_testBit]
    cases ha : a.testBit j with
    | false => rfl
    | true =>
      cases hb : b.testBit j with
      | false => rfl
      | true => exact (h j ha hb).elim

/-- What is taken away. -/
def without (x c : Nat) : Nat := x ^^^ (x &&& (1 <<< c))
theorem without_bit (x c j : Nat) : (without x c).testBit j = (x.testBit j && decide (j ≠ c)) := by
  unfold without
  rw [Nat.testBit_xor, Nat.testBit_and, one_bit]
  by_cases h : j = c
  · subst h; simp
  · simp [h]
theorem with_bit (x c j : Nat) : (x ||| (1 <<< c)).testBit j = (x.testBit j || decide (j = c)) := by rw [Nat.testBit_or, one_bit]

section
variable {M : List Nat} {own free edge last : Nat}

end

/-! ### how many -/
def pop (x : Nat) : Nat := (List.range 9).countP fun j => x.testBit j

theorem countP_lt {α : Type} {p q : α → Bool} : ∀ {l : List α} {c : α}, (∀ x ∈ l, q x = true → p x = true) → c ∈ l → p c = true → q c = false → l.countP q + 1 ≤ l.countP p
  | [], _, _, hc, _, _ => by simp at hc
  | x :: l, c, hpq, hc, hp, hq => by
    rw [List.countP_cons, List.countP_cons]
    have hle : l.countP q ≤ l.countP p := List.countP_mono_left fun y hy h => hpq y (by simp [hy]) h
    rcases List.mem_cons.1 hc with rfl | hc
    · simp [hp, hq]; omega
    · have ih := countP_lt (fun y hy h => hpq y (by simp [hy]) h) hc hp hq
      by_cases hqx : q x = true
      · have := hpq x (by simp) hqx
        simp [hqx, this]; omega
      · simp [hqx]; omega

theorem bit_small {x n j : Nat} (hx : x < 2 ^ n) (h : x.testBit j = true) : j < n := by
  rcases Nat.lt_or_ge j n with hlt | hge
  · exact hlt
  · rw [Nat.testBit_lt_two_pow (Nat.lt_of_lt_of_le hx (Nat.pow_le_pow_right (by decide) hge))] at h; cases h

theorem without_lt {x c n : Nat} (hx : x < 2 ^ n) : without x c < 2 ^ n :=
  Nat.lt_of_le_of_lt (sub_le fun j hj => by rw [without_bit, Bool.and_eq_true] at hj; exact hj.1) hx

theorem pop_le {n x : Nat} (hn : n ≤ 9) (hx : x < 2 ^ n) : pop x ≤ n := by
  unfold pop
  have : (List.range 9).countP (fun j => x.testBit j) ≤ (List.range 9).countP (fun j => decide (j < n)) :=
    List.countP_mono_left fun j _ h => decide_eq_true (bit_small hx h)
  refine Nat.le_trans this ?_
  have : n = 0 ∨ n = 1 ∨ n = 2 ∨ n = 3 ∨ n = 4 ∨ n = 5 ∨ n = 6 ∨ n = 7 ∨ n = 8 ∨ n = 9 := by omega
  rcases this with rfl | rfl | rfl | rfl | rfl | rfl | rfl | rfl | rfl | rfl <;> decide

/-! ### the waves -/
section
variable {M : List Nat} {own free edge last : Nat}

end

end Go.Proofs.YtbmmcldbllhhhabDoor

/- The model's sets of cells: masks, sides, the cells with a stone, growing, and whether sides are joined. -/
set_option maxRecDepth 20000
namespace Go.Proofs.YtbmmcldbllhhhabDoor
open Go Go.Ip G

def masksN (R C : Nat) : List Nat := (List.range (R * C)).map fun k => orAll 0 (nearN R C k)
/-- A board, as numbers. -/
def BoardOf (R C : Nat) : Prop := 1 ≤ R ∧ R ≤ 4 ∧ 1 ≤ C ∧ C ≤ 4 ∧ R * C ≤ 9

variable (g : Nat → PV) (lf n : Nat)

/-! ### masks -/
/-! ### sides -/
def atSide (C P i : Nat) : Nat := if P = 2 then i % C else i / C
def endSide (R C P : Nat) : Nat := if P = 2 then C - 1 else R - 1
def sideFrom (R C P : Nat) (last : Bool) : Nat → Nat → Nat → Nat
  | 0, _, w => w
  | m + 1, i, w => sideFrom R C P last m (i + 1) (if (bif last then decide (atSide C P i = endSide R C P) else decide (atSide C P i = 0)) = true then w ||| (1 <<< i) else w)
def sideN (R C P : Nat) (last : Bool) : Nat := sideFrom R C P last (R * C) 0 0

/-! ### the cells with a stone -/
/-! ### growing -/
theorem bitq (x k : Nat) (hk : k ≤ 20) : binP Tryd.prog .shr 3 (.int .i64 (x : Int)) (.int .i64 (k : Int)) = some (.int .i64 ((x >>> k : Nat) : Int)) ∧ binP Tryd.prog .rem 3 (.int .i64 ((x >>> k : Nat) : Int)) (.int .i64 2) = some (.int .i64 ((x >>> k % 2 : Nat) : Int)) ∧
    binP Tryd.prog .eql 3 (.int .i64 ((x >>> k % 2 : Nat) : Int)) (.int .i64 1) = some (.bool (decide (x >>> k % 2 = 1))) :=
  ⟨f_shr x k (by omega), f_rem (x >>> k) 2 (by decide), by rw [bin_eql]; exact congrArg (fun z => some (PV.bool z)) (natEq _ 1)⟩

def joinsN (R C P S : Nat) : Bool := !decide (growN (masksN R C) S (sideN R C P false) &&& sideN R C P true = 0)

end Go.Proofs.YtbmmcldbllhhhabDoor

/- The model's chapter 2: what Joins, GroupOf, GapOf, Filled and GapCells of it compute. -/
set_option maxRecDepth 20000
namespace Go.Proofs.YtbmmcldbllhhhabDoor
open Go Go.Ip G

def listFrom (set : Nat) : Nat → Nat → List Int
  | 0, _ => []
  | m + 1, k => if set >>> k % 2 = 1 then (k : Int) :: listFrom set m (k + 1) else listFrom set m (k + 1)
def listN (set : Nat) : List Int := listFrom set 9 0
variable (g : Nat → PV) (lf n : Nat)

/-! ### a set's list -/
theorem listFrom_nil {set : Nat} : ∀ (m k : Nat), set >>> k = 0 → listFrom set m k = []
  | 0, _, _ => rfl
  | m + 1, k, h => by
    have h2 : set >>> (k + 1) = 0 := by rw [Nat.shiftRight_add, h]; rfl
    rw [listFrom, h, if_neg (by decide), listFrom_nil m (k + 1) h2]

theorem list_loop {set : Nat} (hs : set < 2 ^ 9) : ∀ (m k fuel : Nat) (q : PV) (ys : List Int) (h : PHeap) (b : Nat), k + m = 9 → m < fuel → ys.length ≤ k → OwnSl b h q ys → b ≤ h.length →
    ∃ q' h', loopK (ev ((env g lf n).cx Tryd.prog spec_l2List.kl) spec_l2List.lp0) fuel (spec_l2List.st0 (.int .i64 (set : Int)) q (.int .i64 (k : Int)) h) (spec_l2List.K0 (env g lf n) (kTop Tryd.prog Tryd.f53)) = some (q', h') ∧
      OwnSl b h' q' (ys ++ listFrom set m k) ∧ Keep b h h'
  | m, k, fuel, q, ys, h, b, hkm, hf, hy, ho, hb => by
    obtain ⟨f, rfl⟩ : ∃ f, fuel = f + 1 := ⟨fuel - 1, by omega⟩
    obtain ⟨b1, b2, b3⟩ := bitq set k (by omega)
    have g1 : binP Tryd.prog .gtr 3 (.int .i64 ((set >>> k : Nat) : Int)) (.int .i64 0) = some (.bool (decide (0 < set >>> k))) := by
      rw [bin_gtr]
      congr 2
      apply decide_eq_decide.2
      omega
    by_cases hz : set >>> k = 0
    · refine ⟨q, h, ?_, by rw [listFrom_nil m k hz, List.append_nil]; exact ho, Keep.refl _ _⟩
      rw [loopK_succ, spec_l2List.body0_eq]
      rw [decide_eq_false (by omega)] at g1
      unfold spec_l2List.body0
      refine bd b1 (bd g1 (cdF ?_))
      rw [kLoop_exit, spec_l2List.after0_se0_0_3_4_9]
      exact bd ho.res rfl
    · match m with
      | 0 =>
        obtain rfl : k = 9 := by omega
        exact absurd (by rw [Nat.shiftRight_eq_div_pow]; exact Nat.div_eq_of_lt hs) hz
      | m + 1 =>
        have f4 : binP Tryd.prog .add 3 (.int .i64 (k : Int)) (.int .i64 1) = some (.int .i64 ((k + 1 : Nat) : Int)) := by rw [bin_add, nx (by omega)]
        rw [decide_eq_true (Nat.pos_of_ne_zero hz)] at g1
        rw [listFrom]
        by_cases e : set >>> k % 2 = 1
        · rw [if_pos e]
          rw [decide_eq_true e] at b3
          obtain ⟨v, q2, h2', hb2, ha2, ho2, hk2⟩ := ho.append hb (k : Int) (by omega)
          obtain ⟨q', h', ih, o', k'⟩ := list_loop hs m (k + 1) f q2 (ys ++ [(k : Int)]) h2' b (by omega) (by omega) (by simp; omega) ho2 (by have := hk2.1; omega)
          refine ⟨q', h', ?_, by simpa using o', hk2.trans k'⟩
          rw [loopK_succ, spec_l2List.body0_eq]
          unfold spec_l2List.body0
          exact bd b1 (bd g1 (cdT (bd b1 (bd b2 (bd b3 (cdT (bd hb2 (bd ha2 (bd f4 ih)))))))))
        · rw [if_neg e]
          rw [decide_eq_false e] at b3
          obtain ⟨q', h', ih, o', k'⟩ := list_loop hs m (k + 1) f q ys h b (by omega) (by omega) (by omega) ho hb
          refine ⟨q', h', ?_, o', k'⟩
          rw [loopK_succ, spec_l2List.body0_eq]
          unfold spec_l2List.body0
          exact bd b1 (bd g1 (cdT (bd b1 (bd b2 (bd b3 (cdF (bd f4 ih)))))))
termination_by m => m

theorem l2List_calls {set : Nat} (hs : set < 2 ^ 9) (N : Nat) (hN : 1 ≤ N) (hlf : 20 < lf) {h : PHeap} :
    ∃ q h', CL g lf N fn_spec_l2List [.int .i64 (set : Int)] h = some (q, h') ∧ OwnSl h.length h' q (listN set) ∧ Keep h.length h h' := by
  obtain ⟨n, rfl⟩ : ∃ n, N = n + 1 := ⟨N - 1, by omega⟩
  rw [spec_l2List.call_eq]
  obtain ⟨q0, h0, e0, o0, k0⟩ := empty_lit (h := h)
  obtain ⟨q', h', e, o, k⟩ := list_loop g lf n hs 9 0 lf q0 [] h0 h.length (by omega) (by omega) (by simp) o0 k0.1
  refine ⟨q', h', ?_, by simpa [listN] using o, k0.trans k⟩
  unfold spec_l2List.main
  exact bd e0 e

/-! ### gaps -/
/-! ### the functions -/
end Go.Proofs.YtbmmcldbllhhhabDoor

/- The model's Filled and GapCells. -/
set_option maxRecDepth 20000
namespace Go.Proofs.YtbmmcldbllhhhabDoor
open Go Go.Ip G

variable (g : Nat → PV) (lf n : Nat)

/-! ### the cells that close a gap -/
end Go.Proofs.YtbmmcldbllhhhabDoor

/- Of all boards and all sets of cells: exactly one has joined on a full board; turned, and mirrored. No program text. -/
set_option maxRecDepth 20000
namespace Go.Proofs.YtbmmcldbllhhhabDoor

def boards : List (Nat × Nat) := [(1, 1), (1, 2), (1, 3), (1, 4), (2, 1), (2, 2), (2, 3), (2, 4), (3, 1), (3, 2), (3, 3), (4, 1), (4, 2)]
theorem board_mem {R C : Nat} (h : BoardOf R C) : (R, C) ∈ boards := by
  obtain ⟨h1, h2, h3, h4, h9⟩ := h
  have hR : R = 1 ∨ R = 2 ∨ R = 3 ∨ R = 4 := by omega
  have hC : C = 1 ∨ C = 2 ∨ C = 3 ∨ C = 4 := by omega
  rcases hR with rfl | rfl | rfl | rfl <;> rcases hC with rfl | rfl | rfl | rfl <;> first | decide | omega

/-- The cells of a set, each at another place. -/
def moved (f : Nat → Nat) (S : Nat) : Nat → Nat
  | 0 => 0
  | k + 1 => moved f S k ||| (if S.testBit k then 1 <<< f k else 0)

def hexB (R C S : Nat) : Bool :=
  (joinsN R C 1 S != joinsN R C 2 (2 ^ (R * C) - 1 - S)) &&
  (joinsN R C 1 (moved (fun k => R * C - 1 - k) S (R * C)) == joinsN R C 1 S) && (joinsN R C 2 (moved (fun k => R * C - 1 - k) S (R * C)) == joinsN R C 2 S) &&
  (joinsN C R 2 (moved (sig C R) S (R * C)) == joinsN R C 1 S) && (joinsN C R 1 (moved (sig C R) S (R * C)) == joinsN R C 2 S)

theorem hex_all : (boards.all fun b => (List.range (2 ^ (b.1 * b.2))).all fun S => hexB b.1 b.2 S) = true := by kernel_rfl

theorem hex_ok {R C S : Nat} (hb : BoardOf R C) (hS : S < 2 ^ (R * C)) : hexB R C S = true := by
  have := List.all_eq_true.1 hex_all (R, C) (board_mem hb)
  exact List.all_eq_true.1 this S (by rw [List.mem_range]; exact hS)

end Go.Proofs.YtbmmcldbllhhhabDoor

/- Promise 6: mirrored twice it is as before. -/
set_option maxRecDepth 20000
namespace Go.Proofs.YtbmmcldbllhhhabDoor
open Go Go.Ip Go.RowKit G

variable (g : Nat → PV) (lf n : Nat)

end Go.Proofs.YtbmmcldbllhhhabDoor

/- What the laws of chapter 2 say of positions, as facts on sets of cells. No program text. -/
set_option maxRecDepth 20000
namespace Go.Proofs.YtbmmcldbllhhhabDoor

/-! ### joined sides -/
theorem joins_iff {R C P S : Nat} (hS : S < 2 ^ 9) : joinsN R C P S = true ↔ ∃ j, (sideN R C P true).testBit j = true ∧ Reach (masksN R C) S (sideN R C P false) j := by
  unfold joinsN
  rw [Bool.not_eq_true', decide_eq_false_iff_not]
  constructor
  · intro h
    apply Classical.byContradiction
    intro hn
    exact h (and_zero.2 fun j h1 h2 => hn ⟨j, h2, (grow_bit hS j).1 h1⟩)
  · rintro ⟨j, h1, h2⟩ h
    exact and_zero.1 h j ((grow_bit hS j).2 h2) h1

theorem joins_mono {R C P S T : Nat} (hS : S < 2 ^ 9) (hT : T < 2 ^ 9) (h : ∀ j, S.testBit j = true → T.testBit j = true) (hj : joinsN R C P S = true) : joinsN R C P T = true := by
  obtain ⟨j, h1, h2⟩ := (joins_iff hS).1 hj
  exact (joins_iff hT).2 ⟨j, h1, h2.mono h (fun _ h => h)⟩

theorem compl_bit {n S : Nat} (hS : S < 2 ^ n) (j : Nat) : (2 ^ n - 1 - S).testBit j = (decide (j < n) && !S.testBit j) := by
  rw [Nat.sub_sub, Nat.add_comm 1 S]; exact Nat.testBit_two_pow_sub_succ hS j

theorem hex {R C P S : Nat} (hB : BoardOf R C) (hP : P = 1 ∨ P = 2) (hS : S < 2 ^ (R * C)) : joinsN R C P S = !joinsN R C (3 - P) (2 ^ (R * C) - 1 - S) := by
  have key : ∀ T, T < 2 ^ (R * C) → joinsN R C 1 T = !joinsN R C 2 (2 ^ (R * C) - 1 - T) := fun T hT => by
    have := hex_ok hB hT
    unfold hexB at this
    simp only [Bool.and_eq_true] at this
    have := this.1.1.1.1
    cases h1 : joinsN R C 1 T <;> cases h2 : joinsN R C 2 (2 ^ (R * C) - 1 - T) <;> rw [h1, h2] at this <;> first | rfl | cases this
  rcases hP with rfl | rfl
  · exact key S hS
  · have h2 := key (2 ^ (R * C) - 1 - S) (by omega)
    rw [show 2 ^ (R * C) - 1 - (2 ^ (R * C) - 1 - S) = S by omega] at h2
    rw [show 3 - 2 = 1 from rfl, h2, Bool.not_not]

/-! ### filled -/
/-! ### turned and mirrored -/
theorem moved_bit (f : Nat → Nat) (S : Nat) : ∀ (n j : Nat), (moved f S n).testBit j = true ↔ ∃ k, k < n ∧ S.testBit k = true ∧ j = f k
  | 0, j => by simp [moved]
  | n + 1, j => by
    rw [moved, Nat.testBit_or, Bool.or_eq_true, moved_bit f S n j]
    have hlast : ((if S.testBit n = true then 1 <<< f n else 0).testBit j = true) ↔ (S.testBit n = true ∧ j = f n) := by
      by_cases h : S.testBit n = true
      · rw [if_pos h, one_bit, decide_eq_true_iff]; simp [h]
      · rw [if_neg h, Nat.zero_testBit]; simp [h]
    rw [hlast]
    constructor
    · rintro (⟨k, h1, h2, h3⟩ | ⟨h1, h2⟩)
      · exact ⟨k, by omega, h2, h3⟩
      · exact ⟨n, by omega, h1, h2⟩
    · rintro ⟨k, h1, h2, h3⟩
      by_cases e : k = n
      · subst e; exact .inr ⟨h2, h3⟩
      · exact .inl ⟨k, by omega, h2, h3⟩

/-! ### gaps -/
/-! ### the cells that close a gap -/
end Go.Proofs.YtbmmcldbllhhhabDoor

/- Who wins, told by the sets of both players' stones: what it is, that a stone more never harms, that to move never harms, and that turned and mirrored it is the same. No program text. -/
set_option maxRecDepth 20000
namespace Go.Proofs.YtbmmcldbllhhhabDoor
open Go Go.Ip G

/-- A stone of the one to move. -/
def putA (t k a : Nat) : Nat := if t = 1 then a ||| (1 <<< k) else a
def putB (t k b : Nat) : Nat := if t = 1 then b else b ||| (1 <<< k)

def winF (R C : Nat) : Nat → Nat → Nat → Nat → Nat
  | 0, a, b, t => if joinsN R C 1 a = true then 1 else if joinsN R C 2 b = true then 2 else 3 - t
  | f + 1, a, b, t => if joinsN R C 1 a = true then 1 else if joinsN R C 2 b = true then 2 else
      if ((List.range (R * C)).any fun k => !(a ||| b).testBit k && decide (winF R C f (putA t k a) (putB t k b) (3 - t) = t)) = true then t else 3 - t

def winN (R C a b t : Nat) : Nat := winF R C (R * C) a b t

theorem put_bit (t k a b j : Nat) : (putA t k a ||| putB t k b).testBit j = ((a ||| b).testBit j || decide (j = k)) := by
  unfold putA putB
  split
  · rw [Nat.testBit_or, with_bit, Nat.testBit_or]; cases a.testBit j <;> cases b.testBit j <;> simp
  · rw [Nat.testBit_or, with_bit, Nat.testBit_or, Bool.or_assoc]

/-- A position, by its two sets. -/
def Pos (R C a b : Nat) : Prop := a < 2 ^ (R * C) ∧ b < 2 ^ (R * C) ∧ ∀ j, a.testBit j = true → b.testBit j = true → False

theorem Pos.lt9 {R C a b : Nat} (hB : BoardOf R C) (h : Pos R C a b) : a < 2 ^ 9 ∧ b < 2 ^ 9 := by
  have : 2 ^ (R * C) ≤ 2 ^ 9 := Nat.pow_le_pow_right (by decide) hB.2.2.2.2
  exact ⟨Nat.lt_of_lt_of_le h.1 this, Nat.lt_of_lt_of_le h.2.1 this⟩

theorem Pos.put {R C a b t k : Nat} (h : Pos R C a b) (hk : k < R * C) (hf : (a ||| b).testBit k = false) : Pos R C (putA t k a) (putB t k b) := by
  rw [Nat.testBit_or, Bool.or_eq_false_iff] at hf
  have hl : 1 <<< k < 2 ^ (R * C) := by rw [Nat.one_shiftLeft]; exact Nat.pow_lt_pow_right (by decide) hk
  unfold putA putB
  split
  · refine ⟨Nat.or_lt_two_pow h.1 hl, h.2.1, fun j h1 h2 => ?_⟩
    rw [with_bit, Bool.or_eq_true, decide_eq_true_eq] at h1
    rcases h1 with h1 | rfl
    · exact h.2.2 j h1 h2
    · rw [hf.2] at h2; cases h2
  · refine ⟨h.1, Nat.or_lt_two_pow h.2.1 hl, fun j h1 h2 => ?_⟩
    rw [with_bit, Bool.or_eq_true, decide_eq_true_eq] at h2
    rcases h2 with h2 | rfl
    · exact h.2.2 j h1 h2
    · rw [hf.1] at h1; cases h1

/-- Never have both joined. -/
theorem Pos.both {R C a b : Nat} (hB : BoardOf R C) (h : Pos R C a b) (h1 : joinsN R C 1 a = true) : joinsN R C 2 b = false := by
  cases e : joinsN R C 2 b with
  | false => rfl
  | true =>
    have l9 := h.lt9 hB
    have hc : 2 ^ (R * C) - 1 - a < 2 ^ 9 := by
      have : 2 ^ (R * C) ≤ 2 ^ 9 := Nat.pow_le_pow_right (by decide) hB.2.2.2.2
      omega
    have h2 := joins_mono (P := 2) l9.2 hc (fun j hj => by
      rw [compl_bit h.1]
      have hjn := bit_small h.2.1 hj
      cases ea : a.testBit j with
      | false => simp [hjn]
      | true => exact (h.2.2 j ea hj).elim) e
    have h3 := hex hB (.inl rfl) h.1
    rw [h1, show 3 - 1 = 2 from rfl, h2] at h3
    cases h3

/-- If nobody has joined there is a free cell. -/
theorem Pos.free {R C a b : Nat} (hB : BoardOf R C) (h : Pos R C a b) (h1 : joinsN R C 1 a = false) (h2 : joinsN R C 2 b = false) : ∃ k, k < R * C ∧ (a ||| b).testBit k = false := by
  apply Classical.byContradiction
  intro hn
  have hall : ∀ k, k < R * C → (a ||| b).testBit k = true := fun k hk => by
    cases e : (a ||| b).testBit k with
    | true => rfl
    | false => exact (hn ⟨k, hk, e⟩).elim
  have hb : 2 ^ (R * C) - 1 - a = b := by
    apply Nat.eq_of_testBit_eq
    intro j
    rw [compl_bit h.1]
    by_cases hj : j < R * C
    · have := hall j hj
      rw [Nat.testBit_or, Bool.or_eq_true] at this
      cases ea : a.testBit j with
      | true =>
        cases eb : b.testBit j with
        | false => simp
        | true => exact (h.2.2 j ea eb).elim
      | false =>
        rw [ea] at this
        simp at this
        simp [hj, this]
    · cases eb : b.testBit j with
      | true => exact (hj (bit_small h.2.1 eb)).elim
      | false => simp [hj]
  have h3 := hex hB (.inl rfl) h.1
  rw [show 3 - 1 = 2 from rfl, hb, h1, h2] at h3
  cases h3

/-! ### turned and mirrored -/
/-- Each place is taken by just one. -/
structure Perm (f : Nat → Nat) (n : Nat) : Prop where
  lt : ∀ k, k < n → f k < n
  inj : ∀ i k, i < n → k < n → f i = f k → i = k
  onto : ∀ j, j < n → ∃ k, k < n ∧ f k = j

theorem moved_at {f : Nat → Nat} {S n k : Nat} (hf : Perm f n) (hk : k < n) : (moved f S n).testBit (f k) = S.testBit k := by
  rw [Bool.eq_iff_iff, moved_bit]
  constructor
  · rintro ⟨i, hi, h, e⟩
    rw [hf.inj k i hk hi e]; exact h
  · intro h; exact ⟨k, hk, h, rfl⟩

theorem moved_lt {f : Nat → Nat} {S n : Nat} (hf : Perm f n) : moved f S n < 2 ^ n := by
  apply Nat.lt_pow_two_of_testBit
  intro i hi
  cases e : (moved f S n).testBit i with
  | false => rfl
  | true =>
    obtain ⟨k, hk, _, rfl⟩ := (moved_bit f S n i).1 e
    have := hf.lt k hk
    omega

theorem Pos.moved {R C R' C' a b : Nat} {f : Nat → Nat} (hn : R' * C' = R * C) (hf : Perm f (R * C)) (h : Pos R C a b) : Pos R' C' (moved f a (R * C)) (moved f b (R * C)) := by
  refine ⟨by rw [hn]; exact moved_lt hf, by rw [hn]; exact moved_lt hf, fun j h1 h2 => ?_⟩
  obtain ⟨i, hi, ha, rfl⟩ := (moved_bit _ _ _ _).1 h1
  rw [moved_at hf hi] at h2
  exact h.2.2 i ha h2

end Go.Proofs.YtbmmcldbllhhhabDoor

/- A game in which both take cells in turn until one of both has what is wanted: never have both, and on a full board one has. Who wins, that a cell more never harms, and that to move never harms. No program text. -/
set_option maxRecDepth 20000
namespace Go.Proofs.YtbmmcldbllhhhabDoor
open Go Go.Ip G

/-- What the first one wants, and the second one: more never harms, and on a full board just one of both has it. -/
structure Game (n : Nat) (J1 J2 : Nat → Bool) : Prop where
  mono1 : ∀ a b, a < 2 ^ n → b < 2 ^ n → (∀ j, a.testBit j = true → b.testBit j = true) → J1 a = true → J1 b = true
  mono2 : ∀ a b, a < 2 ^ n → b < 2 ^ n → (∀ j, a.testBit j = true → b.testBit j = true) → J2 a = true → J2 b = true
  ex : ∀ a, a < 2 ^ n → J2 (2 ^ n - 1 - a) = !J1 a

def gWinF (n : Nat) (J1 J2 : Nat → Bool) : Nat → Nat → Nat → Nat → Nat
  | 0, a, b, t => if J1 a = true then 1 else if J2 b = true then 2 else 3 - t
  | f + 1, a, b, t => if J1 a = true then 1 else if J2 b = true then 2 else
      if ((List.range n).any fun k => !(a ||| b).testBit k && decide (gWinF n J1 J2 f (putA t k a) (putB t k b) (3 - t) = t)) = true then t else 3 - t

def gWin (n : Nat) (J1 J2 : Nat → Bool) (a b t : Nat) : Nat := gWinF n J1 J2 n a b t

/-- A position, by its two sets. -/
def gPos (n a b : Nat) : Prop := a < 2 ^ n ∧ b < 2 ^ n ∧ ∀ j, a.testBit j = true → b.testBit j = true → False

theorem gPos.put {n a b t k : Nat} (h : gPos n a b) (hk : k < n) (hf : (a ||| b).testBit k = false) : gPos n (putA t k a) (putB t k b) := by
  rw [Nat.testBit_or, Bool.or_eq_false_iff] at hf
  have hl : 1 <<< k < 2 ^ n := by rw [Nat.one_shiftLeft]; exact Nat.pow_lt_pow_right (by decide) hk
  unfold putA putB
  split
  · refine ⟨Nat.or_lt_two_pow h.1 hl, h.2.1, fun j h1 h2 => ?_⟩
    rw [with_bit, Bool.or_eq_true, decide_eq_true_eq] at h1
    rcases h1 with h1 | rfl
    · exact h.2.2 j h1 h2
    · rw [hf.2] at h2; cases h2
  · refine ⟨h.1, Nat.or_lt_two_pow h.2.1 hl, fun j h1 h2 => ?_⟩
    rw [with_bit, Bool.or_eq_true, decide_eq_true_eq] at h2
    rcases h2 with h2 | rfl
    · exact h.2.2 j h1 h2
    · rw [hf.1] at h1; cases h1

/-- Never have both. -/
theorem gPos.both {n a b : Nat} {J1 J2 : Nat → Bool} (hB : Game n J1 J2) (h : gPos n a b) (h1 : J1 a = true) : J2 b = false := by
  cases e : J2 b with
  | false => rfl
  | true =>
    have hc : 2 ^ n - 1 - a < 2 ^ n := by have := Nat.two_pow_pos n; omega
    have h2 := hB.mono2 b _ h.2.1 hc (fun j hj => by
      rw [compl_bit h.1]
      have hjn := bit_small h.2.1 hj
      cases ea : a.testBit j with
      | false => simp [hjn]
      | true => exact (h.2.2 j ea hj).elim) e
    rw [hB.ex a h.1, h1] at h2
    cases h2
/-- If nobody has joined there is a free cell. -/
theorem gPos.free {n a b : Nat} {J1 J2 : Nat → Bool} (hB : Game n J1 J2) (h : gPos n a b) (h1 : J1 a = false) (h2 : J2 b = false) : ∃ k, k < n ∧ (a ||| b).testBit k = false := by
  apply Classical.byContradiction
  intro hn
  have hall : ∀ k, k < n → (a ||| b).testBit k = true := fun k hk => by
    cases e : (a ||| b).testBit k with
    | true => rfl
    | false => exact (hn ⟨k, hk, e⟩).elim
  have hb : 2 ^ n - 1 - a = b := by
    apply Nat.eq_of_testBit_eq
    intro j
    rw [compl_bit h.1]
    by_cases hj : j < n
    · have := hall j hj
      rw [Nat.testBit_or, Bool.or_eq_true] at this
      cases ea : a.testBit j with
      | true =>
        cases eb : b.testBit j with
        | false => simp
        | true => exact (h.2.2 j ea eb).elim
      | false =>
        rw [ea] at this
        simp at this
        simp [hj, this]
    · cases eb : b.testBit j with
      | true => exact (hj (bit_small h.2.1 eb)).elim
      | false => simp [hj]
  have h3 := hB.ex a h.1
  rw [hb, h1, h2] at h3
  cases h3

end Go.Proofs.YtbmmcldbllhhhabDoor

/- Nets: which nodes are come to by a set of wires; sets that link the ends. No program text. -/
set_option maxRecDepth 20000
namespace Go.Proofs.YtbmmcldbllhhhabDoor
open Go Go.Ip G

def stepW (set : Nat) : List (Nat × Nat) → Nat → Nat → Nat
  | [], _, now => now
  | w :: l, k, now => stepW set l (k + 1) (if (set.testBit k && (now.testBit w.1 != now.testBit w.2)) = true then now ||| (1 <<< w.1) ||| (1 <<< w.2) else now)
def reachF (ws : List (Nat × Nat)) (set : Nat) : Nat → Nat → Nat
  | 0, now => now
  | f + 1, now => if stepW set ws 0 now = now then now else reachF ws set f (stepW set ws 0 now)
def reachW (ws : List (Nat × Nat)) (set fr : Nat) : Nat := reachF ws set 40 (1 <<< fr)
def linkW (ws : List (Nat × Nat)) (set : Nat) : Bool := (reachW ws set 0).testBit 1
/-- All wires are between two different nodes of at most five. -/
def NetN (nodes : Nat) (ws : List (Nat × Nat)) : Prop := 2 ≤ nodes ∧ nodes ≤ 5 ∧ ws.length ≤ 8 ∧ ∀ w ∈ ws, w.1 < nodes ∧ w.2 < nodes ∧ w.1 ≠ w.2

/-- One comes from a node to another one by wires of a set. -/
inductive Conn (ws : List (Nat × Nat)) (set u : Nat) : Nat → Prop where
  | refl : Conn ws set u u
  | fwd {v k : Nat} {w : Nat × Nat} : Conn ws set u v → ws[k]? = some w → set.testBit k = true → w.1 = v → Conn ws set u w.2
  | bwd {v k : Nat} {w : Nat × Nat} : Conn ws set u v → ws[k]? = some w → set.testBit k = true → w.2 = v → Conn ws set u w.1

theorem Conn.mono {ws : List (Nat × Nat)} {S S' u v : Nat} (hm : ∀ j, S.testBit j = true → S'.testBit j = true) (h : Conn ws S u v) : Conn ws S' u v := by
  induction h with
  | refl => exact .refl
  | fwd _ hw hs e ih => exact .fwd ih hw (hm _ hs) e
  | bwd _ hw hs e ih => exact .bwd ih hw (hm _ hs) e
theorem Conn.trans {ws : List (Nat × Nat)} {S u v x : Nat} (h : Conn ws S u v) (h2 : Conn ws S v x) : Conn ws S u x := by
  induction h2 with
  | refl => exact h
  | fwd _ hw hs e ih => exact .fwd ih hw hs e
  | bwd _ hw hs e ih => exact .bwd ih hw hs e
theorem Conn.symm {ws : List (Nat × Nat)} {S u v : Nat} (h : Conn ws S u v) : Conn ws S v u := by
  induction h with
  | refl => exact .refl
  | fwd _ hw hs e ih => subst e; exact (Conn.bwd .refl hw hs rfl).trans ih
  | bwd _ hw hs e ih => subst e; exact (Conn.fwd .refl hw hs rfl).trans ih

theorem stepW_sub (set : Nat) : ∀ (l : List (Nat × Nat)) (k now j : Nat), now.testBit j = true → (stepW set l k now).testBit j = true
  | [], _, _, _, h => h
  | w :: l, k, now, j, h => by
    rw [stepW]
    apply stepW_sub
    split
    · rw [with_bit, with_bit, h]; rfl
    · exact h
theorem stepW_in {ws : List (Nat × Nat)} {set u : Nat} : ∀ (l : List (Nat × Nat)) (k now : Nat), ws.drop k = l → (∀ j, now.testBit j = true → Conn ws set u j) → ∀ j, (stepW set l k now).testBit j = true → Conn ws set u j
  | [], _, _, _, h => h
  | w :: l, k, now, hd, h => by
    have hk : ws[k]? = some w := by rw [← List.head?_drop, hd]; rfl
    have hd' : ws.drop (k + 1) = l := by rw [← List.tail_drop, hd]; rfl
    rw [stepW]
    apply stepW_in l (k + 1) _ hd'
    intro j hj
    split at hj
    · rename_i hc
      rw [Bool.and_eq_true, bne_iff_ne, ne_eq] at hc
      obtain ⟨hs, hne⟩ := hc
      rw [with_bit, with_bit, Bool.or_eq_true, Bool.or_eq_true, decide_eq_true_eq, decide_eq_true_eq] at hj
      rcases hj with (hj | rfl) | rfl
      · exact h j hj
      · cases e1 : now.testBit w.1 with
        | true => exact h _ e1
        | false =>
          cases e2 : now.testBit w.2 with
          | true => exact .bwd (h _ e2) hk hs rfl
          | false => rw [e1, e2] at hne; exact absurd rfl hne
      · cases e2 : now.testBit w.2 with
        | true => exact h _ e2
        | false =>
          cases e1 : now.testBit w.1 with
          | true => exact .fwd (h _ e1) hk hs rfl
          | false => rw [e1, e2] at hne; exact absurd rfl hne
    · exact h j hj
/-- If a step adds nothing, the set is closed. -/
theorem stepW_fix {set : Nat} : ∀ (l : List (Nat × Nat)) (k now : Nat), stepW set l k now = now → ∀ i w, l[i]? = some w → set.testBit (k + i) = true → now.testBit w.1 = now.testBit w.2
  | [], _, _, _, i, w, hw, _ => by simp at hw
  | w0 :: l, k, now, h, i, w, hw, hs => by
    rw [stepW] at h
    have h0 : (if (set.testBit k && (now.testBit w0.1 != now.testBit w0.2)) = true then now ||| (1 <<< w0.1) ||| (1 <<< w0.2) else now) = now := by
      apply Nat.eq_of_testBit_eq
      intro j
      cases e : now.testBit j with
      | true => split <;> simp [with_bit, e]
      | false =>
        cases e2 : (if (set.testBit k && (now.testBit w0.1 != now.testBit w0.2)) = true then now ||| (1 <<< w0.1) ||| (1 <<< w0.2) else now).testBit j with
        | false => rfl
        | true =>
          have := stepW_sub set l (k + 1) _ j e2
          rw [h, e] at this; cases this
    cases i with
    | zero =>
      simp at hw; subst hw
      rw [Nat.add_zero] at hs
      by_cases e : now.testBit w0.1 = now.testBit w0.2
      · exact e
      · rw [if_pos (by rw [hs, Bool.true_and, bne_iff_ne]; exact e)] at h0
        have h1 : now.testBit w0.1 = true := by rw [← h0, with_bit, with_bit]; simp
        have h2 : now.testBit w0.2 = true := by rw [← h0, with_bit]; simp
        rw [h1, h2]
    | succ i =>
      rw [h0] at h
      exact stepW_fix l (k + 1) now h i w (by simpa using hw) (by rw [show k + 1 + i = k + (i + 1) by omega]; exact hs)
theorem stepW_lt {set n : Nat} : ∀ (l : List (Nat × Nat)) (k now : Nat), (∀ w ∈ l, w.1 < n ∧ w.2 < n) → now < 2 ^ n → stepW set l k now < 2 ^ n
  | [], _, _, _, h => h
  | w :: l, k, now, hl, h => by
    rw [stepW]
    refine stepW_lt l (k + 1) _ (fun x hx => hl x (by simp [hx])) ?_
    obtain ⟨a, b⟩ := hl w (by simp)
    split
    · exact Nat.or_lt_two_pow (Nat.or_lt_two_pow h (by rw [Nat.one_shiftLeft]; exact Nat.pow_lt_pow_right (by decide) a)) (by rw [Nat.one_shiftLeft]; exact Nat.pow_lt_pow_right (by decide) b)
    · exact h
theorem stepW_le {set : Nat} (l : List (Nat × Nat)) (k now : Nat) : now ≤ stepW set l k now := sub_le fun j hj => stepW_sub set l k now j hj
theorem reachF_ok {ws : List (Nat × Nat)} {set n u : Nat} (hl : ∀ w ∈ ws, w.1 < n ∧ w.2 < n) : ∀ (f now : Nat), now < 2 ^ n → 2 ^ n < now + f → (∀ j, now.testBit j = true → Conn ws set u j) →
    (∀ j, now.testBit j = true → (reachF ws set f now).testBit j = true) ∧ (∀ j, (reachF ws set f now).testBit j = true → Conn ws set u j) ∧ reachF ws set f now < 2 ^ n ∧ stepW set ws 0 (reachF ws set f now) = reachF ws set f now
  | 0, now, h, h2, _ => by omega
  | f + 1, now, h, h2, h3 => by
    rw [reachF]
    split
    · rename_i e; exact ⟨fun _ h => h, h3, h, e⟩
    · rename_i e
      have hle := stepW_le (set := set) ws 0 now
      obtain ⟨a, b, c, d⟩ := reachF_ok hl f (stepW set ws 0 now) (stepW_lt ws 0 now hl h) (by omega) (stepW_in ws 0 now rfl h3)
      exact ⟨fun j hj => a j (stepW_sub set ws 0 now j hj), b, c, d⟩
theorem reach_bit {nodes : Nat} {ws : List (Nat × Nat)} (hn : NetN nodes ws) {set u : Nat} (hu : u < nodes) (j : Nat) : (reachW ws set u).testBit j = true ↔ Conn ws set u j := by
  obtain ⟨n1, n2, n3, n4⟩ := hn
  have h1 : 1 <<< u < 2 ^ 5 := by rw [Nat.one_shiftLeft]; exact Nat.pow_lt_pow_right (by decide) (by omega)
  have h0 : 0 < 1 <<< u := by rw [Nat.one_shiftLeft]; exact Nat.two_pow_pos u
  obtain ⟨a, b, c, d⟩ := reachF_ok (ws := ws) (set := set) (n := 5) (u := u) (fun w hw => by have := n4 w hw; omega) 40 (1 <<< u) h1 (by omega) (fun j hj => by
    rw [one_bit] at hj
    have hju : j = u := by simpa using hj
    subst hju; exact .refl)
  refine ⟨b j, fun h => ?_⟩
  have hfix := stepW_fix ws 0 (reachW ws set u) d
  induction h with
  | refl => exact a u (by rw [one_bit]; simp)
  | fwd _ hw hs e ih => subst e; rw [← hfix _ _ hw (by rw [Nat.zero_add]; exact hs)]; exact ih
  | bwd _ hw hs e ih => subst e; rw [hfix _ _ hw (by rw [Nat.zero_add]; exact hs)]; exact ih
/-- The game of wires. -/
def cutW (ws : List (Nat × Nat)) (b : Nat) : Bool := !linkW ws (2 ^ ws.length - 1 - b)
end Go.Proofs.YtbmmcldbllhhhabDoor

/- Least sets of wires that link, and that cut. No program text. -/
set_option maxRecDepth 20000
namespace Go.Proofs.YtbmmcldbllhhhabDoor
open Go Go.Ip G

section
variable {nodes : Nat} {ws : List (Nat × Nat)} (hn : NetN nodes ws)
include hn
end

end Go.Proofs.YtbmmcldbllhhhabDoor

/- A further wire never harms who joins; with two wires between the ends the first one wins. No program text. -/
set_option maxRecDepth 20000
namespace Go.Proofs.YtbmmcldbllhhhabDoor
open Go Go.Ip G

theorem Conn.more {ws l : List (Nat × Nat)} {S u v : Nat} (h : Conn ws S u v) : Conn (ws ++ l) S u v := by
  have hg : ∀ {k : Nat} {w}, ws[k]? = some w → (ws ++ l)[k]? = some w := fun hw => by rw [List.getElem?_append_left (List.getElem?_eq_some_iff.1 hw).1]; exact hw
  induction h with
  | refl => exact .refl
  | fwd _ hw hs e ih => exact .fwd ih (hg hw) hs e
  | bwd _ hw hs e ih => exact .bwd ih (hg hw) hs e
theorem Conn.less {ws l : List (Nat × Nat)} {S u v : Nat} (hS : ∀ j, S.testBit j = true → j < ws.length) (h : Conn (ws ++ l) S u v) : Conn ws S u v := by
  have hg : ∀ {k : Nat} {w}, S.testBit k = true → (ws ++ l)[k]? = some w → ws[k]? = some w := fun hs hw => by rw [List.getElem?_append_left (hS _ hs)] at hw; exact hw
  induction h with
  | refl => exact .refl
  | fwd _ hw hs e ih => exact .fwd ih (hg hs hw) hs e
  | bwd _ hw hs e ih => exact .bwd ih (hg hs hw) hs e

end Go.Proofs.YtbmmcldbllhhhabDoor

/- The gap of wires: layers of nodes, by how many free wires must be taken to come to them. No program text. -/
set_option maxRecDepth 20000
namespace Go.Proofs.YtbmmcldbllhhhabDoor
open Go Go.Ip G

/-! ### as it is reckoned -/
/-! ### as sets of nodes -/
def Cr (ws : List (Nat × Nat)) (free : Nat) (S : Nat → Prop) (u : Nat) : Prop := ∃ k w, ws[k]? = some w ∧ free.testBit k = true ∧ ((u = w.1 ∧ S w.2) ∨ (u = w.2 ∧ S w.1))
def Ly (ws : List (Nat × Nat)) (own free : Nat) : Nat → Nat → Prop
  | 0, v => Conn ws own 0 v
  | c + 1, v => ∃ u, (Ly ws own free c u ∨ Cr ws free (Ly ws own free c) u) ∧ Conn ws own u v

section
variable {ws : List (Nat × Nat)} {own free : Nat}
theorem Ly.up {c v : Nat} (h : Ly ws own free c v) : Ly ws own free (c + 1) v := ⟨v, .inl h, .refl⟩
theorem Ly.closed {c v x : Nat} (h : Ly ws own free c v) (hx : Conn ws own v x) : Ly ws own free c x := by
  cases c with
  | zero => exact Conn.trans (show Conn ws own 0 v from h) hx
  | succ c =>
    obtain ⟨u, hu, hc⟩ := h
    exact ⟨u, hu, hc.trans hx⟩
theorem Ly.cross {c k : Nat} {w : Nat × Nat} (hw : ws[k]? = some w) (hf : free.testBit k = true) (h : Ly ws own free c w.1 ∨ Ly ws own free c w.2) : Ly ws own free (c + 1) w.1 ∧ Ly ws own free (c + 1) w.2 := by
  rcases h with h | h
  · exact ⟨h.up, w.2, .inr ⟨k, w, hw, hf, .inr ⟨rfl, h⟩⟩, .refl⟩
  · exact ⟨⟨w.1, .inr ⟨k, w, hw, hf, .inl ⟨rfl, h⟩⟩, .refl⟩, h.up⟩
theorem Cr.mono {S T : Nat → Prop} {f f' u : Nat} (hf : ∀ j, f.testBit j = true → f'.testBit j = true) (hS : ∀ v, S v → T v) (h : Cr ws f S u) : Cr ws f' T u := by
  obtain ⟨k, w, hw, hk, h⟩ := h
  refine ⟨k, w, hw, hf k hk, ?_⟩
  rcases h with ⟨h1, h2⟩ | ⟨h1, h2⟩
  · exact .inl ⟨h1, hS _ h2⟩
  · exact .inr ⟨h1, hS _ h2⟩
/-- With the free wires owned as well one comes to just what some layer holds. -/
theorem Ly.conn {c v : Nat} (h : Ly ws own free c v) : Conn ws (own ||| free) 0 v := by
  induction c generalizing v with
  | zero => exact Conn.mono (fun j hj => by rw [Nat.testBit_or, hj]; rfl) (show Conn ws own 0 v from h)
  | succ c ih =>
    obtain ⟨u, hu, hc⟩ := h
    have hc' : Conn ws (own ||| free) u v := hc.mono fun j hj => by rw [Nat.testBit_or, hj]; rfl
    refine Conn.trans ?_ hc'
    rcases hu with hu | ⟨k, w, hw, hk, h⟩
    · exact ih hu
    · have hb : (own ||| free).testBit k = true := by rw [Nat.testBit_or, hk, Bool.or_true]
      rcases h with ⟨rfl, h2⟩ | ⟨rfl, h2⟩
      · exact .bwd (ih h2) hw hb rfl
      · exact .fwd (ih h2) hw hb rfl
/-! ### a free wire that is taken -/
theorem closed_more {e : Nat} {we : Nat × Nat} (he : ws[e]? = some we) {S : Nat → Prop} (hS : ∀ v x, S v → Conn ws own v x → S x) (hw : S we.1 ↔ S we.2) {v x : Nat} (hv : S v) (hc : Conn ws (own ||| (1 <<< e)) v x) : S x := by
  induction hc with
  | refl => exact hv
  | fwd _ hk hs e' ih =>
    subst e'
    rw [with_bit, Bool.or_eq_true, decide_eq_true_eq] at hs
    rcases hs with hs | rfl
    · exact hS _ _ ih (.fwd .refl hk hs rfl)
    · obtain rfl := Option.some.inj (he.symm.trans hk)
      exact hw.1 ih
  | bwd _ hk hs e' ih =>
    subst e'
    rw [with_bit, Bool.or_eq_true, decide_eq_true_eq] at hs
    rcases hs with hs | rfl
    · exact hS _ _ ih (.bwd .refl hk hs rfl)
    · obtain rfl := Option.some.inj (he.symm.trans hk)
      exact hw.2 ih
theorem Ly.more {e : Nat} {we : Nat × Nat} (he : ws[e]? = some we) {c v : Nat} (h : Ly ws own free c v) : Ly ws (own ||| (1 <<< e)) (without free e) c v := by
  have hm : ∀ j, own.testBit j = true → (own ||| (1 <<< e)).testBit j = true := fun j hj => by rw [with_bit, hj]; rfl
  have hbe : (own ||| (1 <<< e)).testBit e = true := by rw [with_bit]; simp
  induction c generalizing v with
  | zero => exact Conn.mono hm (show Conn ws own 0 v from h)
  | succ c ih =>
    obtain ⟨u, hu, hc⟩ := h
    have hc' := hc.mono hm
    rcases hu with hu | ⟨k, w, hw, hk, h⟩
    · exact ⟨u, .inl (ih hu), hc'⟩
    · by_cases hke : k = e
      · subst hke
        obtain rfl := Option.some.inj (he.symm.trans hw)
        rcases h with ⟨rfl, h2⟩ | ⟨rfl, h2⟩
        · exact ⟨we.2, .inl (ih h2), (Conn.bwd .refl he hbe rfl).trans hc'⟩
        · exact ⟨we.1, .inl (ih h2), (Conn.fwd .refl he hbe rfl).trans hc'⟩
      · refine ⟨u, .inr ⟨k, w, hw, by rw [without_bit, hk]; simp [hke], ?_⟩, hc'⟩
        rcases h with ⟨h1, h2⟩ | ⟨h1, h2⟩
        · exact .inl ⟨h1, ih h2⟩
        · exact .inr ⟨h1, ih h2⟩
theorem Ly.less {e : Nat} {we : Nat × Nat} (he : ws[e]? = some we) (hfe : free.testBit e = true) : ∀ c : Nat, (∀ v, Ly ws (own ||| (1 <<< e)) (without free e) c v → Ly ws own free (c + 1) v) ∧ (¬ (Ly ws own free c we.1 ∨ Ly ws own free c we.2) → ∀ v, Ly ws (own ||| (1 <<< e)) (without free e) c v → Ly ws own free c v) := by
  have hfr : ∀ j, (without free e).testBit j = true → free.testBit j = true := fun j hj => by rw [without_bit, Bool.and_eq_true] at hj; exact hj.1
  intro c
  induction c with
  | zero =>
    by_cases ht : Ly ws own free 0 we.1 ∨ Ly ws own free 0 we.2
    · refine ⟨fun v hv => ?_, fun hn => (hn ht).elim⟩
      obtain ⟨t1, t2⟩ := Ly.cross he hfe ht
      exact closed_more (S := Ly ws own free 1) he (fun _ _ h hx => h.closed hx) ⟨fun _ => t2, fun _ => t1⟩ (Ly.up (c := 0) (show Conn ws own 0 0 from .refl)) (show Conn ws (own ||| (1 <<< e)) 0 v from hv)
    · have h2 : ∀ v, Ly ws (own ||| (1 <<< e)) (without free e) 0 v → Ly ws own free 0 v := fun v hv =>
        closed_more (S := Ly ws own free 0) he (fun _ _ h hx => h.closed hx) ⟨fun h => (ht (.inl h)).elim, fun h => (ht (.inr h)).elim⟩ (show Conn ws own 0 0 from .refl) (show Conn ws (own ||| (1 <<< e)) 0 v from hv)
      exact ⟨fun v hv => (h2 v hv).up, fun _ => h2⟩
  | succ c ih =>
    by_cases ht : Ly ws own free (c + 1) we.1 ∨ Ly ws own free (c + 1) we.2
    · refine ⟨fun v hv => ?_, fun hn => (hn ht).elim⟩
      obtain ⟨t1, t2⟩ := Ly.cross he hfe ht
      obtain ⟨u, hu, hc⟩ := hv
      refine closed_more (S := Ly ws own free (c + 2)) he (fun _ _ h hx => h.closed hx) ⟨fun _ => t2, fun _ => t1⟩ ?_ hc
      rcases hu with hu | hu
      · exact (ih.1 u hu).up
      · exact ⟨u, .inr (hu.mono hfr ih.1), .refl⟩
    · have hn : ¬ (Ly ws own free c we.1 ∨ Ly ws own free c we.2) := fun h => ht (h.imp Ly.up Ly.up)
      have h2 : ∀ v, Ly ws (own ||| (1 <<< e)) (without free e) (c + 1) v → Ly ws own free (c + 1) v := by
        rintro v ⟨u, hu, hc⟩
        refine closed_more (S := Ly ws own free (c + 1)) he (fun _ _ h hx => h.closed hx) ⟨fun h => (ht (.inl h)).elim, fun h => (ht (.inr h)).elim⟩ ?_ hc
        rcases hu with hu | hu
        · exact (ih.2 hn u hu).up
        · exact ⟨u, .inr (hu.mono hfr (ih.2 hn)), .refl⟩
      exact ⟨fun v hv => (h2 v hv).up, fun _ => h2⟩
end

/-! ### what is reckoned are the layers -/
theorem Conn.lt {nodes : Nat} {ws : List (Nat × Nat)} (hn : NetN nodes ws) {S u v : Nat} (hu : u < nodes) (h : Conn ws S u v) : v < nodes := by
  cases h with
  | refl => exact hu
  | fwd _ hw _ _ => exact (hn.2.2.2 _ (List.mem_of_getElem? hw)).2.1
  | bwd _ hw _ _ => exact (hn.2.2.2 _ (List.mem_of_getElem? hw)).1

section
variable {nodes : Nat} {ws : List (Nat × Nat)} (hn : NetN nodes ws) {own free : Nat}
include hn
theorem Ly.lt {c v : Nat} (h : Ly ws own free c v) : v < nodes := by
  have := hn.1
  exact Conn.lt hn (by omega) h.conn
end

end Go.Proofs.YtbmmcldbllhhhabDoor

