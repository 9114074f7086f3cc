/- Texts of this seat, in their order, put together by program. -/
import Derived.Test.YtocjdekcmhgjeaaDoorK6
import Derived.IntWalk
import Derived.Test.YtocjdekcmhgjeaaDoorProg
import Derived.KernelRfl
set_option linter.unusedSimpArgs false
set_option linter.unusedVariables false
set_option linter.unusedSectionVars false
/- What the operations come to on values that are written out: rules for the simplifier; and the types of this program. -/
set_option maxRecDepth 20000
namespace Go.Proofs.YtocjdekcmhgjeaaDoor
open Go Go.Ip

section
variable {P : Program} {t : TypeId} {k : IntKind} {a b : Int} {h : PHeap}

@[simp] theorem bin_add : binP P .add t (.int k a) (.int k b) = some (.int k (k.wrap (a + b))) := by simp [binP, binI]
@[simp] theorem bin_sub : binP P .sub t (.int k a) (.int k b) = some (.int k (k.wrap (a - b))) := by simp [binP, binI]
@[simp] theorem bin_mul : binP P .mul t (.int k a) (.int k b) = some (.int k (k.wrap (a * b))) := by simp [binP, binI]
theorem bin_quo (hb : b ≠ 0) : binP P .quo t (.int k a) (.int k b) = some (.int k (k.wrap (a.tdiv b))) := by simp [binP, binI, hb]
theorem bin_rem (hb : b ≠ 0) : binP P .rem t (.int k a) (.int k b) = some (.int k (a.tmod b)) := by simp [binP, binI, hb]
@[simp] theorem bin_eql : binP P .eql t (.int k a) (.int k b) = some (.bool (a == b)) := by simp [binP, binI]
@[simp] theorem bin_neq : binP P .neq t (.int k a) (.int k b) = some (.bool (a != b)) := by simp [binP, binI]
@[simp] theorem bin_lss : binP P .lss t (.int k a) (.int k b) = some (.bool (decide (a < b))) := by simp [binP, binI]
@[simp] theorem bin_leq : binP P .leq t (.int k a) (.int k b) = some (.bool (decide (a ≤ b))) := by simp [binP, binI]
@[simp] theorem bin_gtr : binP P .gtr t (.int k a) (.int k b) = some (.bool (decide (b < a))) := by simp [binP, binI]
@[simp] theorem bin_geq : binP P .geq t (.int k a) (.int k b) = some (.bool (decide (b ≤ a))) := by simp [binP, binI]
@[simp] theorem un_not {x : Bool} : unP .not (.bool x) = some (.bool (!x)) := rfl
@[simp] theorem un_neg : unP .neg (.int k a) = some (.int k (k.wrap (0 - a))) := rfl
@[simp] theorem pick_bool {x : Bool} {u v : PV} : pickP (.bool x) u v = some (bif x then u else v) := rfl
@[simp] theorem want_bool {x y : Bool} : wantV (.bool x) y = some (x == y) := rfl
@[simp] theorem want_undef {y : Bool} : wantV (.tup []) y = some false := rfl
@[simp] theorem cond_bool {x : Bool} {u v : Res} : condP (.bool x) u v = bif x then u else v := rfl
@[simp] theorem res_int : resV (.int k a) = some (.int k a) := rfl
@[simp] theorem res_bool {x : Bool} : resV (.bool x) = some (.bool x) := rfl
@[simp] theorem res_sl {i o l : Nat} : resV (.sl i o l) = some (.sl i o l) := rfl
@[simp] theorem res_nilsl : resV .nilsl = some .nilsl := rfl
@[simp] theorem res_ptr {i o : Nat} : resV (.ptr i o) = some (.ptr i o) := rfl
@[simp] theorem pv_some' {v : PV} : pv h (some v) = some (v, h) := rfl
@[simp] theorem ptr_ptr {i o : Nat} : ptrP (.ptr i o) = some (.ptr i o) := rfl
@[simp] theorem extract_tup {l : List PV} {i : Nat} : extractP (.tup l) i = l[i]? := rfl
@[simp] theorem fold_nil {f : PV → PV → Option PV} {x : PV} : foldP f x [] = some x := rfl
@[simp] theorem fold_cons {f : PV → PV → Option PV} {x y : PV} {ys : List PV} : foldP f x (y :: ys) = (f x y).bind fun z => foldP f z ys := rfl
@[simp] theorem max2_int {k' : IntKind} : maxP2 (.int k a) (.int k' b) = some (.int k (if b > a then b else a)) := rfl
@[simp] theorem min2_int {k' : IntKind} : minP2 (.int k a) (.int k' b) = some (.int k (if b < a then b else a)) := rfl
theorem wr {x : Int} (hx : -9223372036854775808 ≤ x ∧ x ≤ 9223372036854775807) : IntKind.i64.wrap x = x := by rw [IntKind.wrap_i64]; omega

theorem bin_eqlB {x y : Bool} (ht : isBoolT P t = true) : binP P .eql t (.bool x) (.bool y) = some (.bool (x == y)) := by simp [binP, ht]
theorem bin_neqB {x y : Bool} (ht : isBoolT P t = true) : binP P .neq t (.bool x) (.bool y) = some (.bool (!(x == y))) := by simp [binP, ht]
end

@[simp] theorem ty_bool : isBoolT Tryd.prog 4 = true := by kernel_rfl
@[simp] theorem neqB {x y : Bool} : binP Tryd.prog .neq 4 (.bool x) (.bool y) = some (.bool (!(x == y))) := bin_neqB ty_bool
@[simp] theorem eqlB {x y : Bool} : binP Tryd.prog .eql 4 (.bool x) (.bool y) = some (.bool (x == y)) := bin_eqlB ty_bool

end Go.Proofs.YtocjdekcmhgjeaaDoor

/- Slices of integers on the interpreter's heap: how they are read, made, written and appended to. -/
set_option maxRecDepth 20000
namespace Go.Proofs.YtocjdekcmhgjeaaDoor
open Go Go.Ip G

def kLoop (f : St → (PX → St → Res) → Res) (n : Nat) (k : PX → St → Res) : PX → St → Res := fun x s => match x with | .normal => loopK f n s k | x => k x s
theorem loopK_succ (f : St → (PX → St → Res) → Res) (n : Nat) (s : St) (k : PX → St → Res) : loopK f (n + 1) s k = f s (kLoop f n k) := rfl
@[simp] theorem kLoop_normal (f : St → (PX → St → Res) → Res) (n : Nat) (s : St) (k : PX → St → Res) : kLoop f n k .normal s = loopK f n s k := rfl
@[simp] theorem kLoop_exit (f : St → (PX → St → Res) → Res) (n i : Nat) (s : St) (k : PX → St → Res) : kLoop f n k (.exit i) s = k (.exit i) s := rfl
@[simp] theorem kLoop_ret (f : St → (PX → St → Res) → Res) (n : Nat) (s : St) (k : PX → St → Res) : kLoop f n k .ret s = k .ret s := rfl

/-- The first n objects are as they were. -/
def Keep (n : Nat) (h h' : PHeap) : Prop := h.length ≤ h'.length ∧ ∀ i, i < n → h'[i]? = h[i]?

theorem Keep.refl (n : Nat) (h : PHeap) : Keep n h h := ⟨Nat.le_refl _, fun _ _ => rfl⟩
theorem Keep.trans {n : Nat} {a b c : PHeap} (h : Keep n a b) (k : Keep n b c) : Keep n a c := ⟨Nat.le_trans h.1 k.1, fun i hi => (k.2 i hi).trans (h.2 i hi)⟩
theorem Keep.mono {n m : Nat} {a b : PHeap} (h : Keep n a b) (hm : m ≤ n) : Keep m a b := ⟨h.1, fun i hi => h.2 i (by omega)⟩
theorem Keep.append (n : Nat) (h E : PHeap) (hn : n ≤ h.length) : Keep n h (h ++ E) := ⟨by simp, fun i hi => List.getElem?_append_left (by omega)⟩
theorem Keep.set (n : Nat) (h : PHeap) (i : Nat) (o : PObj) (hi : n ≤ i) : Keep n h (h.set i o) := ⟨by simp, fun j hj => List.getElem?_set_ne (by omega)⟩

theorem cellsAt_keep {n : Nat} {h h' : PHeap} (k : Keep n h h') {id : Nat} (hi : id < n) : cellsAt h' id = cellsAt h id := by
  unfold cellsAt; rw [k.2 id hi]

theorem lt_of_cell {h : PHeap} {id j : Nat} {v : PV} (hv : (cellsAt h id)[j]? = some v) : id < h.length := by
  unfold cellsAt at hv
  cases ho : h[id]? with
  | none => rw [ho] at hv; simp at hv
  | some o => exact (List.getElem?_eq_some_iff.1 ho).1

theorem IntSl.keep {k : IntKind} {h h' : PHeap} {p : PV} {xs : List Int} (s : IntSl k h p xs) (hk : Keep h.length h h') : IntSl k h' p xs := by
  rcases s with s | ⟨id, off, hp, hc⟩
  · exact .inl s
  · exact .inr ⟨id, off, hp, fun i x hx => by rw [cellsAt_keep hk (lt_of_cell (hc i x hx))]; exact hc i x hx⟩

theorem IntSl.nil (k : IntKind) (h : PHeap) : IntSl k h .nilsl [] := .inl ⟨rfl, rfl⟩

section
variable {P : Program} {T I : TypeId}

theorem IntSl.len {k : IntKind} {h : PHeap} {p : PV} {xs : List Int} (s : IntSl k h p xs) (hT : P.underlying T = some (.slice I)) : lenP P T p = some (.int .i64 xs.length) := by
  rcases s with ⟨rfl, rfl⟩ | ⟨id, off, rfl, hc⟩ <;> simp [lenP, hT]

theorem IntSl.at {k : IntKind} {h : PHeap} {p : PV} {xs : List Int} (s : IntSl k h p xs) (hT : P.underlying T = some (.slice I)) (hS : sizeT P I = some 1) (hA : isAggT P I = some false) {i : Nat} (hi : i < xs.length) :
    ∃ a, indexAddrP P T p (.int .i64 i) = some a ∧ loadP P I a h = some (.int k xs[i]) := by
  rcases s with ⟨rfl, rfl⟩ | ⟨id, off, rfl, hc⟩
  · simp at hi
  · refine ⟨.ptr id (off + i), ?_, ?_⟩
    · simp [indexAddrP, hT, hS, hi]
    · simp only [loadP, hA]
      exact hc i _ (List.getElem?_eq_getElem hi)
end

/-- A slice of integers that the call itself made, from object n on. -/
def OwnSl (n : Nat) (h : PHeap) (p : PV) (xs : List Int) : Prop :=
  (p = .nilsl ∧ xs = []) ∨ ∃ id, n ≤ id ∧ p = .sl id 0 xs.length ∧ h[id]? = some (.own 1 (xs.map (.int .i64)))

theorem OwnSl.int {n : Nat} {h : PHeap} {p : PV} {xs : List Int} (s : OwnSl n h p xs) : IntSl .i64 h p xs := by
  rcases s with s | ⟨id, _, hp, ho⟩
  · exact .inl s
  · refine .inr ⟨id, 0, hp, fun i x hx => ?_⟩
    simp [cellsAt, ho, PObj.get, hx]

theorem OwnSl.mono {n m : Nat} {h : PHeap} {p : PV} {xs : List Int} (s : OwnSl n h p xs) (hm : m ≤ n) : OwnSl m h p xs := by
  rcases s with s | ⟨id, h1, h2⟩
  · exact .inl s
  · exact .inr ⟨id, by omega, h2⟩

theorem OwnSl.keep {n : Nat} {h h' : PHeap} {p : PV} {xs : List Int} (s : OwnSl n h p xs) (hk : Keep h.length h h') : OwnSl n h' p xs := by
  rcases s with s | ⟨id, h1, h2, h3⟩
  · exact .inl s
  · exact .inr ⟨id, h1, h2, by rw [hk.2 id (List.getElem?_eq_some_iff.1 h3).1]; exact h3⟩

theorem OwnSl.nil (n : Nat) (h : PHeap) : OwnSl n h .nilsl [] := .inl ⟨rfl, rfl⟩

theorem tyS : Tryd.prog.underlying 23 = some (.slice 3) := by kernel_rfl
theorem tySize : sizeT Tryd.prog 3 = some 1 := by kernel_rfl
theorem tyAgg : isAggT Tryd.prog 3 = some false := by kernel_rfl
theorem tyElem : elemT Tryd.prog 23 = some 3 := by kernel_rfl
theorem tyZero : zeroCellsT Tryd.prog 3 = some [.int .i64 0] := by kernel_rfl
theorem tySmall : smallT Tryd.prog 3 = true := by kernel_rfl

theorem IntSl.len' {k : IntKind} {h : PHeap} {p : PV} {xs : List Int} (s : IntSl k h p xs) : lenP Tryd.prog 23 p = some (.int .i64 xs.length) := s.len tyS
theorem IntSl.at' {k : IntKind} {h : PHeap} {p : PV} {xs : List Int} (s : IntSl k h p xs) {i : Nat} (hi : i < xs.length) :
    ∃ a, indexAddrP Tryd.prog 23 p (.int .i64 i) = some a ∧ loadP Tryd.prog 3 a h = some (.int k xs[i]) := s.at tyS tySize tyAgg hi

theorem OwnSl.store {n : Nat} {h : PHeap} {p : PV} {xs : List Int} (s : OwnSl n h p xs) {i : Nat} (hi : i < xs.length) (x : Int) :
    ∃ a h', indexAddrP Tryd.prog 23 p (.int .i64 i) = some a ∧ storeP Tryd.prog 3 a (.int .i64 x) h = some h' ∧ OwnSl n h' p (xs.set i x) ∧ Keep n h h' ∧ h'.length = h.length := by
  rcases s with ⟨rfl, rfl⟩ | ⟨id, h1, rfl, h3⟩
  · simp at hi
  · have hid : id < h.length := (List.getElem?_eq_some_iff.1 h3).1
    refine ⟨.ptr id (0 + i), h.set id (.own 1 ((xs.set i x).map (.int .i64))), by simp [indexAddrP, tySize, hi], ?_, .inr ⟨id, h1, by simp, by rw [List.getElem?_set_self hid]⟩, Keep.set _ _ _ _ h1, by simp⟩
    simp only [storeP, h3, PV.cells, tySize, Nat.zero_add]
    rw [if_pos ⟨rfl, by simp; omega⟩]
    simp [setCells, List.map_set]

/-- What 'make' gives. -/
theorem made {h : PHeap} {m : Nat} (hm : m ≤ 2 ^ 36) : ∃ p h', makeP Tryd.prog 23 (.int .i64 m) (.int .i64 m) h = some (p, h') ∧ OwnSl h.length h' p (List.replicate m 0) ∧ Keep h.length h h' := by
  refine ⟨.sl h.length 0 m, h ++ [.own 1 ((List.replicate m 0).map (.int .i64))], ?_, .inr ⟨h.length, Nat.le_refl _, by simp, by simp⟩, Keep.append _ _ _ (Nat.le_refl _)⟩
  have hrep : ∀ k : Nat, repeatCells [PV.int .i64 0] k = (List.replicate k (0 : Int)).map (.int .i64) := by
    intro k
    induction k with
    | zero => rfl
    | succ k ih => rw [repeatCells, ih, List.replicate_succ]; rfl
  have hm' : (m : Int) ≤ 68719476736 := by omega
  simp [makeP, tyElem, tySize, tyZero, tySmall, hm', hrep]

/-- One element more. -/
theorem OwnSl.append {n : Nat} {h : PHeap} {p : PV} {xs : List Int} (s : OwnSl n h p xs) (hn : n ≤ h.length) (x : Int) (hl : xs.length + 1 ≤ 2 ^ 36) :
    ∃ v p' h', buildSliceP Tryd.prog 23 1 [(0, .int .i64 x)] h = some v ∧ appendP Tryd.prog 23 23 p v.1 v.2 = some (p', h') ∧ OwnSl n h' p' (xs ++ [x]) ∧ Keep n h h' := by
  have hb : buildSliceP Tryd.prog 23 1 [(0, .int .i64 x)] h = some (.sl h.length 0 1, h ++ [.own 1 [.int .i64 x]]) := by
    simp [buildSliceP, tyElem, tySize, tyZero, repeatCells, fillP, PV.cells, setCells]
  have hsrc : srcP (h ++ [.own 1 [.int .i64 x]]) 1 (.sl h.length 0 1) = some (1, [.int .i64 x]) := by
    simp [srcP, cellsAt, PObj.get]
  rcases s with ⟨rfl, rfl⟩ | ⟨id, h1, rfl, h3⟩
  · refine ⟨_, .sl (h.length + 1) 0 1, h ++ [.own 1 [.int .i64 x]] ++ [.own 1 [.int .i64 x]], hb, ?_, .inr ⟨h.length + 1, by omega, rfl, ?_⟩, ?_⟩
    · simp [appendP, tyElem, tySize, tySmall, hsrc]
    · rw [List.getElem?_append_right (by simp)]; simp
    · rw [List.append_assoc]; exact Keep.append _ _ _ hn
  · have hid : id < h.length := (List.getElem?_eq_some_iff.1 h3).1
    have h3' : (h ++ [PObj.own 1 [.int .i64 x]])[id]? = some (.own 1 (xs.map (.int .i64))) := by rw [List.getElem?_append_left hid]; exact h3
    refine ⟨_, .sl (h.length + 1) 0 (xs.length + 1), ((h ++ [PObj.own 1 [.int .i64 x]]).set id .dead ++ [PObj.own 1 (xs.map (.int .i64) ++ [.int .i64 x])]), hb, ?_, .inr ⟨h.length + 1, by omega, by simp, ?_⟩, ?_⟩
    · simp [appendP, tyElem, tySize, tySmall, hsrc, h3', hl]
    · rw [List.getElem?_append_right (by simp)]; simp
    · exact ((Keep.append n h _ hn).trans (Keep.set n _ id .dead h1)).trans (Keep.append _ _ _ (by simp; omega))

/-- An empty literal. -/
theorem empty_lit {h : PHeap} : ∃ p h', buildSliceP Tryd.prog 23 0 [] h = some (p, h') ∧ OwnSl h.length h' p [] ∧ Keep h.length h h' := by
  refine ⟨.sl h.length 0 0, h ++ [.own 1 []], by simp [buildSliceP, tyElem, tySize, tyZero, repeatCells, fillP], .inr ⟨h.length, Nat.le_refl _, rfl, by simp⟩, Keep.append _ _ _ (Nat.le_refl _)⟩

theorem nx {i : Nat} (hi : i < 2 ^ 40) : IntKind.i64.wrap ((i : Int) + 1) = ((i + 1 : Nat) : Int) := by
  rw [wr (by omega)]; rfl

end Go.Proofs.YtocjdekcmhgjeaaDoor

/- Of each function of this seat's program its plain form over the interpreter, written by program; each equation is the kernel's. -/
set_option linter.unusedVariables false
set_option maxRecDepth 100000
namespace Go.Proofs.YtocjdekcmhgjeaaDoor.G
open Go Go.Ip Go.Proofs

namespace laws_FnReverseWinner
noncomputable def main (E : Env) (x0 : PV) (h : PHeap) : Res :=
    (E.p.len 22 x0).bind fun v1 =>
    (E.p.bin .gtr 3 v1 (.int .i64 1048576)).bind fun v2 =>
    condP v2
     (
      (resV (.bool true)).bind fun v3 =>
      some (v3, h))
     (
      (E.C fn_spec_DrawReverseWinner [x0] h).bind fun v4 =>
      (E.p.extract v4.1 0).bind fun v5 =>
      (E.p.extract v4.1 1).bind fun v6 =>
      (E.p.extract v4.1 2).bind fun v7 =>
      (E.p.extract v4.1 3).bind fun v8 =>
      (E.C fn_impl_ReverseWinner [v5, v6, v7, v8] v4.2).bind fun v9 =>
      (E.C fn_spec_ReverseWinner [v5, v6, v7, v8] v9.2).bind fun v10 =>
      (E.p.bin .neq 3 v9.1 v10.1).bind fun v11 =>
      condP v11
       (
        (resV (.bool false)).bind fun v12 =>
        some (v12, v10.2))
       (
        (E.C fn_spec_PositionOk [v5, v6, v7] v10.2).bind fun v13 =>
        (E.p.un .not v13.1).bind fun v14 =>
        (wantV v14 false).bind fun v15 =>
        (bif v15 then some (v8, v13.2) else some (.tup [], v13.2)).bind fun v16 =>
        (wantV v14 false).bind fun v17 =>
        (bif v17 then pv v16.2 (E.p.bin .gtr 3 v16.1 (.int .i64 2)) else some (.tup [], v16.2)).bind fun v18 =>
        (E.p.pick v14 (.bool true) v18.1).bind fun v19 =>
        condP v19
         (
          (E.p.bin .eql 3 v9.1 (.int .i64 0)).bind fun v20 =>
          (wantV v20 true).bind fun v21 =>
          (bif v21 then E.C fn_laws_alive [] v18.2 else some (.tup [], v18.2)).bind fun v22 =>
          (E.p.pick v20 v22.1 (.bool false)).bind fun v23 =>
          (resV v23).bind fun v24 =>
          some (v24, v22.2))
         (
          (E.p.bin .eql 3 v9.1 (.int .i64 1)).bind fun v25 =>
          (wantV v25 false).bind fun v26 =>
          (bif v26 then some (v9.1, v18.2) else some (.tup [], v18.2)).bind fun v27 =>
          (wantV v25 false).bind fun v28 =>
          (bif v28 then pv v27.2 (E.p.bin .eql 3 v27.1 (.int .i64 2)) else some (.tup [], v27.2)).bind fun v29 =>
          (E.p.pick v25 (.bool true) v29.1).bind fun v30 =>
          (wantV v30 true).bind fun v31 =>
          (bif v31 then some (v5, v29.2) else some (.tup [], v29.2)).bind fun v32 =>
          (wantV v30 true).bind fun v33 =>
          (bif v33 then some (v6, v32.2) else some (.tup [], v32.2)).bind fun v34 =>
          (wantV v30 true).bind fun v35 =>
          (bif v35 then some (v5, v34.2) else some (.tup [], v34.2)).bind fun v36 =>
          (wantV v30 true).bind fun v37 =>
          (bif v37 then some (v6, v36.2) else some (.tup [], v36.2)).bind fun v38 =>
          (wantV v30 true).bind fun v39 =>
          (bif v39 then some (v7, v38.2) else some (.tup [], v38.2)).bind fun v40 =>
          (wantV v30 true).bind fun v41 =>
          (bif v41 then E.C fn_impl_HalfTurned [v36.1, v38.1, v40.1] v40.2 else some (.tup [], v40.2)).bind fun v42 =>
          (wantV v30 true).bind fun v43 =>
          (bif v43 then some (v8, v42.2) else some (.tup [], v42.2)).bind fun v44 =>
          (wantV v30 true).bind fun v45 =>
          (bif v45 then E.C fn_impl_ReverseWinner [v32.1, v34.1, v42.1, v44.1] v44.2 else some (.tup [], v44.2)).bind fun v46 =>
          (wantV v30 true).bind fun v47 =>
          (bif v47 then some (v9.1, v46.2) else some (.tup [], v46.2)).bind fun v48 =>
          (wantV v30 true).bind fun v49 =>
          (bif v49 then pv v48.2 (E.p.bin .eql 3 v46.1 v48.1) else some (.tup [], v48.2)).bind fun v50 =>
          (E.p.pick v30 v50.1 (.bool false)).bind fun v51 =>
          (wantV v51 true).bind fun v52 =>
          (bif v52 then some (v6, v50.2) else some (.tup [], v50.2)).bind fun v53 =>
          (wantV v51 true).bind fun v54 =>
          (bif v54 then some (v5, v53.2) else some (.tup [], v53.2)).bind fun v55 =>
          (wantV v51 true).bind fun v56 =>
          (bif v56 then some (v5, v55.2) else some (.tup [], v55.2)).bind fun v57 =>
          (wantV v51 true).bind fun v58 =>
          (bif v58 then some (v6, v57.2) else some (.tup [], v57.2)).bind fun v59 =>
          (wantV v51 true).bind fun v60 =>
          (bif v60 then some (v7, v59.2) else some (.tup [], v59.2)).bind fun v61 =>
          (wantV v51 true).bind fun v62 =>
          (bif v62 then E.C fn_impl_Mirrored [v57.1, v59.1, v61.1] v61.2 else some (.tup [], v61.2)).bind fun v63 =>
          (wantV v51 true).bind fun v64 =>
          (bif v64 then some ((.int .i64 3), v63.2) else some (.tup [], v63.2)).bind fun v65 =>
          (wantV v51 true).bind fun v66 =>
          (bif v66 then some (v8, v65.2) else some (.tup [], v65.2)).bind fun v67 =>
          (wantV v51 true).bind fun v68 =>
          (bif v68 then pv v67.2 (E.p.bin .sub 3 v65.1 v67.1) else some (.tup [], v67.2)).bind fun v69 =>
          (wantV v51 true).bind fun v70 =>
          (bif v70 then E.C fn_impl_ReverseWinner [v53.1, v55.1, v63.1, v69.1] v69.2 else some (.tup [], v69.2)).bind fun v71 =>
          (wantV v51 true).bind fun v72 =>
          (bif v72 then some ((.int .i64 3), v71.2) else some (.tup [], v71.2)).bind fun v73 =>
          (wantV v51 true).bind fun v74 =>
          (bif v74 then some (v9.1, v73.2) else some (.tup [], v73.2)).bind fun v75 =>
          (wantV v51 true).bind fun v76 =>
          (bif v76 then pv v75.2 (E.p.bin .sub 3 v73.1 v75.1) else some (.tup [], v75.2)).bind fun v77 =>
          (wantV v51 true).bind fun v78 =>
          (bif v78 then pv v77.2 (E.p.bin .eql 3 v71.1 v77.1) else some (.tup [], v77.2)).bind fun v79 =>
          (E.p.pick v51 v79.1 (.bool false)).bind fun v80 =>
          (resV v80).bind fun v81 =>
          some (v81, v79.2))))
theorem main_eq (E : Env) (x0 : PV) (h : PHeap) : runBody (E.cx Tryd.prog kl) Tryd.f3 [x0] h = main E x0 h := by kernel_rfl
theorem call_eq (g : Nat → PV) (lf n : Nat) (x0 : PV) (h : PHeap) : CL g lf (n + 1) fn_laws_FnReverseWinner [x0] h = main (env g lf n) x0 h := by
  rw [← main_eq]
  show call Tryd.prog g KL lf (n + 1) 3 [x0] h = _
  rw [call_succ, Tryd.func3]
  kernel_rfl
end laws_FnReverseWinner
namespace laws_FnSafeCells
noncomputable def lp0 : Code := (codeAt (bodyOf Tryd.f4) [1, 1, 1, 1, 1, 1, 1, 0, 1, 0, 0])
def st0 (x3 x4 x5 x6 x7 x8 x9 : PV) (h : PHeap) : St := ⟨[.junk, .junk, .junk, x3, x4, x5, x6, x7, x8, x9, .junk, .junk, .junk, .junk, .junk, .junk, .junk, .junk, .junk, .junk, .junk, .junk, .junk, .junk, .junk, .junk, .junk, .junk, .junk, .junk, .junk, .junk, .junk, .junk, .junk, .junk, .junk, .junk, .junk, .junk, .junk, .junk, .junk, .junk, .junk, .junk, .junk, .junk, .junk, .junk, .junk, .junk, .junk, .junk, .junk, .junk, .junk, .junk, .junk, .junk, .junk, .junk, .junk, .junk, .junk, .junk, .junk, .junk, .junk, .junk, .junk, .junk, .junk, .junk, .junk, .junk, .junk, .junk, .junk, .junk, .junk, .junk, .junk, .junk, .junk, .junk, .junk, .junk, .junk, .junk, .junk, .junk, .junk, .junk, .junk, .junk, .junk, .junk, .junk, .junk, .junk, .junk, .junk, .junk, .junk, .junk, .junk, .junk, .junk, .junk, .junk, .junk, .junk, .junk, .junk, .junk, .junk, .junk, .junk, .junk, .junk], h⟩
def sr_2 (x2 : PV) (h : PHeap) : St := ⟨[.junk, .junk, x2, .junk, .junk, .junk, .junk, .junk, .junk, .junk, .junk, .junk, .junk, .junk, .junk, .junk, .junk, .junk, .junk, .junk, .junk, .junk, .junk, .junk, .junk, .junk, .junk, .junk, .junk, .junk, .junk, .junk, .junk, .junk, .junk, .junk, .junk, .junk, .junk, .junk, .junk, .junk, .junk, .junk, .junk, .junk, .junk, .junk, .junk, .junk, .junk, .junk, .junk, .junk, .junk, .junk, .junk, .junk, .junk, .junk, .junk, .junk, .junk, .junk, .junk, .junk, .junk, .junk, .junk, .junk, .junk, .junk, .junk, .junk, .junk, .junk, .junk, .junk, .junk, .junk, .junk, .junk, .junk, .junk, .junk, .junk, .junk, .junk, .junk, .junk, .junk, .junk, .junk, .junk, .junk, .junk, .junk, .junk, .junk, .junk, .junk, .junk, .junk, .junk, .junk, .junk, .junk, .junk, .junk, .junk, .junk, .junk, .junk, .junk, .junk, .junk, .junk, .junk, .junk, .junk, .junk], h⟩
def se0_3_4_5_6_7_8_9_56 (x3 x4 x5 x6 x7 x8 x9 x56 : PV) (h : PHeap) : St := ⟨[.junk, .junk, .junk, x3, x4, x5, x6, x7, x8, x9, .junk, .junk, .junk, .junk, .junk, .junk, .junk, .junk, .junk, .junk, .junk, .junk, .junk, .junk, .junk, .junk, .junk, .junk, .junk, .junk, .junk, .junk, .junk, .junk, .junk, .junk, .junk, .junk, .junk, .junk, .junk, .junk, .junk, .junk, .junk, .junk, .junk, .junk, .junk, .junk, .junk, .junk, .junk, .junk, .junk, .junk, x56, .junk, .junk, .junk, .junk, .junk, .junk, .junk, .junk, .junk, .junk, .junk, .junk, .junk, .junk, .junk, .junk, .junk, .junk, .junk, .junk, .junk, .junk, .junk, .junk, .junk, .junk, .junk, .junk, .junk, .junk, .junk, .junk, .junk, .junk, .junk, .junk, .junk, .junk, .junk, .junk, .junk, .junk, .junk, .junk, .junk, .junk, .junk, .junk, .junk, .junk, .junk, .junk, .junk, .junk, .junk, .junk, .junk, .junk, .junk, .junk, .junk, .junk, .junk, .junk], h⟩
noncomputable def K0 (E : Env) (K : PX → St → Res) : PX → St → Res := (kBlock 0 (kSeq (ev (E.cx Tryd.prog kl) (codeAt (bodyOf Tryd.f4) [1, 1, 1, 1, 1, 1, 1, 1])) K))
@[simp] theorem K0_ret (E : Env) (K : PX → St → Res) (s : St) : K0 E K .ret s = K .ret s := by kernel_rfl
noncomputable def body0 (E : Env) (K : PX → St → Res) (x3 x4 x5 x6 x7 x8 x9 : PV) (h : PHeap) : Res :=
    (E.p.len 23 x5).bind fun v109 =>
    (E.p.bin .lss 3 x9 v109).bind fun v110 =>
    condP v110
     (
      (E.C fn_impl_Played [x3, x4, x5, x9, x6] h).bind fun v111 =>
      (E.p.extract v111.1 0).bind fun v112 =>
      (E.p.extract v111.1 1).bind fun v113 =>
      (wantV v113 true).bind fun v114 =>
      (bif v114 then some (x3, v111.2) else some (.tup [], v111.2)).bind fun v115 =>
      (wantV v113 true).bind fun v116 =>
      (bif v116 then some (x4, v115.2) else some (.tup [], v115.2)).bind fun v117 =>
      (wantV v113 true).bind fun v118 =>
      (bif v118 then some (v112, v117.2) else some (.tup [], v117.2)).bind fun v119 =>
      (wantV v113 true).bind fun v120 =>
      (bif v120 then some (x8, v119.2) else some (.tup [], v119.2)).bind fun v121 =>
      (wantV v113 true).bind fun v122 =>
      (bif v122 then E.C fn_impl_ReverseWinner [v115.1, v117.1, v119.1, v121.1] v121.2 else some (.tup [], v121.2)).bind fun v123 =>
      (wantV v113 true).bind fun v124 =>
      (bif v124 then some (x6, v123.2) else some (.tup [], v123.2)).bind fun v125 =>
      (wantV v113 true).bind fun v126 =>
      (bif v126 then pv v125.2 (E.p.bin .eql 3 v123.1 v125.1) else some (.tup [], v125.2)).bind fun v127 =>
      (E.p.pick v113 v127.1 (.bool false)).bind fun v128 =>
      (E.C fn_laws_hasInt [x7, x9] v127.2).bind fun v129 =>
      (E.p.bin .neq 4 v128 v129.1).bind fun v130 =>
      condP v130
       (
        K .ret (sr_2 (.bool false) v129.2))
       (
        (E.p.bin .add 3 x9 (.int .i64 1)).bind fun v131 =>
        K .normal (st0 x3 x4 x5 x6 x7 x8 v131 v129.2)))
     (
      K (.exit 0) (se0_3_4_5_6_7_8_9_56 x3 x4 x5 x6 x7 x8 x9 v110 h))
theorem body0_eq (E : Env) (K : PX → St → Res) (x3 x4 x5 x6 x7 x8 x9 : PV) (h : PHeap) : ev (E.cx Tryd.prog kl) lp0 (st0 x3 x4 x5 x6 x7 x8 x9 h) K = body0 E K x3 x4 x5 x6 x7 x8 x9 h := by kernel_rfl
theorem after0_se0_3_4_5_6_7_8_9_56 (E : Env) (x3 x4 x5 x6 x7 x8 x9 x56 : PV) (h : PHeap) : K0 E (kTop Tryd.prog Tryd.f4) (.exit 0) (se0_3_4_5_6_7_8_9_56 x3 x4 x5 x6 x7 x8 x9 x56 h) =
    (E.C fn_impl_Joins [x3, x4, x5, x6] h).bind fun v51 =>
    (wantV v51.1 false).bind fun v52 =>
    (bif v52 then some (x3, v51.2) else some (.tup [], v51.2)).bind fun v53 =>
    (wantV v51.1 false).bind fun v54 =>
    (bif v54 then some (x4, v53.2) else some (.tup [], v53.2)).bind fun v55 =>
    (wantV v51.1 false).bind fun v56 =>
    (bif v56 then some (x5, v55.2) else some (.tup [], v55.2)).bind fun v57 =>
    (wantV v51.1 false).bind fun v58 =>
    (bif v58 then some (x8, v57.2) else some (.tup [], v57.2)).bind fun v59 =>
    (wantV v51.1 false).bind fun v60 =>
    (bif v60 then E.C fn_impl_Joins [v53.1, v55.1, v57.1, v59.1] v59.2 else some (.tup [], v59.2)).bind fun v61 =>
    (E.p.pick v51.1 (.bool true) v61.1).bind fun v62 =>
    (E.C fn_laws_ascend [x7] v61.2).bind fun v63 =>
    (wantV v63.1 true).bind fun v64 =>
    (bif v64 then some (v62, v63.2) else some (.tup [], v63.2)).bind fun v65 =>
    (wantV v63.1 true).bind fun v66 =>
    (bif v66 then some (v65.1, v65.2) else some (.tup [], v65.2)).bind fun v67 =>
    (wantV v67.1 false).bind fun v68 =>
    (bif v68 then some (x7, v67.2) else some (.tup [], v67.2)).bind fun v69 =>
    (wantV v67.1 false).bind fun v70 =>
    (bif v70 then pv v69.2 (E.p.len 23 v69.1) else some (.tup [], v69.2)).bind fun v71 =>
    (wantV v67.1 false).bind fun v72 =>
    (bif v72 then pv v71.2 (E.p.bin .gtr 3 v71.1 (.int .i64 0)) else some (.tup [], v71.2)).bind fun v73 =>
    (wantV v67.1 false).bind fun v74 =>
    (bif v74 then some (x3, v73.2) else some (.tup [], v73.2)).bind fun v75 =>
    (wantV v67.1 false).bind fun v76 =>
    (bif v76 then some (x4, v75.2) else some (.tup [], v75.2)).bind fun v77 =>
    (wantV v67.1 false).bind fun v78 =>
    (bif v78 then some (x5, v77.2) else some (.tup [], v77.2)).bind fun v79 =>
    (wantV v67.1 false).bind fun v80 =>
    (bif v80 then some (x6, v79.2) else some (.tup [], v79.2)).bind fun v81 =>
    (wantV v67.1 false).bind fun v82 =>
    (bif v82 then E.C fn_impl_ReverseWinner [v75.1, v77.1, v79.1, v81.1] v81.2 else some (.tup [], v81.2)).bind fun v83 =>
    (wantV v67.1 false).bind fun v84 =>
    (bif v84 then some (x6, v83.2) else some (.tup [], v83.2)).bind fun v85 =>
    (wantV v67.1 false).bind fun v86 =>
    (bif v86 then pv v85.2 (E.p.bin .eql 3 v83.1 v85.1) else some (.tup [], v85.2)).bind fun v87 =>
    (wantV v67.1 false).bind fun v88 =>
    (bif v88 then pv v87.2 (E.p.bin .eql 4 v73.1 v87.1) else some (.tup [], v87.2)).bind fun v89 =>
    (wantV v63.1 true).bind fun v90 =>
    (bif v90 then pv v89.2 (E.p.pick v67.1 (.bool true) v89.1) else some (.tup [], v89.2)).bind fun v91 =>
    (E.p.pick v63.1 v91.1 (.bool false)).bind fun v92 =>
    (wantV v92 true).bind fun v93 =>
    (bif v93 then some (v62, v91.2) else some (.tup [], v91.2)).bind fun v94 =>
    (wantV v92 true).bind fun v95 =>
    (bif v95 then pv v94.2 (E.p.un .not v94.1) else some (.tup [], v94.2)).bind fun v96 =>
    (wantV v92 true).bind fun v97 =>
    (bif v97 then some (v96.1, v96.2) else some (.tup [], v96.2)).bind fun v98 =>
    (wantV v98.1 false).bind fun v99 =>
    (bif v99 then some (x7, v98.2) else some (.tup [], v98.2)).bind fun v100 =>
    (wantV v98.1 false).bind fun v101 =>
    (bif v101 then pv v100.2 (E.p.len 23 v100.1) else some (.tup [], v100.2)).bind fun v102 =>
    (wantV v98.1 false).bind fun v103 =>
    (bif v103 then pv v102.2 (E.p.bin .eql 3 v102.1 (.int .i64 0)) else some (.tup [], v102.2)).bind fun v104 =>
    (wantV v92 true).bind fun v105 =>
    (bif v105 then pv v104.2 (E.p.pick v98.1 (.bool true) v104.1) else some (.tup [], v104.2)).bind fun v106 =>
    (E.p.pick v92 v106.1 (.bool false)).bind fun v107 =>
    (resV v107).bind fun v108 =>
    some (v108, v106.2) := by kernel_rfl
theorem top_sr_2 (x2 : PV) (h : PHeap) : kTop Tryd.prog Tryd.f4 .ret (sr_2 x2 h) =
    (resV x2).bind fun v132 =>
    some (v132, h) := by kernel_rfl
noncomputable def main (E : Env) (x0 : PV) (h : PHeap) : Res :=
    (E.p.len 22 x0).bind fun v1 =>
    (E.p.bin .gtr 3 v1 (.int .i64 1048576)).bind fun v2 =>
    condP v2
     (
      (resV (.bool true)).bind fun v3 =>
      some (v3, h))
     (
      (E.C fn_spec_DrawSafeCells [x0] h).bind fun v4 =>
      (E.p.extract v4.1 0).bind fun v5 =>
      (E.p.extract v4.1 1).bind fun v6 =>
      (E.p.extract v4.1 2).bind fun v7 =>
      (E.p.extract v4.1 3).bind fun v8 =>
      (E.C fn_impl_SafeCells [v5, v6, v7, v8] v4.2).bind fun v9 =>
      (E.C fn_spec_SafeCells [v5, v6, v7, v8] v9.2).bind fun v10 =>
      (E.C fn_laws_sameInts [v9.1, v10.1] v10.2).bind fun v11 =>
      (E.p.un .not v11.1).bind fun v12 =>
      condP v12
       (
        (resV (.bool false)).bind fun v13 =>
        some (v13, v11.2))
       (
        (E.C fn_spec_PositionOk [v5, v6, v7] v11.2).bind fun v14 =>
        (E.p.un .not v14.1).bind fun v15 =>
        (wantV v15 false).bind fun v16 =>
        (bif v16 then some (v8, v14.2) else some (.tup [], v14.2)).bind fun v17 =>
        (wantV v15 false).bind fun v18 =>
        (bif v18 then pv v17.2 (E.p.bin .gtr 3 v17.1 (.int .i64 2)) else some (.tup [], v17.2)).bind fun v19 =>
        (E.p.pick v15 (.bool true) v19.1).bind fun v20 =>
        condP v20
         (
          (E.p.len 23 v9.1).bind fun v21 =>
          (E.p.bin .eql 3 v21 (.int .i64 0)).bind fun v22 =>
          (wantV v22 true).bind fun v23 =>
          (bif v23 then E.C fn_laws_alive [] v19.2 else some (.tup [], v19.2)).bind fun v24 =>
          (E.p.pick v22 v24.1 (.bool false)).bind fun v25 =>
          (resV v25).bind fun v26 =>
          some (v26, v24.2))
         (
          (E.p.bin .sub 3 (.int .i64 3) v8).bind fun v27 =>
          loopK (ev (E.cx Tryd.prog laws_FnSafeCells.kl) laws_FnSafeCells.lp0) E.lf (laws_FnSafeCells.st0 v5 v6 v7 v8 v9.1 v27 (.int .i64 0) v19.2) (laws_FnSafeCells.K0 E (kTop Tryd.prog Tryd.f4)))))
theorem main_eq (E : Env) (x0 : PV) (h : PHeap) : runBody (E.cx Tryd.prog kl) Tryd.f4 [x0] h = main E x0 h := by kernel_rfl
theorem call_eq (g : Nat → PV) (lf n : Nat) (x0 : PV) (h : PHeap) : CL g lf (n + 1) fn_laws_FnSafeCells [x0] h = main (env g lf n) x0 h := by
  rw [← main_eq]
  show call Tryd.prog g KL lf (n + 1) 4 [x0] h = _
  rw [call_succ, Tryd.func4]
  kernel_rfl
end laws_FnSafeCells
namespace laws_FnSquareReverse
noncomputable def main (E : Env) (x0 : PV) (h : PHeap) : Res :=
    (E.p.len 22 x0).bind fun v1 =>
    (E.p.bin .gtr 3 v1 (.int .i64 1048576)).bind fun v2 =>
    condP v2
     (
      (resV (.bool true)).bind fun v3 =>
      some (v3, h))
     (
      (E.C fn_spec_DrawSquareReverse [x0] h).bind fun v4 =>
      (E.C fn_impl_SquareReverse [v4.1] v4.2).bind fun v5 =>
      (E.C fn_spec_SquareReverse [v4.1] v5.2).bind fun v6 =>
      (E.p.bin .neq 3 v5.1 v6.1).bind fun v7 =>
      condP v7
       (
        (resV (.bool false)).bind fun v8 =>
        some (v8, v6.2))
       (
        (E.p.bin .lss 3 v4.1 (.int .i64 1)).bind fun v9 =>
        (wantV v9 false).bind fun v10 =>
        (bif v10 then some (v4.1, v6.2) else some (.tup [], v6.2)).bind fun v11 =>
        (wantV v9 false).bind fun v12 =>
        (bif v12 then pv v11.2 (E.p.bin .gtr 3 v11.1 (.int .i64 3)) else some (.tup [], v11.2)).bind fun v13 =>
        (E.p.pick v9 (.bool true) v13.1).bind fun v14 =>
        condP v14
         (
          (E.p.bin .eql 3 v5.1 (.int .i64 0)).bind fun v15 =>
          (wantV v15 true).bind fun v16 =>
          (bif v16 then E.C fn_laws_alive [] v13.2 else some (.tup [], v13.2)).bind fun v17 =>
          (E.p.pick v15 v17.1 (.bool false)).bind fun v18 =>
          (resV v18).bind fun v19 =>
          some (v19, v17.2))
         (
          (E.p.bin .eql 3 v5.1 (.int .i64 1)).bind fun v20 =>
          (E.p.bin .rem 3 v4.1 (.int .i64 2)).bind fun v21 =>
          (E.p.bin .eql 3 v21 (.int .i64 0)).bind fun v22 =>
          (E.p.bin .eql 4 v20 v22).bind fun v23 =>
          (wantV v23 true).bind fun v24 =>
          (bif v24 then some (v5.1, v13.2) else some (.tup [], v13.2)).bind fun v25 =>
          (wantV v23 true).bind fun v26 =>
          (bif v26 then pv v25.2 (E.p.bin .neq 3 v25.1 (.int .i64 0)) else some (.tup [], v25.2)).bind fun v27 =>
          (E.p.pick v23 v27.1 (.bool false)).bind fun v28 =>
          (resV v28).bind fun v29 =>
          some (v29, v27.2))))
theorem main_eq (E : Env) (x0 : PV) (h : PHeap) : runBody (E.cx Tryd.prog kl) Tryd.f5 [x0] h = main E x0 h := by kernel_rfl
theorem call_eq (g : Nat → PV) (lf n : Nat) (x0 : PV) (h : PHeap) : CL g lf (n + 1) fn_laws_FnSquareReverse [x0] h = main (env g lf n) x0 h := by
  rw [← main_eq]
  show call Tryd.prog g KL lf (n + 1) 5 [x0] h = _
  rw [call_succ, Tryd.func5]
  kernel_rfl
end laws_FnSquareReverse
namespace laws_FnReverseOne
noncomputable def lp0 : Code := (codeAt (bodyOf Tryd.f6) [1, 1, 1, 1, 1, 1, 0, 1, 0, 0])
def st0 (x3 x4 x6 x7 x8 x9 : PV) (h : PHeap) : St := ⟨[.junk, .junk, .junk, x3, x4, .junk, x6, x7, x8, x9, .junk, .junk, .junk, .junk, .junk, .junk, .junk, .junk, .junk, .junk, .junk, .junk, .junk, .junk, .junk, .junk, .junk, .junk, .junk, .junk, .junk, .junk, .junk, .junk, .junk, .junk, .junk, .junk, .junk, .junk, .junk, .junk, .junk, .junk, .junk, .junk, .junk, .junk, .junk, .junk, .junk, .junk, .junk, .junk, .junk, .junk, .junk, .junk, .junk, .junk, .junk, .junk, .junk, .junk, .junk, .junk, .junk, .junk, .junk, .junk, .junk, .junk, .junk, .junk, .junk, .junk, .junk, .junk, .junk, .junk, .junk, .junk, .junk, .junk, .junk, .junk, .junk, .junk, .junk, .junk, .junk, .junk, .junk, .junk, .junk, .junk], h⟩
def se0_3_4_6_7_8_9_48 (x3 x4 x6 x7 x8 x9 x48 : PV) (h : PHeap) : St := ⟨[.junk, .junk, .junk, x3, x4, .junk, x6, x7, x8, x9, .junk, .junk, .junk, .junk, .junk, .junk, .junk, .junk, .junk, .junk, .junk, .junk, .junk, .junk, .junk, .junk, .junk, .junk, .junk, .junk, .junk, .junk, .junk, .junk, .junk, .junk, .junk, .junk, .junk, .junk, .junk, .junk, .junk, .junk, .junk, .junk, .junk, .junk, x48, .junk, .junk, .junk, .junk, .junk, .junk, .junk, .junk, .junk, .junk, .junk, .junk, .junk, .junk, .junk, .junk, .junk, .junk, .junk, .junk, .junk, .junk, .junk, .junk, .junk, .junk, .junk, .junk, .junk, .junk, .junk, .junk, .junk, .junk, .junk, .junk, .junk, .junk, .junk, .junk, .junk, .junk, .junk, .junk, .junk, .junk, .junk], h⟩
noncomputable def K0 (E : Env) (K : PX → St → Res) : PX → St → Res := (kBlock 0 (kSeq (ev (E.cx Tryd.prog kl) (codeAt (bodyOf Tryd.f6) [1, 1, 1, 1, 1, 1, 1])) K))
@[simp] theorem K0_ret (E : Env) (K : PX → St → Res) (s : St) : K0 E K .ret s = K .ret s := by kernel_rfl
noncomputable def body0 (E : Env) (K : PX → St → Res) (x3 x4 x6 x7 x8 x9 : PV) (h : PHeap) : Res :=
    (E.p.len 23 x8).bind fun v93 =>
    (E.p.bin .lss 3 x9 v93).bind fun v94 =>
    condP v94
     (
      (E.p.indexAddr 23 x8 x9).bind fun v95 =>
      (E.p.load 3 v95 h).bind fun v96 =>
      (E.p.bin .rem 3 x9 (.int .i64 2)).bind fun v97 =>
      (E.p.bin .add 3 (.int .i64 1) v97).bind fun v98 =>
      (E.p.indexAddr 23 x7 v96).bind fun v99 =>
      (E.p.store 3 v99 v98 h).bind fun v100 =>
      (E.p.bin .add 3 x9 (.int .i64 1)).bind fun v101 =>
      K .normal (st0 x3 x4 x6 x7 x8 v101 v100))
     (
      K (.exit 0) (se0_3_4_6_7_8_9_48 x3 x4 x6 x7 x8 x9 v94 h))
theorem body0_eq (E : Env) (K : PX → St → Res) (x3 x4 x6 x7 x8 x9 : PV) (h : PHeap) : ev (E.cx Tryd.prog kl) lp0 (st0 x3 x4 x6 x7 x8 x9 h) K = body0 E K x3 x4 x6 x7 x8 x9 h := by kernel_rfl
theorem after0_se0_3_4_6_7_8_9_48 (E : Env) (x3 x4 x6 x7 x8 x9 x48 : PV) (h : PHeap) : K0 E (kTop Tryd.prog Tryd.f6) (.exit 0) (se0_3_4_6_7_8_9_48 x3 x4 x6 x7 x8 x9 x48 h) =
    (E.p.len 23 x8).bind fun v34 =>
    (E.p.bin .eql 3 v34 (.int .i64 0)).bind fun v35 =>
    (wantV v35 false).bind fun v36 =>
    (bif v36 then some (x3, h) else some (.tup [], h)).bind fun v37 =>
    (wantV v35 false).bind fun v38 =>
    (bif v38 then some (x4, v37.2) else some (.tup [], v37.2)).bind fun v39 =>
    (wantV v35 false).bind fun v40 =>
    (bif v40 then some (x7, v39.2) else some (.tup [], v39.2)).bind fun v41 =>
    (wantV v35 false).bind fun v42 =>
    (bif v42 then E.C fn_impl_Joins [v37.1, v39.1, v41.1, (.int .i64 1)] v41.2 else some (.tup [], v41.2)).bind fun v43 =>
    (E.p.pick v35 (.bool true) v43.1).bind fun v44 =>
    (wantV v44 false).bind fun v45 =>
    (bif v45 then some (x3, v43.2) else some (.tup [], v43.2)).bind fun v46 =>
    (wantV v44 false).bind fun v47 =>
    (bif v47 then some (x4, v46.2) else some (.tup [], v46.2)).bind fun v48 =>
    (wantV v44 false).bind fun v49 =>
    (bif v49 then some (x7, v48.2) else some (.tup [], v48.2)).bind fun v50 =>
    (wantV v44 false).bind fun v51 =>
    (bif v51 then E.C fn_impl_Joins [v46.1, v48.1, v50.1, (.int .i64 2)] v50.2 else some (.tup [], v50.2)).bind fun v52 =>
    (E.p.pick v44 (.bool true) v52.1).bind fun v53 =>
    condP v53
     (
      (E.C fn_laws_alive [] v52.2).bind fun v54 =>
      (resV v54.1).bind fun v55 =>
      some (v55, v54.2))
     (
      (E.C fn_laws_alive [] v52.2).bind fun v56 =>
      (wantV v56.1 true).bind fun v57 =>
      (bif v57 then some (x3, v56.2) else some (.tup [], v56.2)).bind fun v58 =>
      (wantV v56.1 true).bind fun v59 =>
      (bif v59 then some (x4, v58.2) else some (.tup [], v58.2)).bind fun v60 =>
      (wantV v56.1 true).bind fun v61 =>
      (bif v61 then some (x7, v60.2) else some (.tup [], v60.2)).bind fun v62 =>
      (wantV v56.1 true).bind fun v63 =>
      (bif v63 then some (x6, v62.2) else some (.tup [], v62.2)).bind fun v64 =>
      (wantV v56.1 true).bind fun v65 =>
      (bif v65 then E.C fn_impl_ReverseWinner [v58.1, v60.1, v62.1, v64.1] v64.2 else some (.tup [], v64.2)).bind fun v66 =>
      (wantV v56.1 true).bind fun v67 =>
      (bif v67 then some (x6, v66.2) else some (.tup [], v66.2)).bind fun v68 =>
      (wantV v56.1 true).bind fun v69 =>
      (bif v69 then pv v68.2 (E.p.bin .sub 3 (.int .i64 3) v68.1) else some (.tup [], v68.2)).bind fun v70 =>
      (wantV v56.1 true).bind fun v71 =>
      (bif v71 then pv v70.2 (E.p.bin .eql 3 v66.1 v70.1) else some (.tup [], v70.2)).bind fun v72 =>
      (wantV v56.1 true).bind fun v73 =>
      (bif v73 then some (v72.1, v72.2) else some (.tup [], v72.2)).bind fun v74 =>
      (wantV v74.1 true).bind fun v75 =>
      (bif v75 then some (x3, v74.2) else some (.tup [], v74.2)).bind fun v76 =>
      (wantV v74.1 true).bind fun v77 =>
      (bif v77 then some (x4, v76.2) else some (.tup [], v76.2)).bind fun v78 =>
      (wantV v74.1 true).bind fun v79 =>
      (bif v79 then some (x7, v78.2) else some (.tup [], v78.2)).bind fun v80 =>
      (wantV v74.1 true).bind fun v81 =>
      (bif v81 then some (x6, v80.2) else some (.tup [], v80.2)).bind fun v82 =>
      (wantV v74.1 true).bind fun v83 =>
      (bif v83 then E.C fn_impl_WinnerOf [v76.1, v78.1, v80.1, v82.1] v82.2 else some (.tup [], v82.2)).bind fun v84 =>
      (wantV v74.1 true).bind fun v85 =>
      (bif v85 then some (x6, v84.2) else some (.tup [], v84.2)).bind fun v86 =>
      (wantV v74.1 true).bind fun v87 =>
      (bif v87 then pv v86.2 (E.p.bin .eql 3 v84.1 v86.1) else some (.tup [], v86.2)).bind fun v88 =>
      (wantV v56.1 true).bind fun v89 =>
      (bif v89 then pv v88.2 (E.p.pick v74.1 v88.1 (.bool false)) else some (.tup [], v88.2)).bind fun v90 =>
      (E.p.pick v56.1 v90.1 (.bool false)).bind fun v91 =>
      (resV v91).bind fun v92 =>
      some (v92, v90.2)) := by kernel_rfl
noncomputable def main (E : Env) (x0 : PV) (h : PHeap) : Res :=
    (E.p.len 22 x0).bind fun v1 =>
    (E.p.bin .gtr 3 v1 (.int .i64 1048576)).bind fun v2 =>
    condP v2
     (
      (resV (.bool true)).bind fun v3 =>
      some (v3, h))
     (
      (E.C fn_spec_DrawReverseWinner [x0] h).bind fun v4 =>
      (E.p.extract v4.1 0).bind fun v5 =>
      (E.p.extract v4.1 1).bind fun v6 =>
      (E.p.extract v4.1 2).bind fun v7 =>
      (E.p.extract v4.1 3).bind fun v8 =>
      (E.C fn_spec_PositionOk [v5, v6, v7] v4.2).bind fun v9 =>
      (E.p.un .not v9.1).bind fun v10 =>
      (wantV v10 false).bind fun v11 =>
      (bif v11 then some (v8, v9.2) else some (.tup [], v9.2)).bind fun v12 =>
      (wantV v10 false).bind fun v13 =>
      (bif v13 then pv v12.2 (E.p.bin .gtr 3 v12.1 (.int .i64 2)) else some (.tup [], v12.2)).bind fun v14 =>
      (E.p.pick v10 (.bool true) v14.1).bind fun v15 =>
      condP v15
       (
        (E.C fn_impl_ReverseWinner [v5, v6, v7, v8] v14.2).bind fun v16 =>
        (E.p.bin .eql 3 v16.1 (.int .i64 0)).bind fun v17 =>
        (wantV v17 true).bind fun v18 =>
        (bif v18 then E.C fn_laws_alive [] v16.2 else some (.tup [], v16.2)).bind fun v19 =>
        (E.p.pick v17 v19.1 (.bool false)).bind fun v20 =>
        (resV v20).bind fun v21 =>
        some (v21, v19.2))
       (
        (E.p.buildSlice 23 0 [] v14.2).bind fun v22 =>
        (E.p.append 23 23 v22.1 v7 v22.2).bind fun v23 =>
        (E.C fn_impl_CellsOf [v5, v6, v23.1, (.int .i64 0)] v23.2).bind fun v24 =>
        loopK (ev (E.cx Tryd.prog laws_FnReverseOne.kl) laws_FnReverseOne.lp0) E.lf (laws_FnReverseOne.st0 v5 v6 v8 v23.1 v24.1 (.int .i64 1) v24.2) (laws_FnReverseOne.K0 E (kTop Tryd.prog Tryd.f6))))
theorem main_eq (E : Env) (x0 : PV) (h : PHeap) : runBody (E.cx Tryd.prog kl) Tryd.f6 [x0] h = main E x0 h := by kernel_rfl
theorem call_eq (g : Nat → PV) (lf n : Nat) (x0 : PV) (h : PHeap) : CL g lf (n + 1) fn_laws_FnReverseOne [x0] h = main (env g lf n) x0 h := by
  rw [← main_eq]
  show call Tryd.prog g KL lf (n + 1) 6 [x0] h = _
  rw [call_succ, Tryd.func6]
  kernel_rfl
end laws_FnReverseOne
namespace laws_FnExactReverseWinner
noncomputable def main (E : Env) (x0 x1 x2 x3 : PV) (h : PHeap) : Res :=
    (E.p.len 23 x2).bind fun v1 =>
    (E.p.bin .gtr 3 v1 (.int .i64 1048576)).bind fun v2 =>
    condP v2
     (
      (resV (.bool true)).bind fun v3 =>
      some (v3, h))
     (
      (E.C fn_laws_toIntS [x2] h).bind fun v4 =>
      (E.C fn_spec_ReverseWinner [x0, x1, v4.1, x3] v4.2).bind fun v5 =>
      (E.C fn_laws_toIntS [x2] v5.2).bind fun v6 =>
      (E.C fn_impl_ReverseWinner [x0, x1, v6.1, x3] v6.2).bind fun v7 =>
      (E.p.bin .neq 3 v7.1 v5.1).bind fun v8 =>
      condP v8
       (
        (resV (.bool false)).bind fun v9 =>
        some (v9, v7.2))
       (
        (E.C fn_laws_toIntS [x2] v7.2).bind fun v10 =>
        (E.C fn_laws_eqIntS [v6.1, v10.1] v10.2).bind fun v11 =>
        (E.p.un .not v11.1).bind fun v12 =>
        condP v12
         (
          (resV (.bool false)).bind fun v13 =>
          some (v13, v11.2))
         (
          (resV (.bool true)).bind fun v14 =>
          some (v14, v11.2))))
theorem main_eq (E : Env) (x0 x1 x2 x3 : PV) (h : PHeap) : runBody (E.cx Tryd.prog kl) Tryd.f7 [x0, x1, x2, x3] h = main E x0 x1 x2 x3 h := by kernel_rfl
theorem call_eq (g : Nat → PV) (lf n : Nat) (x0 x1 x2 x3 : PV) (h : PHeap) : CL g lf (n + 1) fn_laws_FnExactReverseWinner [x0, x1, x2, x3] h = main (env g lf n) x0 x1 x2 x3 h := by
  rw [← main_eq]
  show call Tryd.prog g KL lf (n + 1) 7 [x0, x1, x2, x3] h = _
  rw [call_succ, Tryd.func7]
  kernel_rfl
end laws_FnExactReverseWinner
namespace laws_FnExactSafeCells
noncomputable def main (E : Env) (x0 x1 x2 x3 : PV) (h : PHeap) : Res :=
    (E.p.len 23 x2).bind fun v1 =>
    (E.p.bin .gtr 3 v1 (.int .i64 1048576)).bind fun v2 =>
    condP v2
     (
      (resV (.bool true)).bind fun v3 =>
      some (v3, h))
     (
      (E.C fn_laws_toIntS [x2] h).bind fun v4 =>
      (E.C fn_spec_SafeCells [x0, x1, v4.1, x3] v4.2).bind fun v5 =>
      (E.C fn_laws_toIntS [x2] v5.2).bind fun v6 =>
      (E.C fn_impl_SafeCells [x0, x1, v6.1, x3] v6.2).bind fun v7 =>
      (E.C fn_laws_eqIntS [v7.1, v5.1] v7.2).bind fun v8 =>
      (E.p.un .not v8.1).bind fun v9 =>
      condP v9
       (
        (resV (.bool false)).bind fun v10 =>
        some (v10, v8.2))
       (
        (E.C fn_laws_toIntS [x2] v8.2).bind fun v11 =>
        (E.C fn_laws_eqIntS [v6.1, v11.1] v11.2).bind fun v12 =>
        (E.p.un .not v12.1).bind fun v13 =>
        condP v13
         (
          (resV (.bool false)).bind fun v14 =>
          some (v14, v12.2))
         (
          (E.C fn_laws_markIntS [v6.1, (.int .i64 1)] v12.2).bind fun v15 =>
          (E.p.bin .lss 3 v15.1 (.int .i64 0)).bind fun v16 =>
          (wantV v16 false).bind fun v17 =>
          (bif v17 then some (v7.1, v15.2) else some (.tup [], v15.2)).bind fun v18 =>
          (wantV v16 false).bind fun v19 =>
          (bif v19 then some (v5.1, v18.2) else some (.tup [], v18.2)).bind fun v20 =>
          (wantV v16 false).bind fun v21 =>
          (bif v21 then E.C fn_laws_eqIntS [v18.1, v20.1] v20.2 else some (.tup [], v20.2)).bind fun v22 =>
          (wantV v16 false).bind fun v23 =>
          (bif v23 then pv v22.2 (E.p.un .not v22.1) else some (.tup [], v22.2)).bind fun v24 =>
          (E.p.pick v16 (.bool true) v24.1).bind fun v25 =>
          condP v25
           (
            (resV (.bool false)).bind fun v26 =>
            some (v26, v24.2))
           (
            (E.C fn_laws_markIntS [v7.1, (.int .i64 1)] v24.2).bind fun v27 =>
            (E.C fn_laws_heldIntS [v7.1, (.int .i64 1)] v27.2).bind fun v28 =>
            (E.p.bin .lss 3 v28.1 (.int .i64 0)).bind fun v29 =>
            condP v29
             (
              (resV (.bool false)).bind fun v30 =>
              some (v30, v28.2))
             (
              (E.p.bin .neq 3 v28.1 v27.1).bind fun v31 =>
              condP v31
               (
                (resV (.bool false)).bind fun v32 =>
                some (v32, v28.2))
               (
                (E.C fn_laws_toIntS [x2] v28.2).bind fun v33 =>
                (E.C fn_impl_SafeCells [x0, x1, v33.1, x3] v33.2).bind fun v34 =>
                (E.C fn_laws_eqIntS [v34.1, v5.1] v34.2).bind fun v35 =>
                (E.p.un .not v35.1).bind fun v36 =>
                condP v36
                 (
                  (resV (.bool false)).bind fun v37 =>
                  some (v37, v35.2))
                 (
                  (E.C fn_laws_heldIntS [v7.1, (.int .i64 1)] v35.2).bind fun v38 =>
                  (E.p.bin .lss 3 v38.1 (.int .i64 0)).bind fun v39 =>
                  condP v39
                   (
                    (resV (.bool false)).bind fun v40 =>
                    some (v40, v38.2))
                   (
                    (E.p.bin .neq 3 v38.1 v27.1).bind fun v41 =>
                    condP v41
                     (
                      (resV (.bool false)).bind fun v42 =>
                      some (v42, v38.2))
                     (
                      (resV (.bool true)).bind fun v43 =>
                      some (v43, v38.2))))))))))
theorem main_eq (E : Env) (x0 x1 x2 x3 : PV) (h : PHeap) : runBody (E.cx Tryd.prog kl) Tryd.f8 [x0, x1, x2, x3] h = main E x0 x1 x2 x3 h := by kernel_rfl
theorem call_eq (g : Nat → PV) (lf n : Nat) (x0 x1 x2 x3 : PV) (h : PHeap) : CL g lf (n + 1) fn_laws_FnExactSafeCells [x0, x1, x2, x3] h = main (env g lf n) x0 x1 x2 x3 h := by
  rw [← main_eq]
  show call Tryd.prog g KL lf (n + 1) 8 [x0, x1, x2, x3] h = _
  rw [call_succ, Tryd.func8]
  kernel_rfl
end laws_FnExactSafeCells
namespace laws_FnExactSquareReverse
noncomputable def main (E : Env) (x0 : PV) (h : PHeap) : Res :=
    (E.C fn_spec_SquareReverse [x0] h).bind fun v1 =>
    (E.C fn_impl_SquareReverse [x0] v1.2).bind fun v2 =>
    (E.p.bin .neq 3 v2.1 v1.1).bind fun v3 =>
    condP v3
     (
      (resV (.bool false)).bind fun v4 =>
      some (v4, v2.2))
     (
      (resV (.bool true)).bind fun v5 =>
      some (v5, v2.2))
theorem main_eq (E : Env) (x0 : PV) (h : PHeap) : runBody (E.cx Tryd.prog kl) Tryd.f9 [x0] h = main E x0 h := by kernel_rfl
theorem call_eq (g : Nat → PV) (lf n : Nat) (x0 : PV) (h : PHeap) : CL g lf (n + 1) fn_laws_FnExactSquareReverse [x0] h = main (env g lf n) x0 h := by
  rw [← main_eq]
  show call Tryd.prog g KL lf (n + 1) 9 [x0] h = _
  rw [call_succ, Tryd.func9]
  kernel_rfl
end laws_FnExactSquareReverse
namespace spec_DrawReverseWinner
noncomputable def main (E : Env) (x0 : PV) (h : PHeap) : Res :=
    (E.C fn_spec_l20Open [x0] h).bind fun v1 =>
    (E.C fn_spec_l20Few [v1.1, (.int .i64 7)] v1.2).bind fun v2 =>
    (E.p.extract v2.1 0).bind fun v3 =>
    (E.p.extract v2.1 1).bind fun v4 =>
    (E.p.extract v2.1 2).bind fun v5 =>
    (E.p.extract v2.1 3).bind fun v6 =>
    (resV v3).bind fun v7 =>
    (resV v4).bind fun v8 =>
    (resV v5).bind fun v9 =>
    (resV v6).bind fun v10 =>
    some (.tup [v7, v8, v9, v10], v2.2)
theorem main_eq (E : Env) (x0 : PV) (h : PHeap) : runBody (E.cx Tryd.prog kl) Tryd.f10 [x0] h = main E x0 h := by kernel_rfl
theorem call_eq (g : Nat → PV) (lf n : Nat) (x0 : PV) (h : PHeap) : CL g lf (n + 1) fn_spec_DrawReverseWinner [x0] h = main (env g lf n) x0 h := by
  rw [← main_eq]
  show call Tryd.prog g KL lf (n + 1) 10 [x0] h = _
  rw [call_succ, Tryd.func10]
  kernel_rfl
end spec_DrawReverseWinner
namespace impl_ReverseWinner
noncomputable def main (E : Env) (x0 x1 x2 x3 : PV) (h : PHeap) : Res :=
    (E.C fn_impl_PositionOk [x0, x1, x2] h).bind fun v1 =>
    (E.p.un .not v1.1).bind fun v2 =>
    (wantV v2 false).bind fun v3 =>
    (bif v3 then some (x3, v1.2) else some (.tup [], v1.2)).bind fun v4 =>
    (wantV v2 false).bind fun v5 =>
    (bif v5 then E.C fn_impl_playerOk [v4.1] v4.2 else some (.tup [], v4.2)).bind fun v6 =>
    (wantV v2 false).bind fun v7 =>
    (bif v7 then pv v6.2 (E.p.un .not v6.1) else some (.tup [], v6.2)).bind fun v8 =>
    (E.p.pick v2 (.bool true) v8.1).bind fun v9 =>
    condP v9
     (
      (resV (.int .i64 0)).bind fun v10 =>
      some (v10, v8.2))
     (
      (E.C fn_impl_newReverse [x0, x1] v8.2).bind fun v11 =>
      (E.C fn_impl_standingOf [x2, x3] v11.2).bind fun v12 =>
      (E.C fn_impl_reverse_winner [v11.1, v12.1] v12.2).bind fun v13 =>
      (resV v13.1).bind fun v14 =>
      some (v14, v13.2))
theorem main_eq (E : Env) (x0 x1 x2 x3 : PV) (h : PHeap) : runBody (E.cx Tryd.prog kl) Tryd.f11 [x0, x1, x2, x3] h = main E x0 x1 x2 x3 h := by kernel_rfl
theorem call_eq (g : Nat → PV) (lf n : Nat) (x0 x1 x2 x3 : PV) (h : PHeap) : CL g lf (n + 1) fn_impl_ReverseWinner [x0, x1, x2, x3] h = main (env g lf n) x0 x1 x2 x3 h := by
  rw [← main_eq]
  show call Tryd.prog g KL lf (n + 1) 11 [x0, x1, x2, x3] h = _
  rw [call_succ, Tryd.func11]
  kernel_rfl
end impl_ReverseWinner
namespace spec_ReverseWinner
noncomputable def main (E : Env) (x0 x1 x2 x3 : PV) (h : PHeap) : Res :=
    (E.C fn_spec_PositionOk [x0, x1, x2] h).bind fun v1 =>
    (E.p.un .not v1.1).bind fun v2 =>
    (wantV v2 false).bind fun v3 =>
    (bif v3 then some (x3, v1.2) else some (.tup [], v1.2)).bind fun v4 =>
    (wantV v2 false).bind fun v5 =>
    (bif v5 then E.C fn_spec_l1In [v4.1, (.int .i64 1), (.int .i64 2)] v4.2 else some (.tup [], v4.2)).bind fun v6 =>
    (wantV v2 false).bind fun v7 =>
    (bif v7 then pv v6.2 (E.p.un .not v6.1) else some (.tup [], v6.2)).bind fun v8 =>
    (E.p.pick v2 (.bool true) v8.1).bind fun v9 =>
    condP v9
     (
      (resV (.int .i64 0)).bind fun v10 =>
      some (v10, v8.2))
     (
      (E.C fn_spec_l2Masks [x0, x1] v8.2).bind fun v11 =>
      (E.C fn_spec_l2Set [x2, (.int .i64 1)] v11.2).bind fun v12 =>
      (E.C fn_spec_l2Set [x2, (.int .i64 2)] v12.2).bind fun v13 =>
      (E.p.len 23 v11.1).bind fun v14 =>
      (E.C fn_spec_l3Table [v14] v13.2).bind fun v15 =>
      (E.C fn_spec_l8Solve [x0, x1, v11.1, v12.1, v13.1, x3, v15.1] v15.2).bind fun v16 =>
      (resV v16.1).bind fun v17 =>
      some (v17, v16.2))
theorem main_eq (E : Env) (x0 x1 x2 x3 : PV) (h : PHeap) : runBody (E.cx Tryd.prog kl) Tryd.f12 [x0, x1, x2, x3] h = main E x0 x1 x2 x3 h := by kernel_rfl
theorem call_eq (g : Nat → PV) (lf n : Nat) (x0 x1 x2 x3 : PV) (h : PHeap) : CL g lf (n + 1) fn_spec_ReverseWinner [x0, x1, x2, x3] h = main (env g lf n) x0 x1 x2 x3 h := by
  rw [← main_eq]
  show call Tryd.prog g KL lf (n + 1) 12 [x0, x1, x2, x3] h = _
  rw [call_succ, Tryd.func12]
  kernel_rfl
end spec_ReverseWinner
namespace spec_PositionOk
noncomputable def lp0 : Code := (codeAt (bodyOf Tryd.f13) [1, 0, 1, 0, 0])
def st0 (x0 x1 x2 x7 : PV) (h : PHeap) : St := ⟨[x0, x1, x2, .junk, .junk, .junk, .junk, x7, .junk, .junk, .junk, .junk, .junk, .junk, .junk, .junk, .junk, .junk, .junk, .junk, .junk, .junk, .junk, .junk, .junk, .junk, .junk, .junk, .junk, .junk, .junk], h⟩
def sr_6 (x6 : PV) (h : PHeap) : St := ⟨[.junk, .junk, .junk, .junk, .junk, .junk, x6, .junk, .junk, .junk, .junk, .junk, .junk, .junk, .junk, .junk, .junk, .junk, .junk, .junk, .junk, .junk, .junk, .junk, .junk, .junk, .junk, .junk, .junk, .junk, .junk], h⟩
def se0_0_1_2_7_11 (x0 x1 x2 x7 x11 : PV) (h : PHeap) : St := ⟨[x0, x1, x2, .junk, .junk, .junk, .junk, x7, .junk, .junk, .junk, x11, .junk, .junk, .junk, .junk, .junk, .junk, .junk, .junk, .junk, .junk, .junk, .junk, .junk, .junk, .junk, .junk, .junk, .junk, .junk], h⟩
noncomputable def K0 (E : Env) (K : PX → St → Res) : PX → St → Res := (kBlock 0 (kSeq (ev (E.cx Tryd.prog kl) (codeAt (bodyOf Tryd.f13) [1, 1])) K))
@[simp] theorem K0_ret (E : Env) (K : PX → St → Res) (s : St) : K0 E K .ret s = K .ret s := by kernel_rfl
noncomputable def body0 (E : Env) (K : PX → St → Res) (x0 x1 x2 x7 : PV) (h : PHeap) : Res :=
    (E.p.len 23 x2).bind fun v23 =>
    (E.p.bin .lss 3 x7 v23).bind fun v24 =>
    condP v24
     (
      (E.p.indexAddr 23 x2 x7).bind fun v25 =>
      (E.p.load 3 v25 h).bind fun v26 =>
      (E.C fn_spec_l1In [v26, (.int .i64 0), (.int .i64 2)] h).bind fun v27 =>
      (E.p.un .not v27.1).bind fun v28 =>
      condP v28
       (
        K .ret (sr_6 (.bool false) v27.2))
       (
        (E.p.bin .add 3 x7 (.int .i64 1)).bind fun v29 =>
        K .normal (st0 x0 x1 x2 v29 v27.2)))
     (
      K (.exit 0) (se0_0_1_2_7_11 x0 x1 x2 x7 v24 h))
theorem body0_eq (E : Env) (K : PX → St → Res) (x0 x1 x2 x7 : PV) (h : PHeap) : ev (E.cx Tryd.prog kl) lp0 (st0 x0 x1 x2 x7 h) K = body0 E K x0 x1 x2 x7 h := by kernel_rfl
theorem after0_se0_0_1_2_7_11 (E : Env) (x0 x1 x2 x7 x11 : PV) (h : PHeap) : K0 E (kTop Tryd.prog Tryd.f13) (.exit 0) (se0_0_1_2_7_11 x0 x1 x2 x7 x11 h) =
    (E.C fn_spec_BoardOk [x0, x1] h).bind fun v8 =>
    (wantV v8.1 true).bind fun v9 =>
    (bif v9 then some (x2, v8.2) else some (.tup [], v8.2)).bind fun v10 =>
    (wantV v8.1 true).bind fun v11 =>
    (bif v11 then pv v10.2 (E.p.len 23 v10.1) else some (.tup [], v10.2)).bind fun v12 =>
    (wantV v8.1 true).bind fun v13 =>
    (bif v13 then some (x0, v12.2) else some (.tup [], v12.2)).bind fun v14 =>
    (wantV v8.1 true).bind fun v15 =>
    (bif v15 then some (x1, v14.2) else some (.tup [], v14.2)).bind fun v16 =>
    (wantV v8.1 true).bind fun v17 =>
    (bif v17 then pv v16.2 (E.p.bin .mul 3 v14.1 v16.1) else some (.tup [], v16.2)).bind fun v18 =>
    (wantV v8.1 true).bind fun v19 =>
    (bif v19 then pv v18.2 (E.p.bin .eql 3 v12.1 v18.1) else some (.tup [], v18.2)).bind fun v20 =>
    (E.p.pick v8.1 v20.1 (.bool false)).bind fun v21 =>
    (resV v21).bind fun v22 =>
    some (v22, v20.2) := by kernel_rfl
theorem top_sr_6 (x6 : PV) (h : PHeap) : kTop Tryd.prog Tryd.f13 .ret (sr_6 x6 h) =
    (resV x6).bind fun v30 =>
    some (v30, h) := by kernel_rfl
noncomputable def main (E : Env) (x0 x1 x2 : PV) (h : PHeap) : Res :=
    loopK (ev (E.cx Tryd.prog spec_PositionOk.kl) spec_PositionOk.lp0) E.lf (spec_PositionOk.st0 x0 x1 x2 (.int .i64 0) h) (spec_PositionOk.K0 E (kTop Tryd.prog Tryd.f13))
theorem main_eq (E : Env) (x0 x1 x2 : PV) (h : PHeap) : runBody (E.cx Tryd.prog kl) Tryd.f13 [x0, x1, x2] h = main E x0 x1 x2 h := by kernel_rfl
theorem call_eq (g : Nat → PV) (lf n : Nat) (x0 x1 x2 : PV) (h : PHeap) : CL g lf (n + 1) fn_spec_PositionOk [x0, x1, x2] h = main (env g lf n) x0 x1 x2 h := by
  rw [← main_eq]
  show call Tryd.prog g KL lf (n + 1) 13 [x0, x1, x2] h = _
  rw [call_succ, Tryd.func13]
  kernel_rfl
end spec_PositionOk
namespace laws_alive
noncomputable def main (E : Env) (h : PHeap) : Res :=
    (E.C fn_impl_BoardOk [(.int .i64 2), (.int .i64 2)] h).bind fun v1 =>
    (wantV v1.1 true).bind fun v2 =>
    (bif v2 then E.C fn_impl_BoardOk [(.int .i64 0), (.int .i64 2)] v1.2 else some (.tup [], v1.2)).bind fun v3 =>
    (wantV v1.1 true).bind fun v4 =>
    (bif v4 then pv v3.2 (E.p.un .not v3.1) else some (.tup [], v3.2)).bind fun v5 =>
    (E.p.pick v1.1 v5.1 (.bool false)).bind fun v6 =>
    (resV v6).bind fun v7 =>
    some (v7, v5.2)
theorem main_eq (E : Env) (h : PHeap) : runBody (E.cx Tryd.prog kl) Tryd.f14 [] h = main E  h := by kernel_rfl
theorem call_eq (g : Nat → PV) (lf n : Nat) (h : PHeap) : CL g lf (n + 1) fn_laws_alive [] h = main (env g lf n)  h := by
  rw [← main_eq]
  show call Tryd.prog g KL lf (n + 1) 14 [] h = _
  rw [call_succ, Tryd.func14]
  kernel_rfl
end laws_alive
namespace impl_HalfTurned
noncomputable def lp0 : Code := (codeAt (bodyOf Tryd.f15) [1, 1, 1, 0, 1, 0, 0])
def st0 (x2 x7 x18 x19 x20 : PV) (h : PHeap) : St := ⟨[.junk, .junk, x2, .junk, .junk, .junk, .junk, x7, .junk, .junk, .junk, .junk, .junk, .junk, .junk, .junk, .junk, .junk, x18, x19, x20, .junk, .junk, .junk, .junk, .junk, .junk, .junk, .junk, .junk, .junk, .junk, .junk, .junk, .junk], h⟩
def se0_2_7_18_19_20_21 (x2 x7 x18 x19 x20 x21 : PV) (h : PHeap) : St := ⟨[.junk, .junk, x2, .junk, .junk, .junk, .junk, x7, .junk, .junk, .junk, .junk, .junk, .junk, .junk, .junk, .junk, .junk, x18, x19, x20, x21, .junk, .junk, .junk, .junk, .junk, .junk, .junk, .junk, .junk, .junk, .junk, .junk, .junk], h⟩
noncomputable def K0 (E : Env) (K : PX → St → Res) : PX → St → Res := (kBlock 0 (kSeq (ev (E.cx Tryd.prog kl) (codeAt (bodyOf Tryd.f15) [1, 1, 1, 1])) K))
@[simp] theorem K0_ret (E : Env) (K : PX → St → Res) (s : St) : K0 E K .ret s = K .ret s := by kernel_rfl
noncomputable def body0 (E : Env) (K : PX → St → Res) (x2 x7 x18 x19 x20 : PV) (h : PHeap) : Res :=
    (E.p.bin .lss 3 x20 x19).bind fun v17 =>
    condP v17
     (
      (E.p.indexAddr 23 x18 x20).bind fun v18 =>
      (E.p.load 3 v18 h).bind fun v19 =>
      (E.p.len 23 x2).bind fun v20 =>
      (E.p.bin .sub 3 v20 (.int .i64 1)).bind fun v21 =>
      (E.p.bin .sub 3 v21 x20).bind fun v22 =>
      (E.p.indexAddr 23 x7 v22).bind fun v23 =>
      (E.p.store 3 v23 v19 h).bind fun v24 =>
      (E.p.bin .add 3 x20 (.int .i64 1)).bind fun v25 =>
      K .normal (st0 x2 x7 x18 x19 v25 v24))
     (
      K (.exit 0) (se0_2_7_18_19_20_21 x2 x7 x18 x19 x20 v17 h))
theorem body0_eq (E : Env) (K : PX → St → Res) (x2 x7 x18 x19 x20 : PV) (h : PHeap) : ev (E.cx Tryd.prog kl) lp0 (st0 x2 x7 x18 x19 x20 h) K = body0 E K x2 x7 x18 x19 x20 h := by kernel_rfl
theorem after0_se0_2_7_18_19_20_21 (E : Env) (x2 x7 x18 x19 x20 x21 : PV) (h : PHeap) : K0 E (kTop Tryd.prog Tryd.f15) (.exit 0) (se0_2_7_18_19_20_21 x2 x7 x18 x19 x20 x21 h) =
    (resV x7).bind fun v16 =>
    some (v16, h) := by kernel_rfl
noncomputable def main (E : Env) (x0 x1 x2 : PV) (h : PHeap) : Res :=
    (E.C fn_impl_PositionOk [x0, x1, x2] h).bind fun v1 =>
    (E.p.un .not v1.1).bind fun v2 =>
    condP v2
     (
      (resV .nilsl).bind fun v3 =>
      some (v3, v1.2))
     (
      (E.p.len 23 x2).bind fun v4 =>
      (E.p.make 23 v4 v4 v1.2).bind fun v5 =>
      (E.p.len 23 x2).bind fun v6 =>
      loopK (ev (E.cx Tryd.prog impl_HalfTurned.kl) impl_HalfTurned.lp0) E.lf (impl_HalfTurned.st0 x2 v5.1 x2 v6 (.int .i64 0) v5.2) (impl_HalfTurned.K0 E (kTop Tryd.prog Tryd.f15)))
theorem main_eq (E : Env) (x0 x1 x2 : PV) (h : PHeap) : runBody (E.cx Tryd.prog kl) Tryd.f15 [x0, x1, x2] h = main E x0 x1 x2 h := by kernel_rfl
theorem call_eq (g : Nat → PV) (lf n : Nat) (x0 x1 x2 : PV) (h : PHeap) : CL g lf (n + 1) fn_impl_HalfTurned [x0, x1, x2] h = main (env g lf n) x0 x1 x2 h := by
  rw [← main_eq]
  show call Tryd.prog g KL lf (n + 1) 15 [x0, x1, x2] h = _
  rw [call_succ, Tryd.func15]
  kernel_rfl
end impl_HalfTurned
namespace impl_Mirrored
noncomputable def lp0 : Code := (codeAt (bodyOf Tryd.f16) [1, 1, 1, 0, 1, 0, 0])
def st0 (x0 x1 x7 x18 x19 x20 : PV) (h : PHeap) : St := ⟨[x0, x1, .junk, .junk, .junk, .junk, .junk, x7, .junk, .junk, .junk, .junk, .junk, .junk, .junk, .junk, .junk, .junk, x18, x19, x20, .junk, .junk, .junk, .junk, .junk, .junk, .junk, .junk, .junk, .junk, .junk, .junk, .junk, .junk], h⟩
def se0_0_1_7_18_19_20_21 (x0 x1 x7 x18 x19 x20 x21 : PV) (h : PHeap) : St := ⟨[x0, x1, .junk, .junk, .junk, .junk, .junk, x7, .junk, .junk, .junk, .junk, .junk, .junk, .junk, .junk, .junk, .junk, x18, x19, x20, x21, .junk, .junk, .junk, .junk, .junk, .junk, .junk, .junk, .junk, .junk, .junk, .junk, .junk], h⟩
noncomputable def K0 (E : Env) (K : PX → St → Res) : PX → St → Res := (kBlock 0 (kSeq (ev (E.cx Tryd.prog kl) (codeAt (bodyOf Tryd.f16) [1, 1, 1, 1])) K))
@[simp] theorem K0_ret (E : Env) (K : PX → St → Res) (s : St) : K0 E K .ret s = K .ret s := by kernel_rfl
noncomputable def body0 (E : Env) (K : PX → St → Res) (x0 x1 x7 x18 x19 x20 : PV) (h : PHeap) : Res :=
    (E.p.bin .lss 3 x20 x19).bind fun v16 =>
    condP v16
     (
      (E.p.indexAddr 23 x18 x20).bind fun v17 =>
      (E.p.load 3 v17 h).bind fun v18 =>
      (E.C fn_impl_mirroredCell [x0, x1, x20] h).bind fun v19 =>
      (E.C fn_impl_exchanged [v18] v19.2).bind fun v20 =>
      (E.p.indexAddr 23 x7 v19.1).bind fun v21 =>
      (E.p.store 3 v21 v20.1 v20.2).bind fun v22 =>
      (E.p.bin .add 3 x20 (.int .i64 1)).bind fun v23 =>
      K .normal (st0 x0 x1 x7 x18 x19 v23 v22))
     (
      K (.exit 0) (se0_0_1_7_18_19_20_21 x0 x1 x7 x18 x19 x20 v16 h))
theorem body0_eq (E : Env) (K : PX → St → Res) (x0 x1 x7 x18 x19 x20 : PV) (h : PHeap) : ev (E.cx Tryd.prog kl) lp0 (st0 x0 x1 x7 x18 x19 x20 h) K = body0 E K x0 x1 x7 x18 x19 x20 h := by kernel_rfl
theorem after0_se0_0_1_7_18_19_20_21 (E : Env) (x0 x1 x7 x18 x19 x20 x21 : PV) (h : PHeap) : K0 E (kTop Tryd.prog Tryd.f16) (.exit 0) (se0_0_1_7_18_19_20_21 x0 x1 x7 x18 x19 x20 x21 h) =
    (resV x7).bind fun v15 =>
    some (v15, h) := by kernel_rfl
noncomputable def main (E : Env) (x0 x1 x2 : PV) (h : PHeap) : Res :=
    (E.C fn_impl_PositionOk [x0, x1, x2] h).bind fun v1 =>
    (E.p.un .not v1.1).bind fun v2 =>
    condP v2
     (
      (resV .nilsl).bind fun v3 =>
      some (v3, v1.2))
     (
      (E.p.len 23 x2).bind fun v4 =>
      (E.p.make 23 v4 v4 v1.2).bind fun v5 =>
      (E.p.len 23 x2).bind fun v6 =>
      loopK (ev (E.cx Tryd.prog impl_Mirrored.kl) impl_Mirrored.lp0) E.lf (impl_Mirrored.st0 x0 x1 v5.1 x2 v6 (.int .i64 0) v5.2) (impl_Mirrored.K0 E (kTop Tryd.prog Tryd.f16)))
theorem main_eq (E : Env) (x0 x1 x2 : PV) (h : PHeap) : runBody (E.cx Tryd.prog kl) Tryd.f16 [x0, x1, x2] h = main E x0 x1 x2 h := by kernel_rfl
theorem call_eq (g : Nat → PV) (lf n : Nat) (x0 x1 x2 : PV) (h : PHeap) : CL g lf (n + 1) fn_impl_Mirrored [x0, x1, x2] h = main (env g lf n) x0 x1 x2 h := by
  rw [← main_eq]
  show call Tryd.prog g KL lf (n + 1) 16 [x0, x1, x2] h = _
  rw [call_succ, Tryd.func16]
  kernel_rfl
end impl_Mirrored
namespace spec_DrawSafeCells
noncomputable def main (E : Env) (x0 : PV) (h : PHeap) : Res :=
    (E.C fn_spec_l20Open [x0] h).bind fun v1 =>
    (E.C fn_spec_l20Few [v1.1, (.int .i64 6)] v1.2).bind fun v2 =>
    (E.p.extract v2.1 0).bind fun v3 =>
    (E.p.extract v2.1 1).bind fun v4 =>
    (E.p.extract v2.1 2).bind fun v5 =>
    (E.p.extract v2.1 3).bind fun v6 =>
    (resV v3).bind fun v7 =>
    (resV v4).bind fun v8 =>
    (resV v5).bind fun v9 =>
    (resV v6).bind fun v10 =>
    some (.tup [v7, v8, v9, v10], v2.2)
theorem main_eq (E : Env) (x0 : PV) (h : PHeap) : runBody (E.cx Tryd.prog kl) Tryd.f17 [x0] h = main E x0 h := by kernel_rfl
theorem call_eq (g : Nat → PV) (lf n : Nat) (x0 : PV) (h : PHeap) : CL g lf (n + 1) fn_spec_DrawSafeCells [x0] h = main (env g lf n) x0 h := by
  rw [← main_eq]
  show call Tryd.prog g KL lf (n + 1) 17 [x0] h = _
  rw [call_succ, Tryd.func17]
  kernel_rfl
end spec_DrawSafeCells
namespace impl_SafeCells
noncomputable def main (E : Env) (x0 x1 x2 x3 : PV) (h : PHeap) : Res :=
    (E.C fn_impl_PositionOk [x0, x1, x2] h).bind fun v1 =>
    (E.p.un .not v1.1).bind fun v2 =>
    (wantV v2 false).bind fun v3 =>
    (bif v3 then some (x3, v1.2) else some (.tup [], v1.2)).bind fun v4 =>
    (wantV v2 false).bind fun v5 =>
    (bif v5 then E.C fn_impl_playerOk [v4.1] v4.2 else some (.tup [], v4.2)).bind fun v6 =>
    (wantV v2 false).bind fun v7 =>
    (bif v7 then pv v6.2 (E.p.un .not v6.1) else some (.tup [], v6.2)).bind fun v8 =>
    (E.p.pick v2 (.bool true) v8.1).bind fun v9 =>
    condP v9
     (
      (resV .nilsl).bind fun v10 =>
      some (v10, v8.2))
     (
      (E.C fn_impl_newReverse [x0, x1] v8.2).bind fun v11 =>
      (E.C fn_impl_standingOf [x2, x3] v11.2).bind fun v12 =>
      (E.p.alloc 49 v12.2).bind fun v13 =>
      (E.p.alloc 54 v13.2).bind fun v14 =>
      (E.p.store 49 v13.1 v11.1 v14.2).bind fun v15 =>
      (E.p.store 54 v14.1 v12.1 v15).bind fun v16 =>
      (E.p.fieldAddr 49 v13.1 0).bind fun v17 =>
      (E.p.load 46 v17 v16).bind fun v18 =>
      (E.p.load 54 v14.1 v16).bind fun v19 =>
      (E.C fn_impl_search_joined [v18, v19] v16).bind fun v20 =>
      (E.p.bin .neq 3 v20.1 (.int .i64 0)).bind fun v21 =>
      condP v21
       (
        (resV .nilsl).bind fun v22 =>
        some (v22, v20.2))
       (
        (E.p.load 49 v13.1 v20.2).bind fun v23 =>
        (E.p.load 54 v14.1 v20.2).bind fun v24 =>
        (E.C fn_impl_reverse_safe [v23, v24] v20.2).bind fun v25 =>
        (E.C fn_slices_Collect_int_ [v25.1] v25.2).bind fun v26 =>
        (resV v26.1).bind fun v27 =>
        some (v27, v26.2)))
theorem main_eq (E : Env) (x0 x1 x2 x3 : PV) (h : PHeap) : runBody (E.cx Tryd.prog kl) Tryd.f18 [x0, x1, x2, x3] h = main E x0 x1 x2 x3 h := by kernel_rfl
theorem call_eq (g : Nat → PV) (lf n : Nat) (x0 x1 x2 x3 : PV) (h : PHeap) : CL g lf (n + 1) fn_impl_SafeCells [x0, x1, x2, x3] h = main (env g lf n) x0 x1 x2 x3 h := by
  rw [← main_eq]
  show call Tryd.prog g KL lf (n + 1) 18 [x0, x1, x2, x3] h = _
  rw [call_succ, Tryd.func18]
  kernel_rfl
end impl_SafeCells
namespace laws_sameInts
noncomputable def lp0 : Code := (codeAt (bodyOf Tryd.f19) [1, 1, 0, 1, 0, 0])
def st0 (x0 x1 x5 : PV) (h : PHeap) : St := ⟨[x0, x1, .junk, .junk, .junk, x5, .junk, .junk, .junk, .junk, .junk, .junk, .junk, .junk, .junk, .junk, .junk, .junk, .junk, .junk, .junk, .junk, .junk, .junk, .junk, .junk], h⟩
def sr_4 (x4 : PV) (h : PHeap) : St := ⟨[.junk, .junk, .junk, .junk, x4, .junk, .junk, .junk, .junk, .junk, .junk, .junk, .junk, .junk, .junk, .junk, .junk, .junk, .junk, .junk, .junk, .junk, .junk, .junk, .junk, .junk], h⟩
def se0_0_1_5_14 (x0 x1 x5 x14 : PV) (h : PHeap) : St := ⟨[x0, x1, .junk, .junk, .junk, x5, .junk, .junk, .junk, .junk, .junk, .junk, .junk, .junk, x14, .junk, .junk, .junk, .junk, .junk, .junk, .junk, .junk, .junk, .junk, .junk], h⟩
noncomputable def K0 (E : Env) (K : PX → St → Res) : PX → St → Res := (kBlock 0 (kSeq (ev (E.cx Tryd.prog kl) (codeAt (bodyOf Tryd.f19) [1, 1, 1])) K))
@[simp] theorem K0_ret (E : Env) (K : PX → St → Res) (s : St) : K0 E K .ret s = K .ret s := by kernel_rfl
noncomputable def body0 (E : Env) (K : PX → St → Res) (x0 x1 x5 : PV) (h : PHeap) : Res :=
    (E.p.len 23 x0).bind fun v14 =>
    (E.p.bin .lss 3 x5 v14).bind fun v15 =>
    condP v15
     (
      (E.p.indexAddr 23 x0 x5).bind fun v16 =>
      (E.p.load 3 v16 h).bind fun v17 =>
      (E.p.indexAddr 23 x1 x5).bind fun v18 =>
      (E.p.load 3 v18 h).bind fun v19 =>
      (E.p.bin .neq 3 v17 v19).bind fun v20 =>
      condP v20
       (
        K .ret (sr_4 (.bool false) h))
       (
        (E.p.bin .add 3 x5 (.int .i64 1)).bind fun v21 =>
        K .normal (st0 x0 x1 v21 h)))
     (
      K (.exit 0) (se0_0_1_5_14 x0 x1 x5 v15 h))
theorem body0_eq (E : Env) (K : PX → St → Res) (x0 x1 x5 : PV) (h : PHeap) : ev (E.cx Tryd.prog kl) lp0 (st0 x0 x1 x5 h) K = body0 E K x0 x1 x5 h := by kernel_rfl
theorem after0_se0_0_1_5_14 (E : Env) (x0 x1 x5 x14 : PV) (h : PHeap) : K0 E (kTop Tryd.prog Tryd.f19) (.exit 0) (se0_0_1_5_14 x0 x1 x5 x14 h) =
    (resV (.bool true)).bind fun v13 =>
    some (v13, h) := by kernel_rfl
theorem top_sr_4 (x4 : PV) (h : PHeap) : kTop Tryd.prog Tryd.f19 .ret (sr_4 x4 h) =
    (resV x4).bind fun v22 =>
    some (v22, h) := by kernel_rfl
noncomputable def main (E : Env) (x0 x1 : PV) (h : PHeap) : Res :=
    (E.p.len 23 x0).bind fun v1 =>
    (E.p.len 23 x1).bind fun v2 =>
    (E.p.bin .neq 3 v1 v2).bind fun v3 =>
    condP v3
     (
      (resV (.bool false)).bind fun v4 =>
      some (v4, h))
     (
      loopK (ev (E.cx Tryd.prog laws_sameInts.kl) laws_sameInts.lp0) E.lf (laws_sameInts.st0 x0 x1 (.int .i64 0) h) (laws_sameInts.K0 E (kTop Tryd.prog Tryd.f19)))
theorem main_eq (E : Env) (x0 x1 : PV) (h : PHeap) : runBody (E.cx Tryd.prog kl) Tryd.f19 [x0, x1] h = main E x0 x1 h := by kernel_rfl
theorem call_eq (g : Nat → PV) (lf n : Nat) (x0 x1 : PV) (h : PHeap) : CL g lf (n + 1) fn_laws_sameInts [x0, x1] h = main (env g lf n) x0 x1 h := by
  rw [← main_eq]
  show call Tryd.prog g KL lf (n + 1) 19 [x0, x1] h = _
  rw [call_succ, Tryd.func19]
  kernel_rfl
end laws_sameInts
namespace spec_SafeCells
noncomputable def lp0 : Code := (codeAt (bodyOf Tryd.f20) [1, 1, 0, 1, 0, 0])
def st0 (x0 x1 x2 x3 x9 x10 : PV) (h : PHeap) : St := ⟨[x0, x1, x2, x3, .junk, .junk, .junk, .junk, .junk, x9, x10, .junk, .junk, .junk, .junk, .junk, .junk, .junk, .junk, .junk, .junk, .junk, .junk, .junk, .junk, .junk, .junk, .junk, .junk, .junk, .junk, .junk, .junk, .junk, .junk, .junk, .junk, .junk, .junk, .junk, .junk, .junk, .junk, .junk, .junk], h⟩
def se0_0_1_2_3_9_10_17 (x0 x1 x2 x3 x9 x10 x17 : PV) (h : PHeap) : St := ⟨[x0, x1, x2, x3, .junk, .junk, .junk, .junk, .junk, x9, x10, .junk, .junk, .junk, .junk, .junk, .junk, x17, .junk, .junk, .junk, .junk, .junk, .junk, .junk, .junk, .junk, .junk, .junk, .junk, .junk, .junk, .junk, .junk, .junk, .junk, .junk, .junk, .junk, .junk, .junk, .junk, .junk, .junk, .junk], h⟩
noncomputable def K0 (E : Env) (K : PX → St → Res) : PX → St → Res := (kBlock 0 (kSeq (ev (E.cx Tryd.prog kl) (codeAt (bodyOf Tryd.f20) [1, 1, 1])) K))
@[simp] theorem K0_ret (E : Env) (K : PX → St → Res) (s : St) : K0 E K .ret s = K .ret s := by kernel_rfl
noncomputable def body0 (E : Env) (K : PX → St → Res) (x0 x1 x2 x3 x9 x10 : PV) (h : PHeap) : Res :=
    (E.p.len 23 x2).bind fun v29 =>
    (E.p.bin .lss 3 x10 v29).bind fun v30 =>
    condP v30
     (
      (E.C fn_spec_Played [x0, x1, x2, x10, x3] h).bind fun v31 =>
      (E.p.extract v31.1 0).bind fun v32 =>
      (E.p.extract v31.1 1).bind fun v33 =>
      (wantV v33 true).bind fun v34 =>
      (bif v34 then some (x0, v31.2) else some (.tup [], v31.2)).bind fun v35 =>
      (wantV v33 true).bind fun v36 =>
      (bif v36 then some (x1, v35.2) else some (.tup [], v35.2)).bind fun v37 =>
      (wantV v33 true).bind fun v38 =>
      (bif v38 then some (v32, v37.2) else some (.tup [], v37.2)).bind fun v39 =>
      (wantV v33 true).bind fun v40 =>
      (bif v40 then some (x3, v39.2) else some (.tup [], v39.2)).bind fun v41 =>
      (wantV v33 true).bind fun v42 =>
      (bif v42 then E.C fn_spec_l1Other [v41.1] v41.2 else some (.tup [], v41.2)).bind fun v43 =>
      (wantV v33 true).bind fun v44 =>
      (bif v44 then E.C fn_spec_ReverseWinner [v35.1, v37.1, v39.1, v43.1] v43.2 else some (.tup [], v43.2)).bind fun v45 =>
      (wantV v33 true).bind fun v46 =>
      (bif v46 then some (x3, v45.2) else some (.tup [], v45.2)).bind fun v47 =>
      (wantV v33 true).bind fun v48 =>
      (bif v48 then pv v47.2 (E.p.bin .eql 3 v45.1 v47.1) else some (.tup [], v47.2)).bind fun v49 =>
      (E.p.pick v33 v49.1 (.bool false)).bind fun v50 =>
      condP v50
       (
        (E.p.buildSlice 23 1 [(0, x10)] v49.2).bind fun v51 =>
        (E.p.append 23 23 x9 v51.1 v51.2).bind fun v52 =>
        (E.p.bin .add 3 x10 (.int .i64 1)).bind fun v53 =>
        K .normal (st0 x0 x1 x2 x3 v52.1 v53 v52.2))
       (
        (E.p.bin .add 3 x10 (.int .i64 1)).bind fun v54 =>
        K .normal (st0 x0 x1 x2 x3 x9 v54 v49.2)))
     (
      K (.exit 0) (se0_0_1_2_3_9_10_17 x0 x1 x2 x3 x9 x10 v30 h))
theorem body0_eq (E : Env) (K : PX → St → Res) (x0 x1 x2 x3 x9 x10 : PV) (h : PHeap) : ev (E.cx Tryd.prog kl) lp0 (st0 x0 x1 x2 x3 x9 x10 h) K = body0 E K x0 x1 x2 x3 x9 x10 h := by kernel_rfl
theorem after0_se0_0_1_2_3_9_10_17 (E : Env) (x0 x1 x2 x3 x9 x10 x17 : PV) (h : PHeap) : K0 E (kTop Tryd.prog Tryd.f20) (.exit 0) (se0_0_1_2_3_9_10_17 x0 x1 x2 x3 x9 x10 x17 h) =
    (resV x9).bind fun v28 =>
    some (v28, h) := by kernel_rfl
noncomputable def main (E : Env) (x0 x1 x2 x3 : PV) (h : PHeap) : Res :=
    (E.p.buildSlice 23 0 [] h).bind fun v1 =>
    loopK (ev (E.cx Tryd.prog spec_SafeCells.kl) spec_SafeCells.lp0) E.lf (spec_SafeCells.st0 x0 x1 x2 x3 v1.1 (.int .i64 0) v1.2) (spec_SafeCells.K0 E (kTop Tryd.prog Tryd.f20))
theorem main_eq (E : Env) (x0 x1 x2 x3 : PV) (h : PHeap) : runBody (E.cx Tryd.prog kl) Tryd.f20 [x0, x1, x2, x3] h = main E x0 x1 x2 x3 h := by kernel_rfl
theorem call_eq (g : Nat → PV) (lf n : Nat) (x0 x1 x2 x3 : PV) (h : PHeap) : CL g lf (n + 1) fn_spec_SafeCells [x0, x1, x2, x3] h = main (env g lf n) x0 x1 x2 x3 h := by
  rw [← main_eq]
  show call Tryd.prog g KL lf (n + 1) 20 [x0, x1, x2, x3] h = _
  rw [call_succ, Tryd.func20]
  kernel_rfl
end spec_SafeCells
namespace impl_Played
noncomputable def main (E : Env) (x0 x1 x2 x3 x4 : PV) (h : PHeap) : Res :=
    (E.C fn_impl_MoveOk [x0, x1, x2, x3, x4] h).bind fun v1 =>
    (E.p.un .not v1.1).bind fun v2 =>
    condP v2
     (
      (resV .nilsl).bind fun v3 =>
      (resV (.bool false)).bind fun v4 =>
      some (.tup [v3, v4], v1.2))
     (
      (E.C fn_slices_Clone___int_int_ [x2] v1.2).bind fun v5 =>
      (E.p.indexAddr 23 v5.1 x3).bind fun v6 =>
      (E.p.store 3 v6 x4 v5.2).bind fun v7 =>
      (resV v5.1).bind fun v8 =>
      (resV (.bool true)).bind fun v9 =>
      some (.tup [v8, v9], v7))
theorem main_eq (E : Env) (x0 x1 x2 x3 x4 : PV) (h : PHeap) : runBody (E.cx Tryd.prog kl) Tryd.f21 [x0, x1, x2, x3, x4] h = main E x0 x1 x2 x3 x4 h := by kernel_rfl
theorem call_eq (g : Nat → PV) (lf n : Nat) (x0 x1 x2 x3 x4 : PV) (h : PHeap) : CL g lf (n + 1) fn_impl_Played [x0, x1, x2, x3, x4] h = main (env g lf n) x0 x1 x2 x3 x4 h := by
  rw [← main_eq]
  show call Tryd.prog g KL lf (n + 1) 21 [x0, x1, x2, x3, x4] h = _
  rw [call_succ, Tryd.func21]
  kernel_rfl
end impl_Played
namespace laws_hasInt
noncomputable def lp0 : Code := (codeAt (bodyOf Tryd.f22) [1, 0, 1, 0, 0])
def st0 (x0 x1 x5 : PV) (h : PHeap) : St := ⟨[x0, x1, .junk, .junk, .junk, x5, .junk, .junk, .junk, .junk, .junk, .junk, .junk, .junk, .junk, .junk, .junk, .junk], h⟩
def sr_4 (x4 : PV) (h : PHeap) : St := ⟨[.junk, .junk, .junk, .junk, x4, .junk, .junk, .junk, .junk, .junk, .junk, .junk, .junk, .junk, .junk, .junk, .junk, .junk], h⟩
def se0_0_1_5_9 (x0 x1 x5 x9 : PV) (h : PHeap) : St := ⟨[x0, x1, .junk, .junk, .junk, x5, .junk, .junk, .junk, x9, .junk, .junk, .junk, .junk, .junk, .junk, .junk, .junk], h⟩
noncomputable def K0 (E : Env) (K : PX → St → Res) : PX → St → Res := (kBlock 0 (kSeq (ev (E.cx Tryd.prog kl) (codeAt (bodyOf Tryd.f22) [1, 1])) K))
@[simp] theorem K0_ret (E : Env) (K : PX → St → Res) (s : St) : K0 E K .ret s = K .ret s := by kernel_rfl
noncomputable def body0 (E : Env) (K : PX → St → Res) (x0 x1 x5 : PV) (h : PHeap) : Res :=
    (E.p.len 23 x0).bind fun v8 =>
    (E.p.bin .lss 3 x5 v8).bind fun v9 =>
    condP v9
     (
      (E.p.indexAddr 23 x0 x5).bind fun v10 =>
      (E.p.load 3 v10 h).bind fun v11 =>
      (E.p.bin .eql 3 v11 x1).bind fun v12 =>
      condP v12
       (
        K .ret (sr_4 (.bool true) h))
       (
        (E.p.bin .add 3 x5 (.int .i64 1)).bind fun v13 =>
        K .normal (st0 x0 x1 v13 h)))
     (
      K (.exit 0) (se0_0_1_5_9 x0 x1 x5 v9 h))
theorem body0_eq (E : Env) (K : PX → St → Res) (x0 x1 x5 : PV) (h : PHeap) : ev (E.cx Tryd.prog kl) lp0 (st0 x0 x1 x5 h) K = body0 E K x0 x1 x5 h := by kernel_rfl
theorem after0_se0_0_1_5_9 (E : Env) (x0 x1 x5 x9 : PV) (h : PHeap) : K0 E (kTop Tryd.prog Tryd.f22) (.exit 0) (se0_0_1_5_9 x0 x1 x5 x9 h) =
    (resV (.bool false)).bind fun v7 =>
    some (v7, h) := by kernel_rfl
theorem top_sr_4 (x4 : PV) (h : PHeap) : kTop Tryd.prog Tryd.f22 .ret (sr_4 x4 h) =
    (resV x4).bind fun v14 =>
    some (v14, h) := by kernel_rfl
noncomputable def main (E : Env) (x0 x1 : PV) (h : PHeap) : Res :=
    loopK (ev (E.cx Tryd.prog laws_hasInt.kl) laws_hasInt.lp0) E.lf (laws_hasInt.st0 x0 x1 (.int .i64 0) h) (laws_hasInt.K0 E (kTop Tryd.prog Tryd.f22))
theorem main_eq (E : Env) (x0 x1 : PV) (h : PHeap) : runBody (E.cx Tryd.prog kl) Tryd.f22 [x0, x1] h = main E x0 x1 h := by kernel_rfl
theorem call_eq (g : Nat → PV) (lf n : Nat) (x0 x1 : PV) (h : PHeap) : CL g lf (n + 1) fn_laws_hasInt [x0, x1] h = main (env g lf n) x0 x1 h := by
  rw [← main_eq]
  show call Tryd.prog g KL lf (n + 1) 22 [x0, x1] h = _
  rw [call_succ, Tryd.func22]
  kernel_rfl
end laws_hasInt
namespace impl_Joins
noncomputable def main (E : Env) (x0 x1 x2 x3 : PV) (h : PHeap) : Res :=
    (E.C fn_impl_PositionOk [x0, x1, x2] h).bind fun v1 =>
    (E.p.un .not v1.1).bind fun v2 =>
    (wantV v2 false).bind fun v3 =>
    (bif v3 then some (x3, v1.2) else some (.tup [], v1.2)).bind fun v4 =>
    (wantV v2 false).bind fun v5 =>
    (bif v5 then E.C fn_impl_playerOk [v4.1] v4.2 else some (.tup [], v4.2)).bind fun v6 =>
    (wantV v2 false).bind fun v7 =>
    (bif v7 then pv v6.2 (E.p.un .not v6.1) else some (.tup [], v6.2)).bind fun v8 =>
    (E.p.pick v2 (.bool true) v8.1).bind fun v9 =>
    condP v9
     (
      (resV (.bool false)).bind fun v10 =>
      some (v10, v8.2))
     (
      (E.C fn_impl_sidesOf [x0, x1, x3] v8.2).bind fun v11 =>
      (E.p.extract v11.1 0).bind fun v12 =>
      (E.p.extract v11.1 1).bind fun v13 =>
      (E.C fn_impl_setOf [x2, x3] v11.2).bind fun v14 =>
      (E.p.bin .and 3 v12 v14.1).bind fun v15 =>
      (E.C fn_impl_grown [x0, x1, v15, v14.1] v14.2).bind fun v16 =>
      (E.p.bin .and 3 v16.1 v13).bind fun v17 =>
      (E.p.bin .neq 3 v17 (.int .i64 0)).bind fun v18 =>
      (resV v18).bind fun v19 =>
      some (v19, v16.2))
theorem main_eq (E : Env) (x0 x1 x2 x3 : PV) (h : PHeap) : runBody (E.cx Tryd.prog kl) Tryd.f23 [x0, x1, x2, x3] h = main E x0 x1 x2 x3 h := by kernel_rfl
theorem call_eq (g : Nat → PV) (lf n : Nat) (x0 x1 x2 x3 : PV) (h : PHeap) : CL g lf (n + 1) fn_impl_Joins [x0, x1, x2, x3] h = main (env g lf n) x0 x1 x2 x3 h := by
  rw [← main_eq]
  show call Tryd.prog g KL lf (n + 1) 23 [x0, x1, x2, x3] h = _
  rw [call_succ, Tryd.func23]
  kernel_rfl
end impl_Joins
namespace laws_ascend
noncomputable def lp0 : Code := (codeAt (bodyOf Tryd.f24) [1, 0, 1, 0, 0])
def st0 (x0 x3 : PV) (h : PHeap) : St := ⟨[x0, .junk, .junk, x3, .junk, .junk, .junk, .junk, .junk, .junk, .junk, .junk, .junk, .junk, .junk, .junk, .junk, .junk, .junk, .junk], h⟩
def sr_2 (x2 : PV) (h : PHeap) : St := ⟨[.junk, .junk, x2, .junk, .junk, .junk, .junk, .junk, .junk, .junk, .junk, .junk, .junk, .junk, .junk, .junk, .junk, .junk, .junk, .junk], h⟩
def se0_0_3_7 (x0 x3 x7 : PV) (h : PHeap) : St := ⟨[x0, .junk, .junk, x3, .junk, .junk, .junk, x7, .junk, .junk, .junk, .junk, .junk, .junk, .junk, .junk, .junk, .junk, .junk, .junk], h⟩
noncomputable def K0 (E : Env) (K : PX → St → Res) : PX → St → Res := (kBlock 0 (kSeq (ev (E.cx Tryd.prog kl) (codeAt (bodyOf Tryd.f24) [1, 1])) K))
@[simp] theorem K0_ret (E : Env) (K : PX → St → Res) (s : St) : K0 E K .ret s = K .ret s := by kernel_rfl
noncomputable def body0 (E : Env) (K : PX → St → Res) (x0 x3 : PV) (h : PHeap) : Res :=
    (E.p.len 23 x0).bind fun v11 =>
    (E.p.bin .lss 3 x3 v11).bind fun v12 =>
    condP v12
     (
      (E.p.bin .sub 3 x3 (.int .i64 1)).bind fun v13 =>
      (E.p.indexAddr 23 x0 v13).bind fun v14 =>
      (E.p.load 3 v14 h).bind fun v15 =>
      (E.p.indexAddr 23 x0 x3).bind fun v16 =>
      (E.p.load 3 v16 h).bind fun v17 =>
      (E.p.bin .geq 3 v15 v17).bind fun v18 =>
      condP v18
       (
        K .ret (sr_2 (.bool false) h))
       (
        (E.p.bin .add 3 x3 (.int .i64 1)).bind fun v19 =>
        K .normal (st0 x0 v19 h)))
     (
      K (.exit 0) (se0_0_3_7 x0 x3 v12 h))
theorem body0_eq (E : Env) (K : PX → St → Res) (x0 x3 : PV) (h : PHeap) : ev (E.cx Tryd.prog kl) lp0 (st0 x0 x3 h) K = body0 E K x0 x3 h := by kernel_rfl
theorem after0_se0_0_3_7 (E : Env) (x0 x3 x7 : PV) (h : PHeap) : K0 E (kTop Tryd.prog Tryd.f24) (.exit 0) (se0_0_3_7 x0 x3 x7 h) =
    (resV (.bool true)).bind fun v10 =>
    some (v10, h) := by kernel_rfl
theorem top_sr_2 (x2 : PV) (h : PHeap) : kTop Tryd.prog Tryd.f24 .ret (sr_2 x2 h) =
    (resV x2).bind fun v20 =>
    some (v20, h) := by kernel_rfl
noncomputable def main (E : Env) (x0 : PV) (h : PHeap) : Res :=
    loopK (ev (E.cx Tryd.prog laws_ascend.kl) laws_ascend.lp0) E.lf (laws_ascend.st0 x0 (.int .i64 1) h) (laws_ascend.K0 E (kTop Tryd.prog Tryd.f24))
theorem main_eq (E : Env) (x0 : PV) (h : PHeap) : runBody (E.cx Tryd.prog kl) Tryd.f24 [x0] h = main E x0 h := by kernel_rfl
theorem call_eq (g : Nat → PV) (lf n : Nat) (x0 : PV) (h : PHeap) : CL g lf (n + 1) fn_laws_ascend [x0] h = main (env g lf n) x0 h := by
  rw [← main_eq]
  show call Tryd.prog g KL lf (n + 1) 24 [x0] h = _
  rw [call_succ, Tryd.func24]
  kernel_rfl
end laws_ascend
namespace spec_DrawSquareReverse
noncomputable def main (E : Env) (x0 : PV) (h : PHeap) : Res :=
    (E.p.buildSlice 23 8 [(0, (.int .i64 1)), (1, (.int .i64 2)), (2, (.int .i64 1)), (3, (.int .i64 2)), (4, (.int .i64 0)), (5, (.int .i64 4)), (6, (.int .i64 3)), (7, (.int .i64 2))] h).bind fun v1 =>
    (E.C fn_spec_l20Open [x0] v1.2).bind fun v2 =>
    (E.C fn_spec_l20Rd_pick [v2.1, (.int .i64 8)] v2.2).bind fun v3 =>
    (E.p.indexAddr 23 v1.1 v3.1).bind fun v4 =>
    (E.p.load 3 v4 v3.2).bind fun v5 =>
    (resV v5).bind fun v6 =>
    some (v6, v3.2)
theorem main_eq (E : Env) (x0 : PV) (h : PHeap) : runBody (E.cx Tryd.prog kl) Tryd.f25 [x0] h = main E x0 h := by kernel_rfl
theorem call_eq (g : Nat → PV) (lf n : Nat) (x0 : PV) (h : PHeap) : CL g lf (n + 1) fn_spec_DrawSquareReverse [x0] h = main (env g lf n) x0 h := by
  rw [← main_eq]
  show call Tryd.prog g KL lf (n + 1) 25 [x0] h = _
  rw [call_succ, Tryd.func25]
  kernel_rfl
end spec_DrawSquareReverse
namespace impl_SquareReverse
noncomputable def main (E : Env) (x0 : PV) (h : PHeap) : Res :=
    (E.C fn_impl_freeBoard [x0, x0] h).bind fun v1 =>
    (E.C fn_impl_ReverseWinner [x0, x0, v1.1, (.int .i64 1)] v1.2).bind fun v2 =>
    (resV v2.1).bind fun v3 =>
    some (v3, v2.2)
theorem main_eq (E : Env) (x0 : PV) (h : PHeap) : runBody (E.cx Tryd.prog kl) Tryd.f26 [x0] h = main E x0 h := by kernel_rfl
theorem call_eq (g : Nat → PV) (lf n : Nat) (x0 : PV) (h : PHeap) : CL g lf (n + 1) fn_impl_SquareReverse [x0] h = main (env g lf n) x0 h := by
  rw [← main_eq]
  show call Tryd.prog g KL lf (n + 1) 26 [x0] h = _
  rw [call_succ, Tryd.func26]
  kernel_rfl
end impl_SquareReverse
namespace spec_SquareReverse
noncomputable def main (E : Env) (x0 : PV) (h : PHeap) : Res :=
    (E.C fn_spec_l1In [x0, (.int .i64 1), (.int .i64 3)] h).bind fun v1 =>
    (E.p.un .not v1.1).bind fun v2 =>
    condP v2
     (
      (resV (.int .i64 0)).bind fun v3 =>
      some (v3, v1.2))
     (
      (E.p.bin .mul 3 x0 x0).bind fun v4 =>
      (E.p.make 23 v4 v4 v1.2).bind fun v5 =>
      (E.C fn_spec_ReverseWinner [x0, x0, v5.1, (.int .i64 1)] v5.2).bind fun v6 =>
      (resV v6.1).bind fun v7 =>
      some (v7, v6.2))
theorem main_eq (E : Env) (x0 : PV) (h : PHeap) : runBody (E.cx Tryd.prog kl) Tryd.f27 [x0] h = main E x0 h := by kernel_rfl
theorem call_eq (g : Nat → PV) (lf n : Nat) (x0 : PV) (h : PHeap) : CL g lf (n + 1) fn_spec_SquareReverse [x0] h = main (env g lf n) x0 h := by
  rw [← main_eq]
  show call Tryd.prog g KL lf (n + 1) 27 [x0] h = _
  rw [call_succ, Tryd.func27]
  kernel_rfl
end spec_SquareReverse
namespace impl_CellsOf
noncomputable def lp0 : Code := (codeAt (bodyOf Tryd.f28) [1, 1, 1, 0, 1, 0, 0])
def st0 (x3 x9 x22 x23 x24 : PV) (h : PHeap) : St := ⟨[.junk, .junk, .junk, x3, .junk, .junk, .junk, .junk, .junk, x9, .junk, .junk, .junk, .junk, .junk, .junk, .junk, .junk, .junk, .junk, .junk, .junk, x22, x23, x24, .junk, .junk, .junk, .junk, .junk, .junk, .junk, .junk, .junk, .junk, .junk, .junk, .junk], h⟩
def se0_3_9_22_23_24_25 (x3 x9 x22 x23 x24 x25 : PV) (h : PHeap) : St := ⟨[.junk, .junk, .junk, x3, .junk, .junk, .junk, .junk, .junk, x9, .junk, .junk, .junk, .junk, .junk, .junk, .junk, .junk, .junk, .junk, .junk, .junk, x22, x23, x24, x25, .junk, .junk, .junk, .junk, .junk, .junk, .junk, .junk, .junk, .junk, .junk, .junk], h⟩
noncomputable def K0 (E : Env) (K : PX → St → Res) : PX → St → Res := (kBlock 0 (kSeq (ev (E.cx Tryd.prog kl) (codeAt (bodyOf Tryd.f28) [1, 1, 1, 1])) K))
@[simp] theorem K0_ret (E : Env) (K : PX → St → Res) (s : St) : K0 E K .ret s = K .ret s := by kernel_rfl
noncomputable def body0 (E : Env) (K : PX → St → Res) (x3 x9 x22 x23 x24 : PV) (h : PHeap) : Res :=
    (E.p.bin .lss 3 x24 x23).bind fun v21 =>
    condP v21
     (
      (E.p.indexAddr 23 x22 x24).bind fun v22 =>
      (E.p.load 3 v22 h).bind fun v23 =>
      (E.p.bin .eql 3 v23 x3).bind fun v24 =>
      condP v24
       (
        (E.p.buildSlice 23 1 [(0, x24)] h).bind fun v25 =>
        (E.p.append 23 23 x9 v25.1 v25.2).bind fun v26 =>
        (E.p.bin .add 3 x24 (.int .i64 1)).bind fun v27 =>
        K .normal (st0 x3 v26.1 x22 x23 v27 v26.2))
       (
        (E.p.bin .add 3 x24 (.int .i64 1)).bind fun v28 =>
        K .normal (st0 x3 x9 x22 x23 v28 h)))
     (
      K (.exit 0) (se0_3_9_22_23_24_25 x3 x9 x22 x23 x24 v21 h))
theorem body0_eq (E : Env) (K : PX → St → Res) (x3 x9 x22 x23 x24 : PV) (h : PHeap) : ev (E.cx Tryd.prog kl) lp0 (st0 x3 x9 x22 x23 x24 h) K = body0 E K x3 x9 x22 x23 x24 h := by kernel_rfl
theorem after0_se0_3_9_22_23_24_25 (E : Env) (x3 x9 x22 x23 x24 x25 : PV) (h : PHeap) : K0 E (kTop Tryd.prog Tryd.f28) (.exit 0) (se0_3_9_22_23_24_25 x3 x9 x22 x23 x24 x25 h) =
    (resV x9).bind fun v20 =>
    some (v20, h) := by kernel_rfl
noncomputable def main (E : Env) (x0 x1 x2 x3 : PV) (h : PHeap) : Res :=
    (E.C fn_impl_PositionOk [x0, x1, x2] h).bind fun v1 =>
    (E.p.un .not v1.1).bind fun v2 =>
    (wantV v2 false).bind fun v3 =>
    (bif v3 then some (x3, v1.2) else some (.tup [], v1.2)).bind fun v4 =>
    (wantV v2 false).bind fun v5 =>
    (bif v5 then E.C fn_impl_contentOk [v4.1] v4.2 else some (.tup [], v4.2)).bind fun v6 =>
    (wantV v2 false).bind fun v7 =>
    (bif v7 then pv v6.2 (E.p.un .not v6.1) else some (.tup [], v6.2)).bind fun v8 =>
    (E.p.pick v2 (.bool true) v8.1).bind fun v9 =>
    condP v9
     (
      (resV .nilsl).bind fun v10 =>
      some (v10, v8.2))
     (
      (E.p.len 23 x2).bind fun v11 =>
      loopK (ev (E.cx Tryd.prog impl_CellsOf.kl) impl_CellsOf.lp0) E.lf (impl_CellsOf.st0 x3 .nilsl x2 v11 (.int .i64 0) v8.2) (impl_CellsOf.K0 E (kTop Tryd.prog Tryd.f28)))
theorem main_eq (E : Env) (x0 x1 x2 x3 : PV) (h : PHeap) : runBody (E.cx Tryd.prog kl) Tryd.f28 [x0, x1, x2, x3] h = main E x0 x1 x2 x3 h := by kernel_rfl
theorem call_eq (g : Nat → PV) (lf n : Nat) (x0 x1 x2 x3 : PV) (h : PHeap) : CL g lf (n + 1) fn_impl_CellsOf [x0, x1, x2, x3] h = main (env g lf n) x0 x1 x2 x3 h := by
  rw [← main_eq]
  show call Tryd.prog g KL lf (n + 1) 28 [x0, x1, x2, x3] h = _
  rw [call_succ, Tryd.func28]
  kernel_rfl
end impl_CellsOf
namespace impl_WinnerOf
noncomputable def main (E : Env) (x0 x1 x2 x3 : PV) (h : PHeap) : Res :=
    (E.C fn_impl_PositionOk [x0, x1, x2] h).bind fun v1 =>
    (E.p.un .not v1.1).bind fun v2 =>
    (wantV v2 false).bind fun v3 =>
    (bif v3 then some (x3, v1.2) else some (.tup [], v1.2)).bind fun v4 =>
    (wantV v2 false).bind fun v5 =>
    (bif v5 then E.C fn_impl_playerOk [v4.1] v4.2 else some (.tup [], v4.2)).bind fun v6 =>
    (wantV v2 false).bind fun v7 =>
    (bif v7 then pv v6.2 (E.p.un .not v6.1) else some (.tup [], v6.2)).bind fun v8 =>
    (E.p.pick v2 (.bool true) v8.1).bind fun v9 =>
    condP v9
     (
      (resV (.int .i64 0)).bind fun v10 =>
      some (v10, v8.2))
     (
      (E.C fn_impl_newSearch [x0, x1] v8.2).bind fun v11 =>
      (E.C fn_impl_standingOf [x2, x3] v11.2).bind fun v12 =>
      (E.C fn_impl_search_winner [v11.1, v12.1] v12.2).bind fun v13 =>
      (resV v13.1).bind fun v14 =>
      some (v14, v13.2))
theorem main_eq (E : Env) (x0 x1 x2 x3 : PV) (h : PHeap) : runBody (E.cx Tryd.prog kl) Tryd.f29 [x0, x1, x2, x3] h = main E x0 x1 x2 x3 h := by kernel_rfl
theorem call_eq (g : Nat → PV) (lf n : Nat) (x0 x1 x2 x3 : PV) (h : PHeap) : CL g lf (n + 1) fn_impl_WinnerOf [x0, x1, x2, x3] h = main (env g lf n) x0 x1 x2 x3 h := by
  rw [← main_eq]
  show call Tryd.prog g KL lf (n + 1) 29 [x0, x1, x2, x3] h = _
  rw [call_succ, Tryd.func29]
  kernel_rfl
end impl_WinnerOf
namespace laws_toIntS
noncomputable def lp0 : Code := (codeAt (bodyOf Tryd.f30) [1, 1, 0, 1, 0, 0])
def st0 (x0 x3 x4 : PV) (h : PHeap) : St := ⟨[x0, .junk, .junk, x3, x4, .junk, .junk, .junk, .junk, .junk, .junk, .junk, .junk, .junk, .junk, .junk, .junk, .junk, .junk, .junk, .junk, .junk], h⟩
def se0_0_3_4_11 (x0 x3 x4 x11 : PV) (h : PHeap) : St := ⟨[x0, .junk, .junk, x3, x4, .junk, .junk, .junk, .junk, .junk, .junk, x11, .junk, .junk, .junk, .junk, .junk, .junk, .junk, .junk, .junk, .junk], h⟩
noncomputable def K0 (E : Env) (K : PX → St → Res) : PX → St → Res := (kBlock 0 (kSeq (ev (E.cx Tryd.prog kl) (codeAt (bodyOf Tryd.f30) [1, 1, 1])) K))
@[simp] theorem K0_ret (E : Env) (K : PX → St → Res) (s : St) : K0 E K .ret s = K .ret s := by kernel_rfl
noncomputable def body0 (E : Env) (K : PX → St → Res) (x0 x3 x4 : PV) (h : PHeap) : Res :=
    (E.p.len 23 x0).bind fun v11 =>
    (E.p.bin .lss 3 x4 v11).bind fun v12 =>
    condP v12
     (
      (E.p.indexAddr 23 x0 x4).bind fun v13 =>
      (E.p.load 3 v13 h).bind fun v14 =>
      (E.p.indexAddr 23 x3 x4).bind fun v15 =>
      (E.p.store 3 v15 v14 h).bind fun v16 =>
      (E.p.bin .add 3 x4 (.int .i64 1)).bind fun v17 =>
      K .normal (st0 x0 x3 v17 v16))
     (
      K (.exit 0) (se0_0_3_4_11 x0 x3 x4 v12 h))
theorem body0_eq (E : Env) (K : PX → St → Res) (x0 x3 x4 : PV) (h : PHeap) : ev (E.cx Tryd.prog kl) lp0 (st0 x0 x3 x4 h) K = body0 E K x0 x3 x4 h := by kernel_rfl
theorem after0_se0_0_3_4_11 (E : Env) (x0 x3 x4 x11 : PV) (h : PHeap) : K0 E (kTop Tryd.prog Tryd.f30) (.exit 0) (se0_0_3_4_11 x0 x3 x4 x11 h) =
    (resV x3).bind fun v10 =>
    some (v10, h) := by kernel_rfl
noncomputable def main (E : Env) (x0 : PV) (h : PHeap) : Res :=
    (E.p.len 23 x0).bind fun v1 =>
    (E.p.make 23 v1 v1 h).bind fun v2 =>
    loopK (ev (E.cx Tryd.prog laws_toIntS.kl) laws_toIntS.lp0) E.lf (laws_toIntS.st0 x0 v2.1 (.int .i64 0) v2.2) (laws_toIntS.K0 E (kTop Tryd.prog Tryd.f30))
theorem main_eq (E : Env) (x0 : PV) (h : PHeap) : runBody (E.cx Tryd.prog kl) Tryd.f30 [x0] h = main E x0 h := by kernel_rfl
theorem call_eq (g : Nat → PV) (lf n : Nat) (x0 : PV) (h : PHeap) : CL g lf (n + 1) fn_laws_toIntS [x0] h = main (env g lf n) x0 h := by
  rw [← main_eq]
  show call Tryd.prog g KL lf (n + 1) 30 [x0] h = _
  rw [call_succ, Tryd.func30]
  kernel_rfl
end laws_toIntS
namespace laws_eqIntS
noncomputable def lp0 : Code := (codeAt (bodyOf Tryd.f31) [1, 1, 0, 1, 0, 0])
def st0 (x0 x1 x5 : PV) (h : PHeap) : St := ⟨[x0, x1, .junk, .junk, .junk, x5, .junk, .junk, .junk, .junk, .junk, .junk, .junk, .junk, .junk, .junk, .junk, .junk, .junk, .junk, .junk, .junk, .junk, .junk, .junk, .junk], h⟩
def sr_4 (x4 : PV) (h : PHeap) : St := ⟨[.junk, .junk, .junk, .junk, x4, .junk, .junk, .junk, .junk, .junk, .junk, .junk, .junk, .junk, .junk, .junk, .junk, .junk, .junk, .junk, .junk, .junk, .junk, .junk, .junk, .junk], h⟩
def se0_0_1_5_14 (x0 x1 x5 x14 : PV) (h : PHeap) : St := ⟨[x0, x1, .junk, .junk, .junk, x5, .junk, .junk, .junk, .junk, .junk, .junk, .junk, .junk, x14, .junk, .junk, .junk, .junk, .junk, .junk, .junk, .junk, .junk, .junk, .junk], h⟩
noncomputable def K0 (E : Env) (K : PX → St → Res) : PX → St → Res := (kBlock 0 (kSeq (ev (E.cx Tryd.prog kl) (codeAt (bodyOf Tryd.f31) [1, 1, 1])) K))
@[simp] theorem K0_ret (E : Env) (K : PX → St → Res) (s : St) : K0 E K .ret s = K .ret s := by kernel_rfl
noncomputable def body0 (E : Env) (K : PX → St → Res) (x0 x1 x5 : PV) (h : PHeap) : Res :=
    (E.p.len 23 x0).bind fun v14 =>
    (E.p.bin .lss 3 x5 v14).bind fun v15 =>
    condP v15
     (
      (E.p.indexAddr 23 x0 x5).bind fun v16 =>
      (E.p.load 3 v16 h).bind fun v17 =>
      (E.p.indexAddr 23 x1 x5).bind fun v18 =>
      (E.p.load 3 v18 h).bind fun v19 =>
      (E.p.bin .neq 3 v17 v19).bind fun v20 =>
      condP v20
       (
        K .ret (sr_4 (.bool false) h))
       (
        (E.p.bin .add 3 x5 (.int .i64 1)).bind fun v21 =>
        K .normal (st0 x0 x1 v21 h)))
     (
      K (.exit 0) (se0_0_1_5_14 x0 x1 x5 v15 h))
theorem body0_eq (E : Env) (K : PX → St → Res) (x0 x1 x5 : PV) (h : PHeap) : ev (E.cx Tryd.prog kl) lp0 (st0 x0 x1 x5 h) K = body0 E K x0 x1 x5 h := by kernel_rfl
theorem after0_se0_0_1_5_14 (E : Env) (x0 x1 x5 x14 : PV) (h : PHeap) : K0 E (kTop Tryd.prog Tryd.f31) (.exit 0) (se0_0_1_5_14 x0 x1 x5 x14 h) =
    (resV (.bool true)).bind fun v13 =>
    some (v13, h) := by kernel_rfl
theorem top_sr_4 (x4 : PV) (h : PHeap) : kTop Tryd.prog Tryd.f31 .ret (sr_4 x4 h) =
    (resV x4).bind fun v22 =>
    some (v22, h) := by kernel_rfl
noncomputable def main (E : Env) (x0 x1 : PV) (h : PHeap) : Res :=
    (E.p.len 23 x0).bind fun v1 =>
    (E.p.len 23 x1).bind fun v2 =>
    (E.p.bin .neq 3 v1 v2).bind fun v3 =>
    condP v3
     (
      (resV (.bool false)).bind fun v4 =>
      some (v4, h))
     (
      loopK (ev (E.cx Tryd.prog laws_eqIntS.kl) laws_eqIntS.lp0) E.lf (laws_eqIntS.st0 x0 x1 (.int .i64 0) h) (laws_eqIntS.K0 E (kTop Tryd.prog Tryd.f31)))
theorem main_eq (E : Env) (x0 x1 : PV) (h : PHeap) : runBody (E.cx Tryd.prog kl) Tryd.f31 [x0, x1] h = main E x0 x1 h := by kernel_rfl
theorem call_eq (g : Nat → PV) (lf n : Nat) (x0 x1 : PV) (h : PHeap) : CL g lf (n + 1) fn_laws_eqIntS [x0, x1] h = main (env g lf n) x0 x1 h := by
  rw [← main_eq]
  show call Tryd.prog g KL lf (n + 1) 31 [x0, x1] h = _
  rw [call_succ, Tryd.func31]
  kernel_rfl
end laws_eqIntS
namespace laws_markIntS
noncomputable def lp0 : Code := (codeAt (bodyOf Tryd.f32) [1, 0, 1, 0, 0])
def st0 (x0 x1 x5 : PV) (h : PHeap) : St := ⟨[x0, x1, .junk, .junk, .junk, x5, .junk, .junk, .junk, .junk, .junk, .junk, .junk, .junk, .junk, .junk, .junk, .junk, .junk], h⟩
def se0_0_1_5_9 (x0 x1 x5 x9 : PV) (h : PHeap) : St := ⟨[x0, x1, .junk, .junk, .junk, x5, .junk, .junk, .junk, x9, .junk, .junk, .junk, .junk, .junk, .junk, .junk, .junk, .junk], h⟩
noncomputable def K0 (E : Env) (K : PX → St → Res) : PX → St → Res := (kBlock 0 (kSeq (ev (E.cx Tryd.prog kl) (codeAt (bodyOf Tryd.f32) [1, 1])) K))
@[simp] theorem K0_ret (E : Env) (K : PX → St → Res) (s : St) : K0 E K .ret s = K .ret s := by kernel_rfl
noncomputable def body0 (E : Env) (K : PX → St → Res) (x0 x1 x5 : PV) (h : PHeap) : Res :=
    (E.p.len 23 x0).bind fun v8 =>
    (E.p.bin .lss 3 x5 v8).bind fun v9 =>
    condP v9
     (
      (E.p.indexAddr 23 x0 x5).bind fun v10 =>
      (E.p.store 3 v10 x1 h).bind fun v11 =>
      (E.p.bin .add 3 x1 (.int .i64 1)).bind fun v12 =>
      (E.p.bin .add 3 x5 (.int .i64 1)).bind fun v13 =>
      K .normal (st0 x0 v12 v13 v11))
     (
      K (.exit 0) (se0_0_1_5_9 x0 x1 x5 v9 h))
theorem body0_eq (E : Env) (K : PX → St → Res) (x0 x1 x5 : PV) (h : PHeap) : ev (E.cx Tryd.prog kl) lp0 (st0 x0 x1 x5 h) K = body0 E K x0 x1 x5 h := by kernel_rfl
theorem after0_se0_0_1_5_9 (E : Env) (x0 x1 x5 x9 : PV) (h : PHeap) : K0 E (kTop Tryd.prog Tryd.f32) (.exit 0) (se0_0_1_5_9 x0 x1 x5 x9 h) =
    (resV x1).bind fun v7 =>
    some (v7, h) := by kernel_rfl
noncomputable def main (E : Env) (x0 x1 : PV) (h : PHeap) : Res :=
    loopK (ev (E.cx Tryd.prog laws_markIntS.kl) laws_markIntS.lp0) E.lf (laws_markIntS.st0 x0 x1 (.int .i64 0) h) (laws_markIntS.K0 E (kTop Tryd.prog Tryd.f32))
theorem main_eq (E : Env) (x0 x1 : PV) (h : PHeap) : runBody (E.cx Tryd.prog kl) Tryd.f32 [x0, x1] h = main E x0 x1 h := by kernel_rfl
theorem call_eq (g : Nat → PV) (lf n : Nat) (x0 x1 : PV) (h : PHeap) : CL g lf (n + 1) fn_laws_markIntS [x0, x1] h = main (env g lf n) x0 x1 h := by
  rw [← main_eq]
  show call Tryd.prog g KL lf (n + 1) 32 [x0, x1] h = _
  rw [call_succ, Tryd.func32]
  kernel_rfl
end laws_markIntS
namespace laws_heldIntS
noncomputable def lp0 : Code := (codeAt (bodyOf Tryd.f33) [1, 0, 1, 0, 0])
def st0 (x0 x1 x5 : PV) (h : PHeap) : St := ⟨[x0, x1, .junk, .junk, .junk, x5, .junk, .junk, .junk, .junk, .junk, .junk, .junk, .junk, .junk, .junk, .junk, .junk, .junk, .junk, .junk], h⟩
def sr_4 (x4 : PV) (h : PHeap) : St := ⟨[.junk, .junk, .junk, .junk, x4, .junk, .junk, .junk, .junk, .junk, .junk, .junk, .junk, .junk, .junk, .junk, .junk, .junk, .junk, .junk, .junk], h⟩
def se0_0_1_5_9 (x0 x1 x5 x9 : PV) (h : PHeap) : St := ⟨[x0, x1, .junk, .junk, .junk, x5, .junk, .junk, .junk, x9, .junk, .junk, .junk, .junk, .junk, .junk, .junk, .junk, .junk, .junk, .junk], h⟩
noncomputable def K0 (E : Env) (K : PX → St → Res) : PX → St → Res := (kBlock 0 (kSeq (ev (E.cx Tryd.prog kl) (codeAt (bodyOf Tryd.f33) [1, 1])) K))
@[simp] theorem K0_ret (E : Env) (K : PX → St → Res) (s : St) : K0 E K .ret s = K .ret s := by kernel_rfl
noncomputable def body0 (E : Env) (K : PX → St → Res) (x0 x1 x5 : PV) (h : PHeap) : Res :=
    (E.p.len 23 x0).bind fun v9 =>
    (E.p.bin .lss 3 x5 v9).bind fun v10 =>
    condP v10
     (
      (E.p.indexAddr 23 x0 x5).bind fun v11 =>
      (E.p.load 3 v11 h).bind fun v12 =>
      (E.p.bin .neq 3 v12 x1).bind fun v13 =>
      condP v13
       (
        K .ret (sr_4 (.int .i64 (-1)) h))
       (
        (E.p.bin .add 3 x1 (.int .i64 1)).bind fun v14 =>
        (E.p.bin .add 3 x5 (.int .i64 1)).bind fun v15 =>
        K .normal (st0 x0 v14 v15 h)))
     (
      K (.exit 0) (se0_0_1_5_9 x0 x1 x5 v10 h))
theorem body0_eq (E : Env) (K : PX → St → Res) (x0 x1 x5 : PV) (h : PHeap) : ev (E.cx Tryd.prog kl) lp0 (st0 x0 x1 x5 h) K = body0 E K x0 x1 x5 h := by kernel_rfl
theorem after0_se0_0_1_5_9 (E : Env) (x0 x1 x5 x9 : PV) (h : PHeap) : K0 E (kTop Tryd.prog Tryd.f33) (.exit 0) (se0_0_1_5_9 x0 x1 x5 x9 h) =
    (resV x1).bind fun v8 =>
    some (v8, h) := by kernel_rfl
theorem top_sr_4 (x4 : PV) (h : PHeap) : kTop Tryd.prog Tryd.f33 .ret (sr_4 x4 h) =
    (resV x4).bind fun v16 =>
    some (v16, h) := by kernel_rfl
noncomputable def main (E : Env) (x0 x1 : PV) (h : PHeap) : Res :=
    loopK (ev (E.cx Tryd.prog laws_heldIntS.kl) laws_heldIntS.lp0) E.lf (laws_heldIntS.st0 x0 x1 (.int .i64 0) h) (laws_heldIntS.K0 E (kTop Tryd.prog Tryd.f33))
theorem main_eq (E : Env) (x0 x1 : PV) (h : PHeap) : runBody (E.cx Tryd.prog kl) Tryd.f33 [x0, x1] h = main E x0 x1 h := by kernel_rfl
theorem call_eq (g : Nat → PV) (lf n : Nat) (x0 x1 : PV) (h : PHeap) : CL g lf (n + 1) fn_laws_heldIntS [x0, x1] h = main (env g lf n) x0 x1 h := by
  rw [← main_eq]
  show call Tryd.prog g KL lf (n + 1) 33 [x0, x1] h = _
  rw [call_succ, Tryd.func33]
  kernel_rfl
end laws_heldIntS
namespace spec_l20Few
noncomputable def lp0 : Code := (codeAt (bodyOf Tryd.f34) [1, 1, 1, 0, 1, 0, 0])
def st0 (x0 x1 x8 x9 x10 x11 x12 x13 : PV) (h : PHeap) : St := ⟨[x0, x1, .junk, .junk, .junk, .junk, .junk, .junk, x8, x9, x10, x11, x12, x13, .junk, .junk, .junk, .junk, .junk, .junk, .junk, .junk, .junk, .junk, .junk, .junk, .junk, .junk, .junk, .junk, .junk, .junk, .junk, .junk, .junk, .junk, .junk, .junk, .junk, .junk, .junk, .junk, .junk, .junk, .junk, .junk, .junk], h⟩
def se0_0_1_8_9_10_11_12_13_24 (x0 x1 x8 x9 x10 x11 x12 x13 x24 : PV) (h : PHeap) : St := ⟨[x0, x1, .junk, .junk, .junk, .junk, .junk, .junk, x8, x9, x10, x11, x12, x13, .junk, .junk, .junk, .junk, .junk, .junk, .junk, .junk, .junk, .junk, x24, .junk, .junk, .junk, .junk, .junk, .junk, .junk, .junk, .junk, .junk, .junk, .junk, .junk, .junk, .junk, .junk, .junk, .junk, .junk, .junk, .junk, .junk], h⟩
noncomputable def K0 (E : Env) (K : PX → St → Res) : PX → St → Res := (kBlock 0 (kSeq (ev (E.cx Tryd.prog kl) (codeAt (bodyOf Tryd.f34) [1, 1, 1, 1])) K))
@[simp] theorem K0_ret (E : Env) (K : PX → St → Res) (s : St) : K0 E K .ret s = K .ret s := by kernel_rfl
noncomputable def body0 (E : Env) (K : PX → St → Res) (x0 x1 x8 x9 x10 x11 x12 x13 : PV) (h : PHeap) : Res :=
    (E.p.len 23 x10).bind fun v24 =>
    (E.p.bin .lss 3 x13 v24).bind fun v25 =>
    condP v25
     (
      (E.p.indexAddr 23 x10 x13).bind fun v26 =>
      (E.p.load 3 v26 h).bind fun v27 =>
      (E.p.bin .eql 3 v27 (.int .i64 0)).bind fun v28 =>
      condP v28
       (
        (E.p.bin .add 3 x12 (.int .i64 1)).bind fun v29 =>
        (E.p.bin .gtr 3 v29 x1).bind fun v30 =>
        condP v30
         (
          (E.C fn_spec_l20Rd_pick [x0, (.int .i64 2)] h).bind fun v31 =>
          (E.p.bin .add 3 (.int .i64 1) v31.1).bind fun v32 =>
          (E.p.indexAddr 23 x10 x13).bind fun v33 =>
          (E.p.store 3 v33 v32 v31.2).bind fun v34 =>
          (E.p.bin .add 3 x13 (.int .i64 1)).bind fun v35 =>
          K .normal (st0 x0 x1 x8 x9 x10 x11 v29 v35 v34))
         (
          (E.p.bin .add 3 x13 (.int .i64 1)).bind fun v36 =>
          K .normal (st0 x0 x1 x8 x9 x10 x11 v29 v36 h)))
       (
        (E.p.bin .add 3 x13 (.int .i64 1)).bind fun v37 =>
        K .normal (st0 x0 x1 x8 x9 x10 x11 x12 v37 h)))
     (
      K (.exit 0) (se0_0_1_8_9_10_11_12_13_24 x0 x1 x8 x9 x10 x11 x12 x13 v25 h))
theorem body0_eq (E : Env) (K : PX → St → Res) (x0 x1 x8 x9 x10 x11 x12 x13 : PV) (h : PHeap) : ev (E.cx Tryd.prog kl) lp0 (st0 x0 x1 x8 x9 x10 x11 x12 x13 h) K = body0 E K x0 x1 x8 x9 x10 x11 x12 x13 h := by kernel_rfl
theorem after0_se0_0_1_8_9_10_11_12_13_24 (E : Env) (x0 x1 x8 x9 x10 x11 x12 x13 x24 : PV) (h : PHeap) : K0 E (kTop Tryd.prog Tryd.f34) (.exit 0) (se0_0_1_8_9_10_11_12_13_24 x0 x1 x8 x9 x10 x11 x12 x13 x24 h) =
    (resV x8).bind fun v20 =>
    (resV x9).bind fun v21 =>
    (resV x10).bind fun v22 =>
    (resV x11).bind fun v23 =>
    some (.tup [v20, v21, v22, v23], h) := by kernel_rfl
noncomputable def main (E : Env) (x0 x1 : PV) (h : PHeap) : Res :=
    (E.C fn_spec_l20Sided [x0, (.int .i64 14)] h).bind fun v1 =>
    (E.p.extract v1.1 0).bind fun v2 =>
    (E.p.extract v1.1 1).bind fun v3 =>
    (E.p.extract v1.1 2).bind fun v4 =>
    (E.p.extract v1.1 3).bind fun v5 =>
    loopK (ev (E.cx Tryd.prog spec_l20Few.kl) spec_l20Few.lp0) E.lf (spec_l20Few.st0 x0 x1 v2 v3 v4 v5 (.int .i64 0) (.int .i64 0) v1.2) (spec_l20Few.K0 E (kTop Tryd.prog Tryd.f34))
theorem main_eq (E : Env) (x0 x1 : PV) (h : PHeap) : runBody (E.cx Tryd.prog kl) Tryd.f34 [x0, x1] h = main E x0 x1 h := by kernel_rfl
theorem call_eq (g : Nat → PV) (lf n : Nat) (x0 x1 : PV) (h : PHeap) : CL g lf (n + 1) fn_spec_l20Few [x0, x1] h = main (env g lf n) x0 x1 h := by
  rw [← main_eq]
  show call Tryd.prog g KL lf (n + 1) 34 [x0, x1] h = _
  rw [call_succ, Tryd.func34]
  kernel_rfl
end spec_l20Few
namespace spec_l20Open
noncomputable def main (E : Env) (x0 : PV) (h : PHeap) : Res :=
    (E.p.len 22 x0).bind fun v1 =>
    (E.p.bin .gtr 3 v1 (.int .i64 2000)).bind fun v2 =>
    condP v2
     (
      (E.p.slice 22 x0 none (some (.int .i64 2000)) h).bind fun v3 =>
      (E.p.build 72 [(0, v3)]).bind fun v4 =>
      (E.p.box v4 h).bind fun v5 =>
      (resV v5.1).bind fun v6 =>
      some (v6, v5.2))
     (
      (E.p.build 72 [(0, x0)]).bind fun v7 =>
      (E.p.box v7 h).bind fun v8 =>
      (resV v8.1).bind fun v9 =>
      some (v9, v8.2))
theorem main_eq (E : Env) (x0 : PV) (h : PHeap) : runBody (E.cx Tryd.prog kl) Tryd.f35 [x0] h = main E x0 h := by kernel_rfl
theorem call_eq (g : Nat → PV) (lf n : Nat) (x0 : PV) (h : PHeap) : CL g lf (n + 1) fn_spec_l20Open [x0] h = main (env g lf n) x0 h := by
  rw [← main_eq]
  show call Tryd.prog g KL lf (n + 1) 35 [x0] h = _
  rw [call_succ, Tryd.func35]
  kernel_rfl
end spec_l20Open
namespace impl_PositionOk
noncomputable def lp0 : Code := (codeAt (bodyOf Tryd.f36) [1, 1, 0, 1, 0, 0])
def st0 (x21 x22 x23 : PV) (h : PHeap) : St := ⟨[.junk, .junk, .junk, .junk, .junk, .junk, .junk, .junk, .junk, .junk, .junk, .junk, .junk, .junk, .junk, .junk, .junk, .junk, .junk, .junk, .junk, x21, x22, x23, .junk, .junk, .junk, .junk, .junk, .junk, .junk], h⟩
def sr_6 (x6 : PV) (h : PHeap) : St := ⟨[.junk, .junk, .junk, .junk, .junk, .junk, x6, .junk, .junk, .junk, .junk, .junk, .junk, .junk, .junk, .junk, .junk, .junk, .junk, .junk, .junk, .junk, .junk, .junk, .junk, .junk, .junk, .junk, .junk, .junk, .junk], h⟩
def se0_21_22_23_24 (x21 x22 x23 x24 : PV) (h : PHeap) : St := ⟨[.junk, .junk, .junk, .junk, .junk, .junk, .junk, .junk, .junk, .junk, .junk, .junk, .junk, .junk, .junk, .junk, .junk, .junk, .junk, .junk, .junk, x21, x22, x23, x24, .junk, .junk, .junk, .junk, .junk, .junk], h⟩
noncomputable def K0 (E : Env) (K : PX → St → Res) : PX → St → Res := (kBlock 0 (kSeq (ev (E.cx Tryd.prog kl) (codeAt (bodyOf Tryd.f36) [1, 1, 1])) K))
@[simp] theorem K0_ret (E : Env) (K : PX → St → Res) (s : St) : K0 E K .ret s = K .ret s := by kernel_rfl
noncomputable def body0 (E : Env) (K : PX → St → Res) (x21 x22 x23 : PV) (h : PHeap) : Res :=
    (E.p.bin .lss 3 x23 x22).bind fun v25 =>
    condP v25
     (
      (E.p.indexAddr 23 x21 x23).bind fun v26 =>
      (E.p.load 3 v26 h).bind fun v27 =>
      (E.C fn_impl_contentOk [v27] h).bind fun v28 =>
      (E.p.un .not v28.1).bind fun v29 =>
      condP v29
       (
        K .ret (sr_6 (.bool false) v28.2))
       (
        (E.p.bin .add 3 x23 (.int .i64 1)).bind fun v30 =>
        K .normal (st0 x21 x22 v30 v28.2)))
     (
      K (.exit 0) (se0_21_22_23_24 x21 x22 x23 v25 h))
theorem body0_eq (E : Env) (K : PX → St → Res) (x21 x22 x23 : PV) (h : PHeap) : ev (E.cx Tryd.prog kl) lp0 (st0 x21 x22 x23 h) K = body0 E K x21 x22 x23 h := by kernel_rfl
theorem after0_se0_21_22_23_24 (E : Env) (x21 x22 x23 x24 : PV) (h : PHeap) : K0 E (kTop Tryd.prog Tryd.f36) (.exit 0) (se0_21_22_23_24 x21 x22 x23 x24 h) =
    (resV (.bool true)).bind fun v24 =>
    some (v24, h) := by kernel_rfl
theorem top_sr_6 (x6 : PV) (h : PHeap) : kTop Tryd.prog Tryd.f36 .ret (sr_6 x6 h) =
    (resV x6).bind fun v31 =>
    some (v31, h) := by kernel_rfl
noncomputable def main (E : Env) (x0 x1 x2 : PV) (h : PHeap) : Res :=
    (E.C fn_impl_BoardOk [x0, x1] h).bind fun v1 =>
    (E.p.un .not v1.1).bind fun v2 =>
    (wantV v2 false).bind fun v3 =>
    (bif v3 then some (x2, v1.2) else some (.tup [], v1.2)).bind fun v4 =>
    (wantV v2 false).bind fun v5 =>
    (bif v5 then pv v4.2 (E.p.len 23 v4.1) else some (.tup [], v4.2)).bind fun v6 =>
    (wantV v2 false).bind fun v7 =>
    (bif v7 then some (x0, v6.2) else some (.tup [], v6.2)).bind fun v8 =>
    (wantV v2 false).bind fun v9 =>
    (bif v9 then some (x1, v8.2) else some (.tup [], v8.2)).bind fun v10 =>
    (wantV v2 false).bind fun v11 =>
    (bif v11 then pv v10.2 (E.p.bin .mul 3 v8.1 v10.1) else some (.tup [], v10.2)).bind fun v12 =>
    (wantV v2 false).bind fun v13 =>
    (bif v13 then pv v12.2 (E.p.bin .neq 3 v6.1 v12.1) else some (.tup [], v12.2)).bind fun v14 =>
    (E.p.pick v2 (.bool true) v14.1).bind fun v15 =>
    condP v15
     (
      (resV (.bool false)).bind fun v16 =>
      some (v16, v14.2))
     (
      (E.p.len 23 x2).bind fun v17 =>
      loopK (ev (E.cx Tryd.prog impl_PositionOk.kl) impl_PositionOk.lp0) E.lf (impl_PositionOk.st0 x2 v17 (.int .i64 0) v14.2) (impl_PositionOk.K0 E (kTop Tryd.prog Tryd.f36)))
theorem main_eq (E : Env) (x0 x1 x2 : PV) (h : PHeap) : runBody (E.cx Tryd.prog kl) Tryd.f36 [x0, x1, x2] h = main E x0 x1 x2 h := by kernel_rfl
theorem call_eq (g : Nat → PV) (lf n : Nat) (x0 x1 x2 : PV) (h : PHeap) : CL g lf (n + 1) fn_impl_PositionOk [x0, x1, x2] h = main (env g lf n) x0 x1 x2 h := by
  rw [← main_eq]
  show call Tryd.prog g KL lf (n + 1) 36 [x0, x1, x2] h = _
  rw [call_succ, Tryd.func36]
  kernel_rfl
end impl_PositionOk
namespace impl_playerOk
noncomputable def main (E : Env) (x0 : PV) (h : PHeap) : Res :=
    (E.p.bin .eql 3 x0 (.int .i64 1)).bind fun v1 =>
    (wantV v1 false).bind fun v2 =>
    (bif v2 then some (x0, h) else some (.tup [], h)).bind fun v3 =>
    (wantV v1 false).bind fun v4 =>
    (bif v4 then pv v3.2 (E.p.bin .eql 3 v3.1 (.int .i64 2)) else some (.tup [], v3.2)).bind fun v5 =>
    (E.p.pick v1 (.bool true) v5.1).bind fun v6 =>
    (resV v6).bind fun v7 =>
    some (v7, v5.2)
theorem main_eq (E : Env) (x0 : PV) (h : PHeap) : runBody (E.cx Tryd.prog kl) Tryd.f37 [x0] h = main E x0 h := by kernel_rfl
theorem call_eq (g : Nat → PV) (lf n : Nat) (x0 : PV) (h : PHeap) : CL g lf (n + 1) fn_impl_playerOk [x0] h = main (env g lf n) x0 h := by
  rw [← main_eq]
  show call Tryd.prog g KL lf (n + 1) 37 [x0] h = _
  rw [call_succ, Tryd.func37]
  kernel_rfl
end impl_playerOk
namespace impl_newReverse
noncomputable def main (E : Env) (x0 x1 : PV) (h : PHeap) : Res :=
    (E.p.alloc 49 h).bind fun v1 =>
    (E.C fn_impl_newSearch [x0, x1] v1.2).bind fun v2 =>
    (E.p.makeMap none v2.2).bind fun v3 =>
    (E.p.build 49 [(0, v2.1), (1, v3.1)]).bind fun v4 =>
    (E.p.store 49 v1.1 v4 v3.2).bind fun v5 =>
    (loadP Tryd.prog 49 v1.1 v5).bind fun v6 =>
    some (v6, v5)
theorem main_eq (E : Env) (x0 x1 : PV) (h : PHeap) : runBody (E.cx Tryd.prog kl) Tryd.f38 [x0, x1] h = main E x0 x1 h := by kernel_rfl
theorem call_eq (g : Nat → PV) (lf n : Nat) (x0 x1 : PV) (h : PHeap) : CL g lf (n + 1) fn_impl_newReverse [x0, x1] h = main (env g lf n) x0 x1 h := by
  rw [← main_eq]
  show call Tryd.prog g KL lf (n + 1) 38 [x0, x1] h = _
  rw [call_succ, Tryd.func38]
  kernel_rfl
end impl_newReverse
namespace impl_reverse_winner
noncomputable def main (E : Env) (x0 x1 : PV) (h : PHeap) : Res :=
    (E.p.box x0 h).bind fun v1 =>
    (E.p.box x1 v1.2).bind fun v2 =>
    (E.p.fieldAddr 49 v1.1 1).bind fun v3 =>
    (E.p.load 47 v3 v2.2).bind fun v4 =>
    (E.p.load 54 v2.1 v2.2).bind fun v5 =>
    (E.p.lookup 47 v4 v5 true v2.2).bind fun v6 =>
    (E.p.extract v6 0).bind fun v7 =>
    (E.p.extract v6 1).bind fun v8 =>
    (E.p.un .not v8).bind fun v9 =>
    condP v9
     (
      (E.p.load 49 v1.1 v2.2).bind fun v10 =>
      (E.p.load 54 v2.1 v2.2).bind fun v11 =>
      (E.C fn_impl_reverse_solved [v10, v11] v2.2).bind fun v12 =>
      (E.p.fieldAddr 49 v1.1 1).bind fun v13 =>
      (E.p.load 47 v13 v12.2).bind fun v14 =>
      (E.p.load 54 v2.1 v12.2).bind fun v15 =>
      (E.p.update 47 v14 v15 v12.1 v12.2).bind fun v16 =>
      (resV v12.1).bind fun v17 =>
      some (v17, v16))
     (
      (resV v7).bind fun v18 =>
      some (v18, v2.2))
theorem main_eq (E : Env) (x0 x1 : PV) (h : PHeap) : runBody (E.cx Tryd.prog kl) Tryd.f39 [x0, x1] h = main E x0 x1 h := by kernel_rfl
theorem call_eq (g : Nat → PV) (lf n : Nat) (x0 x1 : PV) (h : PHeap) : CL g lf (n + 1) fn_impl_reverse_winner [x0, x1] h = main (env g lf n) x0 x1 h := by
  rw [← main_eq]
  show call Tryd.prog g KL lf (n + 1) 39 [x0, x1] h = _
  rw [call_succ, Tryd.func39]
  kernel_rfl
end impl_reverse_winner
namespace impl_standingOf
noncomputable def lp0 : Code := (codeAt (bodyOf Tryd.f40) [1, 1, 0, 1, 0, 0])
def st0 (x0 x4 x5 x9 : PV) (h : PHeap) : St := ⟨[x0, .junk, .junk, .junk, x4, x5, .junk, .junk, .junk, x9, .junk, .junk, .junk, .junk, .junk, .junk, .junk, .junk, .junk, .junk], h⟩
def se0_0_4_5_9_10 (x0 x4 x5 x9 x10 : PV) (h : PHeap) : St := ⟨[x0, .junk, .junk, .junk, x4, x5, .junk, .junk, .junk, x9, x10, .junk, .junk, .junk, .junk, .junk, .junk, .junk, .junk, .junk], h⟩
noncomputable def K0 (E : Env) (K : PX → St → Res) : PX → St → Res := (kBlock 0 (kSeq (ev (E.cx Tryd.prog kl) (codeAt (bodyOf Tryd.f40) [1, 1, 1])) K))
@[simp] theorem K0_ret (E : Env) (K : PX → St → Res) (s : St) : K0 E K .ret s = K .ret s := by kernel_rfl
noncomputable def body0 (E : Env) (K : PX → St → Res) (x0 x4 x5 x9 : PV) (h : PHeap) : Res :=
    (E.p.bin .lss 3 x9 (.int .i64 3)).bind fun v14 =>
    condP v14
     (
      (E.C fn_impl_setOf [x0, x9] h).bind fun v15 =>
      (E.p.fieldAddr 54 x5 0).bind fun v16 =>
      (E.p.indexAddr 52 v16 x9).bind fun v17 =>
      (E.p.store 3 v17 v15.1 v15.2).bind fun v18 =>
      (E.p.bin .add 3 x9 (.int .i64 1)).bind fun v19 =>
      K .normal (st0 x0 x4 x5 v19 v18))
     (
      K (.exit 0) (se0_0_4_5_9_10 x0 x4 x5 x9 v14 h))
theorem body0_eq (E : Env) (K : PX → St → Res) (x0 x4 x5 x9 : PV) (h : PHeap) : ev (E.cx Tryd.prog kl) lp0 (st0 x0 x4 x5 x9 h) K = body0 E K x0 x4 x5 x9 h := by kernel_rfl
theorem after0_se0_0_4_5_9_10 (E : Env) (x0 x4 x5 x9 x10 : PV) (h : PHeap) : K0 E (kTop Tryd.prog Tryd.f40) (.exit 0) (se0_0_4_5_9_10 x0 x4 x5 x9 x10 h) =
    (E.p.load 54 x5 h).bind fun v11 =>
    (E.p.store 54 x4 v11 h).bind fun v12 =>
    (loadP Tryd.prog 54 x4 v12).bind fun v13 =>
    some (v13, v12) := by kernel_rfl
noncomputable def main (E : Env) (x0 x1 : PV) (h : PHeap) : Res :=
    (E.p.alloc 54 h).bind fun v1 =>
    (E.p.build 54 [(1, x1)]).bind fun v2 =>
    (E.p.alloc 54 v1.2).bind fun v3 =>
    (E.p.store 54 v3.1 v2 v3.2).bind fun v4 =>
    loopK (ev (E.cx Tryd.prog impl_standingOf.kl) impl_standingOf.lp0) E.lf (impl_standingOf.st0 x0 v1.1 v3.1 (.int .i64 0) v4) (impl_standingOf.K0 E (kTop Tryd.prog Tryd.f40))
theorem main_eq (E : Env) (x0 x1 : PV) (h : PHeap) : runBody (E.cx Tryd.prog kl) Tryd.f40 [x0, x1] h = main E x0 x1 h := by kernel_rfl
theorem call_eq (g : Nat → PV) (lf n : Nat) (x0 x1 : PV) (h : PHeap) : CL g lf (n + 1) fn_impl_standingOf [x0, x1] h = main (env g lf n) x0 x1 h := by
  rw [← main_eq]
  show call Tryd.prog g KL lf (n + 1) 40 [x0, x1] h = _
  rw [call_succ, Tryd.func40]
  kernel_rfl
end impl_standingOf
namespace spec_l1In
noncomputable def main (E : Env) (x0 x1 x2 : PV) (h : PHeap) : Res :=
    (E.p.bin .geq 3 x0 x1).bind fun v1 =>
    (wantV v1 true).bind fun v2 =>
    (bif v2 then some (x0, h) else some (.tup [], h)).bind fun v3 =>
    (wantV v1 true).bind fun v4 =>
    (bif v4 then some (x2, v3.2) else some (.tup [], v3.2)).bind fun v5 =>
    (wantV v1 true).bind fun v6 =>
    (bif v6 then pv v5.2 (E.p.bin .leq 3 v3.1 v5.1) else some (.tup [], v5.2)).bind fun v7 =>
    (E.p.pick v1 v7.1 (.bool false)).bind fun v8 =>
    (resV v8).bind fun v9 =>
    some (v9, v7.2)
theorem main_eq (E : Env) (x0 x1 x2 : PV) (h : PHeap) : runBody (E.cx Tryd.prog kl) Tryd.f41 [x0, x1, x2] h = main E x0 x1 x2 h := by kernel_rfl
theorem call_eq (g : Nat → PV) (lf n : Nat) (x0 x1 x2 : PV) (h : PHeap) : CL g lf (n + 1) fn_spec_l1In [x0, x1, x2] h = main (env g lf n) x0 x1 x2 h := by
  rw [← main_eq]
  show call Tryd.prog g KL lf (n + 1) 41 [x0, x1, x2] h = _
  rw [call_succ, Tryd.func41]
  kernel_rfl
end spec_l1In
namespace spec_l2Masks
noncomputable def lp0 : Code := (codeAt (bodyOf Tryd.f42) [1, 1, 0, 1, 0, 0])
def st0 (x0 x1 x5 x6 : PV) (h : PHeap) : St := ⟨[x0, x1, .junk, .junk, .junk, x5, x6, .junk, .junk, .junk, .junk, .junk, .junk, .junk, .junk, .junk, .junk, .junk, .junk, .junk, .junk, .junk, .junk, .junk, .junk, .junk, .junk, .junk, .junk, .junk, .junk, .junk, .junk, .junk, .junk, .junk, .junk, .junk, .junk, .junk], h⟩
noncomputable def lp1 : Code := (codeAt (bodyOf Tryd.f42) [1, 1, 0, 1, 0, 0, 1, 0, 0, 1, 1, 0, 1, 0, 0])
def st1 (x0 x1 x5 x6 x7 x8 x9 : PV) (h : PHeap) : St := ⟨[x0, x1, .junk, .junk, .junk, x5, x6, x7, x8, x9, .junk, .junk, .junk, .junk, .junk, .junk, .junk, .junk, .junk, .junk, .junk, .junk, .junk, .junk, .junk, .junk, .junk, .junk, .junk, .junk, .junk, .junk, .junk, .junk, .junk, .junk, .junk, .junk, .junk, .junk], h⟩
def se0_0_1_5_6_15 (x0 x1 x5 x6 x15 : PV) (h : PHeap) : St := ⟨[x0, x1, .junk, .junk, .junk, x5, x6, .junk, .junk, .junk, .junk, .junk, .junk, .junk, .junk, x15, .junk, .junk, .junk, .junk, .junk, .junk, .junk, .junk, .junk, .junk, .junk, .junk, .junk, .junk, .junk, .junk, .junk, .junk, .junk, .junk, .junk, .junk, .junk, .junk], h⟩
def se2_0_1_5_6_7_8_9_25 (x0 x1 x5 x6 x7 x8 x9 x25 : PV) (h : PHeap) : St := ⟨[x0, x1, .junk, .junk, .junk, x5, x6, x7, x8, x9, .junk, .junk, .junk, .junk, .junk, .junk, .junk, .junk, .junk, .junk, .junk, .junk, .junk, .junk, .junk, x25, .junk, .junk, .junk, .junk, .junk, .junk, .junk, .junk, .junk, .junk, .junk, .junk, .junk, .junk], h⟩
noncomputable def K0 (E : Env) (K : PX → St → Res) : PX → St → Res := (kBlock 0 (kSeq (ev (E.cx Tryd.prog kl) (codeAt (bodyOf Tryd.f42) [1, 1, 1])) K))
@[simp] theorem K0_ret (E : Env) (K : PX → St → Res) (s : St) : K0 E K .ret s = K .ret s := by kernel_rfl
noncomputable def K1 (E : Env) (K : PX → St → Res) : PX → St → Res := (kBlock 2 (kSeq (ev (E.cx Tryd.prog kl) (codeAt (bodyOf Tryd.f42) [1, 1, 0, 1, 0, 0, 1, 0, 0, 1, 1, 1])) (kBlock 1 (kSeq (ev (E.cx Tryd.prog kl) (codeAt (bodyOf Tryd.f42) [1, 1, 0, 1, 0, 0, 1, 1])) K))))
@[simp] theorem K1_ret (E : Env) (K : PX → St → Res) (s : St) : K1 E K .ret s = K .ret s := by kernel_rfl
noncomputable def body0 (E : Env) (K : PX → St → Res) (x0 x1 x5 x6 : PV) (h : PHeap) : Res :=
    (E.p.bin .mul 3 x0 x1).bind fun v16 =>
    (E.p.bin .lss 3 x6 v16).bind fun v17 =>
    condP v17
     (
      (E.C fn_spec_l1Near [x0, x1, x6] h).bind fun v18 =>
      loopK (ev (E.cx Tryd.prog spec_l2Masks.kl) spec_l2Masks.lp1) E.lf (spec_l2Masks.st1 x0 x1 x5 x6 (.int .i64 0) v18.1 (.int .i64 0) v18.2) (spec_l2Masks.K1 E K))
     (
      K (.exit 0) (se0_0_1_5_6_15 x0 x1 x5 x6 v17 h))
theorem body0_eq (E : Env) (K : PX → St → Res) (x0 x1 x5 x6 : PV) (h : PHeap) : ev (E.cx Tryd.prog kl) lp0 (st0 x0 x1 x5 x6 h) K = body0 E K x0 x1 x5 x6 h := by kernel_rfl
noncomputable def body1 (E : Env) (K : PX → St → Res) (x0 x1 x5 x6 x7 x8 x9 : PV) (h : PHeap) : Res :=
    (E.p.len 23 x8).bind fun v19 =>
    (E.p.bin .lss 3 x9 v19).bind fun v20 =>
    condP v20
     (
      (E.p.indexAddr 23 x8 x9).bind fun v21 =>
      (E.p.load 3 v21 h).bind fun v22 =>
      (E.p.bin .shl 3 (.int .i64 1) v22).bind fun v23 =>
      (E.p.bin .or 3 x7 v23).bind fun v24 =>
      (E.p.bin .add 3 x9 (.int .i64 1)).bind fun v25 =>
      K .normal (st1 x0 x1 x5 x6 v24 x8 v25 h))
     (
      K (.exit 2) (se2_0_1_5_6_7_8_9_25 x0 x1 x5 x6 x7 x8 x9 v20 h))
theorem body1_eq (E : Env) (K : PX → St → Res) (x0 x1 x5 x6 x7 x8 x9 : PV) (h : PHeap) : ev (E.cx Tryd.prog kl) lp1 (st1 x0 x1 x5 x6 x7 x8 x9 h) K = body1 E K x0 x1 x5 x6 x7 x8 x9 h := by kernel_rfl
theorem after0_se0_0_1_5_6_15 (E : Env) (x0 x1 x5 x6 x15 : PV) (h : PHeap) : K0 E (kTop Tryd.prog Tryd.f42) (.exit 0) (se0_0_1_5_6_15 x0 x1 x5 x6 x15 h) =
    (resV x5).bind fun v12 =>
    some (v12, h) := by kernel_rfl
theorem after1_se2_0_1_5_6_7_8_9_25 (E : Env) (K : PX → St → Res) (x0 x1 x5 x6 x7 x8 x9 x25 : PV) (h : PHeap) : K1 E K (.exit 2) (se2_0_1_5_6_7_8_9_25 x0 x1 x5 x6 x7 x8 x9 x25 h) =
    (E.p.buildSlice 23 1 [(0, x7)] h).bind fun v13 =>
    (E.p.append 23 23 x5 v13.1 v13.2).bind fun v14 =>
    (E.p.bin .add 3 x6 (.int .i64 1)).bind fun v15 =>
    K .normal (st0 x0 x1 v14.1 v15 v14.2) := by kernel_rfl
noncomputable def main (E : Env) (x0 x1 : PV) (h : PHeap) : Res :=
    (E.p.buildSlice 23 0 [] h).bind fun v1 =>
    loopK (ev (E.cx Tryd.prog spec_l2Masks.kl) spec_l2Masks.lp0) E.lf (spec_l2Masks.st0 x0 x1 v1.1 (.int .i64 0) v1.2) (spec_l2Masks.K0 E (kTop Tryd.prog Tryd.f42))
theorem main_eq (E : Env) (x0 x1 : PV) (h : PHeap) : runBody (E.cx Tryd.prog kl) Tryd.f42 [x0, x1] h = main E x0 x1 h := by kernel_rfl
theorem call_eq (g : Nat → PV) (lf n : Nat) (x0 x1 : PV) (h : PHeap) : CL g lf (n + 1) fn_spec_l2Masks [x0, x1] h = main (env g lf n) x0 x1 h := by
  rw [← main_eq]
  show call Tryd.prog g KL lf (n + 1) 42 [x0, x1] h = _
  rw [call_succ, Tryd.func42]
  kernel_rfl
end spec_l2Masks
namespace spec_l8Solve
noncomputable def lp0 : Code := (codeAt (bodyOf Tryd.f43) [1, 1, 1, 1, 0, 1, 0, 0])
def st0 (x0 x1 x2 x3 x4 x5 x6 x15 x16 : PV) (h : PHeap) : St := ⟨[x0, x1, x2, x3, x4, x5, x6, .junk, .junk, .junk, .junk, .junk, .junk, .junk, .junk, x15, x16, .junk, .junk, .junk, .junk, .junk, .junk, .junk, .junk, .junk, .junk, .junk, .junk, .junk, .junk, .junk, .junk, .junk, .junk, .junk, .junk, .junk, .junk, .junk, .junk, .junk, .junk, .junk, .junk, .junk, .junk, .junk, .junk, .junk, .junk, .junk, .junk, .junk, .junk, .junk, .junk, .junk, .junk, .junk, .junk, .junk, .junk, .junk, .junk, .junk, .junk, .junk, .junk, .junk, .junk, .junk, .junk, .junk, .junk, .junk, .junk, .junk, .junk, .junk, .junk, .junk, .junk, .junk, .junk, .junk, .junk, .junk, .junk, .junk, .junk, .junk, .junk, .junk, .junk, .junk, .junk, .junk, .junk, .junk, .junk, .junk, .junk, .junk, .junk, .junk, .junk, .junk, .junk, .junk, .junk, .junk, .junk, .junk], h⟩
noncomputable def lp1 : Code := (codeAt (bodyOf Tryd.f43) [1, 1, 1, 1, 1, 1, 1, 1, 0, 1, 0, 0])
def st1 (x0 x1 x2 x3 x4 x5 x6 x15 x17 x18 : PV) (h : PHeap) : St := ⟨[x0, x1, x2, x3, x4, x5, x6, .junk, .junk, .junk, .junk, .junk, .junk, .junk, .junk, x15, .junk, x17, x18, .junk, .junk, .junk, .junk, .junk, .junk, .junk, .junk, .junk, .junk, .junk, .junk, .junk, .junk, .junk, .junk, .junk, .junk, .junk, .junk, .junk, .junk, .junk, .junk, .junk, .junk, .junk, .junk, .junk, .junk, .junk, .junk, .junk, .junk, .junk, .junk, .junk, .junk, .junk, .junk, .junk, .junk, .junk, .junk, .junk, .junk, .junk, .junk, .junk, .junk, .junk, .junk, .junk, .junk, .junk, .junk, .junk, .junk, .junk, .junk, .junk, .junk, .junk, .junk, .junk, .junk, .junk, .junk, .junk, .junk, .junk, .junk, .junk, .junk, .junk, .junk, .junk, .junk, .junk, .junk, .junk, .junk, .junk, .junk, .junk, .junk, .junk, .junk, .junk, .junk, .junk, .junk, .junk, .junk, .junk], h⟩
def se0_0_1_2_3_4_5_6_15_16_33 (x0 x1 x2 x3 x4 x5 x6 x15 x16 x33 : PV) (h : PHeap) : St := ⟨[x0, x1, x2, x3, x4, x5, x6, .junk, .junk, .junk, .junk, .junk, .junk, .junk, .junk, x15, x16, .junk, .junk, .junk, .junk, .junk, .junk, .junk, .junk, .junk, .junk, .junk, .junk, .junk, .junk, .junk, .junk, x33, .junk, .junk, .junk, .junk, .junk, .junk, .junk, .junk, .junk, .junk, .junk, .junk, .junk, .junk, .junk, .junk, .junk, .junk, .junk, .junk, .junk, .junk, .junk, .junk, .junk, .junk, .junk, .junk, .junk, .junk, .junk, .junk, .junk, .junk, .junk, .junk, .junk, .junk, .junk, .junk, .junk, .junk, .junk, .junk, .junk, .junk, .junk, .junk, .junk, .junk, .junk, .junk, .junk, .junk, .junk, .junk, .junk, .junk, .junk, .junk, .junk, .junk, .junk, .junk, .junk, .junk, .junk, .junk, .junk, .junk, .junk, .junk, .junk, .junk, .junk, .junk, .junk, .junk, .junk, .junk], h⟩
def se2_0_1_2_3_4_5_6_15_17_18_73 (x0 x1 x2 x3 x4 x5 x6 x15 x17 x18 x73 : PV) (h : PHeap) : St := ⟨[x0, x1, x2, x3, x4, x5, x6, .junk, .junk, .junk, .junk, .junk, .junk, .junk, .junk, x15, .junk, x17, x18, .junk, .junk, .junk, .junk, .junk, .junk, .junk, .junk, .junk, .junk, .junk, .junk, .junk, .junk, .junk, .junk, .junk, .junk, .junk, .junk, .junk, .junk, .junk, .junk, .junk, .junk, .junk, .junk, .junk, .junk, .junk, .junk, .junk, .junk, .junk, .junk, .junk, .junk, .junk, .junk, .junk, .junk, .junk, .junk, .junk, .junk, .junk, .junk, .junk, .junk, .junk, .junk, .junk, .junk, x73, .junk, .junk, .junk, .junk, .junk, .junk, .junk, .junk, .junk, .junk, .junk, .junk, .junk, .junk, .junk, .junk, .junk, .junk, .junk, .junk, .junk, .junk, .junk, .junk, .junk, .junk, .junk, .junk, .junk, .junk, .junk, .junk, .junk, .junk, .junk, .junk, .junk, .junk, .junk, .junk], h⟩
noncomputable def K0 (E : Env) (K : PX → St → Res) : PX → St → Res := (kBlock 0 (kSeq (ev (E.cx Tryd.prog kl) (codeAt (bodyOf Tryd.f43) [1, 1, 1, 1, 1])) K))
@[simp] theorem K0_ret (E : Env) (K : PX → St → Res) (s : St) : K0 E K .ret s = K .ret s := by kernel_rfl
noncomputable def K1 (E : Env) (K : PX → St → Res) : PX → St → Res := (kBlock 2 (kSeq (ev (E.cx Tryd.prog kl) (codeAt (bodyOf Tryd.f43) [1, 1, 1, 1, 1, 1, 1, 1, 1])) K))
@[simp] theorem K1_ret (E : Env) (K : PX → St → Res) (s : St) : K1 E K .ret s = K .ret s := by kernel_rfl
noncomputable def body0 (E : Env) (K : PX → St → Res) (x0 x1 x2 x3 x4 x5 x6 x15 x16 : PV) (h : PHeap) : Res :=
    (E.p.len 23 x2).bind fun v56 =>
    (E.p.bin .lss 3 x16 v56).bind fun v57 =>
    condP v57
     (
      (E.p.bin .mul 3 (.int .i64 3) x15).bind fun v58 =>
      (E.p.bin .shr 3 x3 x16).bind fun v59 =>
      (E.p.bin .rem 3 v59 (.int .i64 2)).bind fun v60 =>
      (E.p.bin .add 3 v58 v60).bind fun v61 =>
      (E.p.bin .shr 3 x4 x16).bind fun v62 =>
      (E.p.bin .rem 3 v62 (.int .i64 2)).bind fun v63 =>
      (E.p.bin .mul 3 (.int .i64 2) v63).bind fun v64 =>
      (E.p.bin .add 3 v61 v64).bind fun v65 =>
      (E.p.bin .add 3 x16 (.int .i64 1)).bind fun v66 =>
      K .normal (st0 x0 x1 x2 x3 x4 x5 x6 v65 v66 h))
     (
      K (.exit 0) (se0_0_1_2_3_4_5_6_15_16_33 x0 x1 x2 x3 x4 x5 x6 x15 x16 v57 h))
theorem body0_eq (E : Env) (K : PX → St → Res) (x0 x1 x2 x3 x4 x5 x6 x15 x16 : PV) (h : PHeap) : ev (E.cx Tryd.prog kl) lp0 (st0 x0 x1 x2 x3 x4 x5 x6 x15 x16 h) K = body0 E K x0 x1 x2 x3 x4 x5 x6 x15 x16 h := by kernel_rfl
noncomputable def body1 (E : Env) (K : PX → St → Res) (x0 x1 x2 x3 x4 x5 x6 x15 x17 x18 : PV) (h : PHeap) : Res :=
    (E.p.len 23 x2).bind fun v67 =>
    (E.p.bin .lss 3 x18 v67).bind fun v68 =>
    (wantV v68 true).bind fun v69 =>
    (bif v69 then some (x17, h) else some (.tup [], h)).bind fun v70 =>
    (wantV v68 true).bind fun v71 =>
    (bif v71 then some (x5, v70.2) else some (.tup [], v70.2)).bind fun v72 =>
    (wantV v68 true).bind fun v73 =>
    (bif v73 then pv v72.2 (E.p.bin .neq 3 v70.1 v72.1) else some (.tup [], v72.2)).bind fun v74 =>
    (E.p.pick v68 v74.1 (.bool false)).bind fun v75 =>
    condP v75
     (
      (E.p.bin .or 3 x3 x4).bind fun v76 =>
      (E.p.bin .shr 3 v76 x18).bind fun v77 =>
      (E.p.bin .rem 3 v77 (.int .i64 2)).bind fun v78 =>
      (E.p.bin .eql 3 v78 (.int .i64 1)).bind fun v79 =>
      condP v79
       (
        (E.p.bin .add 3 x18 (.int .i64 1)).bind fun v80 =>
        K .normal (st1 x0 x1 x2 x3 x4 x5 x6 x15 x17 v80 v74.2))
       (
        (E.p.bin .eql 3 x5 (.int .i64 1)).bind fun v81 =>
        condP v81
         (
          (E.p.bin .shl 3 (.int .i64 1) x18).bind fun v82 =>
          (E.p.bin .or 3 x3 v82).bind fun v83 =>
          (E.C fn_spec_l8Solve [x0, x1, x2, v83, x4, (.int .i64 2), x6] v74.2).bind fun v84 =>
          (E.p.bin .eql 3 v84.1 x5).bind fun v85 =>
          condP v85
           (
            (E.p.bin .add 3 x18 (.int .i64 1)).bind fun v86 =>
            K .normal (st1 x0 x1 x2 x3 x4 x5 x6 x15 x5 v86 v84.2))
           (
            (E.p.bin .add 3 x18 (.int .i64 1)).bind fun v87 =>
            K .normal (st1 x0 x1 x2 x3 x4 x5 x6 x15 x17 v87 v84.2)))
         (
          (E.p.bin .shl 3 (.int .i64 1) x18).bind fun v88 =>
          (E.p.bin .or 3 x4 v88).bind fun v89 =>
          (E.C fn_spec_l8Solve [x0, x1, x2, x3, v89, (.int .i64 1), x6] v74.2).bind fun v90 =>
          (E.p.bin .eql 3 v90.1 x5).bind fun v91 =>
          condP v91
           (
            (E.p.bin .add 3 x18 (.int .i64 1)).bind fun v92 =>
            K .normal (st1 x0 x1 x2 x3 x4 x5 x6 x15 x5 v92 v90.2))
           (
            (E.p.bin .add 3 x18 (.int .i64 1)).bind fun v93 =>
            K .normal (st1 x0 x1 x2 x3 x4 x5 x6 x15 x17 v93 v90.2)))))
     (
      K (.exit 2) (se2_0_1_2_3_4_5_6_15_17_18_73 x0 x1 x2 x3 x4 x5 x6 x15 x17 x18 v75 v74.2))
theorem body1_eq (E : Env) (K : PX → St → Res) (x0 x1 x2 x3 x4 x5 x6 x15 x17 x18 : PV) (h : PHeap) : ev (E.cx Tryd.prog kl) lp1 (st1 x0 x1 x2 x3 x4 x5 x6 x15 x17 x18 h) K = body1 E K x0 x1 x2 x3 x4 x5 x6 x15 x17 x18 h := by kernel_rfl
theorem after0_se0_0_1_2_3_4_5_6_15_16_33 (E : Env) (x0 x1 x2 x3 x4 x5 x6 x15 x16 x33 : PV) (h : PHeap) : K0 E (kTop Tryd.prog Tryd.f43) (.exit 0) (se0_0_1_2_3_4_5_6_15_16_33 x0 x1 x2 x3 x4 x5 x6 x15 x16 x33 h) =
    (E.p.bin .mul 3 (.int .i64 2) x15).bind fun v16 =>
    (E.p.bin .add 3 v16 x5).bind fun v17 =>
    (E.p.bin .sub 3 v17 (.int .i64 1)).bind fun v18 =>
    (E.p.indexAddr 23 x6 v18).bind fun v19 =>
    (E.p.load 3 v19 h).bind fun v20 =>
    (E.p.bin .gtr 3 v20 (.int .i64 0)).bind fun v21 =>
    condP v21
     (
      (E.p.indexAddr 23 x6 v18).bind fun v22 =>
      (E.p.load 3 v22 h).bind fun v23 =>
      (resV v23).bind fun v24 =>
      some (v24, h))
     (
      (E.C fn_spec_l1Other [x5] h).bind fun v25 =>
      loopK (ev (E.cx Tryd.prog spec_l8Solve.kl) spec_l8Solve.lp1) E.lf (spec_l8Solve.st1 x0 x1 x2 x3 x4 x5 x6 v18 v25.1 (.int .i64 0) v25.2) (spec_l8Solve.K1 E (kTop Tryd.prog Tryd.f43))) := by kernel_rfl
theorem after1_se2_0_1_2_3_4_5_6_15_17_18_73 (E : Env) (x0 x1 x2 x3 x4 x5 x6 x15 x17 x18 x73 : PV) (h : PHeap) : K1 E (kTop Tryd.prog Tryd.f43) (.exit 2) (se2_0_1_2_3_4_5_6_15_17_18_73 x0 x1 x2 x3 x4 x5 x6 x15 x17 x18 x73 h) =
    (E.p.indexAddr 23 x6 x15).bind fun v53 =>
    (E.p.store 3 v53 x17 h).bind fun v54 =>
    (resV x17).bind fun v55 =>
    some (v55, v54) := by kernel_rfl
noncomputable def main (E : Env) (x0 x1 x2 x3 x4 x5 x6 : PV) (h : PHeap) : Res :=
    (E.C fn_spec_l2Joins [x0, x1, x2, x3, (.int .i64 1)] h).bind fun v1 =>
    condP v1.1
     (
      (resV (.int .i64 2)).bind fun v2 =>
      some (v2, v1.2))
     (
      (E.C fn_spec_l2Joins [x0, x1, x2, x4, (.int .i64 2)] v1.2).bind fun v3 =>
      condP v3.1
       (
        (resV (.int .i64 1)).bind fun v4 =>
        some (v4, v3.2))
       (
        loopK (ev (E.cx Tryd.prog spec_l8Solve.kl) spec_l8Solve.lp0) E.lf (spec_l8Solve.st0 x0 x1 x2 x3 x4 x5 x6 (.int .i64 0) (.int .i64 0) v3.2) (spec_l8Solve.K0 E (kTop Tryd.prog Tryd.f43))))
theorem main_eq (E : Env) (x0 x1 x2 x3 x4 x5 x6 : PV) (h : PHeap) : runBody (E.cx Tryd.prog kl) Tryd.f43 [x0, x1, x2, x3, x4, x5, x6] h = main E x0 x1 x2 x3 x4 x5 x6 h := by kernel_rfl
theorem call_eq (g : Nat → PV) (lf n : Nat) (x0 x1 x2 x3 x4 x5 x6 : PV) (h : PHeap) : CL g lf (n + 1) fn_spec_l8Solve [x0, x1, x2, x3, x4, x5, x6] h = main (env g lf n) x0 x1 x2 x3 x4 x5 x6 h := by
  rw [← main_eq]
  show call Tryd.prog g KL lf (n + 1) 43 [x0, x1, x2, x3, x4, x5, x6] h = _
  rw [call_succ, Tryd.func43]
  kernel_rfl
end spec_l8Solve
namespace spec_l2Set
noncomputable def lp0 : Code := (codeAt (bodyOf Tryd.f44) [1, 1, 0, 1, 0, 0])
def st0 (x0 x1 x5 x6 : PV) (h : PHeap) : St := ⟨[x0, x1, .junk, .junk, .junk, x5, x6, .junk, .junk, .junk, .junk, .junk, .junk, .junk, .junk, .junk, .junk, .junk, .junk, .junk, .junk, .junk, .junk, .junk], h⟩
def se0_0_1_5_6_10 (x0 x1 x5 x6 x10 : PV) (h : PHeap) : St := ⟨[x0, x1, .junk, .junk, .junk, x5, x6, .junk, .junk, .junk, x10, .junk, .junk, .junk, .junk, .junk, .junk, .junk, .junk, .junk, .junk, .junk, .junk, .junk], h⟩
noncomputable def K0 (E : Env) (K : PX → St → Res) : PX → St → Res := (kBlock 0 (kSeq (ev (E.cx Tryd.prog kl) (codeAt (bodyOf Tryd.f44) [1, 1, 1])) K))
@[simp] theorem K0_ret (E : Env) (K : PX → St → Res) (s : St) : K0 E K .ret s = K .ret s := by kernel_rfl
noncomputable def body0 (E : Env) (K : PX → St → Res) (x0 x1 x5 x6 : PV) (h : PHeap) : Res :=
    (E.p.len 23 x0).bind fun v11 =>
    (E.p.bin .lss 3 x6 v11).bind fun v12 =>
    condP v12
     (
      (E.p.indexAddr 23 x0 x6).bind fun v13 =>
      (E.p.load 3 v13 h).bind fun v14 =>
      (E.p.bin .eql 3 v14 x1).bind fun v15 =>
      condP v15
       (
        (E.p.bin .shl 3 (.int .i64 1) x6).bind fun v16 =>
        (E.p.bin .or 3 x5 v16).bind fun v17 =>
        (E.p.bin .add 3 x6 (.int .i64 1)).bind fun v18 =>
        K .normal (st0 x0 x1 v17 v18 h))
       (
        (E.p.bin .add 3 x6 (.int .i64 1)).bind fun v19 =>
        K .normal (st0 x0 x1 x5 v19 h)))
     (
      K (.exit 0) (se0_0_1_5_6_10 x0 x1 x5 x6 v12 h))
theorem body0_eq (E : Env) (K : PX → St → Res) (x0 x1 x5 x6 : PV) (h : PHeap) : ev (E.cx Tryd.prog kl) lp0 (st0 x0 x1 x5 x6 h) K = body0 E K x0 x1 x5 x6 h := by kernel_rfl
theorem after0_se0_0_1_5_6_10 (E : Env) (x0 x1 x5 x6 x10 : PV) (h : PHeap) : K0 E (kTop Tryd.prog Tryd.f44) (.exit 0) (se0_0_1_5_6_10 x0 x1 x5 x6 x10 h) =
    (resV x5).bind fun v10 =>
    some (v10, h) := by kernel_rfl
noncomputable def main (E : Env) (x0 x1 : PV) (h : PHeap) : Res :=
    loopK (ev (E.cx Tryd.prog spec_l2Set.kl) spec_l2Set.lp0) E.lf (spec_l2Set.st0 x0 x1 (.int .i64 0) (.int .i64 0) h) (spec_l2Set.K0 E (kTop Tryd.prog Tryd.f44))
theorem main_eq (E : Env) (x0 x1 : PV) (h : PHeap) : runBody (E.cx Tryd.prog kl) Tryd.f44 [x0, x1] h = main E x0 x1 h := by kernel_rfl
theorem call_eq (g : Nat → PV) (lf n : Nat) (x0 x1 : PV) (h : PHeap) : CL g lf (n + 1) fn_spec_l2Set [x0, x1] h = main (env g lf n) x0 x1 h := by
  rw [← main_eq]
  show call Tryd.prog g KL lf (n + 1) 44 [x0, x1] h = _
  rw [call_succ, Tryd.func44]
  kernel_rfl
end spec_l2Set
namespace spec_l3Table
noncomputable def lp0 : Code := (codeAt (bodyOf Tryd.f45) [1, 1, 0, 1, 0, 0])
def st0 (x0 x3 x4 : PV) (h : PHeap) : St := ⟨[x0, .junk, .junk, x3, x4, .junk, .junk, .junk, .junk, .junk, .junk, .junk, .junk, .junk], h⟩
def se0_0_3_4_7 (x0 x3 x4 x7 : PV) (h : PHeap) : St := ⟨[x0, .junk, .junk, x3, x4, .junk, .junk, x7, .junk, .junk, .junk, .junk, .junk, .junk], h⟩
noncomputable def K0 (E : Env) (K : PX → St → Res) : PX → St → Res := (kBlock 0 (kSeq (ev (E.cx Tryd.prog kl) (codeAt (bodyOf Tryd.f45) [1, 1, 1])) K))
@[simp] theorem K0_ret (E : Env) (K : PX → St → Res) (s : St) : K0 E K .ret s = K .ret s := by kernel_rfl
noncomputable def body0 (E : Env) (K : PX → St → Res) (x0 x3 x4 : PV) (h : PHeap) : Res :=
    (E.p.bin .lss 3 x4 x0).bind fun v6 =>
    condP v6
     (
      (E.p.bin .mul 3 x3 (.int .i64 3)).bind fun v7 =>
      (E.p.bin .add 3 x4 (.int .i64 1)).bind fun v8 =>
      K .normal (st0 x0 v7 v8 h))
     (
      K (.exit 0) (se0_0_3_4_7 x0 x3 x4 v6 h))
theorem body0_eq (E : Env) (K : PX → St → Res) (x0 x3 x4 : PV) (h : PHeap) : ev (E.cx Tryd.prog kl) lp0 (st0 x0 x3 x4 h) K = body0 E K x0 x3 x4 h := by kernel_rfl
theorem after0_se0_0_3_4_7 (E : Env) (x0 x3 x4 x7 : PV) (h : PHeap) : K0 E (kTop Tryd.prog Tryd.f45) (.exit 0) (se0_0_3_4_7 x0 x3 x4 x7 h) =
    (E.p.make 23 x3 x3 h).bind fun v4 =>
    (resV v4.1).bind fun v5 =>
    some (v5, v4.2) := by kernel_rfl
noncomputable def main (E : Env) (x0 : PV) (h : PHeap) : Res :=
    loopK (ev (E.cx Tryd.prog spec_l3Table.kl) spec_l3Table.lp0) E.lf (spec_l3Table.st0 x0 (.int .i64 2) (.int .i64 0) h) (spec_l3Table.K0 E (kTop Tryd.prog Tryd.f45))
theorem main_eq (E : Env) (x0 : PV) (h : PHeap) : runBody (E.cx Tryd.prog kl) Tryd.f45 [x0] h = main E x0 h := by kernel_rfl
theorem call_eq (g : Nat → PV) (lf n : Nat) (x0 : PV) (h : PHeap) : CL g lf (n + 1) fn_spec_l3Table [x0] h = main (env g lf n) x0 h := by
  rw [← main_eq]
  show call Tryd.prog g KL lf (n + 1) 45 [x0] h = _
  rw [call_succ, Tryd.func45]
  kernel_rfl
end spec_l3Table
namespace spec_BoardOk
noncomputable def main (E : Env) (x0 x1 : PV) (h : PHeap) : Res :=
    (E.C fn_spec_l1In [x0, (.int .i64 1), (.int .i64 4)] h).bind fun v1 =>
    (wantV v1.1 true).bind fun v2 =>
    (bif v2 then some (x1, v1.2) else some (.tup [], v1.2)).bind fun v3 =>
    (wantV v1.1 true).bind fun v4 =>
    (bif v4 then E.C fn_spec_l1In [v3.1, (.int .i64 1), (.int .i64 4)] v3.2 else some (.tup [], v3.2)).bind fun v5 =>
    (E.p.pick v1.1 v5.1 (.bool false)).bind fun v6 =>
    (wantV v6 true).bind fun v7 =>
    (bif v7 then some (x0, v5.2) else some (.tup [], v5.2)).bind fun v8 =>
    (wantV v6 true).bind fun v9 =>
    (bif v9 then some (x1, v8.2) else some (.tup [], v8.2)).bind fun v10 =>
    (wantV v6 true).bind fun v11 =>
    (bif v11 then pv v10.2 (E.p.bin .mul 3 v8.1 v10.1) else some (.tup [], v10.2)).bind fun v12 =>
    (wantV v6 true).bind fun v13 =>
    (bif v13 then pv v12.2 (E.p.bin .leq 3 v12.1 (.int .i64 9)) else some (.tup [], v12.2)).bind fun v14 =>
    (E.p.pick v6 v14.1 (.bool false)).bind fun v15 =>
    (resV v15).bind fun v16 =>
    some (v16, v14.2)
theorem main_eq (E : Env) (x0 x1 : PV) (h : PHeap) : runBody (E.cx Tryd.prog kl) Tryd.f46 [x0, x1] h = main E x0 x1 h := by kernel_rfl
theorem call_eq (g : Nat → PV) (lf n : Nat) (x0 x1 : PV) (h : PHeap) : CL g lf (n + 1) fn_spec_BoardOk [x0, x1] h = main (env g lf n) x0 x1 h := by
  rw [← main_eq]
  show call Tryd.prog g KL lf (n + 1) 46 [x0, x1] h = _
  rw [call_succ, Tryd.func46]
  kernel_rfl
end spec_BoardOk
namespace impl_BoardOk
noncomputable def main (E : Env) (x0 x1 : PV) (h : PHeap) : Res :=
    (E.C fn_impl_sizeOk [x0] h).bind fun v1 =>
    (wantV v1.1 true).bind fun v2 =>
    (bif v2 then some (x1, v1.2) else some (.tup [], v1.2)).bind fun v3 =>
    (wantV v1.1 true).bind fun v4 =>
    (bif v4 then E.C fn_impl_sizeOk [v3.1] v3.2 else some (.tup [], v3.2)).bind fun v5 =>
    (E.p.pick v1.1 v5.1 (.bool false)).bind fun v6 =>
    (wantV v6 true).bind fun v7 =>
    (bif v7 then some (x0, v5.2) else some (.tup [], v5.2)).bind fun v8 =>
    (wantV v6 true).bind fun v9 =>
    (bif v9 then some (x1, v8.2) else some (.tup [], v8.2)).bind fun v10 =>
    (wantV v6 true).bind fun v11 =>
    (bif v11 then pv v10.2 (E.p.bin .mul 3 v8.1 v10.1) else some (.tup [], v10.2)).bind fun v12 =>
    (wantV v6 true).bind fun v13 =>
    (bif v13 then pv v12.2 (E.p.bin .leq 3 v12.1 (.int .i64 9)) else some (.tup [], v12.2)).bind fun v14 =>
    (E.p.pick v6 v14.1 (.bool false)).bind fun v15 =>
    (resV v15).bind fun v16 =>
    some (v16, v14.2)
theorem main_eq (E : Env) (x0 x1 : PV) (h : PHeap) : runBody (E.cx Tryd.prog kl) Tryd.f47 [x0, x1] h = main E x0 x1 h := by kernel_rfl
theorem call_eq (g : Nat → PV) (lf n : Nat) (x0 x1 : PV) (h : PHeap) : CL g lf (n + 1) fn_impl_BoardOk [x0, x1] h = main (env g lf n) x0 x1 h := by
  rw [← main_eq]
  show call Tryd.prog g KL lf (n + 1) 47 [x0, x1] h = _
  rw [call_succ, Tryd.func47]
  kernel_rfl
end impl_BoardOk
namespace impl_exchanged
noncomputable def main (E : Env) (x0 : PV) (h : PHeap) : Res :=
    (E.p.bin .eql 3 x0 (.int .i64 1)).bind fun v1 =>
    condP v1
     (
      (resV (.int .i64 2)).bind fun v2 =>
      some (v2, h))
     (
      (E.p.bin .eql 3 x0 (.int .i64 2)).bind fun v3 =>
      condP v3
       (
        (resV (.int .i64 1)).bind fun v4 =>
        some (v4, h))
       (
        (resV x0).bind fun v5 =>
        some (v5, h)))
theorem main_eq (E : Env) (x0 : PV) (h : PHeap) : runBody (E.cx Tryd.prog kl) Tryd.f48 [x0] h = main E x0 h := by kernel_rfl
theorem call_eq (g : Nat → PV) (lf n : Nat) (x0 : PV) (h : PHeap) : CL g lf (n + 1) fn_impl_exchanged [x0] h = main (env g lf n) x0 h := by
  rw [← main_eq]
  show call Tryd.prog g KL lf (n + 1) 48 [x0] h = _
  rw [call_succ, Tryd.func48]
  kernel_rfl
end impl_exchanged
namespace impl_mirroredCell
noncomputable def main (E : Env) (x0 x1 x2 : PV) (h : PHeap) : Res :=
    (E.p.bin .rem 3 x2 x1).bind fun v1 =>
    (E.p.bin .mul 3 v1 x0).bind fun v2 =>
    (E.p.bin .quo 3 x2 x1).bind fun v3 =>
    (E.p.bin .add 3 v2 v3).bind fun v4 =>
    (resV v4).bind fun v5 =>
    some (v5, h)
theorem main_eq (E : Env) (x0 x1 x2 : PV) (h : PHeap) : runBody (E.cx Tryd.prog kl) Tryd.f49 [x0, x1, x2] h = main E x0 x1 x2 h := by kernel_rfl
theorem call_eq (g : Nat → PV) (lf n : Nat) (x0 x1 x2 : PV) (h : PHeap) : CL g lf (n + 1) fn_impl_mirroredCell [x0, x1, x2] h = main (env g lf n) x0 x1 x2 h := by
  rw [← main_eq]
  show call Tryd.prog g KL lf (n + 1) 49 [x0, x1, x2] h = _
  rw [call_succ, Tryd.func49]
  kernel_rfl
end impl_mirroredCell
namespace impl_search_joined
noncomputable def lp0 : Code := (codeAt (bodyOf Tryd.f50) [1, 0, 1, 0, 0])
def st0 (x0 x3 x5 : PV) (h : PHeap) : St := ⟨[x0, .junk, .junk, x3, .junk, x5, .junk, .junk, .junk, .junk, .junk, .junk, .junk, .junk, .junk, .junk, .junk, .junk], h⟩
def sr_4 (x4 : PV) (h : PHeap) : St := ⟨[.junk, .junk, .junk, .junk, x4, .junk, .junk, .junk, .junk, .junk, .junk, .junk, .junk, .junk, .junk, .junk, .junk, .junk], h⟩
def se0_0_3_5_7 (x0 x3 x5 x7 : PV) (h : PHeap) : St := ⟨[x0, .junk, .junk, x3, .junk, x5, .junk, x7, .junk, .junk, .junk, .junk, .junk, .junk, .junk, .junk, .junk, .junk], h⟩
noncomputable def K0 (E : Env) (K : PX → St → Res) : PX → St → Res := (kBlock 0 (kSeq (ev (E.cx Tryd.prog kl) (codeAt (bodyOf Tryd.f50) [1, 1])) K))
@[simp] theorem K0_ret (E : Env) (K : PX → St → Res) (s : St) : K0 E K .ret s = K .ret s := by kernel_rfl
noncomputable def body0 (E : Env) (K : PX → St → Res) (x0 x3 x5 : PV) (h : PHeap) : Res :=
    (E.p.bin .leq 3 x5 (.int .i64 2)).bind fun v9 =>
    condP v9
     (
      (E.p.fieldAddr 54 x3 0).bind fun v10 =>
      (E.p.indexAddr 52 v10 x5).bind fun v11 =>
      (E.p.load 3 v11 h).bind fun v12 =>
      (E.C fn_impl_search_joins [x0, v12, x5] h).bind fun v13 =>
      condP v13.1
       (
        K .ret (sr_4 x5 v13.2))
       (
        (E.p.bin .add 3 x5 (.int .i64 1)).bind fun v14 =>
        K .normal (st0 x0 x3 v14 v13.2)))
     (
      K (.exit 0) (se0_0_3_5_7 x0 x3 x5 v9 h))
theorem body0_eq (E : Env) (K : PX → St → Res) (x0 x3 x5 : PV) (h : PHeap) : ev (E.cx Tryd.prog kl) lp0 (st0 x0 x3 x5 h) K = body0 E K x0 x3 x5 h := by kernel_rfl
theorem after0_se0_0_3_5_7 (E : Env) (x0 x3 x5 x7 : PV) (h : PHeap) : K0 E (kTop Tryd.prog Tryd.f50) (.exit 0) (se0_0_3_5_7 x0 x3 x5 x7 h) =
    (resV (.int .i64 0)).bind fun v8 =>
    some (v8, h) := by kernel_rfl
theorem top_sr_4 (x4 : PV) (h : PHeap) : kTop Tryd.prog Tryd.f50 .ret (sr_4 x4 h) =
    (resV x4).bind fun v15 =>
    some (v15, h) := by kernel_rfl
noncomputable def main (E : Env) (x0 x1 : PV) (h : PHeap) : Res :=
    (E.p.box x1 h).bind fun v1 =>
    loopK (ev (E.cx Tryd.prog impl_search_joined.kl) impl_search_joined.lp0) E.lf (impl_search_joined.st0 x0 v1.1 (.int .i64 1) v1.2) (impl_search_joined.K0 E (kTop Tryd.prog Tryd.f50))
theorem main_eq (E : Env) (x0 x1 : PV) (h : PHeap) : runBody (E.cx Tryd.prog kl) Tryd.f50 [x0, x1] h = main E x0 x1 h := by kernel_rfl
theorem call_eq (g : Nat → PV) (lf n : Nat) (x0 x1 : PV) (h : PHeap) : CL g lf (n + 1) fn_impl_search_joined [x0, x1] h = main (env g lf n) x0 x1 h := by
  rw [← main_eq]
  show call Tryd.prog g KL lf (n + 1) 50 [x0, x1] h = _
  rw [call_succ, Tryd.func50]
  kernel_rfl
end impl_search_joined
namespace slices_Collect_int_
noncomputable def main (E : Env) (x0 : PV) (h : PHeap) : Res :=
    (E.C fn_slices_AppendSeq___int_int_ [.nilsl, x0] h).bind fun v1 =>
    (resV v1.1).bind fun v2 =>
    some (v2, v1.2)
theorem main_eq (E : Env) (x0 : PV) (h : PHeap) : runBody (E.cx Tryd.prog kl) Tryd.f51 [x0] h = main E x0 h := by kernel_rfl
theorem call_eq (g : Nat → PV) (lf n : Nat) (x0 : PV) (h : PHeap) : CL g lf (n + 1) fn_slices_Collect_int_ [x0] h = main (env g lf n) x0 h := by
  rw [← main_eq]
  show call Tryd.prog g KL lf (n + 1) 51 [x0] h = _
  rw [call_succ, Tryd.func51]
  kernel_rfl
end slices_Collect_int_
namespace impl_reverse_safe
noncomputable def main (E : Env) (x0 x1 : PV) (h : PHeap) : Res :=
    (E.p.box x0 h).bind fun v1 =>
    (E.p.box x1 v1.2).bind fun v2 =>
    (E.p.clos fn_impl_reverse_safe_1 [v2.1, v1.1]).bind fun v3 =>
    (resV v3).bind fun v4 =>
    some (v4, v2.2)
theorem main_eq (E : Env) (x0 x1 : PV) (h : PHeap) : runBody (E.cx Tryd.prog kl) Tryd.f52 [x0, x1] h = main E x0 x1 h := by kernel_rfl
theorem call_eq (g : Nat → PV) (lf n : Nat) (x0 x1 : PV) (h : PHeap) : CL g lf (n + 1) fn_impl_reverse_safe [x0, x1] h = main (env g lf n) x0 x1 h := by
  rw [← main_eq]
  show call Tryd.prog g KL lf (n + 1) 52 [x0, x1] h = _
  rw [call_succ, Tryd.func52]
  kernel_rfl
end impl_reverse_safe
namespace spec_Played
noncomputable def main (E : Env) (x0 x1 x2 x3 x4 : PV) (h : PHeap) : Res :=
    (E.C fn_spec_MoveOk [x0, x1, x2, x3, x4] h).bind fun v1 =>
    (E.p.un .not v1.1).bind fun v2 =>
    condP v2
     (
      (E.p.buildSlice 23 0 [] v1.2).bind fun v3 =>
      (resV v3.1).bind fun v4 =>
      (resV (.bool false)).bind fun v5 =>
      some (.tup [v4, v5], v3.2))
     (
      (E.p.buildSlice 23 0 [] v1.2).bind fun v6 =>
      (E.p.append 23 23 v6.1 x2 v6.2).bind fun v7 =>
      (E.p.indexAddr 23 v7.1 x3).bind fun v8 =>
      (E.p.store 3 v8 x4 v7.2).bind fun v9 =>
      (resV v7.1).bind fun v10 =>
      (resV (.bool true)).bind fun v11 =>
      some (.tup [v10, v11], v9))
theorem main_eq (E : Env) (x0 x1 x2 x3 x4 : PV) (h : PHeap) : runBody (E.cx Tryd.prog kl) Tryd.f53 [x0, x1, x2, x3, x4] h = main E x0 x1 x2 x3 x4 h := by kernel_rfl
theorem call_eq (g : Nat → PV) (lf n : Nat) (x0 x1 x2 x3 x4 : PV) (h : PHeap) : CL g lf (n + 1) fn_spec_Played [x0, x1, x2, x3, x4] h = main (env g lf n) x0 x1 x2 x3 x4 h := by
  rw [← main_eq]
  show call Tryd.prog g KL lf (n + 1) 53 [x0, x1, x2, x3, x4] h = _
  rw [call_succ, Tryd.func53]
  kernel_rfl
end spec_Played
namespace spec_l1Other
noncomputable def main (E : Env) (x0 : PV) (h : PHeap) : Res :=
    (E.p.bin .eql 3 x0 (.int .i64 0)).bind fun v1 =>
    condP v1
     (
      (resV (.int .i64 0)).bind fun v2 =>
      some (v2, h))
     (
      (E.p.bin .sub 3 (.int .i64 3) x0).bind fun v3 =>
      (resV v3).bind fun v4 =>
      some (v4, h))
theorem main_eq (E : Env) (x0 : PV) (h : PHeap) : runBody (E.cx Tryd.prog kl) Tryd.f54 [x0] h = main E x0 h := by kernel_rfl
theorem call_eq (g : Nat → PV) (lf n : Nat) (x0 : PV) (h : PHeap) : CL g lf (n + 1) fn_spec_l1Other [x0] h = main (env g lf n) x0 h := by
  rw [← main_eq]
  show call Tryd.prog g KL lf (n + 1) 54 [x0] h = _
  rw [call_succ, Tryd.func54]
  kernel_rfl
end spec_l1Other
namespace impl_MoveOk
noncomputable def main (E : Env) (x0 x1 x2 x3 x4 : PV) (h : PHeap) : Res :=
    (E.C fn_impl_PositionOk [x0, x1, x2] h).bind fun v1 =>
    (E.p.un .not v1.1).bind fun v2 =>
    (wantV v2 false).bind fun v3 =>
    (bif v3 then some (x4, v1.2) else some (.tup [], v1.2)).bind fun v4 =>
    (wantV v2 false).bind fun v5 =>
    (bif v5 then E.C fn_impl_playerOk [v4.1] v4.2 else some (.tup [], v4.2)).bind fun v6 =>
    (wantV v2 false).bind fun v7 =>
    (bif v7 then pv v6.2 (E.p.un .not v6.1) else some (.tup [], v6.2)).bind fun v8 =>
    (E.p.pick v2 (.bool true) v8.1).bind fun v9 =>
    (wantV v9 false).bind fun v10 =>
    (bif v10 then some (x0, v8.2) else some (.tup [], v8.2)).bind fun v11 =>
    (wantV v9 false).bind fun v12 =>
    (bif v12 then some (x1, v11.2) else some (.tup [], v11.2)).bind fun v13 =>
    (wantV v9 false).bind fun v14 =>
    (bif v14 then some (x3, v13.2) else some (.tup [], v13.2)).bind fun v15 =>
    (wantV v9 false).bind fun v16 =>
    (bif v16 then E.C fn_impl_cellOk [v11.1, v13.1, v15.1] v15.2 else some (.tup [], v15.2)).bind fun v17 =>
    (wantV v9 false).bind fun v18 =>
    (bif v18 then pv v17.2 (E.p.un .not v17.1) else some (.tup [], v17.2)).bind fun v19 =>
    (E.p.pick v9 (.bool true) v19.1).bind fun v20 =>
    condP v20
     (
      (resV (.bool false)).bind fun v21 =>
      some (v21, v19.2))
     (
      (E.p.indexAddr 23 x2 x3).bind fun v22 =>
      (E.p.load 3 v22 v19.2).bind fun v23 =>
      (E.p.bin .eql 3 v23 (.int .i64 0)).bind fun v24 =>
      (wantV v24 true).bind fun v25 =>
      (bif v25 then some (x0, v19.2) else some (.tup [], v19.2)).bind fun v26 =>
      (wantV v24 true).bind fun v27 =>
      (bif v27 then some (x1, v26.2) else some (.tup [], v26.2)).bind fun v28 =>
      (wantV v24 true).bind fun v29 =>
      (bif v29 then some (x2, v28.2) else some (.tup [], v28.2)).bind fun v30 =>
      (wantV v24 true).bind fun v31 =>
      (bif v31 then E.C fn_impl_Joins [v26.1, v28.1, v30.1, (.int .i64 1)] v30.2 else some (.tup [], v30.2)).bind fun v32 =>
      (wantV v24 true).bind fun v33 =>
      (bif v33 then pv v32.2 (E.p.un .not v32.1) else some (.tup [], v32.2)).bind fun v34 =>
      (E.p.pick v24 v34.1 (.bool false)).bind fun v35 =>
      (wantV v35 true).bind fun v36 =>
      (bif v36 then some (x0, v34.2) else some (.tup [], v34.2)).bind fun v37 =>
      (wantV v35 true).bind fun v38 =>
      (bif v38 then some (x1, v37.2) else some (.tup [], v37.2)).bind fun v39 =>
      (wantV v35 true).bind fun v40 =>
      (bif v40 then some (x2, v39.2) else some (.tup [], v39.2)).bind fun v41 =>
      (wantV v35 true).bind fun v42 =>
      (bif v42 then E.C fn_impl_Joins [v37.1, v39.1, v41.1, (.int .i64 2)] v41.2 else some (.tup [], v41.2)).bind fun v43 =>
      (wantV v35 true).bind fun v44 =>
      (bif v44 then pv v43.2 (E.p.un .not v43.1) else some (.tup [], v43.2)).bind fun v45 =>
      (E.p.pick v35 v45.1 (.bool false)).bind fun v46 =>
      (resV v46).bind fun v47 =>
      some (v47, v45.2))
theorem main_eq (E : Env) (x0 x1 x2 x3 x4 : PV) (h : PHeap) : runBody (E.cx Tryd.prog kl) Tryd.f55 [x0, x1, x2, x3, x4] h = main E x0 x1 x2 x3 x4 h := by kernel_rfl
theorem call_eq (g : Nat → PV) (lf n : Nat) (x0 x1 x2 x3 x4 : PV) (h : PHeap) : CL g lf (n + 1) fn_impl_MoveOk [x0, x1, x2, x3, x4] h = main (env g lf n) x0 x1 x2 x3 x4 h := by
  rw [← main_eq]
  show call Tryd.prog g KL lf (n + 1) 55 [x0, x1, x2, x3, x4] h = _
  rw [call_succ, Tryd.func55]
  kernel_rfl
end impl_MoveOk
namespace slices_Clone___int_int_
noncomputable def main (E : Env) (x0 : PV) (h : PHeap) : Res :=
    (E.p.bin .eql 23 x0 .nilsl).bind fun v1 =>
    condP v1
     (
      (resV .nilsl).bind fun v2 =>
      some (v2, h))
     (
      (E.p.buildSlice 23 0 [] h).bind fun v3 =>
      (E.p.append 23 23 v3.1 x0 v3.2).bind fun v4 =>
      (resV v4.1).bind fun v5 =>
      some (v5, v4.2))
theorem main_eq (E : Env) (x0 : PV) (h : PHeap) : runBody (E.cx Tryd.prog kl) Tryd.f56 [x0] h = main E x0 h := by kernel_rfl
theorem call_eq (g : Nat → PV) (lf n : Nat) (x0 : PV) (h : PHeap) : CL g lf (n + 1) fn_slices_Clone___int_int_ [x0] h = main (env g lf n) x0 h := by
  rw [← main_eq]
  show call Tryd.prog g KL lf (n + 1) 56 [x0] h = _
  rw [call_succ, Tryd.func56]
  kernel_rfl
end slices_Clone___int_int_
namespace impl_sidesOf
noncomputable def lp0 : Code := (codeAt (bodyOf Tryd.f57) [1, 1, 0, 1, 0, 0])
def st0 (x0 x1 x2 x8 x9 x15 x16 : PV) (h : PHeap) : St := ⟨[x0, x1, x2, .junk, .junk, .junk, .junk, .junk, x8, x9, .junk, .junk, .junk, .junk, .junk, x15, x16, .junk, .junk, .junk, .junk, .junk, .junk, .junk, .junk, .junk, .junk, .junk, .junk, .junk, .junk, .junk, .junk, .junk, .junk, .junk, .junk, .junk, .junk, .junk, .junk, .junk, .junk, .junk, .junk, .junk, .junk], h⟩
def se0_0_1_2_8_9_15_16_17 (x0 x1 x2 x8 x9 x15 x16 x17 : PV) (h : PHeap) : St := ⟨[x0, x1, x2, .junk, .junk, .junk, .junk, .junk, x8, x9, .junk, .junk, .junk, .junk, .junk, x15, x16, x17, .junk, .junk, .junk, .junk, .junk, .junk, .junk, .junk, .junk, .junk, .junk, .junk, .junk, .junk, .junk, .junk, .junk, .junk, .junk, .junk, .junk, .junk, .junk, .junk, .junk, .junk, .junk, .junk, .junk], h⟩
noncomputable def K0 (E : Env) (K : PX → St → Res) : PX → St → Res := (kBlock 0 (kSeq (ev (E.cx Tryd.prog kl) (codeAt (bodyOf Tryd.f57) [1, 1, 1])) K))
@[simp] theorem K0_ret (E : Env) (K : PX → St → Res) (s : St) : K0 E K .ret s = K .ret s := by kernel_rfl
noncomputable def body0 (E : Env) (K : PX → St → Res) (x0 x1 x2 x8 x9 x15 x16 : PV) (h : PHeap) : Res :=
    (E.p.bin .lss 3 x16 x15).bind fun v36 =>
    condP v36
     (
      (E.p.bin .quo 3 x16 x1).bind fun v37 =>
      (E.p.bin .sub 3 x0 (.int .i64 1)).bind fun v38 =>
      (E.p.bin .eql 3 x2 (.int .i64 2)).bind fun v39 =>
      condP v39
       (
        (E.p.bin .rem 3 x16 x1).bind fun v40 =>
        (E.p.bin .sub 3 x1 (.int .i64 1)).bind fun v41 =>
        (E.p.bin .eql 3 v40 (.int .i64 0)).bind fun v42 =>
        condP v42
         (
          (E.p.bin .shl 3 (.int .i64 1) x16).bind fun v43 =>
          (E.p.bin .or 3 x8 v43).bind fun v44 =>
          (E.p.bin .eql 3 v40 v41).bind fun v45 =>
          condP v45
           (
            (E.p.bin .shl 3 (.int .i64 1) x16).bind fun v46 =>
            (E.p.bin .or 3 x9 v46).bind fun v47 =>
            (E.p.bin .add 3 x16 (.int .i64 1)).bind fun v48 =>
            K .normal (st0 x0 x1 x2 v44 v47 x15 v48 h))
           (
            (E.p.bin .add 3 x16 (.int .i64 1)).bind fun v49 =>
            K .normal (st0 x0 x1 x2 v44 x9 x15 v49 h)))
         (
          (E.p.bin .eql 3 v40 v41).bind fun v50 =>
          condP v50
           (
            (E.p.bin .shl 3 (.int .i64 1) x16).bind fun v51 =>
            (E.p.bin .or 3 x9 v51).bind fun v52 =>
            (E.p.bin .add 3 x16 (.int .i64 1)).bind fun v53 =>
            K .normal (st0 x0 x1 x2 x8 v52 x15 v53 h))
           (
            (E.p.bin .add 3 x16 (.int .i64 1)).bind fun v54 =>
            K .normal (st0 x0 x1 x2 x8 x9 x15 v54 h))))
       (
        (E.p.bin .eql 3 v37 (.int .i64 0)).bind fun v55 =>
        condP v55
         (
          (E.p.bin .shl 3 (.int .i64 1) x16).bind fun v56 =>
          (E.p.bin .or 3 x8 v56).bind fun v57 =>
          (E.p.bin .eql 3 v37 v38).bind fun v58 =>
          condP v58
           (
            (E.p.bin .shl 3 (.int .i64 1) x16).bind fun v59 =>
            (E.p.bin .or 3 x9 v59).bind fun v60 =>
            (E.p.bin .add 3 x16 (.int .i64 1)).bind fun v61 =>
            K .normal (st0 x0 x1 x2 v57 v60 x15 v61 h))
           (
            (E.p.bin .add 3 x16 (.int .i64 1)).bind fun v62 =>
            K .normal (st0 x0 x1 x2 v57 x9 x15 v62 h)))
         (
          (E.p.bin .eql 3 v37 v38).bind fun v63 =>
          condP v63
           (
            (E.p.bin .shl 3 (.int .i64 1) x16).bind fun v64 =>
            (E.p.bin .or 3 x9 v64).bind fun v65 =>
            (E.p.bin .add 3 x16 (.int .i64 1)).bind fun v66 =>
            K .normal (st0 x0 x1 x2 x8 v65 x15 v66 h))
           (
            (E.p.bin .add 3 x16 (.int .i64 1)).bind fun v67 =>
            K .normal (st0 x0 x1 x2 x8 x9 x15 v67 h)))))
     (
      K (.exit 0) (se0_0_1_2_8_9_15_16_17 x0 x1 x2 x8 x9 x15 x16 v36 h))
theorem body0_eq (E : Env) (K : PX → St → Res) (x0 x1 x2 x8 x9 x15 x16 : PV) (h : PHeap) : ev (E.cx Tryd.prog kl) lp0 (st0 x0 x1 x2 x8 x9 x15 x16 h) K = body0 E K x0 x1 x2 x8 x9 x15 x16 h := by kernel_rfl
theorem after0_se0_0_1_2_8_9_15_16_17 (E : Env) (x0 x1 x2 x8 x9 x15 x16 x17 : PV) (h : PHeap) : K0 E (kTop Tryd.prog Tryd.f57) (.exit 0) (se0_0_1_2_8_9_15_16_17 x0 x1 x2 x8 x9 x15 x16 x17 h) =
    (resV x8).bind fun v34 =>
    (resV x9).bind fun v35 =>
    some (.tup [v34, v35], h) := by kernel_rfl
noncomputable def main (E : Env) (x0 x1 x2 : PV) (h : PHeap) : Res :=
    (E.p.bin .mul 3 x0 x1).bind fun v1 =>
    loopK (ev (E.cx Tryd.prog impl_sidesOf.kl) impl_sidesOf.lp0) E.lf (impl_sidesOf.st0 x0 x1 x2 (.int .i64 0) (.int .i64 0) v1 (.int .i64 0) h) (impl_sidesOf.K0 E (kTop Tryd.prog Tryd.f57))
theorem main_eq (E : Env) (x0 x1 x2 : PV) (h : PHeap) : runBody (E.cx Tryd.prog kl) Tryd.f57 [x0, x1, x2] h = main E x0 x1 x2 h := by kernel_rfl
theorem call_eq (g : Nat → PV) (lf n : Nat) (x0 x1 x2 : PV) (h : PHeap) : CL g lf (n + 1) fn_impl_sidesOf [x0, x1, x2] h = main (env g lf n) x0 x1 x2 h := by
  rw [← main_eq]
  show call Tryd.prog g KL lf (n + 1) 57 [x0, x1, x2] h = _
  rw [call_succ, Tryd.func57]
  kernel_rfl
end impl_sidesOf
namespace impl_setOf
noncomputable def lp0 : Code := (codeAt (bodyOf Tryd.f58) [1, 1, 0, 1, 0, 0])
def st0 (x1 x5 x8 x9 x10 : PV) (h : PHeap) : St := ⟨[.junk, x1, .junk, .junk, .junk, x5, .junk, .junk, x8, x9, x10, .junk, .junk, .junk, .junk, .junk, .junk, .junk, .junk, .junk, .junk, .junk, .junk, .junk], h⟩
def se0_1_5_8_9_10_11 (x1 x5 x8 x9 x10 x11 : PV) (h : PHeap) : St := ⟨[.junk, x1, .junk, .junk, .junk, x5, .junk, .junk, x8, x9, x10, x11, .junk, .junk, .junk, .junk, .junk, .junk, .junk, .junk, .junk, .junk, .junk, .junk], h⟩
noncomputable def K0 (E : Env) (K : PX → St → Res) : PX → St → Res := (kBlock 0 (kSeq (ev (E.cx Tryd.prog kl) (codeAt (bodyOf Tryd.f58) [1, 1, 1])) K))
@[simp] theorem K0_ret (E : Env) (K : PX → St → Res) (s : St) : K0 E K .ret s = K .ret s := by kernel_rfl
noncomputable def body0 (E : Env) (K : PX → St → Res) (x1 x5 x8 x9 x10 : PV) (h : PHeap) : Res :=
    (E.p.bin .lss 3 x10 x9).bind fun v11 =>
    condP v11
     (
      (E.p.indexAddr 23 x8 x10).bind fun v12 =>
      (E.p.load 3 v12 h).bind fun v13 =>
      (E.p.bin .eql 3 v13 x1).bind fun v14 =>
      condP v14
       (
        (E.p.bin .shl 3 (.int .i64 1) x10).bind fun v15 =>
        (E.p.bin .or 3 x5 v15).bind fun v16 =>
        (E.p.bin .add 3 x10 (.int .i64 1)).bind fun v17 =>
        K .normal (st0 x1 v16 x8 x9 v17 h))
       (
        (E.p.bin .add 3 x10 (.int .i64 1)).bind fun v18 =>
        K .normal (st0 x1 x5 x8 x9 v18 h)))
     (
      K (.exit 0) (se0_1_5_8_9_10_11 x1 x5 x8 x9 x10 v11 h))
theorem body0_eq (E : Env) (K : PX → St → Res) (x1 x5 x8 x9 x10 : PV) (h : PHeap) : ev (E.cx Tryd.prog kl) lp0 (st0 x1 x5 x8 x9 x10 h) K = body0 E K x1 x5 x8 x9 x10 h := by kernel_rfl
theorem after0_se0_1_5_8_9_10_11 (E : Env) (x1 x5 x8 x9 x10 x11 : PV) (h : PHeap) : K0 E (kTop Tryd.prog Tryd.f58) (.exit 0) (se0_1_5_8_9_10_11 x1 x5 x8 x9 x10 x11 h) =
    (resV x5).bind fun v10 =>
    some (v10, h) := by kernel_rfl
noncomputable def main (E : Env) (x0 x1 : PV) (h : PHeap) : Res :=
    (E.p.len 23 x0).bind fun v1 =>
    loopK (ev (E.cx Tryd.prog impl_setOf.kl) impl_setOf.lp0) E.lf (impl_setOf.st0 x1 (.int .i64 0) x0 v1 (.int .i64 0) h) (impl_setOf.K0 E (kTop Tryd.prog Tryd.f58))
theorem main_eq (E : Env) (x0 x1 : PV) (h : PHeap) : runBody (E.cx Tryd.prog kl) Tryd.f58 [x0, x1] h = main E x0 x1 h := by kernel_rfl
theorem call_eq (g : Nat → PV) (lf n : Nat) (x0 x1 : PV) (h : PHeap) : CL g lf (n + 1) fn_impl_setOf [x0, x1] h = main (env g lf n) x0 x1 h := by
  rw [← main_eq]
  show call Tryd.prog g KL lf (n + 1) 58 [x0, x1] h = _
  rw [call_succ, Tryd.func58]
  kernel_rfl
end impl_setOf
namespace impl_grown
noncomputable def lp0 : Code := (codeAt (bodyOf Tryd.f59) [1, 0, 1, 0, 0])
def st0 (x0 x1 x2 x3 x9 : PV) (h : PHeap) : St := ⟨[x0, x1, x2, x3, .junk, .junk, .junk, .junk, .junk, x9, .junk, .junk, .junk, .junk, .junk, .junk, .junk, .junk, .junk, .junk, .junk, .junk, .junk, .junk, .junk], h⟩
def se0_0_1_2_3_9_12 (x0 x1 x2 x3 x9 x12 : PV) (h : PHeap) : St := ⟨[x0, x1, x2, x3, .junk, .junk, .junk, .junk, .junk, x9, .junk, .junk, x12, .junk, .junk, .junk, .junk, .junk, .junk, .junk, .junk, .junk, .junk, .junk, .junk], h⟩
noncomputable def K0 (E : Env) (K : PX → St → Res) : PX → St → Res := (kBlock 0 (kSeq (ev (E.cx Tryd.prog kl) (codeAt (bodyOf Tryd.f59) [1, 1])) K))
@[simp] theorem K0_ret (E : Env) (K : PX → St → Res) (s : St) : K0 E K .ret s = K .ret s := by kernel_rfl
noncomputable def body0 (E : Env) (K : PX → St → Res) (x0 x1 x2 x3 x9 : PV) (h : PHeap) : Res :=
    (E.p.bin .neq 3 x9 (.int .i64 0)).bind fun v7 =>
    condP v7
     (
      (E.C fn_impl_withNear [x0, x1, x9] h).bind fun v8 =>
      (E.p.bin .and 3 v8.1 x3).bind fun v9 =>
      (E.p.bin .andNot 3 v9 x2).bind fun v10 =>
      (E.p.bin .or 3 x2 v10).bind fun v11 =>
      K .normal (st0 x0 x1 v11 x3 v10 v8.2))
     (
      K (.exit 0) (se0_0_1_2_3_9_12 x0 x1 x2 x3 x9 v7 h))
theorem body0_eq (E : Env) (K : PX → St → Res) (x0 x1 x2 x3 x9 : PV) (h : PHeap) : ev (E.cx Tryd.prog kl) lp0 (st0 x0 x1 x2 x3 x9 h) K = body0 E K x0 x1 x2 x3 x9 h := by kernel_rfl
theorem after0_se0_0_1_2_3_9_12 (E : Env) (x0 x1 x2 x3 x9 x12 : PV) (h : PHeap) : K0 E (kTop Tryd.prog Tryd.f59) (.exit 0) (se0_0_1_2_3_9_12 x0 x1 x2 x3 x9 x12 h) =
    (resV x2).bind fun v6 =>
    some (v6, h) := by kernel_rfl
noncomputable def main (E : Env) (x0 x1 x2 x3 : PV) (h : PHeap) : Res :=
    loopK (ev (E.cx Tryd.prog impl_grown.kl) impl_grown.lp0) E.lf (impl_grown.st0 x0 x1 x2 x3 x2 h) (impl_grown.K0 E (kTop Tryd.prog Tryd.f59))
theorem main_eq (E : Env) (x0 x1 x2 x3 : PV) (h : PHeap) : runBody (E.cx Tryd.prog kl) Tryd.f59 [x0, x1, x2, x3] h = main E x0 x1 x2 x3 h := by kernel_rfl
theorem call_eq (g : Nat → PV) (lf n : Nat) (x0 x1 x2 x3 : PV) (h : PHeap) : CL g lf (n + 1) fn_impl_grown [x0, x1, x2, x3] h = main (env g lf n) x0 x1 x2 x3 h := by
  rw [← main_eq]
  show call Tryd.prog g KL lf (n + 1) 59 [x0, x1, x2, x3] h = _
  rw [call_succ, Tryd.func59]
  kernel_rfl
end impl_grown
namespace spec_l20Rd_pick
noncomputable def main (E : Env) (x0 x1 : PV) (h : PHeap) : Res :=
    (E.p.ptr x0).bind fun v1 =>
    (E.p.fieldAddr 72 v1 1).bind fun v2 =>
    (E.p.load 3 v2 h).bind fun v3 =>
    (E.p.bin .add 3 v3 (.int .i64 1)).bind fun v4 =>
    (E.p.ptr x0).bind fun v5 =>
    (E.p.fieldAddr 72 v5 1).bind fun v6 =>
    (E.p.store 3 v6 v4 h).bind fun v7 =>
    (E.p.bin .lss 3 x1 (.int .i64 1)).bind fun v8 =>
    (wantV v8 false).bind fun v9 =>
    (bif v9 then some (x0, v7) else some (.tup [], v7)).bind fun v10 =>
    (wantV v8 false).bind fun v11 =>
    (bif v11 then pv v10.2 (E.p.ptr v10.1) else some (.tup [], v10.2)).bind fun v12 =>
    (wantV v8 false).bind fun v13 =>
    (bif v13 then pv v12.2 (E.p.fieldAddr 72 v12.1 0) else some (.tup [], v12.2)).bind fun v14 =>
    (wantV v8 false).bind fun v15 =>
    (bif v15 then pv v14.2 (E.p.load 22 v14.1 v14.2) else some (.tup [], v14.2)).bind fun v16 =>
    (wantV v8 false).bind fun v17 =>
    (bif v17 then pv v16.2 (E.p.len 22 v16.1) else some (.tup [], v16.2)).bind fun v18 =>
    (wantV v8 false).bind fun v19 =>
    (bif v19 then pv v18.2 (E.p.bin .eql 3 v18.1 (.int .i64 0)) else some (.tup [], v18.2)).bind fun v20 =>
    (E.p.pick v8 (.bool true) v20.1).bind fun v21 =>
    condP v21
     (
      (resV (.int .i64 0)).bind fun v22 =>
      some (v22, v20.2))
     (
      (E.p.ptr x0).bind fun v23 =>
      (E.p.fieldAddr 72 v23 1).bind fun v24 =>
      (E.p.load 3 v24 v20.2).bind fun v25 =>
      (E.p.bin .sub 3 v25 (.int .i64 1)).bind fun v26 =>
      (E.p.ptr x0).bind fun v27 =>
      (E.p.fieldAddr 72 v27 0).bind fun v28 =>
      (E.p.load 22 v28 v20.2).bind fun v29 =>
      (E.p.len 22 v29).bind fun v30 =>
      (E.p.bin .lss 3 v26 v30).bind fun v31 =>
      condP v31
       (
        (E.p.ptr x0).bind fun v32 =>
        (E.p.fieldAddr 72 v32 0).bind fun v33 =>
        (E.p.load 22 v33 v20.2).bind fun v34 =>
        (E.p.indexAddr 22 v34 v26).bind fun v35 =>
        (E.p.load 5 v35 v20.2).bind fun v36 =>
        (E.p.conv 5 3 v36).bind fun v37 =>
        (E.p.bin .rem 3 v37 x1).bind fun v38 =>
        (resV v38).bind fun v39 =>
        some (v39, v20.2))
       (
        (E.p.ptr x0).bind fun v40 =>
        (E.p.fieldAddr 72 v40 0).bind fun v41 =>
        (E.p.load 22 v41 v20.2).bind fun v42 =>
        (E.p.ptr x0).bind fun v43 =>
        (E.p.fieldAddr 72 v43 0).bind fun v44 =>
        (E.p.load 22 v44 v20.2).bind fun v45 =>
        (E.p.len 22 v45).bind fun v46 =>
        (E.p.bin .rem 3 v26 v46).bind fun v47 =>
        (E.p.indexAddr 22 v42 v47).bind fun v48 =>
        (E.p.load 5 v48 v20.2).bind fun v49 =>
        (E.p.conv 5 3 v49).bind fun v50 =>
        (E.p.bin .mul 3 v50 (.int .i64 131)).bind fun v51 =>
        (E.p.ptr x0).bind fun v52 =>
        (E.p.fieldAddr 72 v52 0).bind fun v53 =>
        (E.p.load 22 v53 v20.2).bind fun v54 =>
        (E.p.bin .mul 3 v26 (.int .i64 7)).bind fun v55 =>
        (E.p.bin .add 3 v55 (.int .i64 3)).bind fun v56 =>
        (E.p.ptr x0).bind fun v57 =>
        (E.p.fieldAddr 72 v57 0).bind fun v58 =>
        (E.p.load 22 v58 v20.2).bind fun v59 =>
        (E.p.len 22 v59).bind fun v60 =>
        (E.p.bin .rem 3 v56 v60).bind fun v61 =>
        (E.p.indexAddr 22 v54 v61).bind fun v62 =>
        (E.p.load 5 v62 v20.2).bind fun v63 =>
        (E.p.conv 5 3 v63).bind fun v64 =>
        (E.p.bin .mul 3 v64 (.int .i64 1117)).bind fun v65 =>
        (E.p.bin .add 3 v51 v65).bind fun v66 =>
        (E.p.bin .mul 3 v26 (.int .i64 29)).bind fun v67 =>
        (E.p.bin .add 3 v66 v67).bind fun v68 =>
        (E.p.ptr x0).bind fun v69 =>
        (E.p.fieldAddr 72 v69 0).bind fun v70 =>
        (E.p.load 22 v70 v20.2).bind fun v71 =>
        (E.p.len 22 v71).bind fun v72 =>
        (E.p.bin .quo 3 v26 v72).bind fun v73 =>
        (E.p.bin .mul 3 v73 (.int .i64 53)).bind fun v74 =>
        (E.p.bin .add 3 v68 v74).bind fun v75 =>
        (E.p.bin .quo 3 v75 (.int .i64 64)).bind fun v76 =>
        (E.p.bin .xor 3 v75 v76).bind fun v77 =>
        (E.p.bin .rem 3 v77 x1).bind fun v78 =>
        (resV v78).bind fun v79 =>
        some (v79, v20.2)))
theorem main_eq (E : Env) (x0 x1 : PV) (h : PHeap) : runBody (E.cx Tryd.prog kl) Tryd.f60 [x0, x1] h = main E x0 x1 h := by kernel_rfl
theorem call_eq (g : Nat → PV) (lf n : Nat) (x0 x1 : PV) (h : PHeap) : CL g lf (n + 1) fn_spec_l20Rd_pick [x0, x1] h = main (env g lf n) x0 x1 h := by
  rw [← main_eq]
  show call Tryd.prog g KL lf (n + 1) 60 [x0, x1] h = _
  rw [call_succ, Tryd.func60]
  kernel_rfl
end spec_l20Rd_pick
namespace impl_freeBoard
noncomputable def main (E : Env) (x0 x1 : PV) (h : PHeap) : Res :=
    (E.C fn_impl_BoardOk [x0, x1] h).bind fun v1 =>
    (E.p.un .not v1.1).bind fun v2 =>
    condP v2
     (
      (resV .nilsl).bind fun v3 =>
      some (v3, v1.2))
     (
      (E.p.bin .mul 3 x0 x1).bind fun v4 =>
      (E.p.make 23 v4 v4 v1.2).bind fun v5 =>
      (resV v5.1).bind fun v6 =>
      some (v6, v5.2))
theorem main_eq (E : Env) (x0 x1 : PV) (h : PHeap) : runBody (E.cx Tryd.prog kl) Tryd.f61 [x0, x1] h = main E x0 x1 h := by kernel_rfl
theorem call_eq (g : Nat → PV) (lf n : Nat) (x0 x1 : PV) (h : PHeap) : CL g lf (n + 1) fn_impl_freeBoard [x0, x1] h = main (env g lf n) x0 x1 h := by
  rw [← main_eq]
  show call Tryd.prog g KL lf (n + 1) 61 [x0, x1] h = _
  rw [call_succ, Tryd.func61]
  kernel_rfl
end impl_freeBoard
namespace impl_contentOk
noncomputable def main (E : Env) (x0 : PV) (h : PHeap) : Res :=
    (E.p.bin .eql 3 x0 (.int .i64 0)).bind fun v1 =>
    (wantV v1 false).bind fun v2 =>
    (bif v2 then some (x0, h) else some (.tup [], h)).bind fun v3 =>
    (wantV v1 false).bind fun v4 =>
    (bif v4 then pv v3.2 (E.p.bin .eql 3 v3.1 (.int .i64 1)) else some (.tup [], v3.2)).bind fun v5 =>
    (E.p.pick v1 (.bool true) v5.1).bind fun v6 =>
    (wantV v6 false).bind fun v7 =>
    (bif v7 then some (x0, v5.2) else some (.tup [], v5.2)).bind fun v8 =>
    (wantV v6 false).bind fun v9 =>
    (bif v9 then pv v8.2 (E.p.bin .eql 3 v8.1 (.int .i64 2)) else some (.tup [], v8.2)).bind fun v10 =>
    (E.p.pick v6 (.bool true) v10.1).bind fun v11 =>
    (resV v11).bind fun v12 =>
    some (v12, v10.2)
theorem main_eq (E : Env) (x0 : PV) (h : PHeap) : runBody (E.cx Tryd.prog kl) Tryd.f62 [x0] h = main E x0 h := by kernel_rfl
theorem call_eq (g : Nat → PV) (lf n : Nat) (x0 : PV) (h : PHeap) : CL g lf (n + 1) fn_impl_contentOk [x0] h = main (env g lf n) x0 h := by
  rw [← main_eq]
  show call Tryd.prog g KL lf (n + 1) 62 [x0] h = _
  rw [call_succ, Tryd.func62]
  kernel_rfl
end impl_contentOk
namespace impl_newSearch
noncomputable def lp0 : Code := (codeAt (bodyOf Tryd.f63) [1, 1, 0, 1, 0, 0])
def st0 (x0 x1 x5 x13 x14 : PV) (h : PHeap) : St := ⟨[x0, x1, .junk, .junk, .junk, x5, .junk, .junk, .junk, .junk, .junk, .junk, .junk, x13, x14, .junk, .junk, .junk, .junk, .junk, .junk, .junk, .junk, .junk, .junk, .junk, .junk, .junk, .junk, .junk, .junk, .junk, .junk, .junk, .junk, .junk, .junk, .junk, .junk, .junk, .junk, .junk, .junk, .junk, .junk, .junk, .junk, .junk, .junk, .junk], h⟩
noncomputable def lp1 : Code := (codeAt (bodyOf Tryd.f63) [1, 1, 1, 0, 1, 0, 0])
def st1 (x0 x1 x5 x7 : PV) (h : PHeap) : St := ⟨[x0, x1, .junk, .junk, .junk, x5, .junk, x7, .junk, .junk, .junk, .junk, .junk, .junk, .junk, .junk, .junk, .junk, .junk, .junk, .junk, .junk, .junk, .junk, .junk, .junk, .junk, .junk, .junk, .junk, .junk, .junk, .junk, .junk, .junk, .junk, .junk, .junk, .junk, .junk, .junk, .junk, .junk, .junk, .junk, .junk, .junk, .junk, .junk, .junk], h⟩
def se0_0_1_5_13_14_15 (x0 x1 x5 x13 x14 x15 : PV) (h : PHeap) : St := ⟨[x0, x1, .junk, .junk, .junk, x5, .junk, .junk, .junk, .junk, .junk, .junk, .junk, x13, x14, x15, .junk, .junk, .junk, .junk, .junk, .junk, .junk, .junk, .junk, .junk, .junk, .junk, .junk, .junk, .junk, .junk, .junk, .junk, .junk, .junk, .junk, .junk, .junk, .junk, .junk, .junk, .junk, .junk, .junk, .junk, .junk, .junk, .junk, .junk], h⟩
def se2_0_1_5_7_29 (x0 x1 x5 x7 x29 : PV) (h : PHeap) : St := ⟨[x0, x1, .junk, .junk, .junk, x5, .junk, x7, .junk, .junk, .junk, .junk, .junk, .junk, .junk, .junk, .junk, .junk, .junk, .junk, .junk, .junk, .junk, .junk, .junk, .junk, .junk, .junk, .junk, x29, .junk, .junk, .junk, .junk, .junk, .junk, .junk, .junk, .junk, .junk, .junk, .junk, .junk, .junk, .junk, .junk, .junk, .junk, .junk, .junk], h⟩
noncomputable def K0 (E : Env) (K : PX → St → Res) : PX → St → Res := (kBlock 0 (kSeq (ev (E.cx Tryd.prog kl) (codeAt (bodyOf Tryd.f63) [1, 1, 1])) K))
@[simp] theorem K0_ret (E : Env) (K : PX → St → Res) (s : St) : K0 E K .ret s = K .ret s := by kernel_rfl
noncomputable def K1 (E : Env) (K : PX → St → Res) : PX → St → Res := (kBlock 2 (kSeq (ev (E.cx Tryd.prog kl) (codeAt (bodyOf Tryd.f63) [1, 1, 1, 1])) K))
@[simp] theorem K1_ret (E : Env) (K : PX → St → Res) (s : St) : K1 E K .ret s = K .ret s := by kernel_rfl
noncomputable def body0 (E : Env) (K : PX → St → Res) (x0 x1 x5 x13 x14 : PV) (h : PHeap) : Res :=
    (E.p.bin .lss 3 x14 x13).bind fun v27 =>
    condP v27
     (
      (E.p.bin .shl 3 (.int .i64 1) x14).bind fun v28 =>
      (E.p.ptr x5).bind fun v29 =>
      (E.p.fieldAddr 79 v29 0).bind fun v30 =>
      (E.C fn_impl_withNear [x0, x1, v28] h).bind fun v31 =>
      (E.p.indexAddr 77 v30 x14).bind fun v32 =>
      (E.p.store 3 v32 v31.1 v31.2).bind fun v33 =>
      (E.p.bin .add 3 x14 (.int .i64 1)).bind fun v34 =>
      K .normal (st0 x0 x1 x5 x13 v34 v33))
     (
      K (.exit 0) (se0_0_1_5_13_14_15 x0 x1 x5 x13 x14 v27 h))
theorem body0_eq (E : Env) (K : PX → St → Res) (x0 x1 x5 x13 x14 : PV) (h : PHeap) : ev (E.cx Tryd.prog kl) lp0 (st0 x0 x1 x5 x13 x14 h) K = body0 E K x0 x1 x5 x13 x14 h := by kernel_rfl
noncomputable def body1 (E : Env) (K : PX → St → Res) (x0 x1 x5 x7 : PV) (h : PHeap) : Res :=
    (E.p.bin .leq 3 x7 (.int .i64 2)).bind fun v35 =>
    condP v35
     (
      (E.p.ptr x5).bind fun v36 =>
      (E.p.fieldAddr 79 v36 1).bind fun v37 =>
      (E.p.ptr x5).bind fun v38 =>
      (E.p.fieldAddr 79 v38 2).bind fun v39 =>
      (E.C fn_impl_sidesOf [x0, x1, x7] h).bind fun v40 =>
      (E.p.extract v40.1 0).bind fun v41 =>
      (E.p.extract v40.1 1).bind fun v42 =>
      (E.p.indexAddr 52 v37 x7).bind fun v43 =>
      (E.p.store 3 v43 v41 v40.2).bind fun v44 =>
      (E.p.indexAddr 52 v39 x7).bind fun v45 =>
      (E.p.store 3 v45 v42 v44).bind fun v46 =>
      (E.p.bin .add 3 x7 (.int .i64 1)).bind fun v47 =>
      K .normal (st1 x0 x1 x5 v47 v46))
     (
      K (.exit 2) (se2_0_1_5_7_29 x0 x1 x5 x7 v35 h))
theorem body1_eq (E : Env) (K : PX → St → Res) (x0 x1 x5 x7 : PV) (h : PHeap) : ev (E.cx Tryd.prog kl) lp1 (st1 x0 x1 x5 x7 h) K = body1 E K x0 x1 x5 x7 h := by kernel_rfl
theorem after0_se0_0_1_5_13_14_15 (E : Env) (x0 x1 x5 x13 x14 x15 : PV) (h : PHeap) : K0 E (kTop Tryd.prog Tryd.f63) (.exit 0) (se0_0_1_5_13_14_15 x0 x1 x5 x13 x14 x15 h) =
    loopK (ev (E.cx Tryd.prog impl_newSearch.kl) impl_newSearch.lp1) E.lf (impl_newSearch.st1 x0 x1 x5 (.int .i64 1) h) (impl_newSearch.K1 E (kTop Tryd.prog Tryd.f63)) := by kernel_rfl
theorem after1_se2_0_1_5_7_29 (E : Env) (x0 x1 x5 x7 x29 : PV) (h : PHeap) : K1 E (kTop Tryd.prog Tryd.f63) (.exit 2) (se2_0_1_5_7_29 x0 x1 x5 x7 x29 h) =
    (resV x5).bind fun v26 =>
    some (v26, h) := by kernel_rfl
noncomputable def main (E : Env) (x0 x1 : PV) (h : PHeap) : Res :=
    (E.p.makeMap none h).bind fun v1 =>
    (E.p.build 79 [(3, v1.1)]).bind fun v2 =>
    (E.p.box v2 v1.2).bind fun v3 =>
    (E.p.bin .mul 3 x0 x1).bind fun v4 =>
    loopK (ev (E.cx Tryd.prog impl_newSearch.kl) impl_newSearch.lp0) E.lf (impl_newSearch.st0 x0 x1 v3.1 v4 (.int .i64 0) v3.2) (impl_newSearch.K0 E (kTop Tryd.prog Tryd.f63))
theorem main_eq (E : Env) (x0 x1 : PV) (h : PHeap) : runBody (E.cx Tryd.prog kl) Tryd.f63 [x0, x1] h = main E x0 x1 h := by kernel_rfl
theorem call_eq (g : Nat → PV) (lf n : Nat) (x0 x1 : PV) (h : PHeap) : CL g lf (n + 1) fn_impl_newSearch [x0, x1] h = main (env g lf n) x0 x1 h := by
  rw [← main_eq]
  show call Tryd.prog g KL lf (n + 1) 63 [x0, x1] h = _
  rw [call_succ, Tryd.func63]
  kernel_rfl
end impl_newSearch
namespace impl_search_winner
noncomputable def main (E : Env) (x0 x1 : PV) (h : PHeap) : Res :=
    (E.p.box x1 h).bind fun v1 =>
    (E.p.ptr x0).bind fun v2 =>
    (E.p.fieldAddr 79 v2 3).bind fun v3 =>
    (E.p.load 47 v3 v1.2).bind fun v4 =>
    (E.p.load 54 v1.1 v1.2).bind fun v5 =>
    (E.p.lookup 47 v4 v5 true v1.2).bind fun v6 =>
    (E.p.extract v6 0).bind fun v7 =>
    (E.p.extract v6 1).bind fun v8 =>
    (E.p.un .not v8).bind fun v9 =>
    condP v9
     (
      (E.p.load 54 v1.1 v1.2).bind fun v10 =>
      (E.C fn_impl_search_solved [x0, v10] v1.2).bind fun v11 =>
      (E.p.ptr x0).bind fun v12 =>
      (E.p.fieldAddr 79 v12 3).bind fun v13 =>
      (E.p.load 47 v13 v11.2).bind fun v14 =>
      (E.p.load 54 v1.1 v11.2).bind fun v15 =>
      (E.p.update 47 v14 v15 v11.1 v11.2).bind fun v16 =>
      (resV v11.1).bind fun v17 =>
      some (v17, v16))
     (
      (resV v7).bind fun v18 =>
      some (v18, v1.2))
theorem main_eq (E : Env) (x0 x1 : PV) (h : PHeap) : runBody (E.cx Tryd.prog kl) Tryd.f64 [x0, x1] h = main E x0 x1 h := by kernel_rfl
theorem call_eq (g : Nat → PV) (lf n : Nat) (x0 x1 : PV) (h : PHeap) : CL g lf (n + 1) fn_impl_search_winner [x0, x1] h = main (env g lf n) x0 x1 h := by
  rw [← main_eq]
  show call Tryd.prog g KL lf (n + 1) 64 [x0, x1] h = _
  rw [call_succ, Tryd.func64]
  kernel_rfl
end impl_search_winner
namespace spec_l20Sided
noncomputable def main (E : Env) (x0 x1 : PV) (h : PHeap) : Res :=
    (E.C fn_spec_l20Position [x0, x1] h).bind fun v1 =>
    (E.p.extract v1.1 0).bind fun v2 =>
    (E.p.extract v1.1 1).bind fun v3 =>
    (E.p.extract v1.1 2).bind fun v4 =>
    (E.C fn_spec_l20Rd_pick [x0, (.int .i64 2)] v1.2).bind fun v5 =>
    (E.p.bin .add 3 (.int .i64 1) v5.1).bind fun v6 =>
    (E.C fn_spec_l20Rd_pick [x0, (.int .i64 60)] v5.2).bind fun v7 =>
    (E.p.bin .quo 3 v7.1 (.int .i64 59)).bind fun v8 =>
    (E.p.bin .mul 3 v8 (.int .i64 2)).bind fun v9 =>
    (E.p.bin .add 3 v6 v9).bind fun v10 =>
    (resV v2).bind fun v11 =>
    (resV v3).bind fun v12 =>
    (resV v4).bind fun v13 =>
    (resV v10).bind fun v14 =>
    some (.tup [v11, v12, v13, v14], v7.2)
theorem main_eq (E : Env) (x0 x1 : PV) (h : PHeap) : runBody (E.cx Tryd.prog kl) Tryd.f65 [x0, x1] h = main E x0 x1 h := by kernel_rfl
theorem call_eq (g : Nat → PV) (lf n : Nat) (x0 x1 : PV) (h : PHeap) : CL g lf (n + 1) fn_spec_l20Sided [x0, x1] h = main (env g lf n) x0 x1 h := by
  rw [← main_eq]
  show call Tryd.prog g KL lf (n + 1) 65 [x0, x1] h = _
  rw [call_succ, Tryd.func65]
  kernel_rfl
end spec_l20Sided
namespace impl_reverse_solved
noncomputable def ra0 : Code := (codeAt (bodyOf Tryd.f66) [1, 1, 0, 1, 0, 0])
noncomputable def rb0 : Code := (codeAt (bodyOf Tryd.f66) [1, 1, 0, 1, 0, 1])
noncomputable def round0 (E : Env) (x3 x4 x16 : PV) (id : Nat) (y0 : PV) (h : PHeap) : Res :=
    (beginL id h).bind fun v24 =>
    (E.p.fieldAddr 54 x3 1).bind fun v25 =>
    (E.p.load 3 v25 v24).bind fun v26 =>
    (E.p.store 3 x4 v26 v24).bind fun v27 =>
    endL id .ret v27
theorem round0_eq (E : Env) (x3 x4 x16 : PV) (id : Nat) (y0 : PV) (h : PHeap) : roundK (E.cx Tryd.prog kl) ra0 rb0 id ⟨setPs [.junk, .junk, .junk, x3, x4, .junk, .junk, .junk, .junk, .junk, .junk, .junk, .junk, .junk, .junk, .junk, x16, .junk, .junk, .junk, .junk, .junk, .junk] [17] [y0], h⟩ = round0 E x3 x4 x16 id y0 h := by kernel_rfl
theorem yield0_eq (g : Nat → PV) (lf n : Nat) (x3 x4 x16 : PV) (pe : Option PX) (id : Nat) (y0 : PV) (h : PHeap) (hh : h[id]? = some (.lp 0 kl [.junk, .junk, .junk, x3, x4, .junk, .junk, .junk, .junk, .junk, .junk, .junk, .junk, .junk, .junk, .junk, x16, .junk, .junk, .junk, .junk, .junk, .junk] [17] ra0 rb0 pe)) : YL g lf (n + 1) id [y0] h = round0 (env g lf n) x3 x4 x16 id y0 h := by
  rw [← round0_eq]
  exact yields_succ Tryd.prog g KL lf n id [y0] hh rfl (by kernel_rfl)
noncomputable def main (E : Env) (x0 x1 : PV) (h : PHeap) : Res :=
    (E.p.box x0 h).bind fun v1 =>
    (E.p.box x1 v1.2).bind fun v2 =>
    (E.p.alloc 3 v2.2).bind fun v3 =>
    (E.p.fieldAddr 49 v1.1 0).bind fun v4 =>
    (E.p.load 46 v4 v3.2).bind fun v5 =>
    (E.p.load 54 v2.1 v3.2).bind fun v6 =>
    (E.C fn_impl_search_joined [v5, v6] v3.2).bind fun v7 =>
    (E.p.bin .neq 3 v7.1 (.int .i64 0)).bind fun v8 =>
    condP v8
     (
      (E.C fn_impl_exchanged [v7.1] v7.2).bind fun v9 =>
      (E.p.store 3 v3.1 v9.1 v9.2).bind fun v10 =>
      (loadP Tryd.prog 3 v3.1 v10).bind fun v11 =>
      some (v11, v10))
     (
      (E.p.load 49 v1.1 v7.2).bind fun v12 =>
      (E.p.load 54 v2.1 v7.2).bind fun v13 =>
      (E.C fn_impl_reverse_safe [v12, v13] v7.2).bind fun v14 =>
      (fcall E.C v14.1 [.yld (List.length v14.2 + 1)] (v14.2 ++ [.dead, .lp 0 impl_reverse_solved.kl [.junk, .junk, .junk, v2.1, v3.1, .junk, .junk, .junk, .junk, .junk, .junk, .junk, .junk, .junk, .junk, .junk, v14.1, .junk, .junk, .junk, .junk, .junk, .junk] [17] impl_reverse_solved.ra0 impl_reverse_solved.rb0 none])).bind fun v15 =>
      rangeK (List.length v14.2 + 1) v15.2
       (fun v16 =>
          (E.p.fieldAddr 54 v2.1 1).bind fun v18 =>
          (E.p.load 3 v18 v16).bind fun v19 =>
          (E.C fn_impl_exchanged [v19] v16).bind fun v20 =>
          (E.p.store 3 v3.1 v20.1 v20.2).bind fun v21 =>
          (loadP Tryd.prog 3 v3.1 v21).bind fun v22 =>
          some (v22, v21))
       (fun v17 =>
          (loadP Tryd.prog 3 v3.1 v17).bind fun v23 =>
          some (v23, v17))
       [])
theorem main_eq (E : Env) (x0 x1 : PV) (h : PHeap) : runBody (E.cx Tryd.prog kl) Tryd.f66 [x0, x1] h = main E x0 x1 h := by kernel_rfl
theorem call_eq (g : Nat → PV) (lf n : Nat) (x0 x1 : PV) (h : PHeap) : CL g lf (n + 1) fn_impl_reverse_solved [x0, x1] h = main (env g lf n) x0 x1 h := by
  rw [← main_eq]
  show call Tryd.prog g KL lf (n + 1) 66 [x0, x1] h = _
  rw [call_succ, Tryd.func66]
  kernel_rfl
end impl_reverse_solved
namespace spec_l1Near
noncomputable def lp0 : Code := (codeAt (bodyOf Tryd.f67) [1, 1, 1, 1, 0, 1, 0, 0])
def st0 (x0 x1 x7 x8 x9 x10 : PV) (h : PHeap) : St := ⟨[x0, x1, .junk, .junk, .junk, .junk, .junk, x7, x8, x9, x10, .junk, .junk, .junk, .junk, .junk, .junk, .junk, .junk, .junk, .junk, .junk, .junk, .junk, .junk, .junk, .junk, .junk, .junk, .junk, .junk, .junk, .junk, .junk, .junk, .junk, .junk, .junk, .junk, .junk, .junk, .junk, .junk, .junk, .junk, .junk, .junk, .junk, .junk, .junk, .junk, .junk, .junk, .junk, .junk, .junk, .junk, .junk, .junk, .junk, .junk, .junk, .junk], h⟩
noncomputable def lp1 : Code := (codeAt (bodyOf Tryd.f67) [1, 1, 1, 1, 0, 1, 0, 0, 1, 0, 0, 1, 0, 0])
def st1 (x0 x1 x7 x8 x9 x10 x11 : PV) (h : PHeap) : St := ⟨[x0, x1, .junk, .junk, .junk, .junk, .junk, x7, x8, x9, x10, x11, .junk, .junk, .junk, .junk, .junk, .junk, .junk, .junk, .junk, .junk, .junk, .junk, .junk, .junk, .junk, .junk, .junk, .junk, .junk, .junk, .junk, .junk, .junk, .junk, .junk, .junk, .junk, .junk, .junk, .junk, .junk, .junk, .junk, .junk, .junk, .junk, .junk, .junk, .junk, .junk, .junk, .junk, .junk, .junk, .junk, .junk, .junk, .junk, .junk, .junk, .junk], h⟩
def se0_0_1_7_8_9_10_24 (x0 x1 x7 x8 x9 x10 x24 : PV) (h : PHeap) : St := ⟨[x0, x1, .junk, .junk, .junk, .junk, .junk, x7, x8, x9, x10, .junk, .junk, .junk, .junk, .junk, .junk, .junk, .junk, .junk, .junk, .junk, .junk, .junk, x24, .junk, .junk, .junk, .junk, .junk, .junk, .junk, .junk, .junk, .junk, .junk, .junk, .junk, .junk, .junk, .junk, .junk, .junk, .junk, .junk, .junk, .junk, .junk, .junk, .junk, .junk, .junk, .junk, .junk, .junk, .junk, .junk, .junk, .junk, .junk, .junk, .junk, .junk], h⟩
def se2_0_1_7_8_9_10_11_32 (x0 x1 x7 x8 x9 x10 x11 x32 : PV) (h : PHeap) : St := ⟨[x0, x1, .junk, .junk, .junk, .junk, .junk, x7, x8, x9, x10, x11, .junk, .junk, .junk, .junk, .junk, .junk, .junk, .junk, .junk, .junk, .junk, .junk, .junk, .junk, .junk, .junk, .junk, .junk, .junk, .junk, x32, .junk, .junk, .junk, .junk, .junk, .junk, .junk, .junk, .junk, .junk, .junk, .junk, .junk, .junk, .junk, .junk, .junk, .junk, .junk, .junk, .junk, .junk, .junk, .junk, .junk, .junk, .junk, .junk, .junk, .junk], h⟩
noncomputable def K0 (E : Env) (K : PX → St → Res) : PX → St → Res := (kBlock 0 (kSeq (ev (E.cx Tryd.prog kl) (codeAt (bodyOf Tryd.f67) [1, 1, 1, 1, 1])) K))
@[simp] theorem K0_ret (E : Env) (K : PX → St → Res) (s : St) : K0 E K .ret s = K .ret s := by kernel_rfl
noncomputable def K1 (E : Env) (K : PX → St → Res) : PX → St → Res := (kBlock 2 (kBlock 1 (kSeq (ev (E.cx Tryd.prog kl) (codeAt (bodyOf Tryd.f67) [1, 1, 1, 1, 0, 1, 0, 0, 1, 1])) K)))
@[simp] theorem K1_ret (E : Env) (K : PX → St → Res) (s : St) : K1 E K .ret s = K .ret s := by kernel_rfl
noncomputable def body0 (E : Env) (K : PX → St → Res) (x0 x1 x7 x8 x9 x10 : PV) (h : PHeap) : Res :=
    (E.p.bin .add 3 x8 (.int .i64 1)).bind fun v39 =>
    (E.p.bin .leq 3 x10 v39).bind fun v40 =>
    condP v40
     (
      (E.p.bin .sub 3 x9 (.int .i64 1)).bind fun v41 =>
      loopK (ev (E.cx Tryd.prog spec_l1Near.kl) spec_l1Near.lp1) E.lf (spec_l1Near.st1 x0 x1 x7 x8 x9 x10 v41 h) (spec_l1Near.K1 E K))
     (
      K (.exit 0) (se0_0_1_7_8_9_10_24 x0 x1 x7 x8 x9 x10 v40 h))
theorem body0_eq (E : Env) (K : PX → St → Res) (x0 x1 x7 x8 x9 x10 : PV) (h : PHeap) : ev (E.cx Tryd.prog kl) lp0 (st0 x0 x1 x7 x8 x9 x10 h) K = body0 E K x0 x1 x7 x8 x9 x10 h := by kernel_rfl
noncomputable def body1 (E : Env) (K : PX → St → Res) (x0 x1 x7 x8 x9 x10 x11 : PV) (h : PHeap) : Res :=
    (E.p.bin .add 3 x9 (.int .i64 1)).bind fun v42 =>
    (E.p.bin .leq 3 x11 v42).bind fun v43 =>
    condP v43
     (
      (E.p.bin .sub 3 x10 x8).bind fun v44 =>
      (E.p.bin .sub 3 x11 x9).bind fun v45 =>
      (E.p.bin .neq 3 v44 v45).bind fun v46 =>
      (wantV v46 true).bind fun v47 =>
      (bif v47 then some (x10, h) else some (.tup [], h)).bind fun v48 =>
      (wantV v46 true).bind fun v49 =>
      (bif v49 then some (x0, v48.2) else some (.tup [], v48.2)).bind fun v50 =>
      (wantV v46 true).bind fun v51 =>
      (bif v51 then pv v50.2 (E.p.bin .sub 3 v50.1 (.int .i64 1)) else some (.tup [], v50.2)).bind fun v52 =>
      (wantV v46 true).bind fun v53 =>
      (bif v53 then E.C fn_spec_l1In [v48.1, (.int .i64 0), v52.1] v52.2 else some (.tup [], v52.2)).bind fun v54 =>
      (E.p.pick v46 v54.1 (.bool false)).bind fun v55 =>
      (wantV v55 true).bind fun v56 =>
      (bif v56 then some (x11, v54.2) else some (.tup [], v54.2)).bind fun v57 =>
      (wantV v55 true).bind fun v58 =>
      (bif v58 then some (x1, v57.2) else some (.tup [], v57.2)).bind fun v59 =>
      (wantV v55 true).bind fun v60 =>
      (bif v60 then pv v59.2 (E.p.bin .sub 3 v59.1 (.int .i64 1)) else some (.tup [], v59.2)).bind fun v61 =>
      (wantV v55 true).bind fun v62 =>
      (bif v62 then E.C fn_spec_l1In [v57.1, (.int .i64 0), v61.1] v61.2 else some (.tup [], v61.2)).bind fun v63 =>
      (E.p.pick v55 v63.1 (.bool false)).bind fun v64 =>
      condP v64
       (
        (E.p.bin .mul 3 x10 x1).bind fun v65 =>
        (E.p.bin .add 3 v65 x11).bind fun v66 =>
        (E.p.buildSlice 23 1 [(0, v66)] v63.2).bind fun v67 =>
        (E.p.append 23 23 x7 v67.1 v67.2).bind fun v68 =>
        (E.p.bin .add 3 x11 (.int .i64 1)).bind fun v69 =>
        K .normal (st1 x0 x1 v68.1 x8 x9 x10 v69 v68.2))
       (
        (E.p.bin .add 3 x11 (.int .i64 1)).bind fun v70 =>
        K .normal (st1 x0 x1 x7 x8 x9 x10 v70 v63.2)))
     (
      K (.exit 2) (se2_0_1_7_8_9_10_11_32 x0 x1 x7 x8 x9 x10 x11 v43 h))
theorem body1_eq (E : Env) (K : PX → St → Res) (x0 x1 x7 x8 x9 x10 x11 : PV) (h : PHeap) : ev (E.cx Tryd.prog kl) lp1 (st1 x0 x1 x7 x8 x9 x10 x11 h) K = body1 E K x0 x1 x7 x8 x9 x10 x11 h := by kernel_rfl
theorem after0_se0_0_1_7_8_9_10_24 (E : Env) (x0 x1 x7 x8 x9 x10 x24 : PV) (h : PHeap) : K0 E (kTop Tryd.prog Tryd.f67) (.exit 0) (se0_0_1_7_8_9_10_24 x0 x1 x7 x8 x9 x10 x24 h) =
    (resV x7).bind fun v37 =>
    some (v37, h) := by kernel_rfl
theorem after1_se2_0_1_7_8_9_10_11_32 (E : Env) (K : PX → St → Res) (x0 x1 x7 x8 x9 x10 x11 x32 : PV) (h : PHeap) : K1 E K (.exit 2) (se2_0_1_7_8_9_10_11_32 x0 x1 x7 x8 x9 x10 x11 x32 h) =
    (E.p.bin .add 3 x10 (.int .i64 1)).bind fun v38 =>
    K .normal (st0 x0 x1 x7 x8 x9 v38 h) := by kernel_rfl
noncomputable def main (E : Env) (x0 x1 x2 : PV) (h : PHeap) : Res :=
    (E.p.buildSlice 23 0 [] h).bind fun v1 =>
    (E.p.bin .quo 3 x2 x1).bind fun v2 =>
    (E.p.bin .rem 3 x2 x1).bind fun v3 =>
    (E.p.bin .sub 3 v2 (.int .i64 1)).bind fun v4 =>
    loopK (ev (E.cx Tryd.prog spec_l1Near.kl) spec_l1Near.lp0) E.lf (spec_l1Near.st0 x0 x1 v1.1 v2 v3 v4 v1.2) (spec_l1Near.K0 E (kTop Tryd.prog Tryd.f67))
theorem main_eq (E : Env) (x0 x1 x2 : PV) (h : PHeap) : runBody (E.cx Tryd.prog kl) Tryd.f67 [x0, x1, x2] h = main E x0 x1 x2 h := by kernel_rfl
theorem call_eq (g : Nat → PV) (lf n : Nat) (x0 x1 x2 : PV) (h : PHeap) : CL g lf (n + 1) fn_spec_l1Near [x0, x1, x2] h = main (env g lf n) x0 x1 x2 h := by
  rw [← main_eq]
  show call Tryd.prog g KL lf (n + 1) 67 [x0, x1, x2] h = _
  rw [call_succ, Tryd.func67]
  kernel_rfl
end spec_l1Near
namespace spec_l2Joins
noncomputable def main (E : Env) (x0 x1 x2 x3 x4 : PV) (h : PHeap) : Res :=
    (E.C fn_spec_l2Side [x0, x1, x4, (.bool false)] h).bind fun v1 =>
    (E.C fn_spec_l2Grow [x2, x3, v1.1] v1.2).bind fun v2 =>
    (E.C fn_spec_l2Side [x0, x1, x4, (.bool true)] v2.2).bind fun v3 =>
    (E.p.bin .and 3 v2.1 v3.1).bind fun v4 =>
    (E.p.bin .neq 3 v4 (.int .i64 0)).bind fun v5 =>
    (resV v5).bind fun v6 =>
    some (v6, v3.2)
theorem main_eq (E : Env) (x0 x1 x2 x3 x4 : PV) (h : PHeap) : runBody (E.cx Tryd.prog kl) Tryd.f68 [x0, x1, x2, x3, x4] h = main E x0 x1 x2 x3 x4 h := by kernel_rfl
theorem call_eq (g : Nat → PV) (lf n : Nat) (x0 x1 x2 x3 x4 : PV) (h : PHeap) : CL g lf (n + 1) fn_spec_l2Joins [x0, x1, x2, x3, x4] h = main (env g lf n) x0 x1 x2 x3 x4 h := by
  rw [← main_eq]
  show call Tryd.prog g KL lf (n + 1) 68 [x0, x1, x2, x3, x4] h = _
  rw [call_succ, Tryd.func68]
  kernel_rfl
end spec_l2Joins
namespace impl_sizeOk
noncomputable def main (E : Env) (x0 : PV) (h : PHeap) : Res :=
    (E.p.bin .geq 3 x0 (.int .i64 1)).bind fun v1 =>
    (wantV v1 true).bind fun v2 =>
    (bif v2 then some (x0, h) else some (.tup [], h)).bind fun v3 =>
    (wantV v1 true).bind fun v4 =>
    (bif v4 then pv v3.2 (E.p.bin .leq 3 v3.1 (.int .i64 4)) else some (.tup [], v3.2)).bind fun v5 =>
    (E.p.pick v1 v5.1 (.bool false)).bind fun v6 =>
    (resV v6).bind fun v7 =>
    some (v7, v5.2)
theorem main_eq (E : Env) (x0 : PV) (h : PHeap) : runBody (E.cx Tryd.prog kl) Tryd.f69 [x0] h = main E x0 h := by kernel_rfl
theorem call_eq (g : Nat → PV) (lf n : Nat) (x0 : PV) (h : PHeap) : CL g lf (n + 1) fn_impl_sizeOk [x0] h = main (env g lf n) x0 h := by
  rw [← main_eq]
  show call Tryd.prog g KL lf (n + 1) 69 [x0] h = _
  rw [call_succ, Tryd.func69]
  kernel_rfl
end impl_sizeOk
namespace impl_search_joins
noncomputable def lp0 : Code := (codeAt (bodyOf Tryd.f70) [1, 1, 0, 1, 0, 0])
def st0 (x0 x1 x2 x7 x8 : PV) (h : PHeap) : St := ⟨[x0, x1, x2, .junk, .junk, .junk, .junk, x7, x8, .junk, .junk, .junk, .junk, .junk, .junk, .junk, .junk, .junk, .junk, .junk, .junk, .junk, .junk, .junk, .junk, .junk, .junk, .junk, .junk, .junk, .junk, .junk, .junk, .junk, .junk, .junk, .junk, .junk, .junk, .junk, .junk, .junk, .junk, .junk, .junk, .junk, .junk, .junk, .junk, .junk, .junk, .junk, .junk, .junk, .junk], h⟩
noncomputable def lp1 : Code := (codeAt (bodyOf Tryd.f70) [1, 1, 0, 1, 0, 0, 1, 0, 1, 0, 1, 0, 0])
def st1 (x0 x1 x2 x7 x9 x10 : PV) (h : PHeap) : St := ⟨[x0, x1, x2, .junk, .junk, .junk, .junk, x7, .junk, x9, x10, .junk, .junk, .junk, .junk, .junk, .junk, .junk, .junk, .junk, .junk, .junk, .junk, .junk, .junk, .junk, .junk, .junk, .junk, .junk, .junk, .junk, .junk, .junk, .junk, .junk, .junk, .junk, .junk, .junk, .junk, .junk, .junk, .junk, .junk, .junk, .junk, .junk, .junk, .junk, .junk, .junk, .junk, .junk, .junk], h⟩
def se0_0_1_2_7_8_21 (x0 x1 x2 x7 x8 x21 : PV) (h : PHeap) : St := ⟨[x0, x1, x2, .junk, .junk, .junk, .junk, x7, x8, .junk, .junk, .junk, .junk, .junk, .junk, .junk, .junk, .junk, .junk, .junk, .junk, x21, .junk, .junk, .junk, .junk, .junk, .junk, .junk, .junk, .junk, .junk, .junk, .junk, .junk, .junk, .junk, .junk, .junk, .junk, .junk, .junk, .junk, .junk, .junk, .junk, .junk, .junk, .junk, .junk, .junk, .junk, .junk, .junk, .junk], h⟩
def se2_0_1_2_7_9_10_24 (x0 x1 x2 x7 x9 x10 x24 : PV) (h : PHeap) : St := ⟨[x0, x1, x2, .junk, .junk, .junk, .junk, x7, .junk, x9, x10, .junk, .junk, .junk, .junk, .junk, .junk, .junk, .junk, .junk, .junk, .junk, .junk, .junk, x24, .junk, .junk, .junk, .junk, .junk, .junk, .junk, .junk, .junk, .junk, .junk, .junk, .junk, .junk, .junk, .junk, .junk, .junk, .junk, .junk, .junk, .junk, .junk, .junk, .junk, .junk, .junk, .junk, .junk, .junk], h⟩
noncomputable def K0 (E : Env) (K : PX → St → Res) : PX → St → Res := (kBlock 0 (kSeq (ev (E.cx Tryd.prog kl) (codeAt (bodyOf Tryd.f70) [1, 1, 1])) K))
@[simp] theorem K0_ret (E : Env) (K : PX → St → Res) (s : St) : K0 E K .ret s = K .ret s := by kernel_rfl
noncomputable def K1 (E : Env) (K : PX → St → Res) : PX → St → Res := (kBlock 2 (kSeq (ev (E.cx Tryd.prog kl) (codeAt (bodyOf Tryd.f70) [1, 1, 0, 1, 0, 0, 1, 0, 1, 1])) (kBlock 1 K)))
@[simp] theorem K1_ret (E : Env) (K : PX → St → Res) (s : St) : K1 E K .ret s = K .ret s := by kernel_rfl
noncomputable def body0 (E : Env) (K : PX → St → Res) (x0 x1 x2 x7 x8 : PV) (h : PHeap) : Res :=
    (E.p.bin .neq 3 x8 (.int .i64 0)).bind fun v26 =>
    condP v26
     (
      loopK (ev (E.cx Tryd.prog impl_search_joins.kl) impl_search_joins.lp1) E.lf (impl_search_joins.st1 x0 x1 x2 x7 (.int .i64 0) x8 h) (impl_search_joins.K1 E K))
     (
      K (.exit 0) (se0_0_1_2_7_8_21 x0 x1 x2 x7 x8 v26 h))
theorem body0_eq (E : Env) (K : PX → St → Res) (x0 x1 x2 x7 x8 : PV) (h : PHeap) : ev (E.cx Tryd.prog kl) lp0 (st0 x0 x1 x2 x7 x8 h) K = body0 E K x0 x1 x2 x7 x8 h := by kernel_rfl
noncomputable def body1 (E : Env) (K : PX → St → Res) (x0 x1 x2 x7 x9 x10 : PV) (h : PHeap) : Res :=
    (E.p.bin .neq 3 x10 (.int .i64 0)).bind fun v27 =>
    condP v27
     (
      (E.p.ptr x0).bind fun v28 =>
      (E.p.fieldAddr 79 v28 0).bind fun v29 =>
      (E.C fn_impl_leastIn [x10] h).bind fun v30 =>
      (E.p.indexAddr 77 v29 v30.1).bind fun v31 =>
      (E.p.load 3 v31 v30.2).bind fun v32 =>
      (E.p.bin .or 3 x9 v32).bind fun v33 =>
      (E.p.bin .sub 3 x10 (.int .i64 1)).bind fun v34 =>
      (E.p.bin .and 3 x10 v34).bind fun v35 =>
      K .normal (st1 x0 x1 x2 x7 v33 v35 v30.2))
     (
      K (.exit 2) (se2_0_1_2_7_9_10_24 x0 x1 x2 x7 x9 x10 v27 h))
theorem body1_eq (E : Env) (K : PX → St → Res) (x0 x1 x2 x7 x9 x10 : PV) (h : PHeap) : ev (E.cx Tryd.prog kl) lp1 (st1 x0 x1 x2 x7 x9 x10 h) K = body1 E K x0 x1 x2 x7 x9 x10 h := by kernel_rfl
theorem after0_se0_0_1_2_7_8_21 (E : Env) (x0 x1 x2 x7 x8 x21 : PV) (h : PHeap) : K0 E (kTop Tryd.prog Tryd.f70) (.exit 0) (se0_0_1_2_7_8_21 x0 x1 x2 x7 x8 x21 h) =
    (E.p.ptr x0).bind fun v16 =>
    (E.p.fieldAddr 79 v16 2).bind fun v17 =>
    (E.p.indexAddr 52 v17 x2).bind fun v18 =>
    (E.p.load 3 v18 h).bind fun v19 =>
    (E.p.bin .and 3 x7 v19).bind fun v20 =>
    (E.p.bin .neq 3 v20 (.int .i64 0)).bind fun v21 =>
    (resV v21).bind fun v22 =>
    some (v22, h) := by kernel_rfl
theorem after1_se2_0_1_2_7_9_10_24 (E : Env) (K : PX → St → Res) (x0 x1 x2 x7 x9 x10 x24 : PV) (h : PHeap) : K1 E K (.exit 2) (se2_0_1_2_7_9_10_24 x0 x1 x2 x7 x9 x10 x24 h) =
    (E.p.bin .and 3 x9 x1).bind fun v23 =>
    (E.p.bin .andNot 3 v23 x7).bind fun v24 =>
    (E.p.bin .or 3 x7 v24).bind fun v25 =>
    K .normal (st0 x0 x1 x2 v25 v24 h) := by kernel_rfl
noncomputable def main (E : Env) (x0 x1 x2 : PV) (h : PHeap) : Res :=
    (E.p.ptr x0).bind fun v1 =>
    (E.p.fieldAddr 79 v1 1).bind fun v2 =>
    (E.p.indexAddr 52 v2 x2).bind fun v3 =>
    (E.p.load 3 v3 h).bind fun v4 =>
    (E.p.bin .and 3 x1 v4).bind fun v5 =>
    loopK (ev (E.cx Tryd.prog impl_search_joins.kl) impl_search_joins.lp0) E.lf (impl_search_joins.st0 x0 x1 x2 v5 v5 h) (impl_search_joins.K0 E (kTop Tryd.prog Tryd.f70))
theorem main_eq (E : Env) (x0 x1 x2 : PV) (h : PHeap) : runBody (E.cx Tryd.prog kl) Tryd.f70 [x0, x1, x2] h = main E x0 x1 x2 h := by kernel_rfl
theorem call_eq (g : Nat → PV) (lf n : Nat) (x0 x1 x2 : PV) (h : PHeap) : CL g lf (n + 1) fn_impl_search_joins [x0, x1, x2] h = main (env g lf n) x0 x1 x2 h := by
  rw [← main_eq]
  show call Tryd.prog g KL lf (n + 1) 70 [x0, x1, x2] h = _
  rw [call_succ, Tryd.func70]
  kernel_rfl
end impl_search_joins
namespace slices_AppendSeq___int_int_
noncomputable def ra0 : Code := (codeAt (bodyOf Tryd.f71) [1, 0, 1, 0, 0])
noncomputable def rb0 : Code := (codeAt (bodyOf Tryd.f71) [1, 0, 1, 0, 1])
noncomputable def round0 (E : Env) (x2 x6 : PV) (id : Nat) (y0 : PV) (h : PHeap) : Res :=
    (beginL id h).bind fun v8 =>
    (E.p.load 23 x2 v8).bind fun v9 =>
    (E.p.buildSlice 23 1 [(0, y0)] v8).bind fun v10 =>
    (E.p.append 23 23 v9 v10.1 v10.2).bind fun v11 =>
    (E.p.store 23 x2 v11.1 v11.2).bind fun v12 =>
    endL id .normal v12
theorem round0_eq (E : Env) (x2 x6 : PV) (id : Nat) (y0 : PV) (h : PHeap) : roundK (E.cx Tryd.prog kl) ra0 rb0 id ⟨setPs [.junk, .junk, x2, .junk, .junk, .junk, x6, .junk, .junk, .junk, .junk, .junk, .junk] [7] [y0], h⟩ = round0 E x2 x6 id y0 h := by kernel_rfl
theorem yield0_eq (g : Nat → PV) (lf n : Nat) (x2 x6 : PV) (pe : Option PX) (id : Nat) (y0 : PV) (h : PHeap) (hh : h[id]? = some (.lp 0 kl [.junk, .junk, x2, .junk, .junk, .junk, x6, .junk, .junk, .junk, .junk, .junk, .junk] [7] ra0 rb0 pe)) : YL g lf (n + 1) id [y0] h = round0 (env g lf n) x2 x6 id y0 h := by
  rw [← round0_eq]
  exact yields_succ Tryd.prog g KL lf n id [y0] hh rfl (by kernel_rfl)
noncomputable def main (E : Env) (x0 x1 : PV) (h : PHeap) : Res :=
    (E.p.box x0 h).bind fun v1 =>
    (fcall E.C x1 [.yld (List.length v1.2 + 1)] (v1.2 ++ [.dead, .lp 0 slices_AppendSeq___int_int_.kl [.junk, .junk, v1.1, .junk, .junk, .junk, x1, .junk, .junk, .junk, .junk, .junk, .junk] [7] slices_AppendSeq___int_int_.ra0 slices_AppendSeq___int_int_.rb0 none])).bind fun v2 =>
    rangeK (List.length v1.2 + 1) v2.2
     (fun v3 =>
        (E.p.load 23 v1.1 v3).bind fun v5 =>
        (resV v5).bind fun v6 =>
        some (v6, v3))
     (fun v4 =>
        (resV .junk).bind fun v7 =>
        some (v7, v4))
     []
theorem main_eq (E : Env) (x0 x1 : PV) (h : PHeap) : runBody (E.cx Tryd.prog kl) Tryd.f71 [x0, x1] h = main E x0 x1 h := by kernel_rfl
theorem call_eq (g : Nat → PV) (lf n : Nat) (x0 x1 : PV) (h : PHeap) : CL g lf (n + 1) fn_slices_AppendSeq___int_int_ [x0, x1] h = main (env g lf n) x0 x1 h := by
  rw [← main_eq]
  show call Tryd.prog g KL lf (n + 1) 71 [x0, x1] h = _
  rw [call_succ, Tryd.func71]
  kernel_rfl
end slices_AppendSeq___int_int_
namespace impl_reverse_safe_1
noncomputable def lp0 : Code := (codeAt (bodyOf Tryd.f72) [1, 0, 0])
def st0 (x0 x1 x2 x4 : PV) (h : PHeap) : St := ⟨[x0, x1, x2, .junk, x4, .junk, .junk, .junk, .junk, .junk, .junk, .junk, .junk, .junk, .junk, .junk, .junk, .junk, .junk, .junk, .junk, .junk, .junk, .junk, .junk, .junk, .junk, .junk, .junk, .junk, .junk], h⟩
def sr_0_1_2_4_30 (x0 x1 x2 x4 x30 : PV) (h : PHeap) : St := ⟨[x0, x1, x2, .junk, x4, .junk, .junk, .junk, .junk, .junk, .junk, .junk, .junk, .junk, .junk, .junk, .junk, .junk, .junk, .junk, .junk, .junk, .junk, .junk, .junk, .junk, .junk, .junk, .junk, .junk, x30], h⟩
def se0_0_1_2_4_10 (x0 x1 x2 x4 x10 : PV) (h : PHeap) : St := ⟨[x0, x1, x2, .junk, x4, .junk, .junk, .junk, .junk, .junk, x10, .junk, .junk, .junk, .junk, .junk, .junk, .junk, .junk, .junk, .junk, .junk, .junk, .junk, .junk, .junk, .junk, .junk, .junk, .junk, .junk], h⟩
noncomputable def K0 (E : Env) (K : PX → St → Res) : PX → St → Res := (kBlock 0 K)
@[simp] theorem K0_ret (E : Env) (K : PX → St → Res) (s : St) : K0 E K .ret s = K .ret s := by kernel_rfl
noncomputable def body0 (E : Env) (K : PX → St → Res) (x0 x1 x2 x4 : PV) (h : PHeap) : Res :=
    (E.p.bin .neq 3 x4 (.int .i64 0)).bind fun v33 =>
    condP v33
     (
      (E.C fn_impl_leastIn [x4] h).bind fun v34 =>
      (E.p.load 49 x2 v34.2).bind fun v35 =>
      (E.p.load 54 x1 v34.2).bind fun v36 =>
      (E.p.fieldAddr 54 x1 1).bind fun v37 =>
      (E.p.load 3 v37 v34.2).bind fun v38 =>
      (E.C fn_impl_standing_after [v36, v34.1] v34.2).bind fun v39 =>
      (E.p.load 3 v37 v39.2).bind fun v40 =>
      ckP (plainEq v38 v40) (
      (E.p.load 54 x1 v39.2).bind fun v41 =>
      ckP (plainEq v36 v41) (
      (E.p.load 49 x2 v39.2).bind fun v42 =>
      ckP (plainEq v35 v42) (
      (E.C fn_impl_reverse_winner [v35, v39.1] v39.2).bind fun v43 =>
      (E.p.load 3 v37 v43.2).bind fun v44 =>
      ckP (plainEq v38 v44) (
      (E.p.load 54 x1 v43.2).bind fun v45 =>
      ckP (plainEq v36 v45) (
      (E.p.load 49 x2 v43.2).bind fun v46 =>
      ckP (plainEq v35 v46) (
      (E.p.bin .eql 3 v43.1 v38).bind fun v47 =>
      (wantV v47 true).bind fun v48 =>
      (bif v48 then some (x0, v43.2) else some (.tup [], v43.2)).bind fun v49 =>
      (wantV v47 true).bind fun v50 =>
      (bif v50 then some (v34.1, v49.2) else some (.tup [], v49.2)).bind fun v51 =>
      (wantV v47 true).bind fun v52 =>
      (bif v52 then vcall E.C E.Y v49.1 [v51.1] v51.2 else some (.tup [], v51.2)).bind fun v53 =>
      (E.p.load 3 v37 v53.2).bind fun v54 =>
      ckP (plainEq v38 v54) (
      (E.p.load 54 x1 v53.2).bind fun v55 =>
      ckP (plainEq v36 v55) (
      (E.p.load 49 x2 v53.2).bind fun v56 =>
      ckP (plainEq v35 v56) (
      (wantV v47 true).bind fun v57 =>
      (bif v57 then pv v53.2 (E.p.un .not v53.1) else some (.tup [], v53.2)).bind fun v58 =>
      (E.p.pick v47 v58.1 (.bool false)).bind fun v59 =>
      condP v59
       (
        K .ret (sr_0_1_2_4_30 x0 x1 x2 x4 v59 v58.2))
       (
        (E.p.bin .sub 3 x4 (.int .i64 1)).bind fun v60 =>
        (E.p.bin .and 3 x4 v60).bind fun v61 =>
        K .normal (st0 x0 x1 x2 v61 v58.2))))))))))))
     (
      K (.exit 0) (se0_0_1_2_4_10 x0 x1 x2 x4 v33 h))
theorem body0_eq (E : Env) (K : PX → St → Res) (x0 x1 x2 x4 : PV) (h : PHeap) : ev (E.cx Tryd.prog kl) lp0 (st0 x0 x1 x2 x4 h) K = body0 E K x0 x1 x2 x4 h := by kernel_rfl
theorem after0_se0_0_1_2_4_10 (E : Env) (x0 x1 x2 x4 x10 : PV) (h : PHeap) : K0 E (kTop Tryd.prog Tryd.f72) (.exit 0) (se0_0_1_2_4_10 x0 x1 x2 x4 x10 h) =
    some (.tup [], h) := by kernel_rfl
theorem top_sr_0_1_2_4_30 (x0 x1 x2 x4 x30 : PV) (h : PHeap) : kTop Tryd.prog Tryd.f72 .ret (sr_0_1_2_4_30 x0 x1 x2 x4 x30 h) =
    some (.tup [], h) := by kernel_rfl
noncomputable def main (E : Env) (x0 x1 x2 : PV) (h : PHeap) : Res :=
    (E.p.fieldAddr 54 x1 0).bind fun v1 =>
    (E.p.indexAddr 52 v1 (.int .i64 0)).bind fun v2 =>
    (E.p.load 3 v2 h).bind fun v3 =>
    loopK (ev (E.cx Tryd.prog impl_reverse_safe_1.kl) impl_reverse_safe_1.lp0) E.lf (impl_reverse_safe_1.st0 x0 x1 x2 v3 h) (impl_reverse_safe_1.K0 E (kTop Tryd.prog Tryd.f72))
theorem main_eq (E : Env) (x0 x1 x2 : PV) (h : PHeap) : runBody (E.cx Tryd.prog kl) Tryd.f72 [x0, x1, x2] h = main E x0 x1 x2 h := by kernel_rfl
theorem call_eq (g : Nat → PV) (lf n : Nat) (x0 x1 x2 : PV) (h : PHeap) : CL g lf (n + 1) fn_impl_reverse_safe_1 [x0, x1, x2] h = main (env g lf n) x0 x1 x2 h := by
  rw [← main_eq]
  show call Tryd.prog g KL lf (n + 1) 72 [x0, x1, x2] h = _
  rw [call_succ, Tryd.func72]
  kernel_rfl
end impl_reverse_safe_1
namespace impl_leastIn
noncomputable def main (E : Env) (x0 : PV) (h : PHeap) : Res :=
    (E.p.conv 3 85 x0).bind fun v1 =>
    (E.C fn_bits_TrailingZeros [v1] h).bind fun v2 =>
    (resV v2.1).bind fun v3 =>
    some (v3, v2.2)
theorem main_eq (E : Env) (x0 : PV) (h : PHeap) : runBody (E.cx Tryd.prog kl) Tryd.f73 [x0] h = main E x0 h := by kernel_rfl
theorem call_eq (g : Nat → PV) (lf n : Nat) (x0 : PV) (h : PHeap) : CL g lf (n + 1) fn_impl_leastIn [x0] h = main (env g lf n) x0 h := by
  rw [← main_eq]
  show call Tryd.prog g KL lf (n + 1) 73 [x0] h = _
  rw [call_succ, Tryd.func73]
  kernel_rfl
end impl_leastIn
namespace impl_standing_after
noncomputable def main (E : Env) (x0 x1 : PV) (h : PHeap) : Res :=
    (E.p.box x0 h).bind fun v1 =>
    (E.p.alloc 54 v1.2).bind fun v2 =>
    (E.p.fieldAddr 54 v1.1 0).bind fun v3 =>
    (E.p.indexAddr 52 v3 (.int .i64 0)).bind fun v4 =>
    (E.p.bin .shl 3 (.int .i64 1) x1).bind fun v5 =>
    (E.p.fieldAddr 54 v1.1 0).bind fun v6 =>
    (E.p.load 3 v4 v2.2).bind fun v7 =>
    (E.p.bin .andNot 3 v7 v5).bind fun v8 =>
    (E.p.indexAddr 52 v6 (.int .i64 0)).bind fun v9 =>
    (E.p.store 3 v9 v8 v2.2).bind fun v10 =>
    (E.p.fieldAddr 54 v1.1 1).bind fun v11 =>
    (E.p.fieldAddr 54 v1.1 0).bind fun v12 =>
    (E.p.bin .shl 3 (.int .i64 1) x1).bind fun v13 =>
    (E.p.fieldAddr 54 v1.1 0).bind fun v14 =>
    (E.p.load 3 v11 v10).bind fun v15 =>
    (E.p.indexAddr 52 v12 v15).bind fun v16 =>
    (E.p.load 3 v16 v10).bind fun v17 =>
    (E.p.bin .or 3 v17 v13).bind fun v18 =>
    (E.p.indexAddr 52 v14 v15).bind fun v19 =>
    (E.p.store 3 v19 v18 v10).bind fun v20 =>
    (E.p.fieldAddr 54 v1.1 1).bind fun v21 =>
    (E.p.load 3 v21 v20).bind fun v22 =>
    (E.C fn_impl_exchanged [v22] v20).bind fun v23 =>
    (E.p.fieldAddr 54 v1.1 1).bind fun v24 =>
    (E.p.store 3 v24 v23.1 v23.2).bind fun v25 =>
    (E.p.load 54 v1.1 v25).bind fun v26 =>
    (E.p.store 54 v2.1 v26 v25).bind fun v27 =>
    (loadP Tryd.prog 54 v2.1 v27).bind fun v28 =>
    some (v28, v27)
theorem main_eq (E : Env) (x0 x1 : PV) (h : PHeap) : runBody (E.cx Tryd.prog kl) Tryd.f74 [x0, x1] h = main E x0 x1 h := by kernel_rfl
theorem call_eq (g : Nat → PV) (lf n : Nat) (x0 x1 : PV) (h : PHeap) : CL g lf (n + 1) fn_impl_standing_after [x0, x1] h = main (env g lf n) x0 x1 h := by
  rw [← main_eq]
  show call Tryd.prog g KL lf (n + 1) 74 [x0, x1] h = _
  rw [call_succ, Tryd.func74]
  kernel_rfl
end impl_standing_after
namespace spec_MoveOk
noncomputable def main (E : Env) (x0 x1 x2 x3 x4 : PV) (h : PHeap) : Res :=
    (E.C fn_spec_PositionOk [x0, x1, x2] h).bind fun v1 =>
    (E.p.un .not v1.1).bind fun v2 =>
    (wantV v2 false).bind fun v3 =>
    (bif v3 then some (x4, v1.2) else some (.tup [], v1.2)).bind fun v4 =>
    (wantV v2 false).bind fun v5 =>
    (bif v5 then E.C fn_spec_l1In [v4.1, (.int .i64 1), (.int .i64 2)] v4.2 else some (.tup [], v4.2)).bind fun v6 =>
    (wantV v2 false).bind fun v7 =>
    (bif v7 then pv v6.2 (E.p.un .not v6.1) else some (.tup [], v6.2)).bind fun v8 =>
    (E.p.pick v2 (.bool true) v8.1).bind fun v9 =>
    (wantV v9 false).bind fun v10 =>
    (bif v10 then some (x3, v8.2) else some (.tup [], v8.2)).bind fun v11 =>
    (wantV v9 false).bind fun v12 =>
    (bif v12 then some (x2, v11.2) else some (.tup [], v11.2)).bind fun v13 =>
    (wantV v9 false).bind fun v14 =>
    (bif v14 then pv v13.2 (E.p.len 23 v13.1) else some (.tup [], v13.2)).bind fun v15 =>
    (wantV v9 false).bind fun v16 =>
    (bif v16 then pv v15.2 (E.p.bin .sub 3 v15.1 (.int .i64 1)) else some (.tup [], v15.2)).bind fun v17 =>
    (wantV v9 false).bind fun v18 =>
    (bif v18 then E.C fn_spec_l1In [v11.1, (.int .i64 0), v17.1] v17.2 else some (.tup [], v17.2)).bind fun v19 =>
    (wantV v9 false).bind fun v20 =>
    (bif v20 then pv v19.2 (E.p.un .not v19.1) else some (.tup [], v19.2)).bind fun v21 =>
    (E.p.pick v9 (.bool true) v21.1).bind fun v22 =>
    condP v22
     (
      (resV (.bool false)).bind fun v23 =>
      some (v23, v21.2))
     (
      (E.p.indexAddr 23 x2 x3).bind fun v24 =>
      (E.p.load 3 v24 v21.2).bind fun v25 =>
      (E.p.bin .eql 3 v25 (.int .i64 0)).bind fun v26 =>
      (wantV v26 true).bind fun v27 =>
      (bif v27 then some (x0, v21.2) else some (.tup [], v21.2)).bind fun v28 =>
      (wantV v26 true).bind fun v29 =>
      (bif v29 then some (x1, v28.2) else some (.tup [], v28.2)).bind fun v30 =>
      (wantV v26 true).bind fun v31 =>
      (bif v31 then some (x2, v30.2) else some (.tup [], v30.2)).bind fun v32 =>
      (wantV v26 true).bind fun v33 =>
      (bif v33 then E.C fn_spec_Joins [v28.1, v30.1, v32.1, (.int .i64 1)] v32.2 else some (.tup [], v32.2)).bind fun v34 =>
      (wantV v26 true).bind fun v35 =>
      (bif v35 then pv v34.2 (E.p.un .not v34.1) else some (.tup [], v34.2)).bind fun v36 =>
      (E.p.pick v26 v36.1 (.bool false)).bind fun v37 =>
      (wantV v37 true).bind fun v38 =>
      (bif v38 then some (x0, v36.2) else some (.tup [], v36.2)).bind fun v39 =>
      (wantV v37 true).bind fun v40 =>
      (bif v40 then some (x1, v39.2) else some (.tup [], v39.2)).bind fun v41 =>
      (wantV v37 true).bind fun v42 =>
      (bif v42 then some (x2, v41.2) else some (.tup [], v41.2)).bind fun v43 =>
      (wantV v37 true).bind fun v44 =>
      (bif v44 then E.C fn_spec_Joins [v39.1, v41.1, v43.1, (.int .i64 2)] v43.2 else some (.tup [], v43.2)).bind fun v45 =>
      (wantV v37 true).bind fun v46 =>
      (bif v46 then pv v45.2 (E.p.un .not v45.1) else some (.tup [], v45.2)).bind fun v47 =>
      (E.p.pick v37 v47.1 (.bool false)).bind fun v48 =>
      (resV v48).bind fun v49 =>
      some (v49, v47.2))
theorem main_eq (E : Env) (x0 x1 x2 x3 x4 : PV) (h : PHeap) : runBody (E.cx Tryd.prog kl) Tryd.f75 [x0, x1, x2, x3, x4] h = main E x0 x1 x2 x3 x4 h := by kernel_rfl
theorem call_eq (g : Nat → PV) (lf n : Nat) (x0 x1 x2 x3 x4 : PV) (h : PHeap) : CL g lf (n + 1) fn_spec_MoveOk [x0, x1, x2, x3, x4] h = main (env g lf n) x0 x1 x2 x3 x4 h := by
  rw [← main_eq]
  show call Tryd.prog g KL lf (n + 1) 75 [x0, x1, x2, x3, x4] h = _
  rw [call_succ, Tryd.func75]
  kernel_rfl
end spec_MoveOk
namespace impl_cellOk
noncomputable def main (E : Env) (x0 x1 x2 : PV) (h : PHeap) : Res :=
    (E.C fn_impl_BoardOk [x0, x1] h).bind fun v1 =>
    (wantV v1.1 true).bind fun v2 =>
    (bif v2 then some (x2, v1.2) else some (.tup [], v1.2)).bind fun v3 =>
    (wantV v1.1 true).bind fun v4 =>
    (bif v4 then pv v3.2 (E.p.bin .geq 3 v3.1 (.int .i64 0)) else some (.tup [], v3.2)).bind fun v5 =>
    (E.p.pick v1.1 v5.1 (.bool false)).bind fun v6 =>
    (wantV v6 true).bind fun v7 =>
    (bif v7 then some (x2, v5.2) else some (.tup [], v5.2)).bind fun v8 =>
    (wantV v6 true).bind fun v9 =>
    (bif v9 then some (x0, v8.2) else some (.tup [], v8.2)).bind fun v10 =>
    (wantV v6 true).bind fun v11 =>
    (bif v11 then some (x1, v10.2) else some (.tup [], v10.2)).bind fun v12 =>
    (wantV v6 true).bind fun v13 =>
    (bif v13 then pv v12.2 (E.p.bin .mul 3 v10.1 v12.1) else some (.tup [], v12.2)).bind fun v14 =>
    (wantV v6 true).bind fun v15 =>
    (bif v15 then pv v14.2 (E.p.bin .lss 3 v8.1 v14.1) else some (.tup [], v14.2)).bind fun v16 =>
    (E.p.pick v6 v16.1 (.bool false)).bind fun v17 =>
    (resV v17).bind fun v18 =>
    some (v18, v16.2)
theorem main_eq (E : Env) (x0 x1 x2 : PV) (h : PHeap) : runBody (E.cx Tryd.prog kl) Tryd.f76 [x0, x1, x2] h = main E x0 x1 x2 h := by kernel_rfl
theorem call_eq (g : Nat → PV) (lf n : Nat) (x0 x1 x2 : PV) (h : PHeap) : CL g lf (n + 1) fn_impl_cellOk [x0, x1, x2] h = main (env g lf n) x0 x1 x2 h := by
  rw [← main_eq]
  show call Tryd.prog g KL lf (n + 1) 76 [x0, x1, x2] h = _
  rw [call_succ, Tryd.func76]
  kernel_rfl
end impl_cellOk
namespace impl_withNear
noncomputable def lp0 : Code := (codeAt (bodyOf Tryd.f77) [1, 1, 0, 1, 0, 0])
def st0 (x0 x1 x2 x7 x14 x15 : PV) (h : PHeap) : St := ⟨[x0, x1, x2, .junk, .junk, .junk, .junk, x7, .junk, .junk, .junk, .junk, .junk, .junk, x14, x15, .junk, .junk, .junk, .junk, .junk, .junk, .junk, .junk, .junk, .junk, .junk, .junk, .junk, .junk, .junk, .junk, .junk, .junk, .junk, .junk, .junk, .junk, .junk], h⟩
noncomputable def lp1 : Code := (codeAt (bodyOf Tryd.f77) [1, 1, 0, 1, 0, 0, 1, 1, 0, 0, 1, 1, 1, 0, 0])
def st1 (x0 x1 x2 x7 x14 x15 x26 x27 x28 : PV) (h : PHeap) : St := ⟨[x0, x1, x2, .junk, .junk, .junk, .junk, x7, .junk, .junk, .junk, .junk, .junk, .junk, x14, x15, .junk, .junk, .junk, .junk, .junk, .junk, .junk, .junk, .junk, .junk, x26, x27, x28, .junk, .junk, .junk, .junk, .junk, .junk, .junk, .junk, .junk, .junk], h⟩
def se0_0_1_2_7_14_15_16 (x0 x1 x2 x7 x14 x15 x16 : PV) (h : PHeap) : St := ⟨[x0, x1, x2, .junk, .junk, .junk, .junk, x7, .junk, .junk, .junk, .junk, .junk, .junk, x14, x15, x16, .junk, .junk, .junk, .junk, .junk, .junk, .junk, .junk, .junk, .junk, .junk, .junk, .junk, .junk, .junk, .junk, .junk, .junk, .junk, .junk, .junk, .junk], h⟩
def se2_0_1_2_7_14_15_26_27_28_29 (x0 x1 x2 x7 x14 x15 x26 x27 x28 x29 : PV) (h : PHeap) : St := ⟨[x0, x1, x2, .junk, .junk, .junk, .junk, x7, .junk, .junk, .junk, .junk, .junk, .junk, x14, x15, .junk, .junk, .junk, .junk, .junk, .junk, .junk, .junk, .junk, .junk, x26, x27, x28, x29, .junk, .junk, .junk, .junk, .junk, .junk, .junk, .junk, .junk], h⟩
noncomputable def K0 (E : Env) (K : PX → St → Res) : PX → St → Res := (kBlock 0 (kSeq (ev (E.cx Tryd.prog kl) (codeAt (bodyOf Tryd.f77) [1, 1, 1])) K))
@[simp] theorem K0_ret (E : Env) (K : PX → St → Res) (s : St) : K0 E K .ret s = K .ret s := by kernel_rfl
noncomputable def K1 (E : Env) (K : PX → St → Res) : PX → St → Res := (kBlock 2 (kBlock 1 (kSeq (ev (E.cx Tryd.prog kl) (codeAt (bodyOf Tryd.f77) [1, 1, 0, 1, 0, 0, 1, 1, 1])) K)))
@[simp] theorem K1_ret (E : Env) (K : PX → St → Res) (s : St) : K1 E K .ret s = K .ret s := by kernel_rfl
noncomputable def body0 (E : Env) (K : PX → St → Res) (x0 x1 x2 x7 x14 x15 : PV) (h : PHeap) : Res :=
    (E.p.bin .lss 3 x15 x14).bind fun v17 =>
    condP v17
     (
      (E.p.bin .shr 3 x2 x15).bind fun v18 =>
      (E.p.bin .and 3 v18 (.int .i64 1)).bind fun v19 =>
      (E.p.bin .eql 3 v19 (.int .i64 0)).bind fun v20 =>
      condP v20
       (
        (E.p.bin .add 3 x15 (.int .i64 1)).bind fun v21 =>
        K .normal (st0 x0 x1 x2 x7 x14 v21 h))
       (
        (E.C fn_impl_NearCells [x0, x1, x15] h).bind fun v22 =>
        (E.p.len 23 v22.1).bind fun v23 =>
        loopK (ev (E.cx Tryd.prog impl_withNear.kl) impl_withNear.lp1) E.lf (impl_withNear.st1 x0 x1 x2 x7 x14 x15 v22.1 v23 (.int .i64 0) v22.2) (impl_withNear.K1 E K)))
     (
      K (.exit 0) (se0_0_1_2_7_14_15_16 x0 x1 x2 x7 x14 x15 v17 h))
theorem body0_eq (E : Env) (K : PX → St → Res) (x0 x1 x2 x7 x14 x15 : PV) (h : PHeap) : ev (E.cx Tryd.prog kl) lp0 (st0 x0 x1 x2 x7 x14 x15 h) K = body0 E K x0 x1 x2 x7 x14 x15 h := by kernel_rfl
noncomputable def body1 (E : Env) (K : PX → St → Res) (x0 x1 x2 x7 x14 x15 x26 x27 x28 : PV) (h : PHeap) : Res :=
    (E.p.bin .lss 3 x28 x27).bind fun v24 =>
    condP v24
     (
      (E.p.indexAddr 23 x26 x28).bind fun v25 =>
      (E.p.load 3 v25 h).bind fun v26 =>
      (E.p.bin .shl 3 (.int .i64 1) v26).bind fun v27 =>
      (E.p.bin .or 3 x7 v27).bind fun v28 =>
      (E.p.bin .add 3 x28 (.int .i64 1)).bind fun v29 =>
      K .normal (st1 x0 x1 x2 v28 x14 x15 x26 x27 v29 h))
     (
      K (.exit 2) (se2_0_1_2_7_14_15_26_27_28_29 x0 x1 x2 x7 x14 x15 x26 x27 x28 v24 h))
theorem body1_eq (E : Env) (K : PX → St → Res) (x0 x1 x2 x7 x14 x15 x26 x27 x28 : PV) (h : PHeap) : ev (E.cx Tryd.prog kl) lp1 (st1 x0 x1 x2 x7 x14 x15 x26 x27 x28 h) K = body1 E K x0 x1 x2 x7 x14 x15 x26 x27 x28 h := by kernel_rfl
theorem after0_se0_0_1_2_7_14_15_16 (E : Env) (x0 x1 x2 x7 x14 x15 x16 : PV) (h : PHeap) : K0 E (kTop Tryd.prog Tryd.f77) (.exit 0) (se0_0_1_2_7_14_15_16 x0 x1 x2 x7 x14 x15 x16 h) =
    (resV x7).bind fun v15 =>
    some (v15, h) := by kernel_rfl
theorem after1_se2_0_1_2_7_14_15_26_27_28_29 (E : Env) (K : PX → St → Res) (x0 x1 x2 x7 x14 x15 x26 x27 x28 x29 : PV) (h : PHeap) : K1 E K (.exit 2) (se2_0_1_2_7_14_15_26_27_28_29 x0 x1 x2 x7 x14 x15 x26 x27 x28 x29 h) =
    (E.p.bin .add 3 x15 (.int .i64 1)).bind fun v16 =>
    K .normal (st0 x0 x1 x2 x7 x14 v16 h) := by kernel_rfl
noncomputable def main (E : Env) (x0 x1 x2 : PV) (h : PHeap) : Res :=
    (E.p.bin .mul 3 x0 x1).bind fun v1 =>
    loopK (ev (E.cx Tryd.prog impl_withNear.kl) impl_withNear.lp0) E.lf (impl_withNear.st0 x0 x1 x2 x2 v1 (.int .i64 0) h) (impl_withNear.K0 E (kTop Tryd.prog Tryd.f77))
theorem main_eq (E : Env) (x0 x1 x2 : PV) (h : PHeap) : runBody (E.cx Tryd.prog kl) Tryd.f77 [x0, x1, x2] h = main E x0 x1 x2 h := by kernel_rfl
theorem call_eq (g : Nat → PV) (lf n : Nat) (x0 x1 x2 : PV) (h : PHeap) : CL g lf (n + 1) fn_impl_withNear [x0, x1, x2] h = main (env g lf n) x0 x1 x2 h := by
  rw [← main_eq]
  show call Tryd.prog g KL lf (n + 1) 77 [x0, x1, x2] h = _
  rw [call_succ, Tryd.func77]
  kernel_rfl
end impl_withNear
namespace impl_search_solved
noncomputable def lp0 : Code := (codeAt (bodyOf Tryd.f78) [1, 1, 0, 1, 0, 0])
def st0 (x0 x3 x6 : PV) (h : PHeap) : St := ⟨[x0, .junk, .junk, x3, .junk, .junk, x6, .junk, .junk, .junk, .junk, .junk, .junk, .junk, .junk, .junk, .junk, .junk, .junk, .junk, .junk, .junk, .junk, .junk, .junk, .junk, .junk, .junk, .junk, .junk, .junk, .junk, .junk, .junk, .junk, .junk], h⟩
def sr_4 (x4 : PV) (h : PHeap) : St := ⟨[.junk, .junk, .junk, .junk, x4, .junk, .junk, .junk, .junk, .junk, .junk, .junk, .junk, .junk, .junk, .junk, .junk, .junk, .junk, .junk, .junk, .junk, .junk, .junk, .junk, .junk, .junk, .junk, .junk, .junk, .junk, .junk, .junk, .junk, .junk, .junk], h⟩
def se0_0_3_6_17 (x0 x3 x6 x17 : PV) (h : PHeap) : St := ⟨[x0, .junk, .junk, x3, .junk, .junk, x6, .junk, .junk, .junk, .junk, .junk, .junk, .junk, .junk, .junk, .junk, x17, .junk, .junk, .junk, .junk, .junk, .junk, .junk, .junk, .junk, .junk, .junk, .junk, .junk, .junk, .junk, .junk, .junk, .junk], h⟩
noncomputable def K0 (E : Env) (K : PX → St → Res) : PX → St → Res := (kBlock 0 (kSeq (ev (E.cx Tryd.prog kl) (codeAt (bodyOf Tryd.f78) [1, 1, 1])) K))
@[simp] theorem K0_ret (E : Env) (K : PX → St → Res) (s : St) : K0 E K .ret s = K .ret s := by kernel_rfl
noncomputable def body0 (E : Env) (K : PX → St → Res) (x0 x3 x6 : PV) (h : PHeap) : Res :=
    (E.p.bin .neq 3 x6 (.int .i64 0)).bind fun v31 =>
    condP v31
     (
      (E.p.load 54 x3 h).bind fun v32 =>
      (E.p.fieldAddr 54 x3 1).bind fun v33 =>
      (E.p.load 3 v33 h).bind fun v34 =>
      (E.C fn_impl_leastIn [x6] h).bind fun v35 =>
      (E.p.load 3 v33 v35.2).bind fun v36 =>
      ckP (plainEq v34 v36) (
      (E.p.load 54 x3 v35.2).bind fun v37 =>
      ckP (plainEq v32 v37) (
      (E.C fn_impl_standing_after [v32, v35.1] v35.2).bind fun v38 =>
      (E.p.load 3 v33 v38.2).bind fun v39 =>
      ckP (plainEq v34 v39) (
      (E.p.load 54 x3 v38.2).bind fun v40 =>
      ckP (plainEq v32 v40) (
      (E.C fn_impl_search_winner [x0, v38.1] v38.2).bind fun v41 =>
      (E.p.load 3 v33 v41.2).bind fun v42 =>
      ckP (plainEq v34 v42) (
      (E.p.load 54 x3 v41.2).bind fun v43 =>
      ckP (plainEq v32 v43) (
      (E.p.bin .eql 3 v41.1 v34).bind fun v44 =>
      condP v44
       (
        (E.p.fieldAddr 54 x3 1).bind fun v45 =>
        (E.p.load 3 v45 v41.2).bind fun v46 =>
        K .ret (sr_4 v46 v41.2))
       (
        (E.p.bin .sub 3 x6 (.int .i64 1)).bind fun v47 =>
        (E.p.bin .and 3 x6 v47).bind fun v48 =>
        K .normal (st0 x0 x3 v48 v41.2)))))))))
     (
      K (.exit 0) (se0_0_3_6_17 x0 x3 x6 v31 h))
theorem body0_eq (E : Env) (K : PX → St → Res) (x0 x3 x6 : PV) (h : PHeap) : ev (E.cx Tryd.prog kl) lp0 (st0 x0 x3 x6 h) K = body0 E K x0 x3 x6 h := by kernel_rfl
theorem after0_se0_0_3_6_17 (E : Env) (x0 x3 x6 x17 : PV) (h : PHeap) : K0 E (kTop Tryd.prog Tryd.f78) (.exit 0) (se0_0_3_6_17 x0 x3 x6 x17 h) =
    (E.p.fieldAddr 54 x3 1).bind fun v27 =>
    (E.p.load 3 v27 h).bind fun v28 =>
    (E.C fn_impl_exchanged [v28] h).bind fun v29 =>
    (resV v29.1).bind fun v30 =>
    some (v30, v29.2) := by kernel_rfl
theorem top_sr_4 (x4 : PV) (h : PHeap) : kTop Tryd.prog Tryd.f78 .ret (sr_4 x4 h) =
    (resV x4).bind fun v49 =>
    some (v49, h) := by kernel_rfl
noncomputable def main (E : Env) (x0 x1 : PV) (h : PHeap) : Res :=
    (E.p.box x1 h).bind fun v1 =>
    (E.p.load 54 v1.1 v1.2).bind fun v2 =>
    (E.C fn_impl_search_joined [x0, v2] v1.2).bind fun v3 =>
    (E.p.bin .neq 3 v3.1 (.int .i64 0)).bind fun v4 =>
    condP v4
     (
      (resV v3.1).bind fun v5 =>
      some (v5, v3.2))
     (
      (E.p.fieldAddr 54 v1.1 0).bind fun v6 =>
      (E.p.indexAddr 52 v6 (.int .i64 0)).bind fun v7 =>
      (E.p.load 3 v7 v3.2).bind fun v8 =>
      loopK (ev (E.cx Tryd.prog impl_search_solved.kl) impl_search_solved.lp0) E.lf (impl_search_solved.st0 x0 v1.1 v8 v3.2) (impl_search_solved.K0 E (kTop Tryd.prog Tryd.f78)))
theorem main_eq (E : Env) (x0 x1 : PV) (h : PHeap) : runBody (E.cx Tryd.prog kl) Tryd.f78 [x0, x1] h = main E x0 x1 h := by kernel_rfl
theorem call_eq (g : Nat → PV) (lf n : Nat) (x0 x1 : PV) (h : PHeap) : CL g lf (n + 1) fn_impl_search_solved [x0, x1] h = main (env g lf n) x0 x1 h := by
  rw [← main_eq]
  show call Tryd.prog g KL lf (n + 1) 78 [x0, x1] h = _
  rw [call_succ, Tryd.func78]
  kernel_rfl
end impl_search_solved
namespace spec_l20Position
noncomputable def lp0 : Code := (codeAt (bodyOf Tryd.f79) [1, 1, 1, 1, 0, 1, 0, 0])
def st0 (x0 x1 x7 x8 x9 x10 x11 : PV) (h : PHeap) : St := ⟨[x0, x1, .junk, .junk, .junk, .junk, .junk, x7, x8, x9, x10, x11, .junk, .junk, .junk, .junk, .junk, .junk, .junk, .junk, .junk, .junk, .junk, .junk, .junk, .junk, .junk, .junk, .junk, .junk, .junk, .junk, .junk, .junk, .junk, .junk, .junk, .junk, .junk, .junk, .junk, .junk, .junk, .junk, .junk, .junk, .junk, .junk, .junk, .junk, .junk, .junk, .junk, .junk, .junk, .junk, .junk, .junk, .junk, .junk, .junk, .junk, .junk, .junk, .junk, .junk, .junk, .junk, .junk, .junk, .junk, .junk, .junk], h⟩
def se0_0_1_7_8_9_10_11_32 (x0 x1 x7 x8 x9 x10 x11 x32 : PV) (h : PHeap) : St := ⟨[x0, x1, .junk, .junk, .junk, .junk, .junk, x7, x8, x9, x10, x11, .junk, .junk, .junk, .junk, .junk, .junk, .junk, .junk, .junk, .junk, .junk, .junk, .junk, .junk, .junk, .junk, .junk, .junk, .junk, .junk, x32, .junk, .junk, .junk, .junk, .junk, .junk, .junk, .junk, .junk, .junk, .junk, .junk, .junk, .junk, .junk, .junk, .junk, .junk, .junk, .junk, .junk, .junk, .junk, .junk, .junk, .junk, .junk, .junk, .junk, .junk, .junk, .junk, .junk, .junk, .junk, .junk, .junk, .junk, .junk, .junk], h⟩
noncomputable def K0 (E : Env) (K : PX → St → Res) : PX → St → Res := (kBlock 0 (kSeq (ev (E.cx Tryd.prog kl) (codeAt (bodyOf Tryd.f79) [1, 1, 1, 1, 1])) K))
@[simp] theorem K0_ret (E : Env) (K : PX → St → Res) (s : St) : K0 E K .ret s = K .ret s := by kernel_rfl
noncomputable def body0 (E : Env) (K : PX → St → Res) (x0 x1 x7 x8 x9 x10 x11 : PV) (h : PHeap) : Res :=
    (E.p.bin .mul 3 x7 x8).bind fun v58 =>
    (E.p.max v58 [(.int .i64 0)]).bind fun v59 =>
    (E.p.bin .lss 3 x11 v59).bind fun v60 =>
    (wantV v60 true).bind fun v61 =>
    (bif v61 then some (x11, h) else some (.tup [], h)).bind fun v62 =>
    (wantV v60 true).bind fun v63 =>
    (bif v63 then pv v62.2 (E.p.bin .lss 3 v62.1 (.int .i64 9)) else some (.tup [], v62.2)).bind fun v64 =>
    (E.p.pick v60 v64.1 (.bool false)).bind fun v65 =>
    condP v65
     (
      (E.C fn_spec_l20Rd_pick [x0, (.int .i64 3)] v64.2).bind fun v66 =>
      (E.p.bin .gtr 3 x10 (.int .i64 0)).bind fun v67 =>
      (wantV v67 true).bind fun v68 =>
      (bif v68 then some (x0, v66.2) else some (.tup [], v66.2)).bind fun v69 =>
      (wantV v67 true).bind fun v70 =>
      (bif v70 then E.C fn_spec_l20Rd_pick [v69.1, (.int .i64 4)] v69.2 else some (.tup [], v69.2)).bind fun v71 =>
      (wantV v67 true).bind fun v72 =>
      (bif v72 then some (x10, v71.2) else some (.tup [], v71.2)).bind fun v73 =>
      (wantV v67 true).bind fun v74 =>
      (bif v74 then pv v73.2 (E.p.bin .lss 3 v71.1 v73.1) else some (.tup [], v73.2)).bind fun v75 =>
      (E.p.pick v67 v75.1 (.bool false)).bind fun v76 =>
      condP v76
       (
        (E.p.buildSlice 23 1 [(0, (.int .i64 0))] v75.2).bind fun v77 =>
        (E.p.append 23 23 x9 v77.1 v77.2).bind fun v78 =>
        (E.p.bin .add 3 x11 (.int .i64 1)).bind fun v79 =>
        K .normal (st0 x0 x1 x7 x8 v78.1 x10 v79 v78.2))
       (
        (E.p.buildSlice 23 1 [(0, v66.1)] v75.2).bind fun v80 =>
        (E.p.append 23 23 x9 v80.1 v80.2).bind fun v81 =>
        (E.p.bin .add 3 x11 (.int .i64 1)).bind fun v82 =>
        K .normal (st0 x0 x1 x7 x8 v81.1 x10 v82 v81.2)))
     (
      K (.exit 0) (se0_0_1_7_8_9_10_11_32 x0 x1 x7 x8 x9 x10 x11 v65 v64.2))
theorem body0_eq (E : Env) (K : PX → St → Res) (x0 x1 x7 x8 x9 x10 x11 : PV) (h : PHeap) : ev (E.cx Tryd.prog kl) lp0 (st0 x0 x1 x7 x8 x9 x10 x11 h) K = body0 E K x0 x1 x7 x8 x9 x10 x11 h := by kernel_rfl
theorem after0_se0_0_1_7_8_9_10_11_32 (E : Env) (x0 x1 x7 x8 x9 x10 x11 x32 : PV) (h : PHeap) : K0 E (kTop Tryd.prog Tryd.f79) (.exit 0) (se0_0_1_7_8_9_10_11_32 x0 x1 x7 x8 x9 x10 x11 x32 h) =
    (E.p.bin .mul 3 x1 (.int .i64 2)).bind fun v32 =>
    (E.C fn_spec_l20Rd_odd [x0, v32] h).bind fun v33 =>
    condP v33.1
     (
      (E.C fn_spec_l20Rd_pick [x0, (.int .i64 2)] v33.2).bind fun v34 =>
      (E.p.bin .eql 3 v34.1 (.int .i64 0)).bind fun v35 =>
      condP v35
       (
        (E.p.buildSlice 23 1 [(0, (.int .i64 0))] v34.2).bind fun v36 =>
        (E.p.append 23 23 x9 v36.1 v36.2).bind fun v37 =>
        (resV x7).bind fun v38 =>
        (resV x8).bind fun v39 =>
        (resV v37.1).bind fun v40 =>
        some (.tup [v38, v39, v40], v37.2))
       (
        (E.p.len 23 x9).bind fun v41 =>
        (E.p.bin .gtr 3 v41 (.int .i64 0)).bind fun v42 =>
        condP v42
         (
          (E.p.buildSlice 23 2 [(0, (.int .i64 (-1))), (1, (.int .i64 3))] v34.2).bind fun v43 =>
          (E.C fn_spec_l20Rd_pick [x0, (.int .i64 2)] v43.2).bind fun v44 =>
          (E.p.indexAddr 23 v43.1 v44.1).bind fun v45 =>
          (E.p.load 3 v45 v44.2).bind fun v46 =>
          (E.p.indexAddr 23 x9 (.int .i64 0)).bind fun v47 =>
          (E.p.store 3 v47 v46 v44.2).bind fun v48 =>
          (resV x7).bind fun v49 =>
          (resV x8).bind fun v50 =>
          (resV x9).bind fun v51 =>
          some (.tup [v49, v50, v51], v48))
         (
          (resV x7).bind fun v52 =>
          (resV x8).bind fun v53 =>
          (resV x9).bind fun v54 =>
          some (.tup [v52, v53, v54], v34.2))))
     (
      (resV x7).bind fun v55 =>
      (resV x8).bind fun v56 =>
      (resV x9).bind fun v57 =>
      some (.tup [v55, v56, v57], v33.2)) := by kernel_rfl
noncomputable def main (E : Env) (x0 x1 : PV) (h : PHeap) : Res :=
    (E.p.bin .mul 3 x1 (.int .i64 2)).bind fun v1 =>
    (E.C fn_spec_l20Board [x0, v1] h).bind fun v2 =>
    (E.p.extract v2.1 0).bind fun v3 =>
    (E.p.extract v2.1 1).bind fun v4 =>
    (E.p.buildSlice 23 0 [] v2.2).bind fun v5 =>
    (E.C fn_spec_l20Rd_pick [x0, (.int .i64 4)] v5.2).bind fun v6 =>
    loopK (ev (E.cx Tryd.prog spec_l20Position.kl) spec_l20Position.lp0) E.lf (spec_l20Position.st0 x0 x1 v3 v4 v5.1 v6.1 (.int .i64 0) v6.2) (spec_l20Position.K0 E (kTop Tryd.prog Tryd.f79))
theorem main_eq (E : Env) (x0 x1 : PV) (h : PHeap) : runBody (E.cx Tryd.prog kl) Tryd.f79 [x0, x1] h = main E x0 x1 h := by kernel_rfl
theorem call_eq (g : Nat → PV) (lf n : Nat) (x0 x1 : PV) (h : PHeap) : CL g lf (n + 1) fn_spec_l20Position [x0, x1] h = main (env g lf n) x0 x1 h := by
  rw [← main_eq]
  show call Tryd.prog g KL lf (n + 1) 79 [x0, x1] h = _
  rw [call_succ, Tryd.func79]
  kernel_rfl
end spec_l20Position
namespace spec_l2Grow
noncomputable def lp0 : Code := (codeAt (bodyOf Tryd.f80) [1, 1, 0, 1, 0, 0])
def st0 (x0 x1 x7 x8 : PV) (h : PHeap) : St := ⟨[x0, x1, .junk, .junk, .junk, .junk, .junk, x7, x8, .junk, .junk, .junk, .junk, .junk, .junk, .junk, .junk, .junk, .junk, .junk, .junk, .junk, .junk, .junk, .junk, .junk, .junk, .junk, .junk, .junk, .junk, .junk, .junk, .junk, .junk, .junk, .junk, .junk, .junk, .junk], h⟩
noncomputable def lp1 : Code := (codeAt (bodyOf Tryd.f80) [1, 1, 0, 1, 0, 0, 1, 0, 1, 0, 1, 0, 0])
def st1 (x0 x1 x7 x9 x10 : PV) (h : PHeap) : St := ⟨[x0, x1, .junk, .junk, .junk, .junk, .junk, x7, .junk, x9, x10, .junk, .junk, .junk, .junk, .junk, .junk, .junk, .junk, .junk, .junk, .junk, .junk, .junk, .junk, .junk, .junk, .junk, .junk, .junk, .junk, .junk, .junk, .junk, .junk, .junk, .junk, .junk, .junk, .junk], h⟩
def se0_0_1_7_14 (x0 x1 x7 x14 : PV) (h : PHeap) : St := ⟨[x0, x1, .junk, .junk, .junk, .junk, .junk, x7, .junk, .junk, .junk, .junk, .junk, .junk, x14, .junk, .junk, .junk, .junk, .junk, .junk, .junk, .junk, .junk, .junk, .junk, .junk, .junk, .junk, .junk, .junk, .junk, .junk, .junk, .junk, .junk, .junk, .junk, .junk, .junk], h⟩
def se2_0_1_7_9_10_19 (x0 x1 x7 x9 x10 x19 : PV) (h : PHeap) : St := ⟨[x0, x1, .junk, .junk, .junk, .junk, .junk, x7, .junk, x9, x10, .junk, .junk, .junk, .junk, .junk, .junk, .junk, .junk, x19, .junk, .junk, .junk, .junk, .junk, .junk, .junk, .junk, .junk, .junk, .junk, .junk, .junk, .junk, .junk, .junk, .junk, .junk, .junk, .junk], h⟩
noncomputable def K0 (E : Env) (K : PX → St → Res) : PX → St → Res := (kBlock 0 (kSeq (ev (E.cx Tryd.prog kl) (codeAt (bodyOf Tryd.f80) [1, 1, 1])) K))
@[simp] theorem K0_ret (E : Env) (K : PX → St → Res) (s : St) : K0 E K .ret s = K .ret s := by kernel_rfl
noncomputable def K1 (E : Env) (K : PX → St → Res) : PX → St → Res := (kBlock 2 (kSeq (ev (E.cx Tryd.prog kl) (codeAt (bodyOf Tryd.f80) [1, 1, 0, 1, 0, 0, 1, 0, 1, 1])) (kBlock 1 K)))
@[simp] theorem K1_ret (E : Env) (K : PX → St → Res) (s : St) : K1 E K .ret s = K .ret s := by kernel_rfl
noncomputable def body0 (E : Env) (K : PX → St → Res) (x0 x1 x7 x8 : PV) (h : PHeap) : Res :=
    condP x8
     (
      loopK (ev (E.cx Tryd.prog spec_l2Grow.kl) spec_l2Grow.lp1) E.lf (spec_l2Grow.st1 x0 x1 x7 x7 (.int .i64 0) h) (spec_l2Grow.K1 E K))
     (
      K (.exit 0) (se0_0_1_7_14 x0 x1 x7 x8 h))
theorem body0_eq (E : Env) (K : PX → St → Res) (x0 x1 x7 x8 : PV) (h : PHeap) : ev (E.cx Tryd.prog kl) lp0 (st0 x0 x1 x7 x8 h) K = body0 E K x0 x1 x7 x8 h := by kernel_rfl
noncomputable def body1 (E : Env) (K : PX → St → Res) (x0 x1 x7 x9 x10 : PV) (h : PHeap) : Res :=
    (E.p.len 23 x0).bind fun v15 =>
    (E.p.bin .lss 3 x10 v15).bind fun v16 =>
    condP v16
     (
      (E.p.bin .shr 3 x7 x10).bind fun v17 =>
      (E.p.bin .rem 3 v17 (.int .i64 2)).bind fun v18 =>
      (E.p.bin .eql 3 v18 (.int .i64 1)).bind fun v19 =>
      condP v19
       (
        (E.p.indexAddr 23 x0 x10).bind fun v20 =>
        (E.p.load 3 v20 h).bind fun v21 =>
        (E.p.bin .and 3 v21 x1).bind fun v22 =>
        (E.p.bin .or 3 x9 v22).bind fun v23 =>
        (E.p.bin .add 3 x10 (.int .i64 1)).bind fun v24 =>
        K .normal (st1 x0 x1 x7 v23 v24 h))
       (
        (E.p.bin .add 3 x10 (.int .i64 1)).bind fun v25 =>
        K .normal (st1 x0 x1 x7 x9 v25 h)))
     (
      K (.exit 2) (se2_0_1_7_9_10_19 x0 x1 x7 x9 x10 v16 h))
theorem body1_eq (E : Env) (K : PX → St → Res) (x0 x1 x7 x9 x10 : PV) (h : PHeap) : ev (E.cx Tryd.prog kl) lp1 (st1 x0 x1 x7 x9 x10 h) K = body1 E K x0 x1 x7 x9 x10 h := by kernel_rfl
theorem after0_se0_0_1_7_14 (E : Env) (x0 x1 x7 x14 : PV) (h : PHeap) : K0 E (kTop Tryd.prog Tryd.f80) (.exit 0) (se0_0_1_7_14 x0 x1 x7 x14 h) =
    (resV x7).bind fun v13 =>
    some (v13, h) := by kernel_rfl
theorem after1_se2_0_1_7_9_10_19 (E : Env) (K : PX → St → Res) (x0 x1 x7 x9 x10 x19 : PV) (h : PHeap) : K1 E K (.exit 2) (se2_0_1_7_9_10_19 x0 x1 x7 x9 x10 x19 h) =
    (E.p.bin .neq 3 x9 x7).bind fun v14 =>
    K .normal (st0 x0 x1 x9 v14 h) := by kernel_rfl
noncomputable def main (E : Env) (x0 x1 x2 : PV) (h : PHeap) : Res :=
    (E.p.bin .and 3 x2 x1).bind fun v1 =>
    loopK (ev (E.cx Tryd.prog spec_l2Grow.kl) spec_l2Grow.lp0) E.lf (spec_l2Grow.st0 x0 x1 v1 (.bool true) h) (spec_l2Grow.K0 E (kTop Tryd.prog Tryd.f80))
theorem main_eq (E : Env) (x0 x1 x2 : PV) (h : PHeap) : runBody (E.cx Tryd.prog kl) Tryd.f80 [x0, x1, x2] h = main E x0 x1 x2 h := by kernel_rfl
theorem call_eq (g : Nat → PV) (lf n : Nat) (x0 x1 x2 : PV) (h : PHeap) : CL g lf (n + 1) fn_spec_l2Grow [x0, x1, x2] h = main (env g lf n) x0 x1 x2 h := by
  rw [← main_eq]
  show call Tryd.prog g KL lf (n + 1) 80 [x0, x1, x2] h = _
  rw [call_succ, Tryd.func80]
  kernel_rfl
end spec_l2Grow
namespace spec_l2Side
noncomputable def lp0 : Code := (codeAt (bodyOf Tryd.f81) [1, 1, 0, 1, 0, 0])
def st0 (x0 x1 x2 x3 x9 x10 : PV) (h : PHeap) : St := ⟨[x0, x1, x2, x3, .junk, .junk, .junk, .junk, .junk, x9, x10, .junk, .junk, .junk, .junk, .junk, .junk, .junk, .junk, .junk, .junk, .junk, .junk, .junk, .junk, .junk, .junk, .junk, .junk, .junk, .junk, .junk, .junk, .junk, .junk, .junk, .junk, .junk, .junk, .junk, .junk, .junk, .junk, .junk, .junk, .junk, .junk, .junk, .junk, .junk, .junk], h⟩
def se0_0_1_2_3_9_10_17 (x0 x1 x2 x3 x9 x10 x17 : PV) (h : PHeap) : St := ⟨[x0, x1, x2, x3, .junk, .junk, .junk, .junk, .junk, x9, x10, .junk, .junk, .junk, .junk, .junk, .junk, x17, .junk, .junk, .junk, .junk, .junk, .junk, .junk, .junk, .junk, .junk, .junk, .junk, .junk, .junk, .junk, .junk, .junk, .junk, .junk, .junk, .junk, .junk, .junk, .junk, .junk, .junk, .junk, .junk, .junk, .junk, .junk, .junk, .junk], h⟩
noncomputable def K0 (E : Env) (K : PX → St → Res) : PX → St → Res := (kBlock 0 (kSeq (ev (E.cx Tryd.prog kl) (codeAt (bodyOf Tryd.f81) [1, 1, 1])) K))
@[simp] theorem K0_ret (E : Env) (K : PX → St → Res) (s : St) : K0 E K .ret s = K .ret s := by kernel_rfl
noncomputable def body0 (E : Env) (K : PX → St → Res) (x0 x1 x2 x3 x9 x10 : PV) (h : PHeap) : Res :=
    (E.p.bin .mul 3 x0 x1).bind fun v57 =>
    (E.p.bin .lss 3 x10 v57).bind fun v58 =>
    condP v58
     (
      (E.p.bin .quo 3 x10 x1).bind fun v59 =>
      (E.p.bin .sub 3 x0 (.int .i64 1)).bind fun v60 =>
      (E.p.bin .eql 3 x2 (.int .i64 2)).bind fun v61 =>
      condP v61
       (
        (E.p.bin .rem 3 x10 x1).bind fun v62 =>
        (E.p.bin .sub 3 x1 (.int .i64 1)).bind fun v63 =>
        (wantV x3 true).bind fun v64 =>
        (bif v64 then some (v62, h) else some (.tup [], h)).bind fun v65 =>
        (wantV x3 true).bind fun v66 =>
        (bif v66 then some (v63, v65.2) else some (.tup [], v65.2)).bind fun v67 =>
        (wantV x3 true).bind fun v68 =>
        (bif v68 then pv v67.2 (E.p.bin .eql 3 v65.1 v67.1) else some (.tup [], v67.2)).bind fun v69 =>
        (E.p.pick x3 v69.1 (.bool false)).bind fun v70 =>
        (wantV v70 false).bind fun v71 =>
        (bif v71 then some (x3, v69.2) else some (.tup [], v69.2)).bind fun v72 =>
        (wantV v70 false).bind fun v73 =>
        (bif v73 then pv v72.2 (E.p.un .not v72.1) else some (.tup [], v72.2)).bind fun v74 =>
        (wantV v70 false).bind fun v75 =>
        (bif v75 then some (v74.1, v74.2) else some (.tup [], v74.2)).bind fun v76 =>
        (wantV v76.1 true).bind fun v77 =>
        (bif v77 then some (v62, v76.2) else some (.tup [], v76.2)).bind fun v78 =>
        (wantV v76.1 true).bind fun v79 =>
        (bif v79 then pv v78.2 (E.p.bin .eql 3 v78.1 (.int .i64 0)) else some (.tup [], v78.2)).bind fun v80 =>
        (wantV v70 false).bind fun v81 =>
        (bif v81 then pv v80.2 (E.p.pick v76.1 v80.1 (.bool false)) else some (.tup [], v80.2)).bind fun v82 =>
        (E.p.pick v70 (.bool true) v82.1).bind fun v83 =>
        condP v83
         (
          (E.p.bin .shl 3 (.int .i64 1) x10).bind fun v84 =>
          (E.p.bin .or 3 x9 v84).bind fun v85 =>
          (E.p.bin .add 3 x10 (.int .i64 1)).bind fun v86 =>
          K .normal (st0 x0 x1 x2 x3 v85 v86 v82.2))
         (
          (E.p.bin .add 3 x10 (.int .i64 1)).bind fun v87 =>
          K .normal (st0 x0 x1 x2 x3 x9 v87 v82.2)))
       (
        (wantV x3 true).bind fun v88 =>
        (bif v88 then some (v59, h) else some (.tup [], h)).bind fun v89 =>
        (wantV x3 true).bind fun v90 =>
        (bif v90 then some (v60, v89.2) else some (.tup [], v89.2)).bind fun v91 =>
        (wantV x3 true).bind fun v92 =>
        (bif v92 then pv v91.2 (E.p.bin .eql 3 v89.1 v91.1) else some (.tup [], v91.2)).bind fun v93 =>
        (E.p.pick x3 v93.1 (.bool false)).bind fun v94 =>
        (wantV v94 false).bind fun v95 =>
        (bif v95 then some (x3, v93.2) else some (.tup [], v93.2)).bind fun v96 =>
        (wantV v94 false).bind fun v97 =>
        (bif v97 then pv v96.2 (E.p.un .not v96.1) else some (.tup [], v96.2)).bind fun v98 =>
        (wantV v94 false).bind fun v99 =>
        (bif v99 then some (v98.1, v98.2) else some (.tup [], v98.2)).bind fun v100 =>
        (wantV v100.1 true).bind fun v101 =>
        (bif v101 then some (v59, v100.2) else some (.tup [], v100.2)).bind fun v102 =>
        (wantV v100.1 true).bind fun v103 =>
        (bif v103 then pv v102.2 (E.p.bin .eql 3 v102.1 (.int .i64 0)) else some (.tup [], v102.2)).bind fun v104 =>
        (wantV v94 false).bind fun v105 =>
        (bif v105 then pv v104.2 (E.p.pick v100.1 v104.1 (.bool false)) else some (.tup [], v104.2)).bind fun v106 =>
        (E.p.pick v94 (.bool true) v106.1).bind fun v107 =>
        condP v107
         (
          (E.p.bin .shl 3 (.int .i64 1) x10).bind fun v108 =>
          (E.p.bin .or 3 x9 v108).bind fun v109 =>
          (E.p.bin .add 3 x10 (.int .i64 1)).bind fun v110 =>
          K .normal (st0 x0 x1 x2 x3 v109 v110 v106.2))
         (
          (E.p.bin .add 3 x10 (.int .i64 1)).bind fun v111 =>
          K .normal (st0 x0 x1 x2 x3 x9 v111 v106.2))))
     (
      K (.exit 0) (se0_0_1_2_3_9_10_17 x0 x1 x2 x3 x9 x10 v58 h))
theorem body0_eq (E : Env) (K : PX → St → Res) (x0 x1 x2 x3 x9 x10 : PV) (h : PHeap) : ev (E.cx Tryd.prog kl) lp0 (st0 x0 x1 x2 x3 x9 x10 h) K = body0 E K x0 x1 x2 x3 x9 x10 h := by kernel_rfl
theorem after0_se0_0_1_2_3_9_10_17 (E : Env) (x0 x1 x2 x3 x9 x10 x17 : PV) (h : PHeap) : K0 E (kTop Tryd.prog Tryd.f81) (.exit 0) (se0_0_1_2_3_9_10_17 x0 x1 x2 x3 x9 x10 x17 h) =
    (resV x9).bind fun v56 =>
    some (v56, h) := by kernel_rfl
noncomputable def main (E : Env) (x0 x1 x2 x3 : PV) (h : PHeap) : Res :=
    loopK (ev (E.cx Tryd.prog spec_l2Side.kl) spec_l2Side.lp0) E.lf (spec_l2Side.st0 x0 x1 x2 x3 (.int .i64 0) (.int .i64 0) h) (spec_l2Side.K0 E (kTop Tryd.prog Tryd.f81))
theorem main_eq (E : Env) (x0 x1 x2 x3 : PV) (h : PHeap) : runBody (E.cx Tryd.prog kl) Tryd.f81 [x0, x1, x2, x3] h = main E x0 x1 x2 x3 h := by kernel_rfl
theorem call_eq (g : Nat → PV) (lf n : Nat) (x0 x1 x2 x3 : PV) (h : PHeap) : CL g lf (n + 1) fn_spec_l2Side [x0, x1, x2, x3] h = main (env g lf n) x0 x1 x2 x3 h := by
  rw [← main_eq]
  show call Tryd.prog g KL lf (n + 1) 81 [x0, x1, x2, x3] h = _
  rw [call_succ, Tryd.func81]
  kernel_rfl
end spec_l2Side
namespace bits_TrailingZeros
noncomputable def main (E : Env) (x0 : PV) (h : PHeap) : Res :=
    condP (.bool false)
     (
      (E.p.conv 85 88 x0).bind fun v1 =>
      (E.C fn_bits_TrailingZeros32 [v1] h).bind fun v2 =>
      (resV v2.1).bind fun v3 =>
      some (v3, v2.2))
     (
      (E.C fn_bits_TrailingZeros64 [x0] h).bind fun v4 =>
      (resV v4.1).bind fun v5 =>
      some (v5, v4.2))
theorem main_eq (E : Env) (x0 : PV) (h : PHeap) : runBody (E.cx Tryd.prog kl) Tryd.f82 [x0] h = main E x0 h := by kernel_rfl
theorem call_eq (g : Nat → PV) (lf n : Nat) (x0 : PV) (h : PHeap) : CL g lf (n + 1) fn_bits_TrailingZeros [x0] h = main (env g lf n) x0 h := by
  rw [← main_eq]
  show call Tryd.prog g KL lf (n + 1) 82 [x0] h = _
  rw [call_succ, Tryd.func82]
  kernel_rfl
end bits_TrailingZeros
namespace spec_Joins
noncomputable def main (E : Env) (x0 x1 x2 x3 : PV) (h : PHeap) : Res :=
    (E.C fn_spec_PositionOk [x0, x1, x2] h).bind fun v1 =>
    (E.p.un .not v1.1).bind fun v2 =>
    (wantV v2 false).bind fun v3 =>
    (bif v3 then some (x3, v1.2) else some (.tup [], v1.2)).bind fun v4 =>
    (wantV v2 false).bind fun v5 =>
    (bif v5 then E.C fn_spec_l1In [v4.1, (.int .i64 1), (.int .i64 2)] v4.2 else some (.tup [], v4.2)).bind fun v6 =>
    (wantV v2 false).bind fun v7 =>
    (bif v7 then pv v6.2 (E.p.un .not v6.1) else some (.tup [], v6.2)).bind fun v8 =>
    (E.p.pick v2 (.bool true) v8.1).bind fun v9 =>
    condP v9
     (
      (resV (.bool false)).bind fun v10 =>
      some (v10, v8.2))
     (
      (E.C fn_spec_l2Masks [x0, x1] v8.2).bind fun v11 =>
      (E.C fn_spec_l2Set [x2, x3] v11.2).bind fun v12 =>
      (E.C fn_spec_l2Joins [x0, x1, v11.1, v12.1, x3] v12.2).bind fun v13 =>
      (resV v13.1).bind fun v14 =>
      some (v14, v13.2))
theorem main_eq (E : Env) (x0 x1 x2 x3 : PV) (h : PHeap) : runBody (E.cx Tryd.prog kl) Tryd.f83 [x0, x1, x2, x3] h = main E x0 x1 x2 x3 h := by kernel_rfl
theorem call_eq (g : Nat → PV) (lf n : Nat) (x0 x1 x2 x3 : PV) (h : PHeap) : CL g lf (n + 1) fn_spec_Joins [x0, x1, x2, x3] h = main (env g lf n) x0 x1 x2 x3 h := by
  rw [← main_eq]
  show call Tryd.prog g KL lf (n + 1) 83 [x0, x1, x2, x3] h = _
  rw [call_succ, Tryd.func83]
  kernel_rfl
end spec_Joins
namespace impl_NearCells
noncomputable def lp0 : Code := (codeAt (bodyOf Tryd.f84) [1, 1, 1, 0, 1, 0, 0])
def st0 (x0 x1 x2 x7 x17 x18 : PV) (h : PHeap) : St := ⟨[x0, x1, x2, .junk, .junk, .junk, .junk, x7, .junk, .junk, .junk, .junk, .junk, .junk, .junk, .junk, .junk, x17, x18, .junk, .junk, .junk, .junk, .junk, .junk, .junk, .junk, .junk, .junk, .junk, .junk, .junk, .junk, .junk, .junk, .junk, .junk, .junk, .junk, .junk, .junk, .junk, .junk, .junk, .junk, .junk, .junk, .junk, .junk, .junk, .junk, .junk, .junk, .junk, .junk, .junk, .junk, .junk, .junk], h⟩
def se0_0_1_2_7_17_18_19 (x0 x1 x2 x7 x17 x18 x19 : PV) (h : PHeap) : St := ⟨[x0, x1, x2, .junk, .junk, .junk, .junk, x7, .junk, .junk, .junk, .junk, .junk, .junk, .junk, .junk, .junk, x17, x18, x19, .junk, .junk, .junk, .junk, .junk, .junk, .junk, .junk, .junk, .junk, .junk, .junk, .junk, .junk, .junk, .junk, .junk, .junk, .junk, .junk, .junk, .junk, .junk, .junk, .junk, .junk, .junk, .junk, .junk, .junk, .junk, .junk, .junk, .junk, .junk, .junk, .junk, .junk, .junk], h⟩
noncomputable def K0 (E : Env) (K : PX → St → Res) : PX → St → Res := (kBlock 0 (kSeq (ev (E.cx Tryd.prog kl) (codeAt (bodyOf Tryd.f84) [1, 1, 1, 1])) K))
@[simp] theorem K0_ret (E : Env) (K : PX → St → Res) (s : St) : K0 E K .ret s = K .ret s := by kernel_rfl
noncomputable def body0 (E : Env) (K : PX → St → Res) (x0 x1 x2 x7 x17 x18 : PV) (h : PHeap) : Res :=
    (E.p.bin .lss 3 x18 (.int .i64 6)).bind fun v44 =>
    condP v44
     (
      (E.p.index 92 x17 x18).bind fun v45 =>
      (E.p.alloc 91 h).bind fun v46 =>
      (E.p.store 91 v46.1 v45 v46.2).bind fun v47 =>
      (E.p.bin .quo 3 x2 x1).bind fun v48 =>
      (E.p.indexAddr 91 v46.1 (.int .i64 0)).bind fun v49 =>
      (E.p.load 3 v49 v47).bind fun v50 =>
      (E.p.bin .add 3 v48 v50).bind fun v51 =>
      (E.p.bin .rem 3 x2 x1).bind fun v52 =>
      (E.p.indexAddr 91 v46.1 (.int .i64 1)).bind fun v53 =>
      (E.p.load 3 v53 v47).bind fun v54 =>
      (E.p.bin .add 3 v52 v54).bind fun v55 =>
      (E.p.bin .geq 3 v51 (.int .i64 0)).bind fun v56 =>
      (wantV v56 true).bind fun v57 =>
      (bif v57 then some (v51, v47) else some (.tup [], v47)).bind fun v58 =>
      (wantV v56 true).bind fun v59 =>
      (bif v59 then some (x0, v58.2) else some (.tup [], v58.2)).bind fun v60 =>
      (wantV v56 true).bind fun v61 =>
      (bif v61 then pv v60.2 (E.p.bin .lss 3 v58.1 v60.1) else some (.tup [], v60.2)).bind fun v62 =>
      (E.p.pick v56 v62.1 (.bool false)).bind fun v63 =>
      (wantV v63 true).bind fun v64 =>
      (bif v64 then some (v55, v62.2) else some (.tup [], v62.2)).bind fun v65 =>
      (wantV v63 true).bind fun v66 =>
      (bif v66 then pv v65.2 (E.p.bin .geq 3 v65.1 (.int .i64 0)) else some (.tup [], v65.2)).bind fun v67 =>
      (E.p.pick v63 v67.1 (.bool false)).bind fun v68 =>
      (wantV v68 true).bind fun v69 =>
      (bif v69 then some (v55, v67.2) else some (.tup [], v67.2)).bind fun v70 =>
      (wantV v68 true).bind fun v71 =>
      (bif v71 then some (x1, v70.2) else some (.tup [], v70.2)).bind fun v72 =>
      (wantV v68 true).bind fun v73 =>
      (bif v73 then pv v72.2 (E.p.bin .lss 3 v70.1 v72.1) else some (.tup [], v72.2)).bind fun v74 =>
      (E.p.pick v68 v74.1 (.bool false)).bind fun v75 =>
      condP v75
       (
        (E.p.bin .mul 3 v51 x1).bind fun v76 =>
        (E.p.bin .add 3 v76 v55).bind fun v77 =>
        (E.p.buildSlice 23 1 [(0, v77)] v74.2).bind fun v78 =>
        (E.p.append 23 23 x7 v78.1 v78.2).bind fun v79 =>
        (E.p.bin .add 3 x18 (.int .i64 1)).bind fun v80 =>
        K .normal (st0 x0 x1 x2 v79.1 x17 v80 v79.2))
       (
        (E.p.bin .add 3 x18 (.int .i64 1)).bind fun v81 =>
        K .normal (st0 x0 x1 x2 x7 x17 v81 v74.2)))
     (
      K (.exit 0) (se0_0_1_2_7_17_18_19 x0 x1 x2 x7 x17 x18 v44 h))
theorem body0_eq (E : Env) (K : PX → St → Res) (x0 x1 x2 x7 x17 x18 : PV) (h : PHeap) : ev (E.cx Tryd.prog kl) lp0 (st0 x0 x1 x2 x7 x17 x18 h) K = body0 E K x0 x1 x2 x7 x17 x18 h := by kernel_rfl
theorem after0_se0_0_1_2_7_17_18_19 (E : Env) (x0 x1 x2 x7 x17 x18 x19 : PV) (h : PHeap) : K0 E (kTop Tryd.prog Tryd.f84) (.exit 0) (se0_0_1_2_7_17_18_19 x0 x1 x2 x7 x17 x18 x19 h) =
    (resV x7).bind fun v43 =>
    some (v43, h) := by kernel_rfl
noncomputable def main (E : Env) (x0 x1 x2 : PV) (h : PHeap) : Res :=
    (E.C fn_impl_cellOk [x0, x1, x2] h).bind fun v1 =>
    (E.p.un .not v1.1).bind fun v2 =>
    condP v2
     (
      (resV .nilsl).bind fun v3 =>
      some (v3, v1.2))
     (
      (E.p.load 92 (E.g 0) v1.2).bind fun v4 =>
      loopK (ev (E.cx Tryd.prog impl_NearCells.kl) impl_NearCells.lp0) E.lf (impl_NearCells.st0 x0 x1 x2 .nilsl v4 (.int .i64 0) v1.2) (impl_NearCells.K0 E (kTop Tryd.prog Tryd.f84)))
theorem main_eq (E : Env) (x0 x1 x2 : PV) (h : PHeap) : runBody (E.cx Tryd.prog kl) Tryd.f84 [x0, x1, x2] h = main E x0 x1 x2 h := by kernel_rfl
theorem call_eq (g : Nat → PV) (lf n : Nat) (x0 x1 x2 : PV) (h : PHeap) : CL g lf (n + 1) fn_impl_NearCells [x0, x1, x2] h = main (env g lf n) x0 x1 x2 h := by
  rw [← main_eq]
  show call Tryd.prog g KL lf (n + 1) 84 [x0, x1, x2] h = _
  rw [call_succ, Tryd.func84]
  kernel_rfl
end impl_NearCells
namespace spec_l20Board
noncomputable def main (E : Env) (x0 x1 : PV) (h : PHeap) : Res :=
    (E.p.buildSlice 23 2 [(0, (.int .i64 1)), (1, (.int .i64 1))] h).bind fun v1 =>
    (E.p.buildSlice 23 2 [(0, (.int .i64 1)), (1, (.int .i64 2))] v1.2).bind fun v2 =>
    (E.p.buildSlice 23 2 [(0, (.int .i64 2)), (1, (.int .i64 1))] v2.2).bind fun v3 =>
    (E.p.buildSlice 23 2 [(0, (.int .i64 2)), (1, (.int .i64 2))] v3.2).bind fun v4 =>
    (E.p.buildSlice 23 2 [(0, (.int .i64 2)), (1, (.int .i64 3))] v4.2).bind fun v5 =>
    (E.p.buildSlice 23 2 [(0, (.int .i64 3)), (1, (.int .i64 2))] v5.2).bind fun v6 =>
    (E.p.buildSlice 23 2 [(0, (.int .i64 3)), (1, (.int .i64 3))] v6.2).bind fun v7 =>
    (E.p.buildSlice 23 2 [(0, (.int .i64 2)), (1, (.int .i64 4))] v7.2).bind fun v8 =>
    (E.p.buildSlice 23 2 [(0, (.int .i64 4)), (1, (.int .i64 2))] v8.2).bind fun v9 =>
    (E.p.buildSlice 23 2 [(0, (.int .i64 1)), (1, (.int .i64 4))] v9.2).bind fun v10 =>
    (E.p.buildSlice 23 2 [(0, (.int .i64 2)), (1, (.int .i64 2))] v10.2).bind fun v11 =>
    (E.p.buildSlice 23 2 [(0, (.int .i64 2)), (1, (.int .i64 3))] v11.2).bind fun v12 =>
    (E.p.buildSlice 23 2 [(0, (.int .i64 3)), (1, (.int .i64 2))] v12.2).bind fun v13 =>
    (E.p.buildSlice 93 13 [(0, v1.1), (1, v2.1), (2, v3.1), (3, v4.1), (4, v5.1), (5, v6.1), (6, v7.1), (7, v8.1), (8, v9.1), (9, v10.1), (10, v11.1), (11, v12.1), (12, v13.1)] v13.2).bind fun v14 =>
    (E.C fn_spec_l20Rd_pick [x0, (.int .i64 13)] v14.2).bind fun v15 =>
    (E.p.indexAddr 93 v14.1 v15.1).bind fun v16 =>
    (E.p.load 23 v16 v15.2).bind fun v17 =>
    (E.C fn_spec_l20Rd_odd [x0, x1] v15.2).bind fun v18 =>
    condP v18.1
     (
      (E.p.buildSlice 23 2 [(0, (.int .i64 0)), (1, (.int .i64 2))] v18.2).bind fun v19 =>
      (E.p.buildSlice 23 2 [(0, (.int .i64 3)), (1, (.int .i64 4))] v19.2).bind fun v20 =>
      (E.p.buildSlice 23 2 [(0, (.int .i64 5)), (1, (.int .i64 1))] v20.2).bind fun v21 =>
      (E.p.buildSlice 23 2 [(0, (.int .i64 2)), (1, (.int .i64 (-1)))] v21.2).bind fun v22 =>
      (E.p.buildSlice 23 2 [(0, (.int .i64 1)), (1, (.int .i64 5))] v22.2).bind fun v23 =>
      (E.p.buildSlice 93 5 [(0, v19.1), (1, v20.1), (2, v21.1), (3, v22.1), (4, v23.1)] v23.2).bind fun v24 =>
      (E.C fn_spec_l20Rd_pick [x0, (.int .i64 5)] v24.2).bind fun v25 =>
      (E.p.indexAddr 93 v24.1 v25.1).bind fun v26 =>
      (E.p.load 23 v26 v25.2).bind fun v27 =>
      (E.p.indexAddr 23 v27 (.int .i64 0)).bind fun v28 =>
      (E.p.load 3 v28 v25.2).bind fun v29 =>
      (E.p.indexAddr 23 v27 (.int .i64 1)).bind fun v30 =>
      (E.p.load 3 v30 v25.2).bind fun v31 =>
      (resV v29).bind fun v32 =>
      (resV v31).bind fun v33 =>
      some (.tup [v32, v33], v25.2))
     (
      (E.p.indexAddr 23 v17 (.int .i64 0)).bind fun v34 =>
      (E.p.load 3 v34 v18.2).bind fun v35 =>
      (E.p.indexAddr 23 v17 (.int .i64 1)).bind fun v36 =>
      (E.p.load 3 v36 v18.2).bind fun v37 =>
      (resV v35).bind fun v38 =>
      (resV v37).bind fun v39 =>
      some (.tup [v38, v39], v18.2))
theorem main_eq (E : Env) (x0 x1 : PV) (h : PHeap) : runBody (E.cx Tryd.prog kl) Tryd.f85 [x0, x1] h = main E x0 x1 h := by kernel_rfl
theorem call_eq (g : Nat → PV) (lf n : Nat) (x0 x1 : PV) (h : PHeap) : CL g lf (n + 1) fn_spec_l20Board [x0, x1] h = main (env g lf n) x0 x1 h := by
  rw [← main_eq]
  show call Tryd.prog g KL lf (n + 1) 85 [x0, x1] h = _
  rw [call_succ, Tryd.func85]
  kernel_rfl
end spec_l20Board
namespace spec_l20Rd_odd
noncomputable def main (E : Env) (x0 x1 : PV) (h : PHeap) : Res :=
    (E.p.bin .gtr 3 x1 (.int .i64 0)).bind fun v1 =>
    (wantV v1 true).bind fun v2 =>
    (bif v2 then some (x0, h) else some (.tup [], h)).bind fun v3 =>
    (wantV v1 true).bind fun v4 =>
    (bif v4 then some (x1, v3.2) else some (.tup [], v3.2)).bind fun v5 =>
    (wantV v1 true).bind fun v6 =>
    (bif v6 then E.C fn_spec_l20Rd_pick [v3.1, v5.1] v5.2 else some (.tup [], v5.2)).bind fun v7 =>
    (wantV v1 true).bind fun v8 =>
    (bif v8 then some (x1, v7.2) else some (.tup [], v7.2)).bind fun v9 =>
    (wantV v1 true).bind fun v10 =>
    (bif v10 then pv v9.2 (E.p.bin .sub 3 v9.1 (.int .i64 1)) else some (.tup [], v9.2)).bind fun v11 =>
    (wantV v1 true).bind fun v12 =>
    (bif v12 then pv v11.2 (E.p.bin .eql 3 v7.1 v11.1) else some (.tup [], v11.2)).bind fun v13 =>
    (E.p.pick v1 v13.1 (.bool false)).bind fun v14 =>
    (resV v14).bind fun v15 =>
    some (v15, v13.2)
theorem main_eq (E : Env) (x0 x1 : PV) (h : PHeap) : runBody (E.cx Tryd.prog kl) Tryd.f86 [x0, x1] h = main E x0 x1 h := by kernel_rfl
theorem call_eq (g : Nat → PV) (lf n : Nat) (x0 x1 : PV) (h : PHeap) : CL g lf (n + 1) fn_spec_l20Rd_odd [x0, x1] h = main (env g lf n) x0 x1 h := by
  rw [← main_eq]
  show call Tryd.prog g KL lf (n + 1) 86 [x0, x1] h = _
  rw [call_succ, Tryd.func86]
  kernel_rfl
end spec_l20Rd_odd
namespace bits_TrailingZeros32
noncomputable def main (E : Env) (x0 : PV) (h : PHeap) : Res :=
    (E.p.bin .eql 88 x0 (.int .u32 0)).bind fun v1 =>
    condP v1
     (
      (resV (.int .i64 32)).bind fun v2 =>
      some (v2, h))
     (
      (E.p.un .neg x0).bind fun v3 =>
      (E.p.bin .and 88 x0 v3).bind fun v4 =>
      (E.p.bin .mul 88 v4 (.int .u32 125613361)).bind fun v5 =>
      (E.p.bin .shr 88 v5 (.int .u64 27)).bind fun v6 =>
      (E.p.indexAddr 94 (E.g 1) v6).bind fun v7 =>
      (E.p.load 5 v7 h).bind fun v8 =>
      (E.p.conv 5 3 v8).bind fun v9 =>
      (resV v9).bind fun v10 =>
      some (v10, h))
theorem main_eq (E : Env) (x0 : PV) (h : PHeap) : runBody (E.cx Tryd.prog kl) Tryd.f87 [x0] h = main E x0 h := by kernel_rfl
theorem call_eq (g : Nat → PV) (lf n : Nat) (x0 : PV) (h : PHeap) : CL g lf (n + 1) fn_bits_TrailingZeros32 [x0] h = main (env g lf n) x0 h := by
  rw [← main_eq]
  show call Tryd.prog g KL lf (n + 1) 87 [x0] h = _
  rw [call_succ, Tryd.func87]
  kernel_rfl
end bits_TrailingZeros32
namespace bits_TrailingZeros64
noncomputable def main (E : Env) (x0 : PV) (h : PHeap) : Res :=
    (E.p.bin .eql 90 x0 (.int .u64 0)).bind fun v1 =>
    condP v1
     (
      (resV (.int .i64 64)).bind fun v2 =>
      some (v2, h))
     (
      (E.p.un .neg x0).bind fun v3 =>
      (E.p.bin .and 90 x0 v3).bind fun v4 =>
      (E.p.bin .mul 90 v4 (.int .u64 285870213051353865)).bind fun v5 =>
      (E.p.bin .shr 90 v5 (.int .u64 58)).bind fun v6 =>
      (E.p.indexAddr 95 (E.g 2) v6).bind fun v7 =>
      (E.p.load 5 v7 h).bind fun v8 =>
      (E.p.conv 5 3 v8).bind fun v9 =>
      (resV v9).bind fun v10 =>
      some (v10, h))
theorem main_eq (E : Env) (x0 : PV) (h : PHeap) : runBody (E.cx Tryd.prog kl) Tryd.f88 [x0] h = main E x0 h := by kernel_rfl
theorem call_eq (g : Nat → PV) (lf n : Nat) (x0 : PV) (h : PHeap) : CL g lf (n + 1) fn_bits_TrailingZeros64 [x0] h = main (env g lf n) x0 h := by
  rw [← main_eq]
  show call Tryd.prog g KL lf (n + 1) 88 [x0] h = _
  rw [call_succ, Tryd.func88]
  kernel_rfl
end bits_TrailingZeros64
end Go.Proofs.YtocjdekcmhgjeaaDoor.G

/- Which boards there are: what the program's and the model's functions on a board's sides compute. -/
set_option maxRecDepth 20000
namespace Go.Proofs.YtocjdekcmhgjeaaDoor
open Go Go.Ip G

def boardB (r c : Int) : Bool := decide (1 ≤ r ∧ r ≤ 4 ∧ 1 ≤ c ∧ c ≤ 4 ∧ r * c ≤ 9)

theorem mul_small {r c : Int} (h1 : 1 ≤ r) (h2 : r ≤ 4) (h3 : 1 ≤ c) (h4 : c ≤ 4) : IntKind.i64.wrap (r * c) = r * c := by
  have : r = 1 ∨ r = 2 ∨ r = 3 ∨ r = 4 := by omega
  rcases this with rfl | rfl | rfl | rfl <;> exact wr (by omega)

variable (g : Nat → PV) (lf n : Nat) (h : PHeap)

theorem sizeOk_calls (a : Int) : CL g lf (n + 1) fn_impl_sizeOk [.int .i64 a] h = some (.bool (decide (1 ≤ a ∧ a ≤ 4)), h) := by
  rw [impl_sizeOk.call_eq]
  by_cases h1 : 1 ≤ a <;> simp [impl_sizeOk.main, h1]

theorem boardOk_calls (r c : Int) : CL g lf (n + 2) fn_impl_BoardOk [.int .i64 r, .int .i64 c] h = some (.bool (boardB r c), h) := by
  rw [impl_BoardOk.call_eq]
  by_cases h1 : 1 ≤ r ∧ r ≤ 4
  · by_cases h2 : 1 ≤ c ∧ c ≤ 4
    · simp [impl_BoardOk.main, sizeOk_calls, h1, h2, boardB, mul_small h1.1 h1.2 h2.1 h2.2]
    · have hb : boardB r c = false := by unfold boardB; simp; omega
      simp [impl_BoardOk.main, sizeOk_calls, h1, h2, hb]
  · have hb : boardB r c = false := by unfold boardB; simp; omega
    simp [impl_BoardOk.main, sizeOk_calls, h1, hb]

theorem l1In_calls (a lo hi : Int) : CL g lf (n + 1) fn_spec_l1In [.int .i64 a, .int .i64 lo, .int .i64 hi] h = some (.bool (decide (lo ≤ a ∧ a ≤ hi)), h) := by
  rw [spec_l1In.call_eq]
  by_cases h1 : lo ≤ a <;> simp [spec_l1In.main, h1]

theorem specBoardOk_calls (r c : Int) : CL g lf (n + 2) fn_spec_BoardOk [.int .i64 r, .int .i64 c] h = some (.bool (boardB r c), h) := by
  rw [spec_BoardOk.call_eq]
  by_cases h1 : 1 ≤ r ∧ r ≤ 4
  · by_cases h2 : 1 ≤ c ∧ c ≤ 4
    · simp [spec_BoardOk.main, l1In_calls, h1, h2, boardB, mul_small h1.1 h1.2 h2.1 h2.2]
    · have hb : boardB r c = false := by unfold boardB; simp; omega
      simp [spec_BoardOk.main, l1In_calls, h1, h2, hb]
  · have hb : boardB r c = false := by unfold boardB; simp; omega
    simp [spec_BoardOk.main, l1In_calls, h1, hb]

end Go.Proofs.YtocjdekcmhgjeaaDoor

/- What the laws' helpers on slices of integers, and both functions that check a position, compute. -/
set_option maxRecDepth 20000
namespace Go.Proofs.YtocjdekcmhgjeaaDoor
open Go Go.Ip G

variable (g : Nat → PV) (lf n : Nat)

/-! ### toIntS: a copy -/
theorem toIntS_loop (k0 : PX → St → Res) {xs : List Int} {p : PV} : ∀ (m i fuel : Nat) (q : PV) (ys : List Int) (h : PHeap) (b : Nat), i + m = xs.length → m < fuel → ys.length = xs.length → xs.length ≤ 2 ^ 36 →
    OwnSl b h q ys → b ≤ h.length → (∀ h', Keep b h h' → IntSl .i64 h' p xs) →
    ∃ h' zs, loopK (ev ((env g lf n).cx Tryd.prog laws_toIntS.kl) laws_toIntS.lp0) fuel (laws_toIntS.st0 p q (.int .i64 i) h) (laws_toIntS.K0 (env g lf n) (kTop Tryd.prog Tryd.f30)) = some (q, h') ∧
      OwnSl b h' q zs ∧ zs = ys.take i ++ xs.drop i ∧ Keep b h h'
  | 0, i, fuel, q, ys, h, b, him, hf, hly, hlx, ho, hb, hp => by
    obtain ⟨f, rfl⟩ : ∃ f, fuel = f + 1 := ⟨fuel - 1, by omega⟩
    have hq : resV q = some q := by
      rcases ho with ⟨rfl, _⟩ | ⟨id, _, rfl, _⟩ <;> rfl
    refine ⟨h, ys, ?_, ho, ?_, Keep.refl _ _⟩
    · rw [loopK_succ, laws_toIntS.body0_eq]
      have hlt : ¬ ((i : Int) < (xs.length : Int)) := by omega
      simp [laws_toIntS.body0, (hp h (Keep.refl _ _)).len', hlt, laws_toIntS.after0_se0_0_3_4_11, hq]
    · have : i = xs.length := by omega
      rw [this, List.drop_length, List.append_nil, ← hly, List.take_length]
  | m + 1, i, fuel, q, ys, h, b, him, hf, hly, hlx, ho, hb, hp => by
    obtain ⟨f, rfl⟩ : ∃ f, fuel = f + 1 := ⟨fuel - 1, by omega⟩
    have hi : i < xs.length := by omega
    have hi' : i < ys.length := by omega
    obtain ⟨a, ha, hl⟩ := (hp h (Keep.refl _ _)).at' hi
    obtain ⟨a2, h2, ha2, hs2, ho2, hk2, hlen2⟩ := ho.store hi' xs[i]
    obtain ⟨h', zs, hr, ho', hz, hk'⟩ := toIntS_loop k0 m (i + 1) f q (ys.set i xs[i]) h2 b (by omega) (by omega) (by simpa using hly) hlx ho2 (by omega) (fun h3 hk3 => hp h3 (hk2.trans hk3))
    refine ⟨h', zs, ?_, ho', ?_, hk2.trans hk'⟩
    · rw [loopK_succ, laws_toIntS.body0_eq]
      have hlt : (i : Int) < (xs.length : Int) := by omega
      simp only [laws_toIntS.body0, env_len, env_bin, env_indexAddr, env_load, env_store, (hp h (Keep.refl _ _)).len', bin_lss, hlt, decide_true, Option.bind_some, cond_bool, cond_true, ha, hl, ha2, hs2, bin_add, nx (show i < 2 ^ 40 by omega), kLoop_normal]
      exact hr
    · rw [hz]
      apply List.ext_getElem?
      intro j
      by_cases hj : j < i
      · rw [List.getElem?_append_left (by simp; omega), List.getElem?_append_left (by simp; omega)]
        simp [hj, show j < i + 1 by omega, List.getElem?_set_ne (show i ≠ j by omega)]
      · by_cases hji : j = i
        · subst hji
          rw [List.getElem?_append_left (by simp; omega), List.getElem?_append_right (by simp; omega)]
          simp [List.getElem?_set_self hi', Nat.min_eq_left (show j ≤ ys.length by omega)]
        · rw [List.getElem?_append_right (by simp; omega), List.getElem?_append_right (by simp; omega)]
          simp only [List.length_take, List.length_set, List.getElem?_drop]
          congr 1
          omega

theorem toIntS_calls {xs : List Int} {p : PV} {h : PHeap} (N : Nat) (hN : 1 ≤ N) (hp : IntSl .i64 h p xs) (hl : xs.length ≤ 2 ^ 36) (hf : xs.length < lf) :
    ∃ q h', CL g lf N fn_laws_toIntS [p] h = some (q, h') ∧ OwnSl h.length h' q xs ∧ Keep h.length h h' := by
  obtain ⟨n, rfl⟩ : ∃ n, N = n + 1 := ⟨N - 1, by omega⟩
  rw [laws_toIntS.call_eq]
  obtain ⟨q, h1, hm, ho, hk⟩ := made (h := h) hl
  obtain ⟨h', zs, hr, ho', hz, hk'⟩ := toIntS_loop g lf n (fun _ _ => none) xs.length 0 lf q (List.replicate xs.length 0) h1 h.length (by omega) hf (by simp) hl ho hk.1 (fun h' hk' => hp.keep (hk.trans hk'))
  refine ⟨q, h', ?_, ?_, hk.trans hk'⟩
  · simp only [laws_toIntS.main, env_len, env_make, env_lf, hp.len', Option.bind_some, hm]
    exact hr
  · simp at hz; rw [hz] at ho'; exact ho'

/-! ### eqIntS: are two lists equal? -/
theorem eqIntS_loop {xs ys : List Int} {p q : PV} {h : PHeap} (hp : IntSl .i64 h p xs) (hq : IntSl .i64 h q ys) (hxy : xs.length = ys.length) (hl : xs.length ≤ 2 ^ 36) : ∀ (m i fuel : Nat), i + m = xs.length → m < fuel →
    loopK (ev ((env g lf n).cx Tryd.prog laws_eqIntS.kl) laws_eqIntS.lp0) fuel (laws_eqIntS.st0 p q (.int .i64 i) h) (laws_eqIntS.K0 (env g lf n) (kTop Tryd.prog Tryd.f31)) = some (.bool (decide (xs.drop i = ys.drop i)), h)
  | 0, i, fuel, him, hf => by
    obtain ⟨f, rfl⟩ : ∃ f, fuel = f + 1 := ⟨fuel - 1, by omega⟩
    rw [loopK_succ, laws_eqIntS.body0_eq]
    have hlt : ¬ ((i : Int) < (xs.length : Int)) := by omega
    have hd : xs.drop i = ys.drop i := by rw [List.drop_eq_nil_of_le (by omega), List.drop_eq_nil_of_le (by omega)]
    simp [laws_eqIntS.body0, hp.len', hlt, laws_eqIntS.after0_se0_0_1_5_14, hd]
  | m + 1, i, fuel, him, hf => by
    obtain ⟨f, rfl⟩ : ∃ f, fuel = f + 1 := ⟨fuel - 1, by omega⟩
    have hi : i < xs.length := by omega
    have hi' : i < ys.length := by omega
    obtain ⟨a, ha, hla⟩ := hp.at' hi
    obtain ⟨b, hb, hlb⟩ := hq.at' hi'
    have ih := eqIntS_loop hp hq hxy hl m (i + 1) f (by omega) (by omega)
    have hlt : (i : Int) < (xs.length : Int) := by omega
    rw [loopK_succ, laws_eqIntS.body0_eq]
    have hdx : xs.drop i = xs[i] :: xs.drop (i + 1) := List.drop_eq_getElem_cons hi
    have hdy : ys.drop i = ys[i] :: ys.drop (i + 1) := List.drop_eq_getElem_cons hi'
    by_cases he : xs[i] = ys[i]
    · have hne : (xs[i] != ys[i]) = false := by simp [he]
      simp only [laws_eqIntS.body0, env_len, env_bin, env_indexAddr, env_load, hp.len', bin_lss, hlt, decide_true, Option.bind_some, cond_bool, cond_true, ha, hla, hb, hlb, bin_neq, hne, cond_false, bin_add, nx (show i < 2 ^ 40 by omega), kLoop_normal, ih]
      rw [hdx, hdy, he]
      simp only [List.cons.injEq, true_and]
    · have hne : (xs[i] != ys[i]) = true := by simp [he]
      simp only [laws_eqIntS.body0, env_len, env_bin, env_indexAddr, env_load, hp.len', bin_lss, hlt, decide_true, Option.bind_some, cond_bool, cond_true, ha, hla, hb, hlb, bin_neq, hne, kLoop_ret, laws_eqIntS.K0_ret, laws_eqIntS.top_sr_4, res_bool, Option.bind_some]
      rw [hdx, hdy]
      simp only [List.cons.injEq, he, false_and, decide_false]

theorem eqIntS_calls {xs ys : List Int} {p q : PV} {h : PHeap} (hp : IntSl .i64 h p xs) (hq : IntSl .i64 h q ys) (hl : xs.length ≤ 2 ^ 36) (hf : xs.length < lf) :
    CL g lf (n + 1) fn_laws_eqIntS [p, q] h = some (.bool (decide (xs = ys)), h) := by
  rw [laws_eqIntS.call_eq]
  by_cases hxy : xs.length = ys.length
  · have := eqIntS_loop g lf n hp hq hxy hl xs.length 0 lf (by omega) hf
    simp only [laws_eqIntS.main, env_len, env_bin, env_lf, hp.len', hq.len', Option.bind_some, bin_neq, hxy, bne_self_eq_false, cond_bool, cond_false]
    simpa using this
  · have hne : ((xs.length : Int) != (ys.length : Int)) = true := by simp; omega
    have hd : ¬ xs = ys := fun e => hxy (by rw [e])
    simp [laws_eqIntS.main, hp.len', hq.len', hne, hd]

/-! ### positions -/
def contentB (x : Int) : Bool := decide (0 ≤ x ∧ x ≤ 2)
def posB (r c : Int) (xs : List Int) : Bool := boardB r c && decide ((xs.length : Int) = r * c) && xs.all contentB

theorem contentOk_calls (a : Int) (h : PHeap) : CL g lf (n + 1) fn_impl_contentOk [.int .i64 a] h = some (.bool (contentB a), h) := by
  rw [impl_contentOk.call_eq]
  by_cases h0 : a = 0
  · subst h0; simp [impl_contentOk.main, contentB]
  · by_cases h1 : a = 1
    · subst h1; simp [impl_contentOk.main, contentB]
    · by_cases h2 : a = 2
      · subst h2; simp [impl_contentOk.main, contentB]
      · have : contentB a = false := by unfold contentB; simp; omega
        have b0 : (a == 0) = false := by simp [h0]
        have b1 : (a == 1) = false := by simp [h1]
        have b2 : (a == 2) = false := by simp [h2]
        simp [impl_contentOk.main, b0, b1, b2, this]

theorem posOk_loop {xs : List Int} {p : PV} {h : PHeap} (hp : IntSl .i64 h p xs) (hl : xs.length ≤ 2 ^ 36) : ∀ (m i fuel : Nat), i + m = xs.length → m < fuel →
    loopK (ev ((env g lf (n + 1)).cx Tryd.prog impl_PositionOk.kl) impl_PositionOk.lp0) fuel (impl_PositionOk.st0 p (.int .i64 xs.length) (.int .i64 i) h) (impl_PositionOk.K0 (env g lf (n + 1)) (kTop Tryd.prog Tryd.f36)) = some (.bool ((xs.drop i).all contentB), h)
  | 0, i, fuel, him, hf => by
    obtain ⟨f, rfl⟩ : ∃ f, fuel = f + 1 := ⟨fuel - 1, by omega⟩
    rw [loopK_succ, impl_PositionOk.body0_eq]
    have hlt : ¬ ((i : Int) < (xs.length : Int)) := by omega
    simp [impl_PositionOk.body0, hlt, impl_PositionOk.after0_se0_21_22_23_24, List.drop_eq_nil_of_le (show xs.length ≤ i by omega)]
  | m + 1, i, fuel, him, hf => by
    obtain ⟨f, rfl⟩ : ∃ f, fuel = f + 1 := ⟨fuel - 1, by omega⟩
    have hi : i < xs.length := by omega
    obtain ⟨a, ha, hla⟩ := hp.at' hi
    have ih := posOk_loop hp hl m (i + 1) f (by omega) (by omega)
    have hlt : (i : Int) < (xs.length : Int) := by omega
    rw [loopK_succ, impl_PositionOk.body0_eq]
    have hdx : xs.drop i = xs[i] :: xs.drop (i + 1) := List.drop_eq_getElem_cons hi
    cases hc : contentB xs[i] with
    | true =>
      simp only [impl_PositionOk.body0, env_C, env_bin, env_indexAddr, env_load, env_un, contentOk_calls, bin_lss, hlt, decide_true, Option.bind_some, cond_bool, cond_true, ha, hla, hc, un_not, Bool.not_true, cond_false, bin_add, nx (show i < 2 ^ 40 by omega), kLoop_normal, ih]
      rw [hdx, List.all_cons, hc, Bool.true_and]
    | false =>
      simp only [impl_PositionOk.body0, env_C, env_bin, env_indexAddr, env_load, env_un, contentOk_calls, bin_lss, hlt, decide_true, Option.bind_some, cond_bool, cond_true, ha, hla, hc, un_not, Bool.not_false, kLoop_ret, impl_PositionOk.K0_ret, impl_PositionOk.top_sr_6, res_bool, Option.bind_some]
      rw [hdx, List.all_cons, hc, Bool.false_and]

theorem positionOk_calls {xs : List Int} {p : PV} {h : PHeap} (r c : Int) (hp : IntSl .i64 h p xs) (hl : xs.length ≤ 2 ^ 36) (hf : xs.length < lf) :
    CL g lf (n + 3) fn_impl_PositionOk [.int .i64 r, .int .i64 c, p] h = some (.bool (posB r c xs), h) := by
  rw [impl_PositionOk.call_eq]
  unfold posB
  cases hb : boardB r c with
  | false => simp [impl_PositionOk.main, boardOk_calls, hb]
  | true =>
    have hb' := hb
    unfold boardB at hb'
    have hm := of_decide_eq_true hb'
    have hmul := mul_small hm.1 hm.2.1 hm.2.2.1 hm.2.2.2.1
    by_cases hlen : (xs.length : Int) = r * c
    · have := posOk_loop g lf (n + 1) hp hl xs.length 0 lf (by omega) hf
      have hne : ((xs.length : Int) != r * c) = false := by simp [hlen]
      simp only [impl_PositionOk.main, env_C, env_len, env_bin, env_un, env_pick, env_lf, boardOk_calls, hb, Option.bind_some, un_not, Bool.not_true, want_bool, BEq.rfl, cond_true, hp.len', pv_some', bin_mul, hmul, bin_neq, hne, pick_bool, cond_false, cond_bool]
      simpa [hlen] using this
    · have hne : ((xs.length : Int) != r * c) = true := by simp [hlen]
      simp [impl_PositionOk.main, boardOk_calls, hb, hp.len', hmul, hne, hlen]

theorem specPos_loop {xs : List Int} {p : PV} {h : PHeap} (r c : Int) (hp : IntSl .i64 h p xs) (hl : xs.length ≤ 2 ^ 36) : ∀ (m i fuel : Nat), i + m = xs.length → m < fuel →
    loopK (ev ((env g lf (n + 2)).cx Tryd.prog spec_PositionOk.kl) spec_PositionOk.lp0) fuel (spec_PositionOk.st0 (.int .i64 r) (.int .i64 c) p (.int .i64 i) h) (spec_PositionOk.K0 (env g lf (n + 2)) (kTop Tryd.prog Tryd.f13)) =
      some (.bool ((xs.drop i).all contentB && (boardB r c && decide ((xs.length : Int) = r * c))), h)
  | 0, i, fuel, him, hf => by
    obtain ⟨f, rfl⟩ : ∃ f, fuel = f + 1 := ⟨fuel - 1, by omega⟩
    rw [loopK_succ, spec_PositionOk.body0_eq]
    have hlt : ¬ ((i : Int) < (xs.length : Int)) := by omega
    have hd : xs.drop i = [] := List.drop_eq_nil_of_le (show xs.length ≤ i by omega)
    cases hb : boardB r c with
    | false => simp [spec_PositionOk.body0, hp.len', hlt, spec_PositionOk.after0_se0_0_1_2_7_11, specBoardOk_calls, hb, hd]
    | true =>
      have hb' := hb
      unfold boardB at hb'
      have hm := of_decide_eq_true hb'
      have hmul := mul_small hm.1 hm.2.1 hm.2.2.1 hm.2.2.2.1
      simp [spec_PositionOk.body0, hp.len', hlt, spec_PositionOk.after0_se0_0_1_2_7_11, specBoardOk_calls, hb, hd, hmul]
      rfl
  | m + 1, i, fuel, him, hf => by
    obtain ⟨f, rfl⟩ : ∃ f, fuel = f + 1 := ⟨fuel - 1, by omega⟩
    have hi : i < xs.length := by omega
    obtain ⟨a, ha, hla⟩ := hp.at' hi
    have ih := specPos_loop r c hp hl m (i + 1) f (by omega) (by omega)
    have hlt : (i : Int) < (xs.length : Int) := by omega
    rw [loopK_succ, spec_PositionOk.body0_eq]
    have hdx : xs.drop i = xs[i] :: xs.drop (i + 1) := List.drop_eq_getElem_cons hi
    have hcb : contentB xs[i] = decide (0 ≤ xs[i] ∧ xs[i] ≤ 2) := rfl
    cases hc : contentB xs[i] with
    | true =>
      rw [hcb] at hc
      simp only [spec_PositionOk.body0, env_C, env_len, env_bin, env_indexAddr, env_load, env_un, l1In_calls, hp.len', bin_lss, hlt, decide_true, Option.bind_some, cond_bool, cond_true, ha, hla, hc, un_not, Bool.not_true, cond_false, bin_add, nx (show i < 2 ^ 40 by omega), kLoop_normal, ih]
      rw [hdx, List.all_cons, hcb, hc, Bool.true_and]
    | false =>
      rw [hcb] at hc
      simp only [spec_PositionOk.body0, env_C, env_len, env_bin, env_indexAddr, env_load, env_un, l1In_calls, hp.len', bin_lss, hlt, decide_true, Option.bind_some, cond_bool, cond_true, ha, hla, hc, un_not, Bool.not_false, kLoop_ret, spec_PositionOk.K0_ret, spec_PositionOk.top_sr_6, res_bool, Option.bind_some]
      rw [hdx, List.all_cons, hcb, hc, Bool.false_and, Bool.false_and]

theorem specPositionOk_calls {xs : List Int} {p : PV} {h : PHeap} (r c : Int) (hp : IntSl .i64 h p xs) (hl : xs.length ≤ 2 ^ 36) (hf : xs.length < lf) :
    CL g lf (n + 3) fn_spec_PositionOk [.int .i64 r, .int .i64 c, p] h = some (.bool (posB r c xs), h) := by
  rw [spec_PositionOk.call_eq]
  have := specPos_loop g lf n r c hp hl xs.length 0 lf (by omega) hf
  simp only [spec_PositionOk.main, env_lf]
  rw [show ((0 : Nat) : Int) = 0 from rfl] at this
  rw [this]
  unfold posB
  rw [List.drop_zero, Bool.and_comm]

end Go.Proofs.YtocjdekcmhgjeaaDoor

/- The exact law on positions. -/
set_option maxRecDepth 20000
namespace Go.Proofs.YtocjdekcmhgjeaaDoor
open Go Go.Ip G

variable (g : Nat → PV) (lf n : Nat)

end Go.Proofs.YtocjdekcmhgjeaaDoor

