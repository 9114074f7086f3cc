/- Texts of this seat, in their order, put together by program. -/
import Derived.Test.YtlfjjjhjjmikfaaK6
import Derived.IntWalk
import Derived.Test.YtlfjjjhjjmikfaaProg
import Derived.KernelRfl
set_option linter.unusedSimpArgs false
set_option linter.unusedVariables false
/- What the operations come to on values that are written out: rules for the simplifier; and the types of this program. -/
namespace Go.Proofs.Ytlfjjjhjjmikfaa
open Go Go.Ip

section
variable {P : Program} {t : TypeId} {k : IntKind} {a b : Int} {h : PHeap}

@[simp] theorem bin_add : binP P .add t (.int k a) (.int k b) = some (.int k (k.wrap (a + b))) := by simp [binP, binI]
@[simp] theorem bin_sub : binP P .sub t (.int k a) (.int k b) = some (.int k (k.wrap (a - b))) := by simp [binP, binI]
@[simp] theorem bin_mul : binP P .mul t (.int k a) (.int k b) = some (.int k (k.wrap (a * b))) := by simp [binP, binI]
theorem bin_quo (hb : b ≠ 0) : binP P .quo t (.int k a) (.int k b) = some (.int k (k.wrap (a.tdiv b))) := by simp [binP, binI, hb]
theorem bin_rem (hb : b ≠ 0) : binP P .rem t (.int k a) (.int k b) = some (.int k (a.tmod b)) := by simp [binP, binI, hb]
@[simp] theorem bin_eql : binP P .eql t (.int k a) (.int k b) = some (.bool (a == b)) := by simp [binP, binI]
@[simp] theorem bin_neq : binP P .neq t (.int k a) (.int k b) = some (.bool (a != b)) := by simp [binP, binI]
@[simp] theorem bin_lss : binP P .lss t (.int k a) (.int k b) = some (.bool (decide (a < b))) := by simp [binP, binI]
@[simp] theorem bin_leq : binP P .leq t (.int k a) (.int k b) = some (.bool (decide (a ≤ b))) := by simp [binP, binI]
@[simp] theorem bin_gtr : binP P .gtr t (.int k a) (.int k b) = some (.bool (decide (b < a))) := by simp [binP, binI]
@[simp] theorem bin_geq : binP P .geq t (.int k a) (.int k b) = some (.bool (decide (b ≤ a))) := by simp [binP, binI]
@[simp] theorem un_not {x : Bool} : unP .not (.bool x) = some (.bool (!x)) := rfl
@[simp] theorem un_neg : unP .neg (.int k a) = some (.int k (k.wrap (0 - a))) := rfl
@[simp] theorem pick_bool {x : Bool} {u v : PV} : pickP (.bool x) u v = some (bif x then u else v) := rfl
@[simp] theorem want_bool {x y : Bool} : wantV (.bool x) y = some (x == y) := rfl
@[simp] theorem want_undef {y : Bool} : wantV (.tup []) y = some false := rfl
@[simp] theorem cond_bool {x : Bool} {u v : Res} : condP (.bool x) u v = bif x then u else v := rfl
@[simp] theorem res_int : resV (.int k a) = some (.int k a) := rfl
@[simp] theorem res_bool {x : Bool} : resV (.bool x) = some (.bool x) := rfl
@[simp] theorem res_sl {i o l : Nat} : resV (.sl i o l) = some (.sl i o l) := rfl
@[simp] theorem res_nilsl : resV .nilsl = some .nilsl := rfl
@[simp] theorem res_ptr {i o : Nat} : resV (.ptr i o) = some (.ptr i o) := rfl
@[simp] theorem pv_some' {v : PV} : pv h (some v) = some (v, h) := rfl
@[simp] theorem ptr_ptr {i o : Nat} : ptrP (.ptr i o) = some (.ptr i o) := rfl
@[simp] theorem extract_tup {l : List PV} {i : Nat} : extractP (.tup l) i = l[i]? := rfl
@[simp] theorem fold_nil {f : PV → PV → Option PV} {x : PV} : foldP f x [] = some x := rfl
@[simp] theorem fold_cons {f : PV → PV → Option PV} {x y : PV} {ys : List PV} : foldP f x (y :: ys) = (f x y).bind fun z => foldP f z ys := rfl
@[simp] theorem max2_int {k' : IntKind} : maxP2 (.int k a) (.int k' b) = some (.int k (if b > a then b else a)) := rfl
@[simp] theorem min2_int {k' : IntKind} : minP2 (.int k a) (.int k' b) = some (.int k (if b < a then b else a)) := rfl
theorem wr {x : Int} (hx : -9223372036854775808 ≤ x ∧ x ≤ 9223372036854775807) : IntKind.i64.wrap x = x := by rw [IntKind.wrap_i64]; omega

theorem bin_eqlB {x y : Bool} (ht : isBoolT P t = true) : binP P .eql t (.bool x) (.bool y) = some (.bool (x == y)) := by simp [binP, ht]
theorem bin_neqB {x y : Bool} (ht : isBoolT P t = true) : binP P .neq t (.bool x) (.bool y) = some (.bool (!(x == y))) := by simp [binP, ht]
end

@[simp] theorem ty_bool : isBoolT Try.prog 4 = true := by kernel_rfl
@[simp] theorem neqB {x y : Bool} : binP Try.prog .neq 4 (.bool x) (.bool y) = some (.bool (!(x == y))) := bin_neqB ty_bool
@[simp] theorem eqlB {x y : Bool} : binP Try.prog .eql 4 (.bool x) (.bool y) = some (.bool (x == y)) := bin_eqlB ty_bool

end Go.Proofs.Ytlfjjjhjjmikfaa

/- Slices of integers on the interpreter's heap: how they are read, made, written and appended to. -/
namespace Go.Proofs.Ytlfjjjhjjmikfaa
open Go Go.Ip G

def kLoop (f : St → (PX → St → Res) → Res) (n : Nat) (k : PX → St → Res) : PX → St → Res := fun x s => match x with | .normal => loopK f n s k | x => k x s
theorem loopK_succ (f : St → (PX → St → Res) → Res) (n : Nat) (s : St) (k : PX → St → Res) : loopK f (n + 1) s k = f s (kLoop f n k) := rfl
@[simp] theorem kLoop_normal (f : St → (PX → St → Res) → Res) (n : Nat) (s : St) (k : PX → St → Res) : kLoop f n k .normal s = loopK f n s k := rfl
@[simp] theorem kLoop_exit (f : St → (PX → St → Res) → Res) (n i : Nat) (s : St) (k : PX → St → Res) : kLoop f n k (.exit i) s = k (.exit i) s := rfl
@[simp] theorem kLoop_ret (f : St → (PX → St → Res) → Res) (n : Nat) (s : St) (k : PX → St → Res) : kLoop f n k .ret s = k .ret s := rfl

/-- The first n objects are as they were. -/
def Keep (n : Nat) (h h' : PHeap) : Prop := h.length ≤ h'.length ∧ ∀ i, i < n → h'[i]? = h[i]?

theorem Keep.refl (n : Nat) (h : PHeap) : Keep n h h := ⟨Nat.le_refl _, fun _ _ => rfl⟩
theorem Keep.trans {n : Nat} {a b c : PHeap} (h : Keep n a b) (k : Keep n b c) : Keep n a c := ⟨Nat.le_trans h.1 k.1, fun i hi => (k.2 i hi).trans (h.2 i hi)⟩
theorem Keep.mono {n m : Nat} {a b : PHeap} (h : Keep n a b) (hm : m ≤ n) : Keep m a b := ⟨h.1, fun i hi => h.2 i (by omega)⟩
theorem Keep.append (n : Nat) (h E : PHeap) (hn : n ≤ h.length) : Keep n h (h ++ E) := ⟨by simp, fun i hi => List.getElem?_append_left (by omega)⟩
theorem Keep.set (n : Nat) (h : PHeap) (i : Nat) (o : PObj) (hi : n ≤ i) : Keep n h (h.set i o) := ⟨by simp, fun j hj => List.getElem?_set_ne (by omega)⟩

theorem cellsAt_keep {n : Nat} {h h' : PHeap} (k : Keep n h h') {id : Nat} (hi : id < n) : cellsAt h' id = cellsAt h id := by
  unfold cellsAt; rw [k.2 id hi]

theorem lt_of_cell {h : PHeap} {id j : Nat} {v : PV} (hv : (cellsAt h id)[j]? = some v) : id < h.length := by
  unfold cellsAt at hv
  cases ho : h[id]? with
  | none => rw [ho] at hv; simp at hv
  | some o => exact (List.getElem?_eq_some_iff.1 ho).1

theorem IntSl.keep {k : IntKind} {h h' : PHeap} {p : PV} {xs : List Int} (s : IntSl k h p xs) (hk : Keep h.length h h') : IntSl k h' p xs := by
  rcases s with s | ⟨id, off, hp, hc⟩
  · exact .inl s
  · exact .inr ⟨id, off, hp, fun i x hx => by rw [cellsAt_keep hk (lt_of_cell (hc i x hx))]; exact hc i x hx⟩

theorem IntSl.nil (k : IntKind) (h : PHeap) : IntSl k h .nilsl [] := .inl ⟨rfl, rfl⟩

section
variable {P : Program} {T I : TypeId}

theorem IntSl.len {k : IntKind} {h : PHeap} {p : PV} {xs : List Int} (s : IntSl k h p xs) (hT : P.underlying T = some (.slice I)) : lenP P T p = some (.int .i64 xs.length) := by
  rcases s with ⟨rfl, rfl⟩ | ⟨id, off, rfl, hc⟩ <;> simp [lenP, hT]

theorem IntSl.at {k : IntKind} {h : PHeap} {p : PV} {xs : List Int} (s : IntSl k h p xs) (hT : P.underlying T = some (.slice I)) (hS : sizeT P I = some 1) (hA : isAggT P I = some false) {i : Nat} (hi : i < xs.length) :
    ∃ a, indexAddrP P T p (.int .i64 i) = some a ∧ loadP P I a h = some (.int k xs[i]) := by
  rcases s with ⟨rfl, rfl⟩ | ⟨id, off, rfl, hc⟩
  · simp at hi
  · refine ⟨.ptr id (off + i), ?_, ?_⟩
    · simp [indexAddrP, hT, hS, hi]
    · simp only [loadP, hA]
      exact hc i _ (List.getElem?_eq_getElem hi)
end

/-- A slice of integers that the call itself made, from object n on. -/
def OwnSl (n : Nat) (h : PHeap) (p : PV) (xs : List Int) : Prop :=
  (p = .nilsl ∧ xs = []) ∨ ∃ id, n ≤ id ∧ p = .sl id 0 xs.length ∧ h[id]? = some (.own 1 (xs.map (.int .i64)))

theorem OwnSl.int {n : Nat} {h : PHeap} {p : PV} {xs : List Int} (s : OwnSl n h p xs) : IntSl .i64 h p xs := by
  rcases s with s | ⟨id, _, hp, ho⟩
  · exact .inl s
  · refine .inr ⟨id, 0, hp, fun i x hx => ?_⟩
    simp [cellsAt, ho, PObj.get, hx]

theorem OwnSl.mono {n m : Nat} {h : PHeap} {p : PV} {xs : List Int} (s : OwnSl n h p xs) (hm : m ≤ n) : OwnSl m h p xs := by
  rcases s with s | ⟨id, h1, h2⟩
  · exact .inl s
  · exact .inr ⟨id, by omega, h2⟩

theorem OwnSl.keep {n : Nat} {h h' : PHeap} {p : PV} {xs : List Int} (s : OwnSl n h p xs) (hk : Keep h.length h h') : OwnSl n h' p xs := by
  rcases s with s | ⟨id, h1, h2, h3⟩
  · exact .inl s
  · exact .inr ⟨id, h1, h2, by rw [hk.2 id (List.getElem?_eq_some_iff.1 h3).1]; exact h3⟩

theorem OwnSl.nil (n : Nat) (h : PHeap) : OwnSl n h .nilsl [] := .inl ⟨rfl, rfl⟩

theorem tyS : Try.prog.underlying 30 = some (.slice 3) := by kernel_rfl
theorem tySize : sizeT Try.prog 3 = some 1 := by kernel_rfl
theorem tyAgg : isAggT Try.prog 3 = some false := by kernel_rfl
theorem tyElem : elemT Try.prog 30 = some 3 := by kernel_rfl
theorem tyZero : zeroCellsT Try.prog 3 = some [.int .i64 0] := by kernel_rfl
theorem tySmall : smallT Try.prog 3 = true := by kernel_rfl

theorem IntSl.len' {k : IntKind} {h : PHeap} {p : PV} {xs : List Int} (s : IntSl k h p xs) : lenP Try.prog 30 p = some (.int .i64 xs.length) := s.len tyS
theorem IntSl.at' {k : IntKind} {h : PHeap} {p : PV} {xs : List Int} (s : IntSl k h p xs) {i : Nat} (hi : i < xs.length) :
    ∃ a, indexAddrP Try.prog 30 p (.int .i64 i) = some a ∧ loadP Try.prog 3 a h = some (.int k xs[i]) := s.at tyS tySize tyAgg hi

theorem OwnSl.store {n : Nat} {h : PHeap} {p : PV} {xs : List Int} (s : OwnSl n h p xs) {i : Nat} (hi : i < xs.length) (x : Int) :
    ∃ a h', indexAddrP Try.prog 30 p (.int .i64 i) = some a ∧ storeP Try.prog 3 a (.int .i64 x) h = some h' ∧ OwnSl n h' p (xs.set i x) ∧ Keep n h h' ∧ h'.length = h.length := by
  rcases s with ⟨rfl, rfl⟩ | ⟨id, h1, rfl, h3⟩
  · simp at hi
  · have hid : id < h.length := (List.getElem?_eq_some_iff.1 h3).1
    refine ⟨.ptr id (0 + i), h.set id (.own 1 ((xs.set i x).map (.int .i64))), by simp [indexAddrP, tySize, hi], ?_, .inr ⟨id, h1, by simp, by rw [List.getElem?_set_self hid]⟩, Keep.set _ _ _ _ h1, by simp⟩
    simp only [storeP, h3, PV.cells, tySize, Nat.zero_add]
    rw [if_pos ⟨rfl, by simp; omega⟩]
    simp [setCells, List.map_set]

/-- What 'make' gives. -/
theorem made {h : PHeap} {m : Nat} (hm : m ≤ 2 ^ 36) : ∃ p h', makeP Try.prog 30 (.int .i64 m) (.int .i64 m) h = some (p, h') ∧ OwnSl h.length h' p (List.replicate m 0) ∧ Keep h.length h h' := by
  refine ⟨.sl h.length 0 m, h ++ [.own 1 ((List.replicate m 0).map (.int .i64))], ?_, .inr ⟨h.length, Nat.le_refl _, by simp, by simp⟩, Keep.append _ _ _ (Nat.le_refl _)⟩
  have hrep : ∀ k : Nat, repeatCells [PV.int .i64 0] k = (List.replicate k (0 : Int)).map (.int .i64) := by
    intro k
    induction k with
    | zero => rfl
    | succ k ih => rw [repeatCells, ih, List.replicate_succ]; rfl
  have hm' : (m : Int) ≤ 68719476736 := by omega
  simp [makeP, tyElem, tySize, tyZero, tySmall, hm', hrep]

/-- One element more. -/
theorem OwnSl.append {n : Nat} {h : PHeap} {p : PV} {xs : List Int} (s : OwnSl n h p xs) (hn : n ≤ h.length) (x : Int) (hl : xs.length + 1 ≤ 2 ^ 36) :
    ∃ v p' h', buildSliceP Try.prog 30 1 [(0, .int .i64 x)] h = some v ∧ appendP Try.prog 30 30 p v.1 v.2 = some (p', h') ∧ OwnSl n h' p' (xs ++ [x]) ∧ Keep n h h' := by
  have hb : buildSliceP Try.prog 30 1 [(0, .int .i64 x)] h = some (.sl h.length 0 1, h ++ [.own 1 [.int .i64 x]]) := by
    simp [buildSliceP, tyElem, tySize, tyZero, repeatCells, fillP, PV.cells, setCells]
  have hsrc : srcP (h ++ [.own 1 [.int .i64 x]]) 1 (.sl h.length 0 1) = some (1, [.int .i64 x]) := by
    simp [srcP, cellsAt, PObj.get]
  rcases s with ⟨rfl, rfl⟩ | ⟨id, h1, rfl, h3⟩
  · refine ⟨_, .sl (h.length + 1) 0 1, h ++ [.own 1 [.int .i64 x]] ++ [.own 1 [.int .i64 x]], hb, ?_, .inr ⟨h.length + 1, by omega, rfl, ?_⟩, ?_⟩
    · simp [appendP, tyElem, tySize, tySmall, hsrc]
    · rw [List.getElem?_append_right (by simp)]; simp
    · rw [List.append_assoc]; exact Keep.append _ _ _ hn
  · have hid : id < h.length := (List.getElem?_eq_some_iff.1 h3).1
    have h3' : (h ++ [PObj.own 1 [.int .i64 x]])[id]? = some (.own 1 (xs.map (.int .i64))) := by rw [List.getElem?_append_left hid]; exact h3
    refine ⟨_, .sl (h.length + 1) 0 (xs.length + 1), ((h ++ [PObj.own 1 [.int .i64 x]]).set id .dead ++ [PObj.own 1 (xs.map (.int .i64) ++ [.int .i64 x])]), hb, ?_, .inr ⟨h.length + 1, by omega, by simp, ?_⟩, ?_⟩
    · simp [appendP, tyElem, tySize, tySmall, hsrc, h3', hl]
    · rw [List.getElem?_append_right (by simp)]; simp
    · exact ((Keep.append n h _ hn).trans (Keep.set n _ id .dead h1)).trans (Keep.append _ _ _ (by simp; omega))

/-- An empty literal. -/
theorem empty_lit {h : PHeap} : ∃ p h', buildSliceP Try.prog 30 0 [] h = some (p, h') ∧ OwnSl h.length h' p [] ∧ Keep h.length h h' := by
  refine ⟨.sl h.length 0 0, h ++ [.own 1 []], by simp [buildSliceP, tyElem, tySize, tyZero, repeatCells, fillP], .inr ⟨h.length, Nat.le_refl _, rfl, by simp⟩, Keep.append _ _ _ (Nat.le_refl _)⟩

theorem nx {i : Nat} (hi : i < 2 ^ 40) : IntKind.i64.wrap ((i : Int) + 1) = ((i + 1 : Nat) : Int) := by
  rw [wr (by omega)]; rfl

end Go.Proofs.Ytlfjjjhjjmikfaa

/- Of each function of this seat's program its plain form over the interpreter, written by program; each equation is the kernel's. -/
set_option linter.unusedVariables false
set_option maxRecDepth 100000
namespace Go.Proofs.Ytlfjjjhjjmikfaa.G
open Go Go.Ip Go.Proofs

namespace laws_FnPairCell
noncomputable def main (E : Env) (x0 : PV) (h : PHeap) : Res :=
    (E.p.len 22 x0).bind fun v1 =>
    (E.p.bin .gtr 3 v1 (.int .i64 1048576)).bind fun v2 =>
    condP v2
     (
      (resV (.bool true)).bind fun v3 =>
      some (v3, h))
     (
      (E.C fn_spec_DrawPairCell [x0] h).bind fun v4 =>
      (E.p.extract v4.1 0).bind fun v5 =>
      (E.p.extract v4.1 1).bind fun v6 =>
      (E.p.extract v4.1 2).bind fun v7 =>
      (E.C fn_impl_PairCell [v5, v6, v7] v4.2).bind fun v8 =>
      (E.C fn_spec_PairCell [v5, v6, v7] v8.2).bind fun v9 =>
      (E.p.bin .neq 3 v8.1 v9.1).bind fun v10 =>
      condP v10
       (
        (resV (.bool false)).bind fun v11 =>
        some (v11, v9.2))
       (
        (E.p.bin .lss 3 v8.1 (.int .i64 0)).bind fun v12 =>
        condP v12
         (
          (E.p.bin .eql 3 v8.1 (.int .i64 (-1))).bind fun v13 =>
          (wantV v13 true).bind fun v14 =>
          (bif v14 then some (v5, v9.2) else some (.tup [], v9.2)).bind fun v15 =>
          (wantV v13 true).bind fun v16 =>
          (bif v16 then some (v6, v15.2) else some (.tup [], v15.2)).bind fun v17 =>
          (wantV v13 true).bind fun v18 =>
          (bif v18 then E.C fn_spec_BoardOk [v15.1, v17.1] v17.2 else some (.tup [], v17.2)).bind fun v19 =>
          (wantV v13 true).bind fun v20 =>
          (bif v20 then pv v19.2 (E.p.un .not v19.1) else some (.tup [], v19.2)).bind fun v21 =>
          (wantV v13 true).bind fun v22 =>
          (bif v22 then some (v21.1, v21.2) else some (.tup [], v21.2)).bind fun v23 =>
          (wantV v23.1 false).bind fun v24 =>
          (bif v24 then some (v6, v23.2) else some (.tup [], v23.2)).bind fun v25 =>
          (wantV v23.1 false).bind fun v26 =>
          (bif v26 then some (v5, v25.2) else some (.tup [], v25.2)).bind fun v27 =>
          (wantV v23.1 false).bind fun v28 =>
          (bif v28 then pv v27.2 (E.p.bin .add 3 v27.1 (.int .i64 1)) else some (.tup [], v27.2)).bind fun v29 =>
          (wantV v23.1 false).bind fun v30 =>
          (bif v30 then pv v29.2 (E.p.bin .neq 3 v25.1 v29.1) else some (.tup [], v29.2)).bind fun v31 =>
          (wantV v13 true).bind fun v32 =>
          (bif v32 then pv v31.2 (E.p.pick v23.1 (.bool true) v31.1) else some (.tup [], v31.2)).bind fun v33 =>
          (wantV v13 true).bind fun v34 =>
          (bif v34 then some (v33.1, v33.2) else some (.tup [], v33.2)).bind fun v35 =>
          (wantV v35.1 false).bind fun v36 =>
          (bif v36 then some (v7, v35.2) else some (.tup [], v35.2)).bind fun v37 =>
          (wantV v35.1 false).bind fun v38 =>
          (bif v38 then some (v5, v37.2) else some (.tup [], v37.2)).bind fun v39 =>
          (wantV v35.1 false).bind fun v40 =>
          (bif v40 then some (v6, v39.2) else some (.tup [], v39.2)).bind fun v41 =>
          (wantV v35.1 false).bind fun v42 =>
          (bif v42 then pv v41.2 (E.p.bin .mul 3 v39.1 v41.1) else some (.tup [], v41.2)).bind fun v43 =>
          (wantV v35.1 false).bind fun v44 =>
          (bif v44 then pv v43.2 (E.p.bin .geq 3 v37.1 v43.1) else some (.tup [], v43.2)).bind fun v45 =>
          (wantV v13 true).bind fun v46 =>
          (bif v46 then pv v45.2 (E.p.pick v35.1 (.bool true) v45.1) else some (.tup [], v45.2)).bind fun v47 =>
          (E.p.pick v13 v47.1 (.bool false)).bind fun v48 =>
          (wantV v48 true).bind fun v49 =>
          (bif v49 then E.C fn_laws_alive [] v47.2 else some (.tup [], v47.2)).bind fun v50 =>
          (E.p.pick v48 v50.1 (.bool false)).bind fun v51 =>
          (resV v51).bind fun v52 =>
          some (v52, v50.2))
         (
          (E.p.bin .neq 3 v8.1 v7).bind fun v53 =>
          (wantV v53 true).bind fun v54 =>
          (bif v54 then some (v8.1, v9.2) else some (.tup [], v9.2)).bind fun v55 =>
          (wantV v53 true).bind fun v56 =>
          (bif v56 then some (v5, v55.2) else some (.tup [], v55.2)).bind fun v57 =>
          (wantV v53 true).bind fun v58 =>
          (bif v58 then some (v6, v57.2) else some (.tup [], v57.2)).bind fun v59 =>
          (wantV v53 true).bind fun v60 =>
          (bif v60 then pv v59.2 (E.p.bin .mul 3 v57.1 v59.1) else some (.tup [], v59.2)).bind fun v61 =>
          (wantV v53 true).bind fun v62 =>
          (bif v62 then pv v61.2 (E.p.bin .lss 3 v55.1 v61.1) else some (.tup [], v61.2)).bind fun v63 =>
          (E.p.pick v53 v63.1 (.bool false)).bind fun v64 =>
          (wantV v64 true).bind fun v65 =>
          (bif v65 then some (v5, v63.2) else some (.tup [], v63.2)).bind fun v66 =>
          (wantV v64 true).bind fun v67 =>
          (bif v67 then some (v6, v66.2) else some (.tup [], v66.2)).bind fun v68 =>
          (wantV v64 true).bind fun v69 =>
          (bif v69 then some (v8.1, v68.2) else some (.tup [], v68.2)).bind fun v70 =>
          (wantV v64 true).bind fun v71 =>
          (bif v71 then E.C fn_impl_PairCell [v66.1, v68.1, v70.1] v70.2 else some (.tup [], v70.2)).bind fun v72 =>
          (wantV v64 true).bind fun v73 =>
          (bif v73 then some (v7, v72.2) else some (.tup [], v72.2)).bind fun v74 =>
          (wantV v64 true).bind fun v75 =>
          (bif v75 then pv v74.2 (E.p.bin .eql 3 v72.1 v74.1) else some (.tup [], v74.2)).bind fun v76 =>
          (E.p.pick v64 v76.1 (.bool false)).bind fun v77 =>
          (resV v77).bind fun v78 =>
          some (v78, v76.2))))
theorem main_eq (E : Env) (x0 : PV) (h : PHeap) : runBody (E.cx Try.prog kl) Try.f3 [x0] h = main E x0 h := by kernel_rfl
theorem call_eq (g : Nat → PV) (lf n : Nat) (x0 : PV) (h : PHeap) : CL g lf (n + 1) fn_laws_FnPairCell [x0] h = main (env g lf n) x0 h := by
  rw [← main_eq]
  show (match Try.prog.funcs[3]? with | some fn => if fn.body.isSome then runBody ⟨Try.prog, g, call Try.prog g KL lf n, KL 3, lf, std Try.prog⟩ fn [x0] h else none | none => none) = _
  rw [Try.func3]
  kernel_rfl
end laws_FnPairCell
namespace laws_FnExactPairCell
noncomputable def main (E : Env) (x0 x1 x2 : PV) (h : PHeap) : Res :=
    (E.C fn_spec_PairCell [x0, x1, x2] h).bind fun v1 =>
    (E.C fn_impl_PairCell [x0, x1, x2] v1.2).bind fun v2 =>
    (E.p.bin .neq 3 v2.1 v1.1).bind fun v3 =>
    condP v3
     (
      (resV (.bool false)).bind fun v4 =>
      some (v4, v2.2))
     (
      (resV (.bool true)).bind fun v5 =>
      some (v5, v2.2))
theorem main_eq (E : Env) (x0 x1 x2 : PV) (h : PHeap) : runBody (E.cx Try.prog kl) Try.f4 [x0, x1, x2] h = main E x0 x1 x2 h := by kernel_rfl
theorem call_eq (g : Nat → PV) (lf n : Nat) (x0 x1 x2 : PV) (h : PHeap) : CL g lf (n + 1) fn_laws_FnExactPairCell [x0, x1, x2] h = main (env g lf n) x0 x1 x2 h := by
  rw [← main_eq]
  show (match Try.prog.funcs[4]? with | some fn => if fn.body.isSome then runBody ⟨Try.prog, g, call Try.prog g KL lf n, KL 4, lf, std Try.prog⟩ fn [x0, x1, x2] h else none | none => none) = _
  rw [Try.func4]
  kernel_rfl
end laws_FnExactPairCell
namespace laws_FnExactPairFilled
noncomputable def main (E : Env) (x0 x1 x2 : PV) (h : PHeap) : Res :=
    (E.C fn_spec_PairFilled [x0, x1, x2] h).bind fun v1 =>
    (E.C fn_impl_PairFilled [x0, x1, x2] v1.2).bind fun v2 =>
    (E.C fn_laws_eqIntS [v2.1, v1.1] v2.2).bind fun v3 =>
    (E.p.un .not v3.1).bind fun v4 =>
    condP v4
     (
      (resV (.bool false)).bind fun v5 =>
      some (v5, v3.2))
     (
      (E.C fn_laws_markIntS [v2.1, (.int .i64 1)] v3.2).bind fun v6 =>
      (E.C fn_laws_heldIntS [v2.1, (.int .i64 1)] v6.2).bind fun v7 =>
      (E.p.bin .lss 3 v7.1 (.int .i64 0)).bind fun v8 =>
      condP v8
       (
        (resV (.bool false)).bind fun v9 =>
        some (v9, v7.2))
       (
        (E.p.bin .neq 3 v7.1 v6.1).bind fun v10 =>
        condP v10
         (
          (resV (.bool false)).bind fun v11 =>
          some (v11, v7.2))
         (
          (E.C fn_impl_PairFilled [x0, x1, x2] v7.2).bind fun v12 =>
          (E.C fn_laws_eqIntS [v12.1, v1.1] v12.2).bind fun v13 =>
          (E.p.un .not v13.1).bind fun v14 =>
          condP v14
           (
            (resV (.bool false)).bind fun v15 =>
            some (v15, v13.2))
           (
            (E.C fn_laws_heldIntS [v2.1, (.int .i64 1)] v13.2).bind fun v16 =>
            (E.p.bin .lss 3 v16.1 (.int .i64 0)).bind fun v17 =>
            condP v17
             (
              (resV (.bool false)).bind fun v18 =>
              some (v18, v16.2))
             (
              (E.p.bin .neq 3 v16.1 v6.1).bind fun v19 =>
              condP v19
               (
                (resV (.bool false)).bind fun v20 =>
                some (v20, v16.2))
               (
                (resV (.bool true)).bind fun v21 =>
                some (v21, v16.2)))))))
theorem main_eq (E : Env) (x0 x1 x2 : PV) (h : PHeap) : runBody (E.cx Try.prog kl) Try.f5 [x0, x1, x2] h = main E x0 x1 x2 h := by kernel_rfl
theorem call_eq (g : Nat → PV) (lf n : Nat) (x0 x1 x2 : PV) (h : PHeap) : CL g lf (n + 1) fn_laws_FnExactPairFilled [x0, x1, x2] h = main (env g lf n) x0 x1 x2 h := by
  rw [← main_eq]
  show (match Try.prog.funcs[5]? with | some fn => if fn.body.isSome then runBody ⟨Try.prog, g, call Try.prog g KL lf n, KL 5, lf, std Try.prog⟩ fn [x0, x1, x2] h else none | none => none) = _
  rw [Try.func5]
  kernel_rfl
end laws_FnExactPairFilled
namespace spec_DrawPairCell
noncomputable def main (E : Env) (x0 : PV) (h : PHeap) : Res :=
    (E.C fn_spec_l20Open [x0] h).bind fun v1 =>
    (E.C fn_spec_l20Wide [v1.1] v1.2).bind fun v2 =>
    (E.p.extract v2.1 0).bind fun v3 =>
    (E.p.extract v2.1 1).bind fun v4 =>
    (E.p.bin .mul 3 v3 v4).bind fun v5 =>
    (E.C fn_spec_l20Rd_pick [v1.1, v5] v2.2).bind fun v6 =>
    (E.C fn_spec_l20Rd_pick [v1.1, (.int .i64 40)] v6.2).bind fun v7 =>
    (E.p.bin .quo 3 v7.1 (.int .i64 39)).bind fun v8 =>
    (E.p.bin .mul 3 v8 (.int .i64 12)).bind fun v9 =>
    (E.p.bin .add 3 v6.1 v9).bind fun v10 =>
    (resV v3).bind fun v11 =>
    (resV v4).bind fun v12 =>
    (resV v10).bind fun v13 =>
    some (.tup [v11, v12, v13], v7.2)
theorem main_eq (E : Env) (x0 : PV) (h : PHeap) : runBody (E.cx Try.prog kl) Try.f6 [x0] h = main E x0 h := by kernel_rfl
theorem call_eq (g : Nat → PV) (lf n : Nat) (x0 : PV) (h : PHeap) : CL g lf (n + 1) fn_spec_DrawPairCell [x0] h = main (env g lf n) x0 h := by
  rw [← main_eq]
  show (match Try.prog.funcs[6]? with | some fn => if fn.body.isSome then runBody ⟨Try.prog, g, call Try.prog g KL lf n, KL 6, lf, std Try.prog⟩ fn [x0] h else none | none => none) = _
  rw [Try.func6]
  kernel_rfl
end spec_DrawPairCell
namespace impl_PairCell
noncomputable def main (E : Env) (x0 x1 x2 : PV) (h : PHeap) : Res :=
    (E.C fn_impl_widerOk [x0, x1] h).bind fun v1 =>
    (E.p.un .not v1.1).bind fun v2 =>
    (wantV v2 false).bind fun v3 =>
    (bif v3 then some (x0, v1.2) else some (.tup [], v1.2)).bind fun v4 =>
    (wantV v2 false).bind fun v5 =>
    (bif v5 then some (x1, v4.2) else some (.tup [], v4.2)).bind fun v6 =>
    (wantV v2 false).bind fun v7 =>
    (bif v7 then some (x2, v6.2) else some (.tup [], v6.2)).bind fun v8 =>
    (wantV v2 false).bind fun v9 =>
    (bif v9 then E.C fn_impl_cellOk [v4.1, v6.1, v8.1] v8.2 else some (.tup [], v8.2)).bind fun v10 =>
    (wantV v2 false).bind fun v11 =>
    (bif v11 then pv v10.2 (E.p.un .not v10.1) else some (.tup [], v10.2)).bind fun v12 =>
    (E.p.pick v2 (.bool true) v12.1).bind fun v13 =>
    condP v13
     (
      (resV (.int .i64 (-1))).bind fun v14 =>
      some (v14, v12.2))
     (
      (E.p.bin .quo 3 x2 x1).bind fun v15 =>
      (E.p.bin .rem 3 x2 x1).bind fun v16 =>
      (E.p.bin .gtr 3 v16 x0).bind fun v17 =>
      condP v17
       (
        (resV (.int .i64 (-1))).bind fun v18 =>
        some (v18, v12.2))
       (
        (E.p.bin .gtr 3 v16 v15).bind fun v19 =>
        condP v19
         (
          (E.p.bin .sub 3 v16 (.int .i64 1)).bind fun v20 =>
          (E.p.bin .mul 3 v20 x1).bind fun v21 =>
          (E.p.bin .add 3 v21 v15).bind fun v22 =>
          (resV v22).bind fun v23 =>
          some (v23, v12.2))
         (
          (E.p.bin .mul 3 v16 x1).bind fun v24 =>
          (E.p.bin .add 3 v24 v15).bind fun v25 =>
          (E.p.bin .add 3 v25 (.int .i64 1)).bind fun v26 =>
          (resV v26).bind fun v27 =>
          some (v27, v12.2))))
theorem main_eq (E : Env) (x0 x1 x2 : PV) (h : PHeap) : runBody (E.cx Try.prog kl) Try.f7 [x0, x1, x2] h = main E x0 x1 x2 h := by kernel_rfl
theorem call_eq (g : Nat → PV) (lf n : Nat) (x0 x1 x2 : PV) (h : PHeap) : CL g lf (n + 1) fn_impl_PairCell [x0, x1, x2] h = main (env g lf n) x0 x1 x2 h := by
  rw [← main_eq]
  show (match Try.prog.funcs[7]? with | some fn => if fn.body.isSome then runBody ⟨Try.prog, g, call Try.prog g KL lf n, KL 7, lf, std Try.prog⟩ fn [x0, x1, x2] h else none | none => none) = _
  rw [Try.func7]
  kernel_rfl
end impl_PairCell
namespace spec_PairCell
noncomputable def main (E : Env) (x0 x1 x2 : PV) (h : PHeap) : Res :=
    (E.C fn_spec_BoardOk [x0, x1] h).bind fun v1 =>
    (E.p.un .not v1.1).bind fun v2 =>
    (wantV v2 false).bind fun v3 =>
    (bif v3 then some (x1, v1.2) else some (.tup [], v1.2)).bind fun v4 =>
    (wantV v2 false).bind fun v5 =>
    (bif v5 then some (x0, v4.2) else some (.tup [], v4.2)).bind fun v6 =>
    (wantV v2 false).bind fun v7 =>
    (bif v7 then pv v6.2 (E.p.bin .leq 3 v4.1 v6.1) else some (.tup [], v6.2)).bind fun v8 =>
    (E.p.pick v2 (.bool true) v8.1).bind fun v9 =>
    (wantV v9 false).bind fun v10 =>
    (bif v10 then some (x2, v8.2) else some (.tup [], v8.2)).bind fun v11 =>
    (wantV v9 false).bind fun v12 =>
    (bif v12 then some (x0, v11.2) else some (.tup [], v11.2)).bind fun v13 =>
    (wantV v9 false).bind fun v14 =>
    (bif v14 then some (x1, v13.2) else some (.tup [], v13.2)).bind fun v15 =>
    (wantV v9 false).bind fun v16 =>
    (bif v16 then pv v15.2 (E.p.bin .mul 3 v13.1 v15.1) else some (.tup [], v15.2)).bind fun v17 =>
    (wantV v9 false).bind fun v18 =>
    (bif v18 then pv v17.2 (E.p.bin .sub 3 v17.1 (.int .i64 1)) else some (.tup [], v17.2)).bind fun v19 =>
    (wantV v9 false).bind fun v20 =>
    (bif v20 then E.C fn_spec_l1In [v11.1, (.int .i64 0), v19.1] v19.2 else some (.tup [], v19.2)).bind fun v21 =>
    (wantV v9 false).bind fun v22 =>
    (bif v22 then pv v21.2 (E.p.un .not v21.1) else some (.tup [], v21.2)).bind fun v23 =>
    (E.p.pick v9 (.bool true) v23.1).bind fun v24 =>
    condP v24
     (
      (resV (.int .i64 (-1))).bind fun v25 =>
      some (v25, v23.2))
     (
      (E.C fn_spec_l4Pair [x0, x1, x2] v23.2).bind fun v26 =>
      (resV v26.1).bind fun v27 =>
      some (v27, v26.2))
theorem main_eq (E : Env) (x0 x1 x2 : PV) (h : PHeap) : runBody (E.cx Try.prog kl) Try.f8 [x0, x1, x2] h = main E x0 x1 x2 h := by kernel_rfl
theorem call_eq (g : Nat → PV) (lf n : Nat) (x0 x1 x2 : PV) (h : PHeap) : CL g lf (n + 1) fn_spec_PairCell [x0, x1, x2] h = main (env g lf n) x0 x1 x2 h := by
  rw [← main_eq]
  show (match Try.prog.funcs[8]? with | some fn => if fn.body.isSome then runBody ⟨Try.prog, g, call Try.prog g KL lf n, KL 8, lf, std Try.prog⟩ fn [x0, x1, x2] h else none | none => none) = _
  rw [Try.func8]
  kernel_rfl
end spec_PairCell
namespace spec_BoardOk
noncomputable def main (E : Env) (x0 x1 : PV) (h : PHeap) : Res :=
    (E.C fn_spec_l1In [x0, (.int .i64 1), (.int .i64 4)] h).bind fun v1 =>
    (wantV v1.1 true).bind fun v2 =>
    (bif v2 then some (x1, v1.2) else some (.tup [], v1.2)).bind fun v3 =>
    (wantV v1.1 true).bind fun v4 =>
    (bif v4 then E.C fn_spec_l1In [v3.1, (.int .i64 1), (.int .i64 4)] v3.2 else some (.tup [], v3.2)).bind fun v5 =>
    (E.p.pick v1.1 v5.1 (.bool false)).bind fun v6 =>
    (wantV v6 true).bind fun v7 =>
    (bif v7 then some (x0, v5.2) else some (.tup [], v5.2)).bind fun v8 =>
    (wantV v6 true).bind fun v9 =>
    (bif v9 then some (x1, v8.2) else some (.tup [], v8.2)).bind fun v10 =>
    (wantV v6 true).bind fun v11 =>
    (bif v11 then pv v10.2 (E.p.bin .mul 3 v8.1 v10.1) else some (.tup [], v10.2)).bind fun v12 =>
    (wantV v6 true).bind fun v13 =>
    (bif v13 then pv v12.2 (E.p.bin .leq 3 v12.1 (.int .i64 9)) else some (.tup [], v12.2)).bind fun v14 =>
    (E.p.pick v6 v14.1 (.bool false)).bind fun v15 =>
    (resV v15).bind fun v16 =>
    some (v16, v14.2)
theorem main_eq (E : Env) (x0 x1 : PV) (h : PHeap) : runBody (E.cx Try.prog kl) Try.f9 [x0, x1] h = main E x0 x1 h := by kernel_rfl
theorem call_eq (g : Nat → PV) (lf n : Nat) (x0 x1 : PV) (h : PHeap) : CL g lf (n + 1) fn_spec_BoardOk [x0, x1] h = main (env g lf n) x0 x1 h := by
  rw [← main_eq]
  show (match Try.prog.funcs[9]? with | some fn => if fn.body.isSome then runBody ⟨Try.prog, g, call Try.prog g KL lf n, KL 9, lf, std Try.prog⟩ fn [x0, x1] h else none | none => none) = _
  rw [Try.func9]
  kernel_rfl
end spec_BoardOk
namespace laws_alive
noncomputable def main (E : Env) (h : PHeap) : Res :=
    (E.C fn_impl_BoardOk [(.int .i64 2), (.int .i64 2)] h).bind fun v1 =>
    (wantV v1.1 true).bind fun v2 =>
    (bif v2 then E.C fn_impl_BoardOk [(.int .i64 0), (.int .i64 2)] v1.2 else some (.tup [], v1.2)).bind fun v3 =>
    (wantV v1.1 true).bind fun v4 =>
    (bif v4 then pv v3.2 (E.p.un .not v3.1) else some (.tup [], v3.2)).bind fun v5 =>
    (E.p.pick v1.1 v5.1 (.bool false)).bind fun v6 =>
    (resV v6).bind fun v7 =>
    some (v7, v5.2)
theorem main_eq (E : Env) (h : PHeap) : runBody (E.cx Try.prog kl) Try.f10 [] h = main E  h := by kernel_rfl
theorem call_eq (g : Nat → PV) (lf n : Nat) (h : PHeap) : CL g lf (n + 1) fn_laws_alive [] h = main (env g lf n)  h := by
  rw [← main_eq]
  show (match Try.prog.funcs[10]? with | some fn => if fn.body.isSome then runBody ⟨Try.prog, g, call Try.prog g KL lf n, KL 10, lf, std Try.prog⟩ fn [] h else none | none => none) = _
  rw [Try.func10]
  kernel_rfl
end laws_alive
namespace spec_PairFilled
noncomputable def lp0 : Code := (codeAt (bodyOf Try.f11) [1, 1, 1, 0, 1, 0, 0])
def st0 (x0 x1 x2 x7 x8 : PV) (h : PHeap) : St := ⟨[x0, x1, x2, .junk, .junk, .junk, .junk, x7, x8, .junk, .junk, .junk, .junk, .junk, .junk, .junk, .junk, .junk, .junk, .junk, .junk, .junk, .junk, .junk, .junk, .junk, .junk, .junk, .junk, .junk, .junk, .junk, .junk, .junk, .junk, .junk, .junk, .junk, .junk, .junk, .junk, .junk, .junk, .junk, .junk, .junk, .junk, .junk, .junk, .junk, .junk, .junk, .junk, .junk, .junk, .junk, .junk, .junk, .junk, .junk, .junk, .junk, .junk, .junk, .junk, .junk, .junk, .junk, .junk, .junk, .junk, .junk, .junk, .junk, .junk], h⟩
def se0_0_1_2_7_8_31 (x0 x1 x2 x7 x8 x31 : PV) (h : PHeap) : St := ⟨[x0, x1, x2, .junk, .junk, .junk, .junk, x7, x8, .junk, .junk, .junk, .junk, .junk, .junk, .junk, .junk, .junk, .junk, .junk, .junk, .junk, .junk, .junk, .junk, .junk, .junk, .junk, .junk, .junk, .junk, x31, .junk, .junk, .junk, .junk, .junk, .junk, .junk, .junk, .junk, .junk, .junk, .junk, .junk, .junk, .junk, .junk, .junk, .junk, .junk, .junk, .junk, .junk, .junk, .junk, .junk, .junk, .junk, .junk, .junk, .junk, .junk, .junk, .junk, .junk, .junk, .junk, .junk, .junk, .junk, .junk, .junk, .junk, .junk], h⟩
noncomputable def K0 (E : Env) (K : PX → St → Res) : PX → St → Res := (kBlock 0 (kSeq (ev (E.cx Try.prog kl) (codeAt (bodyOf Try.f11) [1, 1, 1, 1])) K))
@[simp] theorem K0_ret (E : Env) (K : PX → St → Res) (s : St) : K0 E K .ret s = K .ret s := by kernel_rfl
noncomputable def body0 (E : Env) (K : PX → St → Res) (x0 x1 x2 x7 x8 : PV) (h : PHeap) : Res :=
    (E.p.len 30 x7).bind fun v59 =>
    (E.p.bin .lss 3 x8 v59).bind fun v60 =>
    condP v60
     (
      (E.C fn_spec_l4Pair [x0, x1, x8] h).bind fun v61 =>
      (E.p.bin .lss 3 v61.1 (.int .i64 0)).bind fun v62 =>
      condP v62
       (
        (E.p.indexAddr 30 x7 x8).bind fun v63 =>
        (E.p.store 3 v63 (.int .i64 2) v61.2).bind fun v64 =>
        (E.p.bin .gtr 3 v61.1 x8).bind fun v65 =>
        condP v65
         (
          (E.p.bin .quo 3 x2 (.int .i64 2)).bind fun v66 =>
          (E.p.bin .add 3 x8 (.int .i64 1)).bind fun v67 =>
          K .normal (st0 x0 x1 v66 x7 v67 v64))
         (
          (E.p.bin .add 3 x8 (.int .i64 1)).bind fun v68 =>
          K .normal (st0 x0 x1 x2 x7 v68 v64)))
       (
        (E.p.bin .gtr 3 v61.1 x8).bind fun v69 =>
        (wantV v69 true).bind fun v70 =>
        (bif v70 then some (x2, v61.2) else some (.tup [], v61.2)).bind fun v71 =>
        (wantV v69 true).bind fun v72 =>
        (bif v72 then pv v71.2 (E.p.bin .rem 3 v71.1 (.int .i64 2)) else some (.tup [], v71.2)).bind fun v73 =>
        (wantV v69 true).bind fun v74 =>
        (bif v74 then pv v73.2 (E.p.bin .eql 3 v73.1 (.int .i64 1)) else some (.tup [], v73.2)).bind fun v75 =>
        (E.p.pick v69 v75.1 (.bool false)).bind fun v76 =>
        condP v76
         (
          (E.p.indexAddr 30 x7 x8).bind fun v77 =>
          (E.p.store 3 v77 (.int .i64 1) v75.2).bind fun v78 =>
          (E.p.indexAddr 30 x7 v61.1).bind fun v79 =>
          (E.p.store 3 v79 (.int .i64 2) v78).bind fun v80 =>
          (E.p.bin .gtr 3 v61.1 x8).bind fun v81 =>
          condP v81
           (
            (E.p.bin .quo 3 x2 (.int .i64 2)).bind fun v82 =>
            (E.p.bin .add 3 x8 (.int .i64 1)).bind fun v83 =>
            K .normal (st0 x0 x1 v82 x7 v83 v80))
           (
            (E.p.bin .add 3 x8 (.int .i64 1)).bind fun v84 =>
            K .normal (st0 x0 x1 x2 x7 v84 v80)))
         (
          (E.p.bin .gtr 3 v61.1 x8).bind fun v85 =>
          condP v85
           (
            (E.p.indexAddr 30 x7 x8).bind fun v86 =>
            (E.p.store 3 v86 (.int .i64 2) v75.2).bind fun v87 =>
            (E.p.indexAddr 30 x7 v61.1).bind fun v88 =>
            (E.p.store 3 v88 (.int .i64 1) v87).bind fun v89 =>
            (E.p.bin .gtr 3 v61.1 x8).bind fun v90 =>
            condP v90
             (
              (E.p.bin .quo 3 x2 (.int .i64 2)).bind fun v91 =>
              (E.p.bin .add 3 x8 (.int .i64 1)).bind fun v92 =>
              K .normal (st0 x0 x1 v91 x7 v92 v89))
             (
              (E.p.bin .add 3 x8 (.int .i64 1)).bind fun v93 =>
              K .normal (st0 x0 x1 x2 x7 v93 v89)))
           (
            (E.p.bin .gtr 3 v61.1 x8).bind fun v94 =>
            condP v94
             (
              (E.p.bin .quo 3 x2 (.int .i64 2)).bind fun v95 =>
              (E.p.bin .add 3 x8 (.int .i64 1)).bind fun v96 =>
              K .normal (st0 x0 x1 v95 x7 v96 v75.2))
             (
              (E.p.bin .add 3 x8 (.int .i64 1)).bind fun v97 =>
              K .normal (st0 x0 x1 x2 x7 v97 v75.2))))))
     (
      K (.exit 0) (se0_0_1_2_7_8_31 x0 x1 x2 x7 x8 v60 h))
theorem body0_eq (E : Env) (K : PX → St → Res) (x0 x1 x2 x7 x8 : PV) (h : PHeap) : ev (E.cx Try.prog kl) lp0 (st0 x0 x1 x2 x7 x8 h) K = body0 E K x0 x1 x2 x7 x8 h := by kernel_rfl
theorem after0_se0_0_1_2_7_8_31 (E : Env) (x0 x1 x2 x7 x8 x31 : PV) (h : PHeap) : K0 E (kTop Try.prog Try.f11) (.exit 0) (se0_0_1_2_7_8_31 x0 x1 x2 x7 x8 x31 h) =
    (resV x7).bind fun v58 =>
    some (v58, h) := by kernel_rfl
noncomputable def main (E : Env) (x0 x1 x2 : PV) (h : PHeap) : Res :=
    (E.C fn_spec_BoardOk [x0, x1] h).bind fun v1 =>
    (E.p.un .not v1.1).bind fun v2 =>
    (wantV v2 false).bind fun v3 =>
    (bif v3 then some (x1, v1.2) else some (.tup [], v1.2)).bind fun v4 =>
    (wantV v2 false).bind fun v5 =>
    (bif v5 then some (x0, v4.2) else some (.tup [], v4.2)).bind fun v6 =>
    (wantV v2 false).bind fun v7 =>
    (bif v7 then pv v6.2 (E.p.bin .leq 3 v4.1 v6.1) else some (.tup [], v6.2)).bind fun v8 =>
    (E.p.pick v2 (.bool true) v8.1).bind fun v9 =>
    (wantV v9 false).bind fun v10 =>
    (bif v10 then some (x2, v8.2) else some (.tup [], v8.2)).bind fun v11 =>
    (wantV v9 false).bind fun v12 =>
    (bif v12 then pv v11.2 (E.p.bin .lss 3 v11.1 (.int .i64 0)) else some (.tup [], v11.2)).bind fun v13 =>
    (E.p.pick v9 (.bool true) v13.1).bind fun v14 =>
    condP v14
     (
      (E.p.buildSlice 30 0 [] v13.2).bind fun v15 =>
      (resV v15.1).bind fun v16 =>
      some (v16, v15.2))
     (
      (E.p.bin .mul 3 x0 x1).bind fun v17 =>
      (E.p.make 30 v17 v17 v13.2).bind fun v18 =>
      loopK (ev (E.cx Try.prog spec_PairFilled.kl) spec_PairFilled.lp0) E.lf (spec_PairFilled.st0 x0 x1 x2 v18.1 (.int .i64 0) v18.2) (spec_PairFilled.K0 E (kTop Try.prog Try.f11)))
theorem main_eq (E : Env) (x0 x1 x2 : PV) (h : PHeap) : runBody (E.cx Try.prog kl) Try.f11 [x0, x1, x2] h = main E x0 x1 x2 h := by kernel_rfl
theorem call_eq (g : Nat → PV) (lf n : Nat) (x0 x1 x2 : PV) (h : PHeap) : CL g lf (n + 1) fn_spec_PairFilled [x0, x1, x2] h = main (env g lf n) x0 x1 x2 h := by
  rw [← main_eq]
  show (match Try.prog.funcs[11]? with | some fn => if fn.body.isSome then runBody ⟨Try.prog, g, call Try.prog g KL lf n, KL 11, lf, std Try.prog⟩ fn [x0, x1, x2] h else none | none => none) = _
  rw [Try.func11]
  kernel_rfl
end spec_PairFilled
namespace impl_PairFilled
noncomputable def lp0 : Code := (codeAt (bodyOf Try.f12) [1, 1, 1, 0, 1, 0, 0])
def st0 (x0 x1 x2 x7 x25 x26 : PV) (h : PHeap) : St := ⟨[x0, x1, x2, .junk, .junk, .junk, .junk, x7, .junk, .junk, .junk, .junk, .junk, .junk, .junk, .junk, .junk, .junk, .junk, .junk, .junk, .junk, .junk, .junk, .junk, x25, x26, .junk, .junk, .junk, .junk, .junk, .junk, .junk, .junk, .junk, .junk, .junk, .junk, .junk, .junk, .junk, .junk, .junk, .junk, .junk, .junk, .junk, .junk], h⟩
def se0_0_1_2_7_25_26_27 (x0 x1 x2 x7 x25 x26 x27 : PV) (h : PHeap) : St := ⟨[x0, x1, x2, .junk, .junk, .junk, .junk, x7, .junk, .junk, .junk, .junk, .junk, .junk, .junk, .junk, .junk, .junk, .junk, .junk, .junk, .junk, .junk, .junk, .junk, x25, x26, x27, .junk, .junk, .junk, .junk, .junk, .junk, .junk, .junk, .junk, .junk, .junk, .junk, .junk, .junk, .junk, .junk, .junk, .junk, .junk, .junk, .junk], h⟩
noncomputable def K0 (E : Env) (K : PX → St → Res) : PX → St → Res := (kBlock 0 (kSeq (ev (E.cx Try.prog kl) (codeAt (bodyOf Try.f12) [1, 1, 1, 1])) K))
@[simp] theorem K0_ret (E : Env) (K : PX → St → Res) (s : St) : K0 E K .ret s = K .ret s := by kernel_rfl
noncomputable def body0 (E : Env) (K : PX → St → Res) (x0 x1 x2 x7 x25 x26 : PV) (h : PHeap) : Res :=
    (E.p.bin .lss 3 x26 x25).bind fun v27 =>
    condP v27
     (
      (E.C fn_impl_PairCell [x0, x1, x26] h).bind fun v28 =>
      (E.p.bin .lss 3 v28.1 x26).bind fun v29 =>
      condP v29
       (
        (E.p.bin .add 3 x26 (.int .i64 1)).bind fun v30 =>
        K .normal (st0 x0 x1 x2 x7 x25 v30 v28.2))
       (
        (E.p.bin .and 3 x2 (.int .i64 1)).bind fun v31 =>
        (E.p.bin .eql 3 v31 (.int .i64 1)).bind fun v32 =>
        condP v32
         (
          (E.p.indexAddr 30 x7 x26).bind fun v33 =>
          (E.p.store 3 v33 (.int .i64 1) v28.2).bind fun v34 =>
          (E.p.bin .shr 3 x2 (.int .u64 1)).bind fun v35 =>
          (E.p.bin .add 3 x26 (.int .i64 1)).bind fun v36 =>
          K .normal (st0 x0 x1 v35 x7 x25 v36 v34))
         (
          (E.p.indexAddr 30 x7 v28.1).bind fun v37 =>
          (E.p.store 3 v37 (.int .i64 1) v28.2).bind fun v38 =>
          (E.p.bin .shr 3 x2 (.int .u64 1)).bind fun v39 =>
          (E.p.bin .add 3 x26 (.int .i64 1)).bind fun v40 =>
          K .normal (st0 x0 x1 v39 x7 x25 v40 v38))))
     (
      K (.exit 0) (se0_0_1_2_7_25_26_27 x0 x1 x2 x7 x25 x26 v27 h))
theorem body0_eq (E : Env) (K : PX → St → Res) (x0 x1 x2 x7 x25 x26 : PV) (h : PHeap) : ev (E.cx Try.prog kl) lp0 (st0 x0 x1 x2 x7 x25 x26 h) K = body0 E K x0 x1 x2 x7 x25 x26 h := by kernel_rfl
theorem after0_se0_0_1_2_7_25_26_27 (E : Env) (x0 x1 x2 x7 x25 x26 x27 : PV) (h : PHeap) : K0 E (kTop Try.prog Try.f12) (.exit 0) (se0_0_1_2_7_25_26_27 x0 x1 x2 x7 x25 x26 x27 h) =
    (resV x7).bind fun v26 =>
    some (v26, h) := by kernel_rfl
noncomputable def main (E : Env) (x0 x1 x2 : PV) (h : PHeap) : Res :=
    (E.C fn_impl_widerOk [x0, x1] h).bind fun v1 =>
    (E.p.un .not v1.1).bind fun v2 =>
    (wantV v2 false).bind fun v3 =>
    (bif v3 then some (x2, v1.2) else some (.tup [], v1.2)).bind fun v4 =>
    (wantV v2 false).bind fun v5 =>
    (bif v5 then pv v4.2 (E.p.bin .lss 3 v4.1 (.int .i64 0)) else some (.tup [], v4.2)).bind fun v6 =>
    (E.p.pick v2 (.bool true) v6.1).bind fun v7 =>
    condP v7
     (
      (resV .nilsl).bind fun v8 =>
      some (v8, v6.2))
     (
      (E.C fn_impl_freeBoard [x0, x1] v6.2).bind fun v9 =>
      (E.C fn_impl_Filled [x0, x1, v9.1, (.int .i64 2)] v9.2).bind fun v10 =>
      (E.p.len 30 v10.1).bind fun v11 =>
      loopK (ev (E.cx Try.prog impl_PairFilled.kl) impl_PairFilled.lp0) E.lf (impl_PairFilled.st0 x0 x1 x2 v10.1 v11 (.int .i64 0) v10.2) (impl_PairFilled.K0 E (kTop Try.prog Try.f12)))
theorem main_eq (E : Env) (x0 x1 x2 : PV) (h : PHeap) : runBody (E.cx Try.prog kl) Try.f12 [x0, x1, x2] h = main E x0 x1 x2 h := by kernel_rfl
theorem call_eq (g : Nat → PV) (lf n : Nat) (x0 x1 x2 : PV) (h : PHeap) : CL g lf (n + 1) fn_impl_PairFilled [x0, x1, x2] h = main (env g lf n) x0 x1 x2 h := by
  rw [← main_eq]
  show (match Try.prog.funcs[12]? with | some fn => if fn.body.isSome then runBody ⟨Try.prog, g, call Try.prog g KL lf n, KL 12, lf, std Try.prog⟩ fn [x0, x1, x2] h else none | none => none) = _
  rw [Try.func12]
  kernel_rfl
end impl_PairFilled
namespace laws_eqIntS
noncomputable def lp0 : Code := (codeAt (bodyOf Try.f13) [1, 1, 0, 1, 0, 0])
def st0 (x0 x1 x5 : PV) (h : PHeap) : St := ⟨[x0, x1, .junk, .junk, .junk, x5, .junk, .junk, .junk, .junk, .junk, .junk, .junk, .junk, .junk, .junk, .junk, .junk, .junk, .junk, .junk, .junk, .junk, .junk, .junk, .junk], h⟩
def sr_4 (x4 : PV) (h : PHeap) : St := ⟨[.junk, .junk, .junk, .junk, x4, .junk, .junk, .junk, .junk, .junk, .junk, .junk, .junk, .junk, .junk, .junk, .junk, .junk, .junk, .junk, .junk, .junk, .junk, .junk, .junk, .junk], h⟩
def se0_0_1_5_14 (x0 x1 x5 x14 : PV) (h : PHeap) : St := ⟨[x0, x1, .junk, .junk, .junk, x5, .junk, .junk, .junk, .junk, .junk, .junk, .junk, .junk, x14, .junk, .junk, .junk, .junk, .junk, .junk, .junk, .junk, .junk, .junk, .junk], h⟩
noncomputable def K0 (E : Env) (K : PX → St → Res) : PX → St → Res := (kBlock 0 (kSeq (ev (E.cx Try.prog kl) (codeAt (bodyOf Try.f13) [1, 1, 1])) K))
@[simp] theorem K0_ret (E : Env) (K : PX → St → Res) (s : St) : K0 E K .ret s = K .ret s := by kernel_rfl
noncomputable def body0 (E : Env) (K : PX → St → Res) (x0 x1 x5 : PV) (h : PHeap) : Res :=
    (E.p.len 30 x0).bind fun v14 =>
    (E.p.bin .lss 3 x5 v14).bind fun v15 =>
    condP v15
     (
      (E.p.indexAddr 30 x0 x5).bind fun v16 =>
      (E.p.load 3 v16 h).bind fun v17 =>
      (E.p.indexAddr 30 x1 x5).bind fun v18 =>
      (E.p.load 3 v18 h).bind fun v19 =>
      (E.p.bin .neq 3 v17 v19).bind fun v20 =>
      condP v20
       (
        K .ret (sr_4 (.bool false) h))
       (
        (E.p.bin .add 3 x5 (.int .i64 1)).bind fun v21 =>
        K .normal (st0 x0 x1 v21 h)))
     (
      K (.exit 0) (se0_0_1_5_14 x0 x1 x5 v15 h))
theorem body0_eq (E : Env) (K : PX → St → Res) (x0 x1 x5 : PV) (h : PHeap) : ev (E.cx Try.prog kl) lp0 (st0 x0 x1 x5 h) K = body0 E K x0 x1 x5 h := by kernel_rfl
theorem after0_se0_0_1_5_14 (E : Env) (x0 x1 x5 x14 : PV) (h : PHeap) : K0 E (kTop Try.prog Try.f13) (.exit 0) (se0_0_1_5_14 x0 x1 x5 x14 h) =
    (resV (.bool true)).bind fun v13 =>
    some (v13, h) := by kernel_rfl
theorem top_sr_4 (x4 : PV) (h : PHeap) : kTop Try.prog Try.f13 .ret (sr_4 x4 h) =
    (resV x4).bind fun v22 =>
    some (v22, h) := by kernel_rfl
noncomputable def main (E : Env) (x0 x1 : PV) (h : PHeap) : Res :=
    (E.p.len 30 x0).bind fun v1 =>
    (E.p.len 30 x1).bind fun v2 =>
    (E.p.bin .neq 3 v1 v2).bind fun v3 =>
    condP v3
     (
      (resV (.bool false)).bind fun v4 =>
      some (v4, h))
     (
      loopK (ev (E.cx Try.prog laws_eqIntS.kl) laws_eqIntS.lp0) E.lf (laws_eqIntS.st0 x0 x1 (.int .i64 0) h) (laws_eqIntS.K0 E (kTop Try.prog Try.f13)))
theorem main_eq (E : Env) (x0 x1 : PV) (h : PHeap) : runBody (E.cx Try.prog kl) Try.f13 [x0, x1] h = main E x0 x1 h := by kernel_rfl
theorem call_eq (g : Nat → PV) (lf n : Nat) (x0 x1 : PV) (h : PHeap) : CL g lf (n + 1) fn_laws_eqIntS [x0, x1] h = main (env g lf n) x0 x1 h := by
  rw [← main_eq]
  show (match Try.prog.funcs[13]? with | some fn => if fn.body.isSome then runBody ⟨Try.prog, g, call Try.prog g KL lf n, KL 13, lf, std Try.prog⟩ fn [x0, x1] h else none | none => none) = _
  rw [Try.func13]
  kernel_rfl
end laws_eqIntS
namespace laws_markIntS
noncomputable def lp0 : Code := (codeAt (bodyOf Try.f14) [1, 0, 1, 0, 0])
def st0 (x0 x1 x5 : PV) (h : PHeap) : St := ⟨[x0, x1, .junk, .junk, .junk, x5, .junk, .junk, .junk, .junk, .junk, .junk, .junk, .junk, .junk, .junk, .junk, .junk, .junk], h⟩
def se0_0_1_5_9 (x0 x1 x5 x9 : PV) (h : PHeap) : St := ⟨[x0, x1, .junk, .junk, .junk, x5, .junk, .junk, .junk, x9, .junk, .junk, .junk, .junk, .junk, .junk, .junk, .junk, .junk], h⟩
noncomputable def K0 (E : Env) (K : PX → St → Res) : PX → St → Res := (kBlock 0 (kSeq (ev (E.cx Try.prog kl) (codeAt (bodyOf Try.f14) [1, 1])) K))
@[simp] theorem K0_ret (E : Env) (K : PX → St → Res) (s : St) : K0 E K .ret s = K .ret s := by kernel_rfl
noncomputable def body0 (E : Env) (K : PX → St → Res) (x0 x1 x5 : PV) (h : PHeap) : Res :=
    (E.p.len 30 x0).bind fun v8 =>
    (E.p.bin .lss 3 x5 v8).bind fun v9 =>
    condP v9
     (
      (E.p.indexAddr 30 x0 x5).bind fun v10 =>
      (E.p.store 3 v10 x1 h).bind fun v11 =>
      (E.p.bin .add 3 x1 (.int .i64 1)).bind fun v12 =>
      (E.p.bin .add 3 x5 (.int .i64 1)).bind fun v13 =>
      K .normal (st0 x0 v12 v13 v11))
     (
      K (.exit 0) (se0_0_1_5_9 x0 x1 x5 v9 h))
theorem body0_eq (E : Env) (K : PX → St → Res) (x0 x1 x5 : PV) (h : PHeap) : ev (E.cx Try.prog kl) lp0 (st0 x0 x1 x5 h) K = body0 E K x0 x1 x5 h := by kernel_rfl
theorem after0_se0_0_1_5_9 (E : Env) (x0 x1 x5 x9 : PV) (h : PHeap) : K0 E (kTop Try.prog Try.f14) (.exit 0) (se0_0_1_5_9 x0 x1 x5 x9 h) =
    (resV x1).bind fun v7 =>
    some (v7, h) := by kernel_rfl
noncomputable def main (E : Env) (x0 x1 : PV) (h : PHeap) : Res :=
    loopK (ev (E.cx Try.prog laws_markIntS.kl) laws_markIntS.lp0) E.lf (laws_markIntS.st0 x0 x1 (.int .i64 0) h) (laws_markIntS.K0 E (kTop Try.prog Try.f14))
theorem main_eq (E : Env) (x0 x1 : PV) (h : PHeap) : runBody (E.cx Try.prog kl) Try.f14 [x0, x1] h = main E x0 x1 h := by kernel_rfl
theorem call_eq (g : Nat → PV) (lf n : Nat) (x0 x1 : PV) (h : PHeap) : CL g lf (n + 1) fn_laws_markIntS [x0, x1] h = main (env g lf n) x0 x1 h := by
  rw [← main_eq]
  show (match Try.prog.funcs[14]? with | some fn => if fn.body.isSome then runBody ⟨Try.prog, g, call Try.prog g KL lf n, KL 14, lf, std Try.prog⟩ fn [x0, x1] h else none | none => none) = _
  rw [Try.func14]
  kernel_rfl
end laws_markIntS
namespace laws_heldIntS
noncomputable def lp0 : Code := (codeAt (bodyOf Try.f15) [1, 0, 1, 0, 0])
def st0 (x0 x1 x5 : PV) (h : PHeap) : St := ⟨[x0, x1, .junk, .junk, .junk, x5, .junk, .junk, .junk, .junk, .junk, .junk, .junk, .junk, .junk, .junk, .junk, .junk, .junk, .junk, .junk], h⟩
def sr_4 (x4 : PV) (h : PHeap) : St := ⟨[.junk, .junk, .junk, .junk, x4, .junk, .junk, .junk, .junk, .junk, .junk, .junk, .junk, .junk, .junk, .junk, .junk, .junk, .junk, .junk, .junk], h⟩
def se0_0_1_5_9 (x0 x1 x5 x9 : PV) (h : PHeap) : St := ⟨[x0, x1, .junk, .junk, .junk, x5, .junk, .junk, .junk, x9, .junk, .junk, .junk, .junk, .junk, .junk, .junk, .junk, .junk, .junk, .junk], h⟩
noncomputable def K0 (E : Env) (K : PX → St → Res) : PX → St → Res := (kBlock 0 (kSeq (ev (E.cx Try.prog kl) (codeAt (bodyOf Try.f15) [1, 1])) K))
@[simp] theorem K0_ret (E : Env) (K : PX → St → Res) (s : St) : K0 E K .ret s = K .ret s := by kernel_rfl
noncomputable def body0 (E : Env) (K : PX → St → Res) (x0 x1 x5 : PV) (h : PHeap) : Res :=
    (E.p.len 30 x0).bind fun v9 =>
    (E.p.bin .lss 3 x5 v9).bind fun v10 =>
    condP v10
     (
      (E.p.indexAddr 30 x0 x5).bind fun v11 =>
      (E.p.load 3 v11 h).bind fun v12 =>
      (E.p.bin .neq 3 v12 x1).bind fun v13 =>
      condP v13
       (
        K .ret (sr_4 (.int .i64 (-1)) h))
       (
        (E.p.bin .add 3 x1 (.int .i64 1)).bind fun v14 =>
        (E.p.bin .add 3 x5 (.int .i64 1)).bind fun v15 =>
        K .normal (st0 x0 v14 v15 h)))
     (
      K (.exit 0) (se0_0_1_5_9 x0 x1 x5 v10 h))
theorem body0_eq (E : Env) (K : PX → St → Res) (x0 x1 x5 : PV) (h : PHeap) : ev (E.cx Try.prog kl) lp0 (st0 x0 x1 x5 h) K = body0 E K x0 x1 x5 h := by kernel_rfl
theorem after0_se0_0_1_5_9 (E : Env) (x0 x1 x5 x9 : PV) (h : PHeap) : K0 E (kTop Try.prog Try.f15) (.exit 0) (se0_0_1_5_9 x0 x1 x5 x9 h) =
    (resV x1).bind fun v8 =>
    some (v8, h) := by kernel_rfl
theorem top_sr_4 (x4 : PV) (h : PHeap) : kTop Try.prog Try.f15 .ret (sr_4 x4 h) =
    (resV x4).bind fun v16 =>
    some (v16, h) := by kernel_rfl
noncomputable def main (E : Env) (x0 x1 : PV) (h : PHeap) : Res :=
    loopK (ev (E.cx Try.prog laws_heldIntS.kl) laws_heldIntS.lp0) E.lf (laws_heldIntS.st0 x0 x1 (.int .i64 0) h) (laws_heldIntS.K0 E (kTop Try.prog Try.f15))
theorem main_eq (E : Env) (x0 x1 : PV) (h : PHeap) : runBody (E.cx Try.prog kl) Try.f15 [x0, x1] h = main E x0 x1 h := by kernel_rfl
theorem call_eq (g : Nat → PV) (lf n : Nat) (x0 x1 : PV) (h : PHeap) : CL g lf (n + 1) fn_laws_heldIntS [x0, x1] h = main (env g lf n) x0 x1 h := by
  rw [← main_eq]
  show (match Try.prog.funcs[15]? with | some fn => if fn.body.isSome then runBody ⟨Try.prog, g, call Try.prog g KL lf n, KL 15, lf, std Try.prog⟩ fn [x0, x1] h else none | none => none) = _
  rw [Try.func15]
  kernel_rfl
end laws_heldIntS
namespace spec_l20Open
noncomputable def main (E : Env) (x0 : PV) (h : PHeap) : Res :=
    (E.p.len 22 x0).bind fun v1 =>
    (E.p.bin .gtr 3 v1 (.int .i64 2000)).bind fun v2 =>
    condP v2
     (
      (E.p.slice 22 x0 none (some (.int .i64 2000)) h).bind fun v3 =>
      (E.p.build 43 [(0, v3)]).bind fun v4 =>
      (E.p.box v4 h).bind fun v5 =>
      (resV v5.1).bind fun v6 =>
      some (v6, v5.2))
     (
      (E.p.build 43 [(0, x0)]).bind fun v7 =>
      (E.p.box v7 h).bind fun v8 =>
      (resV v8.1).bind fun v9 =>
      some (v9, v8.2))
theorem main_eq (E : Env) (x0 : PV) (h : PHeap) : runBody (E.cx Try.prog kl) Try.f16 [x0] h = main E x0 h := by kernel_rfl
theorem call_eq (g : Nat → PV) (lf n : Nat) (x0 : PV) (h : PHeap) : CL g lf (n + 1) fn_spec_l20Open [x0] h = main (env g lf n) x0 h := by
  rw [← main_eq]
  show (match Try.prog.funcs[16]? with | some fn => if fn.body.isSome then runBody ⟨Try.prog, g, call Try.prog g KL lf n, KL 16, lf, std Try.prog⟩ fn [x0] h else none | none => none) = _
  rw [Try.func16]
  kernel_rfl
end spec_l20Open
namespace spec_l20Wide
noncomputable def main (E : Env) (x0 : PV) (h : PHeap) : Res :=
    (E.p.buildSlice 30 2 [(0, (.int .i64 1)), (1, (.int .i64 2))] h).bind fun v1 =>
    (E.p.buildSlice 30 2 [(0, (.int .i64 2)), (1, (.int .i64 3))] v1.2).bind fun v2 =>
    (E.p.buildSlice 30 2 [(0, (.int .i64 2)), (1, (.int .i64 4))] v2.2).bind fun v3 =>
    (E.p.buildSlice 30 2 [(0, (.int .i64 1)), (1, (.int .i64 3))] v3.2).bind fun v4 =>
    (E.p.buildSlice 30 2 [(0, (.int .i64 1)), (1, (.int .i64 4))] v4.2).bind fun v5 =>
    (E.p.buildSlice 30 2 [(0, (.int .i64 2)), (1, (.int .i64 3))] v5.2).bind fun v6 =>
    (E.p.buildSlice 30 2 [(0, (.int .i64 2)), (1, (.int .i64 4))] v6.2).bind fun v7 =>
    (E.p.buildSlice 30 2 [(0, (.int .i64 2)), (1, (.int .i64 2))] v7.2).bind fun v8 =>
    (E.p.buildSlice 30 2 [(0, (.int .i64 3)), (1, (.int .i64 2))] v8.2).bind fun v9 =>
    (E.p.buildSlice 30 2 [(0, (.int .i64 3)), (1, (.int .i64 4))] v9.2).bind fun v10 =>
    (E.p.buildSlice 44 10 [(0, v1.1), (1, v2.1), (2, v3.1), (3, v4.1), (4, v5.1), (5, v6.1), (6, v7.1), (7, v8.1), (8, v9.1), (9, v10.1)] v10.2).bind fun v11 =>
    (E.C fn_spec_l20Rd_pick [x0, (.int .i64 10)] v11.2).bind fun v12 =>
    (E.p.indexAddr 44 v11.1 v12.1).bind fun v13 =>
    (E.p.load 30 v13 v12.2).bind fun v14 =>
    (E.p.indexAddr 30 v14 (.int .i64 0)).bind fun v15 =>
    (E.p.load 3 v15 v12.2).bind fun v16 =>
    (E.p.indexAddr 30 v14 (.int .i64 1)).bind fun v17 =>
    (E.p.load 3 v17 v12.2).bind fun v18 =>
    (resV v16).bind fun v19 =>
    (resV v18).bind fun v20 =>
    some (.tup [v19, v20], v12.2)
theorem main_eq (E : Env) (x0 : PV) (h : PHeap) : runBody (E.cx Try.prog kl) Try.f17 [x0] h = main E x0 h := by kernel_rfl
theorem call_eq (g : Nat → PV) (lf n : Nat) (x0 : PV) (h : PHeap) : CL g lf (n + 1) fn_spec_l20Wide [x0] h = main (env g lf n) x0 h := by
  rw [← main_eq]
  show (match Try.prog.funcs[17]? with | some fn => if fn.body.isSome then runBody ⟨Try.prog, g, call Try.prog g KL lf n, KL 17, lf, std Try.prog⟩ fn [x0] h else none | none => none) = _
  rw [Try.func17]
  kernel_rfl
end spec_l20Wide
namespace spec_l20Rd_pick
noncomputable def main (E : Env) (x0 x1 : PV) (h : PHeap) : Res :=
    (E.p.ptr x0).bind fun v1 =>
    (E.p.fieldAddr 43 v1 1).bind fun v2 =>
    (E.p.load 3 v2 h).bind fun v3 =>
    (E.p.bin .add 3 v3 (.int .i64 1)).bind fun v4 =>
    (E.p.ptr x0).bind fun v5 =>
    (E.p.fieldAddr 43 v5 1).bind fun v6 =>
    (E.p.store 3 v6 v4 h).bind fun v7 =>
    (E.p.bin .lss 3 x1 (.int .i64 1)).bind fun v8 =>
    (wantV v8 false).bind fun v9 =>
    (bif v9 then some (x0, v7) else some (.tup [], v7)).bind fun v10 =>
    (wantV v8 false).bind fun v11 =>
    (bif v11 then pv v10.2 (E.p.ptr v10.1) else some (.tup [], v10.2)).bind fun v12 =>
    (wantV v8 false).bind fun v13 =>
    (bif v13 then pv v12.2 (E.p.fieldAddr 43 v12.1 0) else some (.tup [], v12.2)).bind fun v14 =>
    (wantV v8 false).bind fun v15 =>
    (bif v15 then pv v14.2 (E.p.load 22 v14.1 v14.2) else some (.tup [], v14.2)).bind fun v16 =>
    (wantV v8 false).bind fun v17 =>
    (bif v17 then pv v16.2 (E.p.len 22 v16.1) else some (.tup [], v16.2)).bind fun v18 =>
    (wantV v8 false).bind fun v19 =>
    (bif v19 then pv v18.2 (E.p.bin .eql 3 v18.1 (.int .i64 0)) else some (.tup [], v18.2)).bind fun v20 =>
    (E.p.pick v8 (.bool true) v20.1).bind fun v21 =>
    condP v21
     (
      (resV (.int .i64 0)).bind fun v22 =>
      some (v22, v20.2))
     (
      (E.p.ptr x0).bind fun v23 =>
      (E.p.fieldAddr 43 v23 1).bind fun v24 =>
      (E.p.load 3 v24 v20.2).bind fun v25 =>
      (E.p.bin .sub 3 v25 (.int .i64 1)).bind fun v26 =>
      (E.p.ptr x0).bind fun v27 =>
      (E.p.fieldAddr 43 v27 0).bind fun v28 =>
      (E.p.load 22 v28 v20.2).bind fun v29 =>
      (E.p.len 22 v29).bind fun v30 =>
      (E.p.bin .lss 3 v26 v30).bind fun v31 =>
      condP v31
       (
        (E.p.ptr x0).bind fun v32 =>
        (E.p.fieldAddr 43 v32 0).bind fun v33 =>
        (E.p.load 22 v33 v20.2).bind fun v34 =>
        (E.p.indexAddr 22 v34 v26).bind fun v35 =>
        (E.p.load 5 v35 v20.2).bind fun v36 =>
        (E.p.conv 5 3 v36).bind fun v37 =>
        (E.p.bin .rem 3 v37 x1).bind fun v38 =>
        (resV v38).bind fun v39 =>
        some (v39, v20.2))
       (
        (E.p.ptr x0).bind fun v40 =>
        (E.p.fieldAddr 43 v40 0).bind fun v41 =>
        (E.p.load 22 v41 v20.2).bind fun v42 =>
        (E.p.ptr x0).bind fun v43 =>
        (E.p.fieldAddr 43 v43 0).bind fun v44 =>
        (E.p.load 22 v44 v20.2).bind fun v45 =>
        (E.p.len 22 v45).bind fun v46 =>
        (E.p.bin .rem 3 v26 v46).bind fun v47 =>
        (E.p.indexAddr 22 v42 v47).bind fun v48 =>
        (E.p.load 5 v48 v20.2).bind fun v49 =>
        (E.p.conv 5 3 v49).bind fun v50 =>
        (E.p.bin .mul 3 v50 (.int .i64 131)).bind fun v51 =>
        (E.p.ptr x0).bind fun v52 =>
        (E.p.fieldAddr 43 v52 0).bind fun v53 =>
        (E.p.load 22 v53 v20.2).bind fun v54 =>
        (E.p.bin .mul 3 v26 (.int .i64 7)).bind fun v55 =>
        (E.p.bin .add 3 v55 (.int .i64 3)).bind fun v56 =>
        (E.p.ptr x0).bind fun v57 =>
        (E.p.fieldAddr 43 v57 0).bind fun v58 =>
        (E.p.load 22 v58 v20.2).bind fun v59 =>
        (E.p.len 22 v59).bind fun v60 =>
        (E.p.bin .rem 3 v56 v60).bind fun v61 =>
        (E.p.indexAddr 22 v54 v61).bind fun v62 =>
        (E.p.load 5 v62 v20.2).bind fun v63 =>
        (E.p.conv 5 3 v63).bind fun v64 =>
        (E.p.bin .mul 3 v64 (.int .i64 1117)).bind fun v65 =>
        (E.p.bin .add 3 v51 v65).bind fun v66 =>
        (E.p.bin .mul 3 v26 (.int .i64 29)).bind fun v67 =>
        (E.p.bin .add 3 v66 v67).bind fun v68 =>
        (E.p.ptr x0).bind fun v69 =>
        (E.p.fieldAddr 43 v69 0).bind fun v70 =>
        (E.p.load 22 v70 v20.2).bind fun v71 =>
        (E.p.len 22 v71).bind fun v72 =>
        (E.p.bin .quo 3 v26 v72).bind fun v73 =>
        (E.p.bin .mul 3 v73 (.int .i64 53)).bind fun v74 =>
        (E.p.bin .add 3 v68 v74).bind fun v75 =>
        (E.p.bin .quo 3 v75 (.int .i64 64)).bind fun v76 =>
        (E.p.bin .xor 3 v75 v76).bind fun v77 =>
        (E.p.bin .rem 3 v77 x1).bind fun v78 =>
        (resV v78).bind fun v79 =>
        some (v79, v20.2)))
theorem main_eq (E : Env) (x0 x1 : PV) (h : PHeap) : runBody (E.cx Try.prog kl) Try.f18 [x0, x1] h = main E x0 x1 h := by kernel_rfl
theorem call_eq (g : Nat → PV) (lf n : Nat) (x0 x1 : PV) (h : PHeap) : CL g lf (n + 1) fn_spec_l20Rd_pick [x0, x1] h = main (env g lf n) x0 x1 h := by
  rw [← main_eq]
  show (match Try.prog.funcs[18]? with | some fn => if fn.body.isSome then runBody ⟨Try.prog, g, call Try.prog g KL lf n, KL 18, lf, std Try.prog⟩ fn [x0, x1] h else none | none => none) = _
  rw [Try.func18]
  kernel_rfl
end spec_l20Rd_pick
namespace impl_widerOk
noncomputable def main (E : Env) (x0 x1 : PV) (h : PHeap) : Res :=
    (E.C fn_impl_BoardOk [x0, x1] h).bind fun v1 =>
    (wantV v1.1 true).bind fun v2 =>
    (bif v2 then some (x1, v1.2) else some (.tup [], v1.2)).bind fun v3 =>
    (wantV v1.1 true).bind fun v4 =>
    (bif v4 then some (x0, v3.2) else some (.tup [], v3.2)).bind fun v5 =>
    (wantV v1.1 true).bind fun v6 =>
    (bif v6 then pv v5.2 (E.p.bin .gtr 3 v3.1 v5.1) else some (.tup [], v5.2)).bind fun v7 =>
    (E.p.pick v1.1 v7.1 (.bool false)).bind fun v8 =>
    (resV v8).bind fun v9 =>
    some (v9, v7.2)
theorem main_eq (E : Env) (x0 x1 : PV) (h : PHeap) : runBody (E.cx Try.prog kl) Try.f19 [x0, x1] h = main E x0 x1 h := by kernel_rfl
theorem call_eq (g : Nat → PV) (lf n : Nat) (x0 x1 : PV) (h : PHeap) : CL g lf (n + 1) fn_impl_widerOk [x0, x1] h = main (env g lf n) x0 x1 h := by
  rw [← main_eq]
  show (match Try.prog.funcs[19]? with | some fn => if fn.body.isSome then runBody ⟨Try.prog, g, call Try.prog g KL lf n, KL 19, lf, std Try.prog⟩ fn [x0, x1] h else none | none => none) = _
  rw [Try.func19]
  kernel_rfl
end impl_widerOk
namespace impl_cellOk
noncomputable def main (E : Env) (x0 x1 x2 : PV) (h : PHeap) : Res :=
    (E.C fn_impl_BoardOk [x0, x1] h).bind fun v1 =>
    (wantV v1.1 true).bind fun v2 =>
    (bif v2 then some (x2, v1.2) else some (.tup [], v1.2)).bind fun v3 =>
    (wantV v1.1 true).bind fun v4 =>
    (bif v4 then pv v3.2 (E.p.bin .geq 3 v3.1 (.int .i64 0)) else some (.tup [], v3.2)).bind fun v5 =>
    (E.p.pick v1.1 v5.1 (.bool false)).bind fun v6 =>
    (wantV v6 true).bind fun v7 =>
    (bif v7 then some (x2, v5.2) else some (.tup [], v5.2)).bind fun v8 =>
    (wantV v6 true).bind fun v9 =>
    (bif v9 then some (x0, v8.2) else some (.tup [], v8.2)).bind fun v10 =>
    (wantV v6 true).bind fun v11 =>
    (bif v11 then some (x1, v10.2) else some (.tup [], v10.2)).bind fun v12 =>
    (wantV v6 true).bind fun v13 =>
    (bif v13 then pv v12.2 (E.p.bin .mul 3 v10.1 v12.1) else some (.tup [], v12.2)).bind fun v14 =>
    (wantV v6 true).bind fun v15 =>
    (bif v15 then pv v14.2 (E.p.bin .lss 3 v8.1 v14.1) else some (.tup [], v14.2)).bind fun v16 =>
    (E.p.pick v6 v16.1 (.bool false)).bind fun v17 =>
    (resV v17).bind fun v18 =>
    some (v18, v16.2)
theorem main_eq (E : Env) (x0 x1 x2 : PV) (h : PHeap) : runBody (E.cx Try.prog kl) Try.f20 [x0, x1, x2] h = main E x0 x1 x2 h := by kernel_rfl
theorem call_eq (g : Nat → PV) (lf n : Nat) (x0 x1 x2 : PV) (h : PHeap) : CL g lf (n + 1) fn_impl_cellOk [x0, x1, x2] h = main (env g lf n) x0 x1 x2 h := by
  rw [← main_eq]
  show (match Try.prog.funcs[20]? with | some fn => if fn.body.isSome then runBody ⟨Try.prog, g, call Try.prog g KL lf n, KL 20, lf, std Try.prog⟩ fn [x0, x1, x2] h else none | none => none) = _
  rw [Try.func20]
  kernel_rfl
end impl_cellOk
namespace spec_l1In
noncomputable def main (E : Env) (x0 x1 x2 : PV) (h : PHeap) : Res :=
    (E.p.bin .geq 3 x0 x1).bind fun v1 =>
    (wantV v1 true).bind fun v2 =>
    (bif v2 then some (x0, h) else some (.tup [], h)).bind fun v3 =>
    (wantV v1 true).bind fun v4 =>
    (bif v4 then some (x2, v3.2) else some (.tup [], v3.2)).bind fun v5 =>
    (wantV v1 true).bind fun v6 =>
    (bif v6 then pv v5.2 (E.p.bin .leq 3 v3.1 v5.1) else some (.tup [], v5.2)).bind fun v7 =>
    (E.p.pick v1 v7.1 (.bool false)).bind fun v8 =>
    (resV v8).bind fun v9 =>
    some (v9, v7.2)
theorem main_eq (E : Env) (x0 x1 x2 : PV) (h : PHeap) : runBody (E.cx Try.prog kl) Try.f21 [x0, x1, x2] h = main E x0 x1 x2 h := by kernel_rfl
theorem call_eq (g : Nat → PV) (lf n : Nat) (x0 x1 x2 : PV) (h : PHeap) : CL g lf (n + 1) fn_spec_l1In [x0, x1, x2] h = main (env g lf n) x0 x1 x2 h := by
  rw [← main_eq]
  show (match Try.prog.funcs[21]? with | some fn => if fn.body.isSome then runBody ⟨Try.prog, g, call Try.prog g KL lf n, KL 21, lf, std Try.prog⟩ fn [x0, x1, x2] h else none | none => none) = _
  rw [Try.func21]
  kernel_rfl
end spec_l1In
namespace spec_l4Pair
noncomputable def main (E : Env) (x0 x1 x2 : PV) (h : PHeap) : Res :=
    (E.p.bin .quo 3 x2 x1).bind fun v1 =>
    (E.p.bin .rem 3 x2 x1).bind fun v2 =>
    (E.p.bin .gtr 3 v2 x0).bind fun v3 =>
    condP v3
     (
      (resV (.int .i64 (-1))).bind fun v4 =>
      some (v4, h))
     (
      (E.p.bin .gtr 3 v2 v1).bind fun v5 =>
      condP v5
       (
        (E.p.bin .sub 3 v2 (.int .i64 1)).bind fun v6 =>
        (E.p.bin .mul 3 v6 x1).bind fun v7 =>
        (E.p.bin .add 3 v7 v1).bind fun v8 =>
        (resV v8).bind fun v9 =>
        some (v9, h))
       (
        (E.p.bin .mul 3 v2 x1).bind fun v10 =>
        (E.p.bin .add 3 v10 v1).bind fun v11 =>
        (E.p.bin .add 3 v11 (.int .i64 1)).bind fun v12 =>
        (resV v12).bind fun v13 =>
        some (v13, h)))
theorem main_eq (E : Env) (x0 x1 x2 : PV) (h : PHeap) : runBody (E.cx Try.prog kl) Try.f22 [x0, x1, x2] h = main E x0 x1 x2 h := by kernel_rfl
theorem call_eq (g : Nat → PV) (lf n : Nat) (x0 x1 x2 : PV) (h : PHeap) : CL g lf (n + 1) fn_spec_l4Pair [x0, x1, x2] h = main (env g lf n) x0 x1 x2 h := by
  rw [← main_eq]
  show (match Try.prog.funcs[22]? with | some fn => if fn.body.isSome then runBody ⟨Try.prog, g, call Try.prog g KL lf n, KL 22, lf, std Try.prog⟩ fn [x0, x1, x2] h else none | none => none) = _
  rw [Try.func22]
  kernel_rfl
end spec_l4Pair
namespace impl_BoardOk
noncomputable def main (E : Env) (x0 x1 : PV) (h : PHeap) : Res :=
    (E.C fn_impl_sizeOk [x0] h).bind fun v1 =>
    (wantV v1.1 true).bind fun v2 =>
    (bif v2 then some (x1, v1.2) else some (.tup [], v1.2)).bind fun v3 =>
    (wantV v1.1 true).bind fun v4 =>
    (bif v4 then E.C fn_impl_sizeOk [v3.1] v3.2 else some (.tup [], v3.2)).bind fun v5 =>
    (E.p.pick v1.1 v5.1 (.bool false)).bind fun v6 =>
    (wantV v6 true).bind fun v7 =>
    (bif v7 then some (x0, v5.2) else some (.tup [], v5.2)).bind fun v8 =>
    (wantV v6 true).bind fun v9 =>
    (bif v9 then some (x1, v8.2) else some (.tup [], v8.2)).bind fun v10 =>
    (wantV v6 true).bind fun v11 =>
    (bif v11 then pv v10.2 (E.p.bin .mul 3 v8.1 v10.1) else some (.tup [], v10.2)).bind fun v12 =>
    (wantV v6 true).bind fun v13 =>
    (bif v13 then pv v12.2 (E.p.bin .leq 3 v12.1 (.int .i64 9)) else some (.tup [], v12.2)).bind fun v14 =>
    (E.p.pick v6 v14.1 (.bool false)).bind fun v15 =>
    (resV v15).bind fun v16 =>
    some (v16, v14.2)
theorem main_eq (E : Env) (x0 x1 : PV) (h : PHeap) : runBody (E.cx Try.prog kl) Try.f23 [x0, x1] h = main E x0 x1 h := by kernel_rfl
theorem call_eq (g : Nat → PV) (lf n : Nat) (x0 x1 : PV) (h : PHeap) : CL g lf (n + 1) fn_impl_BoardOk [x0, x1] h = main (env g lf n) x0 x1 h := by
  rw [← main_eq]
  show (match Try.prog.funcs[23]? with | some fn => if fn.body.isSome then runBody ⟨Try.prog, g, call Try.prog g KL lf n, KL 23, lf, std Try.prog⟩ fn [x0, x1] h else none | none => none) = _
  rw [Try.func23]
  kernel_rfl
end impl_BoardOk
namespace impl_Filled
noncomputable def lp0 : Code := (codeAt (bodyOf Try.f24) [1, 1, 1, 0, 1, 0, 0])
def st0 (x3 x9 x25 x26 x27 : PV) (h : PHeap) : St := ⟨[.junk, .junk, .junk, x3, .junk, .junk, .junk, .junk, .junk, x9, .junk, .junk, .junk, .junk, .junk, .junk, .junk, .junk, .junk, .junk, .junk, .junk, .junk, .junk, .junk, x25, x26, x27, .junk, .junk, .junk, .junk, .junk, .junk, .junk, .junk, .junk, .junk, .junk, .junk, .junk], h⟩
def se0_3_9_25_26_27_28 (x3 x9 x25 x26 x27 x28 : PV) (h : PHeap) : St := ⟨[.junk, .junk, .junk, x3, .junk, .junk, .junk, .junk, .junk, x9, .junk, .junk, .junk, .junk, .junk, .junk, .junk, .junk, .junk, .junk, .junk, .junk, .junk, .junk, .junk, x25, x26, x27, x28, .junk, .junk, .junk, .junk, .junk, .junk, .junk, .junk, .junk, .junk, .junk, .junk], h⟩
noncomputable def K0 (E : Env) (K : PX → St → Res) : PX → St → Res := (kBlock 0 (kSeq (ev (E.cx Try.prog kl) (codeAt (bodyOf Try.f24) [1, 1, 1, 1])) K))
@[simp] theorem K0_ret (E : Env) (K : PX → St → Res) (s : St) : K0 E K .ret s = K .ret s := by kernel_rfl
noncomputable def body0 (E : Env) (K : PX → St → Res) (x3 x9 x25 x26 x27 : PV) (h : PHeap) : Res :=
    (E.p.bin .lss 3 x27 x26).bind fun v25 =>
    condP v25
     (
      (E.p.indexAddr 30 x25 x27).bind fun v26 =>
      (E.p.load 3 v26 h).bind fun v27 =>
      (E.p.bin .eql 3 v27 (.int .i64 0)).bind fun v28 =>
      condP v28
       (
        (E.p.indexAddr 30 x9 x27).bind fun v29 =>
        (E.p.store 3 v29 x3 h).bind fun v30 =>
        (E.p.bin .add 3 x27 (.int .i64 1)).bind fun v31 =>
        K .normal (st0 x3 x9 x25 x26 v31 v30))
       (
        (E.p.indexAddr 30 x9 x27).bind fun v32 =>
        (E.p.store 3 v32 v27 h).bind fun v33 =>
        (E.p.bin .add 3 x27 (.int .i64 1)).bind fun v34 =>
        K .normal (st0 x3 x9 x25 x26 v34 v33)))
     (
      K (.exit 0) (se0_3_9_25_26_27_28 x3 x9 x25 x26 x27 v25 h))
theorem body0_eq (E : Env) (K : PX → St → Res) (x3 x9 x25 x26 x27 : PV) (h : PHeap) : ev (E.cx Try.prog kl) lp0 (st0 x3 x9 x25 x26 x27 h) K = body0 E K x3 x9 x25 x26 x27 h := by kernel_rfl
theorem after0_se0_3_9_25_26_27_28 (E : Env) (x3 x9 x25 x26 x27 x28 : PV) (h : PHeap) : K0 E (kTop Try.prog Try.f24) (.exit 0) (se0_3_9_25_26_27_28 x3 x9 x25 x26 x27 x28 h) =
    (resV x9).bind fun v24 =>
    some (v24, h) := by kernel_rfl
noncomputable def main (E : Env) (x0 x1 x2 x3 : PV) (h : PHeap) : Res :=
    (E.C fn_impl_PositionOk [x0, x1, x2] h).bind fun v1 =>
    (E.p.un .not v1.1).bind fun v2 =>
    (wantV v2 false).bind fun v3 =>
    (bif v3 then some (x3, v1.2) else some (.tup [], v1.2)).bind fun v4 =>
    (wantV v2 false).bind fun v5 =>
    (bif v5 then E.C fn_impl_playerOk [v4.1] v4.2 else some (.tup [], v4.2)).bind fun v6 =>
    (wantV v2 false).bind fun v7 =>
    (bif v7 then pv v6.2 (E.p.un .not v6.1) else some (.tup [], v6.2)).bind fun v8 =>
    (E.p.pick v2 (.bool true) v8.1).bind fun v9 =>
    condP v9
     (
      (resV .nilsl).bind fun v10 =>
      some (v10, v8.2))
     (
      (E.p.len 30 x2).bind fun v11 =>
      (E.p.make 30 v11 v11 v8.2).bind fun v12 =>
      (E.p.len 30 x2).bind fun v13 =>
      loopK (ev (E.cx Try.prog impl_Filled.kl) impl_Filled.lp0) E.lf (impl_Filled.st0 x3 v12.1 x2 v13 (.int .i64 0) v12.2) (impl_Filled.K0 E (kTop Try.prog Try.f24)))
theorem main_eq (E : Env) (x0 x1 x2 x3 : PV) (h : PHeap) : runBody (E.cx Try.prog kl) Try.f24 [x0, x1, x2, x3] h = main E x0 x1 x2 x3 h := by kernel_rfl
theorem call_eq (g : Nat → PV) (lf n : Nat) (x0 x1 x2 x3 : PV) (h : PHeap) : CL g lf (n + 1) fn_impl_Filled [x0, x1, x2, x3] h = main (env g lf n) x0 x1 x2 x3 h := by
  rw [← main_eq]
  show (match Try.prog.funcs[24]? with | some fn => if fn.body.isSome then runBody ⟨Try.prog, g, call Try.prog g KL lf n, KL 24, lf, std Try.prog⟩ fn [x0, x1, x2, x3] h else none | none => none) = _
  rw [Try.func24]
  kernel_rfl
end impl_Filled
namespace impl_freeBoard
noncomputable def main (E : Env) (x0 x1 : PV) (h : PHeap) : Res :=
    (E.C fn_impl_BoardOk [x0, x1] h).bind fun v1 =>
    (E.p.un .not v1.1).bind fun v2 =>
    condP v2
     (
      (resV .nilsl).bind fun v3 =>
      some (v3, v1.2))
     (
      (E.p.bin .mul 3 x0 x1).bind fun v4 =>
      (E.p.make 30 v4 v4 v1.2).bind fun v5 =>
      (resV v5.1).bind fun v6 =>
      some (v6, v5.2))
theorem main_eq (E : Env) (x0 x1 : PV) (h : PHeap) : runBody (E.cx Try.prog kl) Try.f25 [x0, x1] h = main E x0 x1 h := by kernel_rfl
theorem call_eq (g : Nat → PV) (lf n : Nat) (x0 x1 : PV) (h : PHeap) : CL g lf (n + 1) fn_impl_freeBoard [x0, x1] h = main (env g lf n) x0 x1 h := by
  rw [← main_eq]
  show (match Try.prog.funcs[25]? with | some fn => if fn.body.isSome then runBody ⟨Try.prog, g, call Try.prog g KL lf n, KL 25, lf, std Try.prog⟩ fn [x0, x1] h else none | none => none) = _
  rw [Try.func25]
  kernel_rfl
end impl_freeBoard
namespace impl_sizeOk
noncomputable def main (E : Env) (x0 : PV) (h : PHeap) : Res :=
    (E.p.bin .geq 3 x0 (.int .i64 1)).bind fun v1 =>
    (wantV v1 true).bind fun v2 =>
    (bif v2 then some (x0, h) else some (.tup [], h)).bind fun v3 =>
    (wantV v1 true).bind fun v4 =>
    (bif v4 then pv v3.2 (E.p.bin .leq 3 v3.1 (.int .i64 4)) else some (.tup [], v3.2)).bind fun v5 =>
    (E.p.pick v1 v5.1 (.bool false)).bind fun v6 =>
    (resV v6).bind fun v7 =>
    some (v7, v5.2)
theorem main_eq (E : Env) (x0 : PV) (h : PHeap) : runBody (E.cx Try.prog kl) Try.f26 [x0] h = main E x0 h := by kernel_rfl
theorem call_eq (g : Nat → PV) (lf n : Nat) (x0 : PV) (h : PHeap) : CL g lf (n + 1) fn_impl_sizeOk [x0] h = main (env g lf n) x0 h := by
  rw [← main_eq]
  show (match Try.prog.funcs[26]? with | some fn => if fn.body.isSome then runBody ⟨Try.prog, g, call Try.prog g KL lf n, KL 26, lf, std Try.prog⟩ fn [x0] h else none | none => none) = _
  rw [Try.func26]
  kernel_rfl
end impl_sizeOk
namespace impl_PositionOk
noncomputable def lp0 : Code := (codeAt (bodyOf Try.f27) [1, 1, 0, 1, 0, 0])
def st0 (x21 x22 x23 : PV) (h : PHeap) : St := ⟨[.junk, .junk, .junk, .junk, .junk, .junk, .junk, .junk, .junk, .junk, .junk, .junk, .junk, .junk, .junk, .junk, .junk, .junk, .junk, .junk, .junk, x21, x22, x23, .junk, .junk, .junk, .junk, .junk, .junk, .junk], h⟩
def sr_6 (x6 : PV) (h : PHeap) : St := ⟨[.junk, .junk, .junk, .junk, .junk, .junk, x6, .junk, .junk, .junk, .junk, .junk, .junk, .junk, .junk, .junk, .junk, .junk, .junk, .junk, .junk, .junk, .junk, .junk, .junk, .junk, .junk, .junk, .junk, .junk, .junk], h⟩
def se0_21_22_23_24 (x21 x22 x23 x24 : PV) (h : PHeap) : St := ⟨[.junk, .junk, .junk, .junk, .junk, .junk, .junk, .junk, .junk, .junk, .junk, .junk, .junk, .junk, .junk, .junk, .junk, .junk, .junk, .junk, .junk, x21, x22, x23, x24, .junk, .junk, .junk, .junk, .junk, .junk], h⟩
noncomputable def K0 (E : Env) (K : PX → St → Res) : PX → St → Res := (kBlock 0 (kSeq (ev (E.cx Try.prog kl) (codeAt (bodyOf Try.f27) [1, 1, 1])) K))
@[simp] theorem K0_ret (E : Env) (K : PX → St → Res) (s : St) : K0 E K .ret s = K .ret s := by kernel_rfl
noncomputable def body0 (E : Env) (K : PX → St → Res) (x21 x22 x23 : PV) (h : PHeap) : Res :=
    (E.p.bin .lss 3 x23 x22).bind fun v25 =>
    condP v25
     (
      (E.p.indexAddr 30 x21 x23).bind fun v26 =>
      (E.p.load 3 v26 h).bind fun v27 =>
      (E.C fn_impl_contentOk [v27] h).bind fun v28 =>
      (E.p.un .not v28.1).bind fun v29 =>
      condP v29
       (
        K .ret (sr_6 (.bool false) v28.2))
       (
        (E.p.bin .add 3 x23 (.int .i64 1)).bind fun v30 =>
        K .normal (st0 x21 x22 v30 v28.2)))
     (
      K (.exit 0) (se0_21_22_23_24 x21 x22 x23 v25 h))
theorem body0_eq (E : Env) (K : PX → St → Res) (x21 x22 x23 : PV) (h : PHeap) : ev (E.cx Try.prog kl) lp0 (st0 x21 x22 x23 h) K = body0 E K x21 x22 x23 h := by kernel_rfl
theorem after0_se0_21_22_23_24 (E : Env) (x21 x22 x23 x24 : PV) (h : PHeap) : K0 E (kTop Try.prog Try.f27) (.exit 0) (se0_21_22_23_24 x21 x22 x23 x24 h) =
    (resV (.bool true)).bind fun v24 =>
    some (v24, h) := by kernel_rfl
theorem top_sr_6 (x6 : PV) (h : PHeap) : kTop Try.prog Try.f27 .ret (sr_6 x6 h) =
    (resV x6).bind fun v31 =>
    some (v31, h) := by kernel_rfl
noncomputable def main (E : Env) (x0 x1 x2 : PV) (h : PHeap) : Res :=
    (E.C fn_impl_BoardOk [x0, x1] h).bind fun v1 =>
    (E.p.un .not v1.1).bind fun v2 =>
    (wantV v2 false).bind fun v3 =>
    (bif v3 then some (x2, v1.2) else some (.tup [], v1.2)).bind fun v4 =>
    (wantV v2 false).bind fun v5 =>
    (bif v5 then pv v4.2 (E.p.len 30 v4.1) else some (.tup [], v4.2)).bind fun v6 =>
    (wantV v2 false).bind fun v7 =>
    (bif v7 then some (x0, v6.2) else some (.tup [], v6.2)).bind fun v8 =>
    (wantV v2 false).bind fun v9 =>
    (bif v9 then some (x1, v8.2) else some (.tup [], v8.2)).bind fun v10 =>
    (wantV v2 false).bind fun v11 =>
    (bif v11 then pv v10.2 (E.p.bin .mul 3 v8.1 v10.1) else some (.tup [], v10.2)).bind fun v12 =>
    (wantV v2 false).bind fun v13 =>
    (bif v13 then pv v12.2 (E.p.bin .neq 3 v6.1 v12.1) else some (.tup [], v12.2)).bind fun v14 =>
    (E.p.pick v2 (.bool true) v14.1).bind fun v15 =>
    condP v15
     (
      (resV (.bool false)).bind fun v16 =>
      some (v16, v14.2))
     (
      (E.p.len 30 x2).bind fun v17 =>
      loopK (ev (E.cx Try.prog impl_PositionOk.kl) impl_PositionOk.lp0) E.lf (impl_PositionOk.st0 x2 v17 (.int .i64 0) v14.2) (impl_PositionOk.K0 E (kTop Try.prog Try.f27)))
theorem main_eq (E : Env) (x0 x1 x2 : PV) (h : PHeap) : runBody (E.cx Try.prog kl) Try.f27 [x0, x1, x2] h = main E x0 x1 x2 h := by kernel_rfl
theorem call_eq (g : Nat → PV) (lf n : Nat) (x0 x1 x2 : PV) (h : PHeap) : CL g lf (n + 1) fn_impl_PositionOk [x0, x1, x2] h = main (env g lf n) x0 x1 x2 h := by
  rw [← main_eq]
  show (match Try.prog.funcs[27]? with | some fn => if fn.body.isSome then runBody ⟨Try.prog, g, call Try.prog g KL lf n, KL 27, lf, std Try.prog⟩ fn [x0, x1, x2] h else none | none => none) = _
  rw [Try.func27]
  kernel_rfl
end impl_PositionOk
namespace impl_playerOk
noncomputable def main (E : Env) (x0 : PV) (h : PHeap) : Res :=
    (E.p.bin .eql 3 x0 (.int .i64 1)).bind fun v1 =>
    (wantV v1 false).bind fun v2 =>
    (bif v2 then some (x0, h) else some (.tup [], h)).bind fun v3 =>
    (wantV v1 false).bind fun v4 =>
    (bif v4 then pv v3.2 (E.p.bin .eql 3 v3.1 (.int .i64 2)) else some (.tup [], v3.2)).bind fun v5 =>
    (E.p.pick v1 (.bool true) v5.1).bind fun v6 =>
    (resV v6).bind fun v7 =>
    some (v7, v5.2)
theorem main_eq (E : Env) (x0 : PV) (h : PHeap) : runBody (E.cx Try.prog kl) Try.f28 [x0] h = main E x0 h := by kernel_rfl
theorem call_eq (g : Nat → PV) (lf n : Nat) (x0 : PV) (h : PHeap) : CL g lf (n + 1) fn_impl_playerOk [x0] h = main (env g lf n) x0 h := by
  rw [← main_eq]
  show (match Try.prog.funcs[28]? with | some fn => if fn.body.isSome then runBody ⟨Try.prog, g, call Try.prog g KL lf n, KL 28, lf, std Try.prog⟩ fn [x0] h else none | none => none) = _
  rw [Try.func28]
  kernel_rfl
end impl_playerOk
namespace impl_contentOk
noncomputable def main (E : Env) (x0 : PV) (h : PHeap) : Res :=
    (E.p.bin .eql 3 x0 (.int .i64 0)).bind fun v1 =>
    (wantV v1 false).bind fun v2 =>
    (bif v2 then some (x0, h) else some (.tup [], h)).bind fun v3 =>
    (wantV v1 false).bind fun v4 =>
    (bif v4 then pv v3.2 (E.p.bin .eql 3 v3.1 (.int .i64 1)) else some (.tup [], v3.2)).bind fun v5 =>
    (E.p.pick v1 (.bool true) v5.1).bind fun v6 =>
    (wantV v6 false).bind fun v7 =>
    (bif v7 then some (x0, v5.2) else some (.tup [], v5.2)).bind fun v8 =>
    (wantV v6 false).bind fun v9 =>
    (bif v9 then pv v8.2 (E.p.bin .eql 3 v8.1 (.int .i64 2)) else some (.tup [], v8.2)).bind fun v10 =>
    (E.p.pick v6 (.bool true) v10.1).bind fun v11 =>
    (resV v11).bind fun v12 =>
    some (v12, v10.2)
theorem main_eq (E : Env) (x0 : PV) (h : PHeap) : runBody (E.cx Try.prog kl) Try.f29 [x0] h = main E x0 h := by kernel_rfl
theorem call_eq (g : Nat → PV) (lf n : Nat) (x0 : PV) (h : PHeap) : CL g lf (n + 1) fn_impl_contentOk [x0] h = main (env g lf n) x0 h := by
  rw [← main_eq]
  show (match Try.prog.funcs[29]? with | some fn => if fn.body.isSome then runBody ⟨Try.prog, g, call Try.prog g KL lf n, KL 29, lf, std Try.prog⟩ fn [x0] h else none | none => none) = _
  rw [Try.func29]
  kernel_rfl
end impl_contentOk
end Go.Proofs.Ytlfjjjhjjmikfaa.G

/- Which boards there are: what the program's and the model's functions on a board's sides compute. -/
namespace Go.Proofs.Ytlfjjjhjjmikfaa
open Go Go.Ip G

def boardB (r c : Int) : Bool := decide (1 ≤ r ∧ r ≤ 4 ∧ 1 ≤ c ∧ c ≤ 4 ∧ r * c ≤ 9)

theorem mul_small {r c : Int} (h1 : 1 ≤ r) (h2 : r ≤ 4) (h3 : 1 ≤ c) (h4 : c ≤ 4) : IntKind.i64.wrap (r * c) = r * c := by
  have : r = 1 ∨ r = 2 ∨ r = 3 ∨ r = 4 := by omega
  rcases this with rfl | rfl | rfl | rfl <;> exact wr (by omega)

variable (g : Nat → PV) (lf n : Nat) (h : PHeap)

theorem sizeOk_calls (a : Int) : CL g lf (n + 1) fn_impl_sizeOk [.int .i64 a] h = some (.bool (decide (1 ≤ a ∧ a ≤ 4)), h) := by
  rw [impl_sizeOk.call_eq]
  by_cases h1 : 1 ≤ a <;> simp [impl_sizeOk.main, h1]

theorem boardOk_calls (r c : Int) : CL g lf (n + 2) fn_impl_BoardOk [.int .i64 r, .int .i64 c] h = some (.bool (boardB r c), h) := by
  rw [impl_BoardOk.call_eq]
  by_cases h1 : 1 ≤ r ∧ r ≤ 4
  · by_cases h2 : 1 ≤ c ∧ c ≤ 4
    · simp [impl_BoardOk.main, sizeOk_calls, h1, h2, boardB, mul_small h1.1 h1.2 h2.1 h2.2]
    · have hb : boardB r c = false := by unfold boardB; simp; omega
      simp [impl_BoardOk.main, sizeOk_calls, h1, h2, hb]
  · have hb : boardB r c = false := by unfold boardB; simp; omega
    simp [impl_BoardOk.main, sizeOk_calls, h1, hb]

theorem l1In_calls (a lo hi : Int) : CL g lf (n + 1) fn_spec_l1In [.int .i64 a, .int .i64 lo, .int .i64 hi] h = some (.bool (decide (lo ≤ a ∧ a ≤ hi)), h) := by
  rw [spec_l1In.call_eq]
  by_cases h1 : lo ≤ a <;> simp [spec_l1In.main, h1]

theorem specBoardOk_calls (r c : Int) : CL g lf (n + 2) fn_spec_BoardOk [.int .i64 r, .int .i64 c] h = some (.bool (boardB r c), h) := by
  rw [spec_BoardOk.call_eq]
  by_cases h1 : 1 ≤ r ∧ r ≤ 4
  · by_cases h2 : 1 ≤ c ∧ c ≤ 4
    · simp [spec_BoardOk.main, l1In_calls, h1, h2, boardB, mul_small h1.1 h1.2 h2.1 h2.2]
    · have hb : boardB r c = false := by unfold boardB; simp; omega
      simp [spec_BoardOk.main, l1In_calls, h1, h2, hb]
  · have hb : boardB r c = false := by unfold boardB; simp; omega
    simp [spec_BoardOk.main, l1In_calls, h1, hb]

end Go.Proofs.Ytlfjjjhjjmikfaa

/- What the laws' helpers on slices of integers, and both functions that check a position, compute. -/
namespace Go.Proofs.Ytlfjjjhjjmikfaa
open Go Go.Ip G

variable (g : Nat → PV) (lf n : Nat)

/-! ### toIntS: a copy -/
/-! ### eqIntS: are two lists equal? -/
theorem eqIntS_loop {xs ys : List Int} {p q : PV} {h : PHeap} (hp : IntSl .i64 h p xs) (hq : IntSl .i64 h q ys) (hxy : xs.length = ys.length) (hl : xs.length ≤ 2 ^ 36) : ∀ (m i fuel : Nat), i + m = xs.length → m < fuel →
    loopK (ev ((env g lf n).cx Try.prog laws_eqIntS.kl) laws_eqIntS.lp0) fuel (laws_eqIntS.st0 p q (.int .i64 i) h) (laws_eqIntS.K0 (env g lf n) (kTop Try.prog Try.f13)) = some (.bool (decide (xs.drop i = ys.drop i)), h)
  | 0, i, fuel, him, hf => by
    obtain ⟨f, rfl⟩ : ∃ f, fuel = f + 1 := ⟨fuel - 1, by omega⟩
    rw [loopK_succ, laws_eqIntS.body0_eq]
    have hlt : ¬ ((i : Int) < (xs.length : Int)) := by omega
    have hd : xs.drop i = ys.drop i := by rw [List.drop_eq_nil_of_le (by omega), List.drop_eq_nil_of_le (by omega)]
    simp [laws_eqIntS.body0, hp.len', hlt, laws_eqIntS.after0_se0_0_1_5_14, hd]
  | m + 1, i, fuel, him, hf => by
    obtain ⟨f, rfl⟩ : ∃ f, fuel = f + 1 := ⟨fuel - 1, by omega⟩
    have hi : i < xs.length := by omega
    have hi' : i < ys.length := by omega
    obtain ⟨a, ha, hla⟩ := hp.at' hi
    obtain ⟨b, hb, hlb⟩ := hq.at' hi'
    have ih := eqIntS_loop hp hq hxy hl m (i + 1) f (by omega) (by omega)
    have hlt : (i : Int) < (xs.length : Int) := by omega
    rw [loopK_succ, laws_eqIntS.body0_eq]
    have hdx : xs.drop i = xs[i] :: xs.drop (i + 1) := List.drop_eq_getElem_cons hi
    have hdy : ys.drop i = ys[i] :: ys.drop (i + 1) := List.drop_eq_getElem_cons hi'
    by_cases he : xs[i] = ys[i]
    · have hne : (xs[i] != ys[i]) = false := by simp [he]
      simp only [laws_eqIntS.body0, env_len, env_bin, env_indexAddr, env_load, hp.len', bin_lss, hlt, decide_true, Option.bind_some, cond_bool, cond_true, ha, hla, hb, hlb, bin_neq, hne, cond_false, bin_add, nx (show i < 2 ^ 40 by omega), kLoop_normal, ih]
      rw [hdx, hdy, he]
      simp only [List.cons.injEq, true_and]
    · have hne : (xs[i] != ys[i]) = true := by simp [he]
      simp only [laws_eqIntS.body0, env_len, env_bin, env_indexAddr, env_load, hp.len', bin_lss, hlt, decide_true, Option.bind_some, cond_bool, cond_true, ha, hla, hb, hlb, bin_neq, hne, kLoop_ret, laws_eqIntS.K0_ret, laws_eqIntS.top_sr_4, res_bool, Option.bind_some]
      rw [hdx, hdy]
      simp only [List.cons.injEq, he, false_and, decide_false]

theorem eqIntS_calls {xs ys : List Int} {p q : PV} {h : PHeap} (hp : IntSl .i64 h p xs) (hq : IntSl .i64 h q ys) (hl : xs.length ≤ 2 ^ 36) (hf : xs.length < lf) :
    CL g lf (n + 1) fn_laws_eqIntS [p, q] h = some (.bool (decide (xs = ys)), h) := by
  rw [laws_eqIntS.call_eq]
  by_cases hxy : xs.length = ys.length
  · have := eqIntS_loop g lf n hp hq hxy hl xs.length 0 lf (by omega) hf
    simp only [laws_eqIntS.main, env_len, env_bin, env_lf, hp.len', hq.len', Option.bind_some, bin_neq, hxy, bne_self_eq_false, cond_bool, cond_false]
    simpa using this
  · have hne : ((xs.length : Int) != (ys.length : Int)) = true := by simp; omega
    have hd : ¬ xs = ys := fun e => hxy (by rw [e])
    simp [laws_eqIntS.main, hp.len', hq.len', hne, hd]

/-! ### positions -/
def contentB (x : Int) : Bool := decide (0 ≤ x ∧ x ≤ 2)
def posB (r c : Int) (xs : List Int) : Bool := boardB r c && decide ((xs.length : Int) = r * c) && xs.all contentB

theorem contentOk_calls (a : Int) (h : PHeap) : CL g lf (n + 1) fn_impl_contentOk [.int .i64 a] h = some (.bool (contentB a), h) := by
  rw [impl_contentOk.call_eq]
  by_cases h0 : a = 0
  · subst h0; simp [impl_contentOk.main, contentB]
  · by_cases h1 : a = 1
    · subst h1; simp [impl_contentOk.main, contentB]
    · by_cases h2 : a = 2
      · subst h2; simp [impl_contentOk.main, contentB]
      · have : contentB a = false := by unfold contentB; simp; omega
        have b0 : (a == 0) = false := by simp [h0]
        have b1 : (a == 1) = false := by simp [h1]
        have b2 : (a == 2) = false := by simp [h2]
        simp [impl_contentOk.main, b0, b1, b2, this]

theorem posOk_loop {xs : List Int} {p : PV} {h : PHeap} (hp : IntSl .i64 h p xs) (hl : xs.length ≤ 2 ^ 36) : ∀ (m i fuel : Nat), i + m = xs.length → m < fuel →
    loopK (ev ((env g lf (n + 1)).cx Try.prog impl_PositionOk.kl) impl_PositionOk.lp0) fuel (impl_PositionOk.st0 p (.int .i64 xs.length) (.int .i64 i) h) (impl_PositionOk.K0 (env g lf (n + 1)) (kTop Try.prog Try.f27)) = some (.bool ((xs.drop i).all contentB), h)
  | 0, i, fuel, him, hf => by
    obtain ⟨f, rfl⟩ : ∃ f, fuel = f + 1 := ⟨fuel - 1, by omega⟩
    rw [loopK_succ, impl_PositionOk.body0_eq]
    have hlt : ¬ ((i : Int) < (xs.length : Int)) := by omega
    simp [impl_PositionOk.body0, hlt, impl_PositionOk.after0_se0_21_22_23_24, List.drop_eq_nil_of_le (show xs.length ≤ i by omega)]
  | m + 1, i, fuel, him, hf => by
    obtain ⟨f, rfl⟩ : ∃ f, fuel = f + 1 := ⟨fuel - 1, by omega⟩
    have hi : i < xs.length := by omega
    obtain ⟨a, ha, hla⟩ := hp.at' hi
    have ih := posOk_loop hp hl m (i + 1) f (by omega) (by omega)
    have hlt : (i : Int) < (xs.length : Int) := by omega
    rw [loopK_succ, impl_PositionOk.body0_eq]
    have hdx : xs.drop i = xs[i] :: xs.drop (i + 1) := List.drop_eq_getElem_cons hi
    cases hc : contentB xs[i] with
    | true =>
      simp only [impl_PositionOk.body0, env_C, env_bin, env_indexAddr, env_load, env_un, contentOk_calls, bin_lss, hlt, decide_true, Option.bind_some, cond_bool, cond_true, ha, hla, hc, un_not, Bool.not_true, cond_false, bin_add, nx (show i < 2 ^ 40 by omega), kLoop_normal, ih]
      rw [hdx, List.all_cons, hc, Bool.true_and]
    | false =>
      simp only [impl_PositionOk.body0, env_C, env_bin, env_indexAddr, env_load, env_un, contentOk_calls, bin_lss, hlt, decide_true, Option.bind_some, cond_bool, cond_true, ha, hla, hc, un_not, Bool.not_false, kLoop_ret, impl_PositionOk.K0_ret, impl_PositionOk.top_sr_6, res_bool, Option.bind_some]
      rw [hdx, List.all_cons, hc, Bool.false_and]

theorem positionOk_calls {xs : List Int} {p : PV} {h : PHeap} (r c : Int) (hp : IntSl .i64 h p xs) (hl : xs.length ≤ 2 ^ 36) (hf : xs.length < lf) :
    CL g lf (n + 3) fn_impl_PositionOk [.int .i64 r, .int .i64 c, p] h = some (.bool (posB r c xs), h) := by
  rw [impl_PositionOk.call_eq]
  unfold posB
  cases hb : boardB r c with
  | false => simp [impl_PositionOk.main, boardOk_calls, hb]
  | true =>
    have hb' := hb
    unfold boardB at hb'
    have hm := of_decide_eq_true hb'
    have hmul := mul_small hm.1 hm.2.1 hm.2.2.1 hm.2.2.2.1
    by_cases hlen : (xs.length : Int) = r * c
    · have := posOk_loop g lf (n + 1) hp hl xs.length 0 lf (by omega) hf
      have hne : ((xs.length : Int) != r * c) = false := by simp [hlen]
      simp only [impl_PositionOk.main, env_C, env_len, env_bin, env_un, env_pick, env_lf, boardOk_calls, hb, Option.bind_some, un_not, Bool.not_true, want_bool, BEq.rfl, cond_true, hp.len', pv_some', bin_mul, hmul, bin_neq, hne, pick_bool, cond_false, cond_bool]
      simpa [hlen] using this
    · have hne : ((xs.length : Int) != r * c) = true := by simp [hlen]
      simp [impl_PositionOk.main, boardOk_calls, hb, hp.len', hmul, hne, hlen]

end Go.Proofs.Ytlfjjjhjjmikfaa

/- The exact law on positions. -/
namespace Go.Proofs.Ytlfjjjhjjmikfaa
open Go Go.Ip G

variable (g : Nat → PV) (lf n : Nat)

end Go.Proofs.Ytlfjjjhjjmikfaa

/- The marks that the exact laws lay and look for, and the lists that both programs make of a position. -/
namespace Go.Proofs.Ytlfjjjhjjmikfaa
open Go Go.Ip G

/-- A slice of the call's own, among the objects from n up to m. -/
def OwnB (n m : Nat) (h : PHeap) (p : PV) (xs : List Int) : Prop :=
  (p = .nilsl ∧ xs = []) ∨ ∃ id, n ≤ id ∧ id < m ∧ p = .sl id 0 xs.length ∧ h[id]? = some (.own 1 (xs.map (.int .i64)))

theorem OwnSl.b {n : Nat} {h : PHeap} {p : PV} {xs : List Int} (s : OwnSl n h p xs) : OwnB n h.length h p xs := by
  rcases s with s | ⟨id, h1, h2, h3⟩
  · exact .inl s
  · exact .inr ⟨id, h1, (List.getElem?_eq_some_iff.1 h3).1, h2, h3⟩

theorem OwnB.sl {n m : Nat} {h : PHeap} {p : PV} {xs : List Int} (s : OwnB n m h p xs) : OwnSl n h p xs := by
  rcases s with s | ⟨id, h1, _, h2, h3⟩
  · exact .inl s
  · exact .inr ⟨id, h1, h2, h3⟩

theorem OwnB.int {n m : Nat} {h : PHeap} {p : PV} {xs : List Int} (s : OwnB n m h p xs) : IntSl .i64 h p xs := s.sl.int

/-- Only the objects from n up to m may have been written to. -/
def Only (n m : Nat) (h h' : PHeap) : Prop := h'.length = h.length ∧ ∀ i, (i < n ∨ m ≤ i) → h'[i]? = h[i]?

theorem Only.refl (n m : Nat) (h : PHeap) : Only n m h h := ⟨rfl, fun _ _ => rfl⟩
theorem Only.trans {n m : Nat} {a b c : PHeap} (h : Only n m a b) (k : Only n m b c) : Only n m a c := ⟨k.1.trans h.1, fun i hi => (k.2 i hi).trans (h.2 i hi)⟩
theorem Only.keep {n m : Nat} {a b : PHeap} (h : Only n m a b) : Keep n a b := ⟨by rw [h.1]; exact Nat.le_refl _, fun i hi => h.2 i (.inl hi)⟩

theorem OwnB.keep {n m : Nat} {h h' : PHeap} {p : PV} {xs : List Int} (s : OwnB n m h p xs) (k : Keep m h h') : OwnB n m h' p xs := by
  rcases s with s | ⟨id, h1, h2, h3, h4⟩
  · exact .inl s
  · exact .inr ⟨id, h1, h2, h3, by rw [k.2 id h2]; exact h4⟩

theorem OwnB.only {n m n' m' : Nat} {h h' : PHeap} {p : PV} {xs : List Int} (s : OwnB n m h p xs) (k : Only n' m' h h') (hd : m ≤ n' ∨ m' ≤ n) : OwnB n m h' p xs := by
  rcases s with s | ⟨id, h1, h2, h3, h4⟩
  · exact .inl s
  · exact .inr ⟨id, h1, h2, h3, by rw [k.2 id (by omega)]; exact h4⟩

theorem OwnB.store {n m : Nat} {h : PHeap} {p : PV} {xs : List Int} (s : OwnB n m h p xs) {i : Nat} (hi : i < xs.length) (x : Int) :
    ∃ a h', indexAddrP Try.prog 30 p (.int .i64 i) = some a ∧ storeP Try.prog 3 a (.int .i64 x) h = some h' ∧ OwnB n m h' p (xs.set i x) ∧ Only n m h h' := by
  rcases s with ⟨rfl, rfl⟩ | ⟨id, h1, h2, rfl, h3⟩
  · simp at hi
  · have hid : id < h.length := (List.getElem?_eq_some_iff.1 h3).1
    refine ⟨.ptr id (0 + i), h.set id (.own 1 ((xs.set i x).map (.int .i64))), by simp [indexAddrP, tySize, hi], ?_, .inr ⟨id, h1, h2, by simp, by rw [List.getElem?_set_self hid]⟩, ⟨by simp, fun j hj => List.getElem?_set_ne (by omega)⟩⟩
    simp only [storeP, h3, PV.cells, tySize, Nat.zero_add]
    rw [if_pos ⟨rfl, by simp; omega⟩]
    simp [setCells, List.map_set]

/-- k, k + 1, k + 2 .. -/
def marks (k : Int) : Nat → List Int
  | 0 => []
  | n + 1 => k :: marks (k + 1) n

theorem marks_length : ∀ (n : Nat) (k : Int), (marks k n).length = n
  | 0, _ => rfl
  | n + 1, k => by rw [marks, List.length_cons, marks_length n]

theorem marks_get : ∀ (n : Nat) (k : Int) (i : Nat), i < n → (marks k n)[i]? = some (k + i)
  | 0, _, _, h => by omega
  | n + 1, k, 0, _ => by simp [marks]
  | n + 1, k, i + 1, h => by rw [marks, List.getElem?_cons_succ, marks_get n (k + 1) i (by omega)]; congr 1; push_cast; omega

variable (g : Nat → PV) (lf n : Nat)

theorem nk {k : Int} (h0 : 0 ≤ k) (h1 : k < 2 ^ 41) : IntKind.i64.wrap (k + 1) = k + 1 := wr (by omega)

theorem mark_loop {a b : Nat} {p : PV} : ∀ (m i fuel : Nat) (k : Int) (xs : List Int) (h : PHeap), OwnB a b h p xs → i + m = xs.length → m < fuel → xs.length ≤ 2 ^ 36 → 0 ≤ k → k ≤ 2 ^ 40 + i →
    ∃ h' zs, loopK (ev ((env g lf n).cx Try.prog laws_markIntS.kl) laws_markIntS.lp0) fuel (laws_markIntS.st0 p (.int .i64 k) (.int .i64 i) h) (laws_markIntS.K0 (env g lf n) (kTop Try.prog Try.f14)) = some (.int .i64 (k + m), h') ∧
      OwnB a b h' p zs ∧ zs = xs.take i ++ marks k m ∧ Only a b h h'
  | 0, i, fuel, k, xs, h, hp, him, hf, hl, h0, hk => by
    obtain ⟨f, rfl⟩ : ∃ f, fuel = f + 1 := ⟨fuel - 1, by omega⟩
    refine ⟨h, xs, ?_, hp, ?_, Only.refl _ _ _⟩
    · rw [loopK_succ, laws_markIntS.body0_eq]
      have hlt : ¬ ((i : Int) < (xs.length : Int)) := by omega
      simp [laws_markIntS.body0, hp.int.len', hlt, laws_markIntS.after0_se0_0_1_5_9]
    · rw [marks, List.append_nil, List.take_of_length_le (by omega)]
  | m + 1, i, fuel, k, xs, h, hp, him, hf, hl, h0, hk => by
    obtain ⟨f, rfl⟩ : ∃ f, fuel = f + 1 := ⟨fuel - 1, by omega⟩
    have hi : i < xs.length := by omega
    obtain ⟨ad, h2, ha, hs, hp2, ho⟩ := hp.store hi k
    obtain ⟨h', zs, hr, hp', hz, ho'⟩ := mark_loop m (i + 1) f (k + 1) (xs.set i k) h2 hp2 (by simp; omega) (by omega) (by simpa using hl) (by omega) (by push_cast; omega)
    refine ⟨h', zs, ?_, hp', ?_, ho.trans ho'⟩
    · rw [loopK_succ, laws_markIntS.body0_eq]
      have hlt : (i : Int) < (xs.length : Int) := by omega
      simp only [laws_markIntS.body0, env_len, env_bin, env_indexAddr, env_store, hp.int.len', bin_lss, hlt, decide_true, Option.bind_some, cond_bool, cond_true, ha, hs, bin_add, nx (show i < 2 ^ 40 by omega), nk h0 (by omega), kLoop_normal]
      rw [hr]
      congr 3
      push_cast
      omega
    · rw [hz, marks]
      apply List.ext_getElem?
      intro j
      by_cases hj : j < i
      · rw [List.getElem?_append_left (by simp; omega), List.getElem?_append_left (by simp; omega)]
        simp [hj, show j < i + 1 by omega, List.getElem?_set_ne (show i ≠ j by omega)]
      · by_cases hji : j = i
        · subst hji
          rw [List.getElem?_append_left (by simp; omega), List.getElem?_append_right (by simp; omega)]
          simp [List.getElem?_set_self hi, Nat.min_eq_left (show j ≤ xs.length by omega)]
        · rw [List.getElem?_append_right (by simp; omega), List.getElem?_append_right (by simp; omega)]
          simp only [List.length_take, List.length_set]
          rw [show j - min i xs.length = (j - min (i + 1) xs.length) + 1 by omega, List.getElem?_cons_succ]

theorem markIntS_calls {a b : Nat} {p : PV} {xs : List Int} {h : PHeap} (N : Nat) (hN : 1 ≤ N) (hp : OwnB a b h p xs) (hl : xs.length ≤ 2 ^ 36) (hf : xs.length < lf) :
    ∃ h', CL g lf N fn_laws_markIntS [p, .int .i64 1] h = some (.int .i64 (1 + xs.length), h') ∧ OwnB a b h' p (marks 1 xs.length) ∧ Only a b h h' := by
  obtain ⟨n, rfl⟩ : ∃ n, N = n + 1 := ⟨N - 1, by omega⟩
  rw [laws_markIntS.call_eq]
  obtain ⟨h', zs, hr, hp', hz, ho⟩ := mark_loop g lf n xs.length 0 lf 1 xs h hp (by omega) hf hl (by omega) (by omega)
  refine ⟨h', ?_, by simp at hz; rw [hz] at hp'; exact hp', ho⟩
  simp only [laws_markIntS.main, env_lf]
  exact hr

theorem held_loop {p : PV} {h : PHeap} {xs : List Int} (hp : IntSl .i64 h p xs) (hl : xs.length ≤ 2 ^ 36) : ∀ (m i fuel : Nat) (k : Int), i + m = xs.length → m < fuel → 0 ≤ k → k ≤ 2 ^ 40 + i → (∀ j : Nat, i ≤ j → j < xs.length → xs[j]? = some (k + (j - i))) →
    loopK (ev ((env g lf n).cx Try.prog laws_heldIntS.kl) laws_heldIntS.lp0) fuel (laws_heldIntS.st0 p (.int .i64 k) (.int .i64 i) h) (laws_heldIntS.K0 (env g lf n) (kTop Try.prog Try.f15)) = some (.int .i64 (k + m), h)
  | 0, i, fuel, k, him, hf, h0, hk, hx => by
    obtain ⟨f, rfl⟩ : ∃ f, fuel = f + 1 := ⟨fuel - 1, by omega⟩
    rw [loopK_succ, laws_heldIntS.body0_eq]
    have hlt : ¬ ((i : Int) < (xs.length : Int)) := by omega
    simp [laws_heldIntS.body0, hp.len', hlt, laws_heldIntS.after0_se0_0_1_5_9]
  | m + 1, i, fuel, k, him, hf, h0, hk, hx => by
    obtain ⟨f, rfl⟩ : ∃ f, fuel = f + 1 := ⟨fuel - 1, by omega⟩
    have hi : i < xs.length := by omega
    obtain ⟨ad, ha, hla⟩ := hp.at' hi
    have hxi : xs[i] = k := by
      have := hx i (Nat.le_refl _) hi
      rw [List.getElem?_eq_getElem hi] at this
      have := Option.some.inj this
      omega
    have ih := held_loop hp hl m (i + 1) f (k + 1) (by omega) (by omega) (by omega) (by push_cast; omega) (fun j h1 h2 => by rw [hx j (by omega) h2]; congr 1; push_cast; omega)
    have hlt : (i : Int) < (xs.length : Int) := by omega
    have hne : (xs[i] != k) = false := by simp [hxi]
    rw [loopK_succ, laws_heldIntS.body0_eq]
    simp only [laws_heldIntS.body0, env_len, env_bin, env_indexAddr, env_load, hp.len', bin_lss, hlt, decide_true, Option.bind_some, cond_bool, cond_true, ha, hla, bin_neq, hne, cond_false, bin_add, nx (show i < 2 ^ 40 by omega), nk h0 (by omega), kLoop_normal, ih]
    congr 3
    push_cast
    omega

theorem heldIntS_calls {p : PV} {m : Nat} {h : PHeap} (N : Nat) (hN : 1 ≤ N) (hp : IntSl .i64 h p (marks 1 m)) (hl : m ≤ 2 ^ 36) (hf : m < lf) :
    CL g lf N fn_laws_heldIntS [p, .int .i64 1] h = some (.int .i64 (1 + m), h) := by
  obtain ⟨n, rfl⟩ : ∃ n, N = n + 1 := ⟨N - 1, by omega⟩
  rw [laws_heldIntS.call_eq]
  have hm := marks_length m 1
  have := held_loop g lf n hp (by omega) m 0 lf 1 (by omega) hf (by omega) (by omega) (fun j _ h2 => by rw [marks_get m 1 j (by omega)]; congr 1)
  simp only [laws_heldIntS.main, env_lf]
  exact this

end Go.Proofs.Ytlfjjjhjjmikfaa

/- The cells of one kind, and a position turned by half a turn: both programs, and their exact laws. -/
namespace Go.Proofs.Ytlfjjjhjjmikfaa
open Go Go.Ip G

variable (g : Nat → PV) (lf n : Nat)

theorem OwnSl.res {n : Nat} {h : PHeap} {p : PV} {xs : List Int} (s : OwnSl n h p xs) : resV p = some p := by
  rcases s with ⟨rfl, _⟩ | ⟨id, _, rfl, _⟩ <;> rfl

/-- The places, from i on, at which a list has x. -/
def cellsFrom (x : Int) : Nat → List Int → List Int
  | _, [] => []
  | i, y :: ys => if y = x then (i : Int) :: cellsFrom x (i + 1) ys else cellsFrom x (i + 1) ys

theorem cellsFrom_length (x : Int) : ∀ (ys : List Int) (i : Nat), (cellsFrom x i ys).length ≤ ys.length
  | [], _ => Nat.le_refl _
  | y :: ys, i => by
    have := cellsFrom_length x ys (i + 1)
    rw [cellsFrom]
    split <;> simp <;> omega

theorem cellsFrom_none (x : Int) (hx : contentB x = false) : ∀ (ys : List Int) (i : Nat), ys.all contentB = true → cellsFrom x i ys = []
  | [], _, _ => rfl
  | y :: ys, i, h => by
    simp only [List.all_cons, Bool.and_eq_true] at h
    have hne : ¬ y = x := fun e => by rw [e, hx] at h; cases h.1
    rw [cellsFrom, if_neg hne]
    exact cellsFrom_none x hx ys (i + 1) h.2

def cellsL (r c : Int) (xs : List Int) (x : Int) : List Int := if posB r c xs = true then cellsFrom x 0 xs else []

theorem cellsL_length (r c : Int) (xs : List Int) (x : Int) : (cellsL r c xs x).length ≤ xs.length := by
  unfold cellsL; split
  · exact cellsFrom_length x xs 0
  · simp

end Go.Proofs.Ytlfjjjhjjmikfaa

/- A position turned by half a turn: both programs, and the exact law. -/
namespace Go.Proofs.Ytlfjjjhjjmikfaa
open Go Go.Ip G

variable (g : Nat → PV) (lf n : Nat)

def turnL (r c : Int) (xs : List Int) : List Int := if posB r c xs = true then xs.reverse else []

theorem turnL_length (r c : Int) (xs : List Int) : (turnL r c xs).length ≤ xs.length := by
  unfold turnL; split <;> simp

end Go.Proofs.Ytlfjjjhjjmikfaa

/- The reader from which the model draws: what a pick may come to. -/
namespace Go.Proofs.Ytlfjjjhjjmikfaa
open Go Go.Ip Go.RowKit G

/-- A slice of bytes that came in, as the interpreter's heap holds it: the first object. -/
def Arg (h : PHeap) (p : PV) (xs : List Int) : Prop :=
  (∀ h', Keep 1 h h' → IntSl .u8 h' p xs) ∧ 1 ≤ h.length ∧ (∀ id off len, p = .sl id off len → 0 < len → id = 0 ∧ eszAt h id = 1) ∧ ∀ b ∈ xs, 0 ≤ b ∧ b ≤ 255

theorem arg_of {w : World} {a : Option Addr} {len cap : Nat} {zs : List Int}
    (h : (a = none ∧ len = 0 ∧ cap = 0 ∧ zs = []) ∨ ∃ x, a = some x ∧ len ≤ cap ∧ cap ≤ maxLen ∧ zs.length = cap ∧ (∀ i, i < zs.length → w.cell? (x.add i) = some (.int .u8 (zs.getD i 0))) ∧ ∀ n ∈ zs, (Lit.int .u8 n).wf = true) :
    ∃ μ o p, Sim w.heap.size w μ [o] w ∧ rep μ p (.slice a len cap) ∧ Arg [o] p (zs.take len) := by
  obtain ⟨μ, o, p, sim, hr, hs, hlen, hmax, hwf, hobj⟩ := row_arg h
  have hb : ∀ b ∈ zs.take len, 0 ≤ b ∧ b ≤ 255 := by
    intro b hb
    have := hwf b hb
    simp only [Lit.wf, IntKind.has, IntKind.min, IntKind.max, IntKind.signed, IntKind.bits] at this
    simp at this
    omega
  by_cases h0 : len = 0
  · refine ⟨μ, o, p, sim, hr, ?_, Nat.le_refl _, ?_, hb⟩
    · intro h' _
      rcases hs with hs | ⟨id, off, hp, hc⟩
      · exact .inl hs
      · exact .inr ⟨id, off, hp, fun i x hx => by simp [h0] at hx⟩
    · intro id off l hp hl
      subst hp
      obtain ⟨_, _, _, _, e, _⟩ := rep_sl hr
      cases e
      omega
  · rcases hs with ⟨_, hs⟩ | ⟨id, off, hp, hc⟩
    · rw [hs] at hlen; simp at hlen; omega
    · have hlt : 0 < (zs.take len).length := by omega
      have hid : id = 0 := by
        have := lt_of_cell (hc 0 _ (List.getElem?_eq_getElem hlt))
        simp at this
        exact this
      subst hid
      refine ⟨μ, o, p, sim, hr, ?_, Nat.le_refl _, ?_, hb⟩
      · intro h' hk
        exact .inr ⟨0, off, hp, fun i x hx => by rw [cellsAt_keep hk (by omega)]; exact hc i x hx⟩
      · intro id' off' l hp' hl
        rw [hp] at hp'
        cases hp'
        refine ⟨rfl, ?_⟩
        rcases hobj with rfl | ⟨c, rfl⟩
        · have := hc 0 _ (List.getElem?_eq_getElem hlt)
          simp [cellsAt, PObj.get] at this
        · rfl

theorem fa0 (id off : Nat) : fieldAddrP Try.prog 43 (.ptr id off) 0 = some (.ptr id (off + 0)) := by kernel_rfl
theorem fa1 (id off : Nat) : fieldAddrP Try.prog 43 (.ptr id off) 1 = some (.ptr id (off + 1)) := by kernel_rfl
theorem tyB : Try.prog.underlying 22 = some (.slice 5) := by kernel_rfl
theorem tyBSize : sizeT Try.prog 5 = some 1 := by kernel_rfl
theorem tyBAgg : isAggT Try.prog 5 = some false := by kernel_rfl
theorem tyBsAgg : isAggT Try.prog 22 = some false := by kernel_rfl
theorem tyBElem : elemT Try.prog 22 = some 5 := by kernel_rfl
theorem conv_byte (k : IntKind) (x : Int) : convP Try.prog 5 3 (.int k x) = some (.int .i64 (IntKind.i64.wrap x)) := by kernel_rfl
theorem build_sl (a b c : Nat) : buildP Try.prog 43 [(0, .sl a b c)] = some (.agg [.sl a b c, .int .i64 0]) := by kernel_rfl
theorem build_nil : buildP Try.prog 43 [(0, .nilsl)] = some (.agg [.nilsl, .int .i64 0]) := by kernel_rfl

/-- The reader: object id, over a code of at most 2000 bytes, at most m picks behind. -/
def Rd (h : PHeap) (id m : Nat) : Prop :=
  ∃ bp bs pos, h[id]? = some (.own 1 [bp, .int .i64 pos]) ∧ (∀ h', Keep id h h' → IntSl .u8 h' bp bs) ∧ (∀ b ∈ bs, (0 : Int) ≤ b ∧ b ≤ 255) ∧ bs.length ≤ 2000 ∧ 0 ≤ pos ∧ pos ≤ (m : Int)

theorem Rd.keep {h h' : PHeap} {id m n : Nat} (r : Rd h id m) (hk : Keep n h h') (hn : id < n) : Rd h' id m := by
  obtain ⟨bp, bs, pos, h1, h2, rest⟩ := r
  exact ⟨bp, bs, pos, by rw [hk.2 id hn]; exact h1, fun h3 hk3 => h2 h3 ((hk.mono (by omega)).trans hk3), rest⟩

theorem Rd.lt {h : PHeap} {id m : Nat} (r : Rd h id m) : id < h.length := by
  obtain ⟨bp, bs, pos, h1, _⟩ := r
  exact (List.getElem?_eq_some_iff.1 h1).1

theorem xor_small {a b : Int} (ha : 0 ≤ a) (ha' : a < 4611686018427387904) (hb : 0 ≤ b) (hb' : b < 4611686018427387904) :
    0 ≤ IntKind.i64.wrap ((BitVec.ofInt IntKind.i64.bits a ^^^ BitVec.ofInt IntKind.i64.bits b).toNat : Int) := by
  obtain ⟨x, rfl⟩ := Int.eq_ofNat_of_zero_le ha
  obtain ⟨y, rfl⟩ := Int.eq_ofNat_of_zero_le hb
  have hx : x < 2 ^ 62 := by omega
  have hy : y < 2 ^ 62 := by omega
  have hz : x ^^^ y < 2 ^ 62 := Nat.xor_lt_two_pow hx hy
  have e : (BitVec.ofInt IntKind.i64.bits (x : Int) ^^^ BitVec.ofInt IntKind.i64.bits (y : Int)).toNat = x ^^^ y := by
    have hbits : IntKind.i64.bits = 64 := rfl
    rw [BitVec.toNat_xor, BitVec.toNat_ofInt, BitVec.toNat_ofInt, hbits]
    congr 1 <;> omega
  rw [e, wr (by omega)]
  omega

variable (g : Nat → PV) (lf n : Nat)

theorem open_calls {p : PV} {xs : List Int} {h : PHeap} (N : Nat) (hN : 1 ≤ N) (ha : Arg h p xs) :
    ∃ h', CL g lf N fn_spec_l20Open [p] h = some (.ptr h.length 0, h') ∧ Rd h' h.length 0 ∧ Keep h.length h h' := by
  obtain ⟨n, rfl⟩ : ∃ n, N = n + 1 := ⟨N - 1, by omega⟩
  rw [spec_l20Open.call_eq]
  obtain ⟨hs, hlen, hesz, hb⟩ := ha
  have hs0 := hs h (Keep.refl _ _)
  have hlenp : lenP Try.prog 22 p = some (.int .i64 xs.length) := hs0.len tyB
  by_cases hbig : (2000 : Int) < (xs.length : Int)
  · rcases hs0 with ⟨_, rfl⟩ | ⟨id, off, rfl, hc⟩
    · simp at hbig
    · obtain ⟨rfl, he⟩ := hesz id off xs.length rfl (by omega)
      have hsl : sliceP Try.prog 22 (.sl 0 off xs.length) none (some (.int .i64 2000)) h = some (.sl 0 off 2000) := by
        have : (2000 : Int) ≤ (xs.length : Int) := by omega
        simp [sliceP, tyBElem, tyBSize, he, boundP, this]
      refine ⟨h ++ [.own 1 [.sl 0 off 2000, .int .i64 0]], ?_, ?_, Keep.append _ _ _ (Nat.le_refl _)⟩
      · simp [spec_l20Open.main, hlenp, hbig, hsl, build_sl, boxP, PV.cells, PV.oneCell]
      · refine ⟨.sl 0 off 2000, xs.take 2000, 0, by simp, fun h' hk => ?_, fun b hb' => hb b (List.mem_of_mem_take hb'), by simp; omega, by omega, by omega⟩
        have hk' : Keep 1 h h' := ((Keep.append h.length h _ (Nat.le_refl _)).mono hlen).trans (hk.mono hlen)
        rcases hs h' hk' with ⟨hx, _⟩ | ⟨id', off', hx, hc'⟩
        · cases hx
        · cases hx
          refine .inr ⟨0, off, by simp; omega, fun i x hi => ?_⟩
          rw [List.getElem?_take] at hi
          split at hi
          · exact hc' i x hi
          · cases hi
  · refine ⟨h ++ [.own 1 [p, .int .i64 0]], ?_, ?_, Keep.append _ _ _ (Nat.le_refl _)⟩
    · rcases hs0 with ⟨rfl, rfl⟩ | ⟨id, off, rfl, hc⟩
      · simp [spec_l20Open.main, hlenp, build_nil, boxP, PV.cells, PV.oneCell]
      · simp [spec_l20Open.main, hlenp, hbig, build_sl, boxP, PV.cells, PV.oneCell]
    · exact ⟨p, xs, 0, by simp, fun h' hk => hs h' (((Keep.append h.length h _ (Nat.le_refl _)).mono hlen).trans (hk.mono hlen)), hb, by omega, by omega, by omega⟩

end Go.Proofs.Ytlfjjjhjjmikfaa

/- What a pick and a chance come to. -/
namespace Go.Proofs.Ytlfjjjhjjmikfaa
open Go Go.Ip Go.RowKit G

variable (g : Nat → PV) (lf n : Nat)

theorem tmod_range {x k : Int} (hx : 0 ≤ x) (hk : 1 ≤ k) : 0 ≤ x.tmod k ∧ x.tmod k < k := by
  rw [Int.tmod_eq_emod_of_nonneg hx]
  exact ⟨Int.emod_nonneg _ (by omega), Int.emod_lt_of_pos _ (by omega)⟩

theorem tdiv_range {x k : Int} (hx : 0 ≤ x) (hk : 1 ≤ k) : 0 ≤ x.tdiv k ∧ x.tdiv k ≤ x := by
  rw [Int.tdiv_eq_ediv_of_nonneg hx]
  exact ⟨Int.ediv_nonneg hx (by omega), Int.ediv_le_self _ hx⟩

theorem bd {α β : Type} {x : Option α} {v : α} {f : α → Option β} {r : Option β} (hx : x = some v) (hf : f v = r) : x.bind f = r := by rw [hx]; exact hf
theorem cdT {x y r : Res} (h : x = r) : condP (.bool true) x y = r := h
theorem cdF {x y r : Res} (h : y = r) : condP (.bool false) x y = r := h
theorem bifT {α : Type} {x y : α} : (bif true then x else y) = x := rfl

/-- A pick of n: some number from 0 on, below n; the reader has gone on by one. -/
theorem pick_calls {h : PHeap} {id m : Nat} (N : Nat) (hN : 1 ≤ N) (k : Int) (hr : Rd h id m) (hm : m ≤ 1000000) (hk : k ≤ 1000000) :
    ∃ (v : Int) (h' : PHeap), CL g lf N fn_spec_l20Rd_pick [.ptr id 0, .int .i64 k] h = some (.int .i64 v, h') ∧ Rd h' id (m + 1) ∧ Only id (id + 1) h h' ∧ 0 ≤ v ∧ (1 ≤ k → v < k) ∧ (k < 1 → v = 0) := by
  obtain ⟨n, rfl⟩ : ∃ n, N = n + 1 := ⟨N - 1, by omega⟩
  rw [spec_l20Rd_pick.call_eq]
  obtain ⟨bp, bs, pos, ho, hs, hb, hl, hp0, hpm⟩ := hr
  have hid : id < h.length := (List.getElem?_eq_some_iff.1 ho).1
  have w1 : IntKind.i64.wrap (pos + 1) = pos + 1 := wr (by omega)
  have hld : loadP Try.prog 3 (.ptr id (0 + 1)) h = some (.int .i64 pos) := by simp [loadP, tyAgg, cellsAt, ho, PObj.get]
  obtain ⟨h7, hh7⟩ : ∃ h7, h7 = h.set id (.own 1 [bp, .int .i64 (pos + 1)]) := ⟨_, rfl⟩
  have hst : storeP Try.prog 3 (.ptr id (0 + 1)) (.int .i64 (pos + 1)) h = some h7 := by
    rw [hh7]
    simp [storeP, ho, PV.cells, tySize, setCells]
  have ho7 : h7[id]? = some (.own 1 [bp, .int .i64 (pos + 1)]) := by rw [hh7, List.getElem?_set_self hid]
  have hk7 : Keep id h h7 := by rw [hh7]; exact Keep.set _ _ _ _ (Nat.le_refl _)
  have hon : Only id (id + 1) h h7 := by rw [hh7]; exact ⟨by simp, fun j hj => List.getElem?_set_ne (by omega)⟩
  have hrd : Rd h7 id (m + 1) := ⟨bp, bs, pos + 1, ho7, fun h' hk' => hs h' (hk7.trans hk'), hb, hl, by omega, by push_cast; omega⟩
  have hl1 : loadP Try.prog 3 (.ptr id (0 + 1)) h7 = some (.int .i64 (pos + 1)) := by simp [loadP, tyAgg, cellsAt, ho7, PObj.get]
  have hl0 : loadP Try.prog 22 (.ptr id (0 + 0)) h7 = some bp := by simp [loadP, tyBsAgg, cellsAt, ho7, PObj.get]
  have hs7 := hs h7 hk7
  have hlen : lenP Try.prog 22 bp = some (.int .i64 bs.length) := hs7.len tyB
  have w2 : IntKind.i64.wrap (pos + 1 - 1) = pos := by rw [show pos + 1 - 1 = pos by omega]; exact wr (by omega)
  by_cases hk1 : k < 1
  · refine ⟨0, h7, ?_, hrd, hon, by omega, by omega, fun _ => rfl⟩
    have f_add : binP Try.prog .add 3 (.int .i64 pos) (.int .i64 1) = some (.int .i64 (pos + 1)) := by rw [bin_add, w1]
    have f_lss : binP Try.prog .lss 3 (.int .i64 k) (.int .i64 1) = some (.bool true) := by rw [bin_lss, decide_eq_true hk1]
    unfold spec_l20Rd_pick.main
    refine bd ptr_ptr (bd (fa1 _ _) (bd hld (bd f_add (bd ptr_ptr (bd (fa1 _ _) (bd hst (bd f_lss ?_)))))))
    refine bd (want_bool (x := true) (y := false)) (bd (v := (PV.tup [], h7)) rfl ?_)
    refine bd (want_bool (x := true) (y := false)) (bd (v := (PV.tup [], h7)) rfl ?_)
    refine bd (want_bool (x := true) (y := false)) (bd (v := (PV.tup [], h7)) rfl ?_)
    refine bd (want_bool (x := true) (y := false)) (bd (v := (PV.tup [], h7)) rfl ?_)
    refine bd (want_bool (x := true) (y := false)) (bd (v := (PV.tup [], h7)) rfl ?_)
    refine bd (want_bool (x := true) (y := false)) (bd (v := (PV.tup [], h7)) rfl ?_)
    refine bd (v := PV.bool true) rfl (cdT ?_)
    exact bd res_int rfl
  · have hk1' : 1 ≤ k := by omega
    by_cases hb0 : bs.length = 0
    · refine ⟨0, h7, ?_, hrd, hon, by omega, by omega, by omega⟩
      have f_add : binP Try.prog .add 3 (.int .i64 pos) (.int .i64 1) = some (.int .i64 (pos + 1)) := by rw [bin_add, w1]
      have f_lss : binP Try.prog .lss 3 (.int .i64 k) (.int .i64 1) = some (.bool false) := by rw [bin_lss, decide_eq_false hk1]
      have f_eql : binP Try.prog .eql 3 (.int .i64 (bs.length : Int)) (.int .i64 0) = some (.bool true) := by rw [bin_eql, hb0]; rfl
      unfold spec_l20Rd_pick.main
      refine bd ptr_ptr (bd (fa1 _ _) (bd hld (bd f_add (bd ptr_ptr (bd (fa1 _ _) (bd hst (bd f_lss ?_)))))))
      refine bd (want_bool (x := false) (y := false)) (bd (v := (PV.ptr id 0, h7)) rfl ?_)
      refine bd (want_bool (x := false) (y := false)) (bd (v := (PV.ptr id 0, h7)) rfl ?_)
      refine bd (want_bool (x := false) (y := false)) (bd (v := (PV.ptr id (0 + 0), h7)) (congrArg (pv h7) (fa0 id 0)) ?_)
      refine bd (want_bool (x := false) (y := false)) (bd (v := (bp, h7)) (congrArg (pv h7) hl0) ?_)
      refine bd (want_bool (x := false) (y := false)) (bd (v := (PV.int .i64 (bs.length : Int), h7)) (congrArg (pv h7) hlen) ?_)
      refine bd (want_bool (x := false) (y := false)) (bd (v := (PV.bool true, h7)) (congrArg (pv h7) f_eql) ?_)
      refine bd (v := PV.bool true) rfl (cdT ?_)
      exact bd res_int rfl
    · have hb1 : 1 ≤ (bs.length : Int) := by omega
      have hne : ((bs.length : Int) == 0) = false := beq_eq_false_iff_ne.2 (by omega)
      obtain ⟨P, hP⟩ := Int.eq_ofNat_of_zero_le hp0
      subst hP
      have byte : ∀ (j : Nat) (hj : j < bs.length), ∃ a, indexAddrP Try.prog 22 bp (.int .i64 j) = some a ∧ loadP Try.prog 5 a h7 = some (.int .u8 bs[j]) ∧ 0 ≤ bs[j] ∧ bs[j] ≤ 255 ∧ IntKind.i64.wrap bs[j] = bs[j] := by
        intro j hj
        obtain ⟨a, h1, h2⟩ := hs7.at tyB tyBSize tyBAgg hj
        have := hb _ (List.getElem_mem hj)
        exact ⟨a, h1, h2, this.1, this.2, wr (by omega)⟩
      by_cases hlt : (P : Int) < (bs.length : Int)
      · obtain ⟨a, ha, hla, hb2, hb3, hw⟩ := byte P (by omega)
        have hr := tmod_range hb2 hk1'
        refine ⟨bs[P].tmod k, h7, ?_, hrd, hon, hr.1, fun _ => hr.2, by omega⟩
        have hrem := bin_rem (P := Try.prog) (t := 3) (k := .i64) (a := bs[P]) (show k ≠ 0 by omega)
        have f_add : binP Try.prog .add 3 (.int .i64 (P : Int)) (.int .i64 1) = some (.int .i64 ((P : Int) + 1)) := by rw [bin_add, w1]
        have f_lss : binP Try.prog .lss 3 (.int .i64 k) (.int .i64 1) = some (.bool false) := by rw [bin_lss, decide_eq_false hk1]
        have f_eql : binP Try.prog .eql 3 (.int .i64 (bs.length : Int)) (.int .i64 0) = some (.bool false) := by rw [bin_eql, hne]
        have f_sub : binP Try.prog .sub 3 (.int .i64 ((P : Int) + 1)) (.int .i64 1) = some (.int .i64 (P : Int)) := by rw [bin_sub, w2]
        have f_lt : binP Try.prog .lss 3 (.int .i64 (P : Int)) (.int .i64 (bs.length : Int)) = some (.bool true) := by rw [bin_lss, decide_eq_true hlt]
        have f_conv : convP Try.prog 5 3 (.int .u8 bs[P]) = some (.int .i64 bs[P]) := by rw [conv_byte, hw]
        unfold spec_l20Rd_pick.main
        refine bd ptr_ptr (bd (fa1 _ _) (bd hld (bd f_add (bd ptr_ptr (bd (fa1 _ _) (bd hst (bd f_lss ?_)))))))
        refine bd (want_bool (x := false) (y := false)) (bd (v := (PV.ptr id 0, h7)) rfl ?_)
        refine bd (want_bool (x := false) (y := false)) (bd (v := (PV.ptr id 0, h7)) rfl ?_)
        refine bd (want_bool (x := false) (y := false)) (bd (v := (PV.ptr id (0 + 0), h7)) (congrArg (pv h7) (fa0 id 0)) ?_)
        refine bd (want_bool (x := false) (y := false)) (bd (v := (bp, h7)) (congrArg (pv h7) hl0) ?_)
        refine bd (want_bool (x := false) (y := false)) (bd (v := (PV.int .i64 (bs.length : Int), h7)) (congrArg (pv h7) hlen) ?_)
        refine bd (want_bool (x := false) (y := false)) (bd (v := (PV.bool false, h7)) (congrArg (pv h7) f_eql) ?_)
        refine bd (v := PV.bool false) rfl (cdF ?_)
        refine bd ptr_ptr (bd (fa1 _ _) (bd hl1 (bd f_sub (bd ptr_ptr (bd (fa0 _ _) (bd hl0 (bd hlen (bd f_lt (cdT ?_)))))))))
        refine bd ptr_ptr (bd (fa0 _ _) (bd hl0 (bd ha (bd hla (bd f_conv (bd hrem (bd res_int rfl)))))))
      · -- past its end
        have hr1 := tmod_range (x := (P : Int)) (k := (bs.length : Int)) (by omega) hb1
        obtain ⟨i1, hi1⟩ : ∃ i : Nat, (P : Int).tmod (bs.length : Int) = i := ⟨((P : Int).tmod bs.length).toNat, by omega⟩
        have hr2 := tmod_range (x := (P : Int) * 7 + 3) (k := (bs.length : Int)) (by omega) hb1
        obtain ⟨i2, hi2⟩ : ∃ i : Nat, ((P : Int) * 7 + 3).tmod (bs.length : Int) = i := ⟨(((P : Int) * 7 + 3).tmod bs.length).toNat, by omega⟩
        obtain ⟨a1, ha1, hla1, c1, c2, hw1⟩ := byte i1 (by omega)
        obtain ⟨a2, ha2, hla2, d1, d2, hw2⟩ := byte i2 (by omega)
        obtain ⟨b1, hb1'⟩ : ∃ b, b = bs[i1]'(by omega) := ⟨_, rfl⟩
        obtain ⟨b2, hb2'⟩ : ∃ b, b = bs[i2]'(by omega) := ⟨_, rfl⟩
        rw [← hb1'] at hla1 c1 c2 hw1
        rw [← hb2'] at hla2 d1 d2 hw2
        have hq := tdiv_range (x := (P : Int)) (k := (bs.length : Int)) (by omega) hb1
        have hquo := bin_quo (P := Try.prog) (t := 3) (k := .i64) (a := (P : Int)) (show (bs.length : Int) ≠ 0 by omega)
        have hrem1 := bin_rem (P := Try.prog) (t := 3) (k := .i64) (a := (P : Int)) (show (bs.length : Int) ≠ 0 by omega)
        have hrem2 := bin_rem (P := Try.prog) (t := 3) (k := .i64) (a := (P : Int) * 7 + 3) (show (bs.length : Int) ≠ 0 by omega)
        obtain ⟨q, hq'⟩ : ∃ q, q = (P : Int).tdiv (bs.length : Int) := ⟨_, rfl⟩
        rw [← hq'] at hq hquo
        have u1 : IntKind.i64.wrap (b1 * 131) = b1 * 131 := wr (by omega)
        have u2 : IntKind.i64.wrap ((P : Int) * 7) = (P : Int) * 7 := wr (by omega)
        have u3 : IntKind.i64.wrap ((P : Int) * 7 + 3) = (P : Int) * 7 + 3 := wr (by omega)
        have u4 : IntKind.i64.wrap (b2 * 1117) = b2 * 1117 := wr (by omega)
        have u5 : IntKind.i64.wrap (b1 * 131 + b2 * 1117) = b1 * 131 + b2 * 1117 := wr (by omega)
        have u6 : IntKind.i64.wrap ((P : Int) * 29) = (P : Int) * 29 := wr (by omega)
        have u7 : IntKind.i64.wrap (b1 * 131 + b2 * 1117 + (P : Int) * 29) = b1 * 131 + b2 * 1117 + (P : Int) * 29 := wr (by omega)
        have u8 : IntKind.i64.wrap q = q := wr (by omega)
        have u9 : IntKind.i64.wrap (q * 53) = q * 53 := wr (by omega)
        obtain ⟨X, hX⟩ : ∃ X, X = b1 * 131 + b2 * 1117 + (P : Int) * 29 + q * 53 := ⟨_, rfl⟩
        have u10 : IntKind.i64.wrap X = X := wr (by omega)
        have hX0 : 0 ≤ X := by omega
        have hX1 : X < 4611686018427387904 := by omega
        have hXq := tdiv_range (x := X) (k := 64) hX0 (by omega)
        have hquoX := bin_quo (P := Try.prog) (t := 3) (k := .i64) (a := X) (show (64 : Int) ≠ 0 by omega)
        obtain ⟨Y, hY⟩ : ∃ Y, Y = X.tdiv 64 := ⟨_, rfl⟩
        rw [← hY] at hXq hquoX
        have u11 : IntKind.i64.wrap Y = Y := wr (by omega)
        obtain ⟨Z, hZ⟩ : ∃ Z, Z = IntKind.i64.wrap ((BitVec.ofInt IntKind.i64.bits X ^^^ BitVec.ofInt IntKind.i64.bits Y).toNat : Int) := ⟨_, rfl⟩
        have hZ0 : 0 ≤ Z := by rw [hZ]; exact xor_small hX0 hX1 hXq.1 (by omega)
        have hxor : binP Try.prog .xor 3 (.int .i64 X) (.int .i64 Y) = some (.int .i64 Z) := by rw [hZ]; simp [binP, binI]
        have hremZ := bin_rem (P := Try.prog) (t := 3) (k := .i64) (a := Z) (show k ≠ 0 by omega)
        have hrZ := tmod_range hZ0 hk1'
        refine ⟨Z.tmod k, h7, ?_, hrd, hon, hrZ.1, fun _ => hrZ.2, by omega⟩
        have f_add : binP Try.prog .add 3 (.int .i64 (P : Int)) (.int .i64 1) = some (.int .i64 ((P : Int) + 1)) := by rw [bin_add, w1]
        have f_lss : binP Try.prog .lss 3 (.int .i64 k) (.int .i64 1) = some (.bool false) := by rw [bin_lss, decide_eq_false hk1]
        have f_eql : binP Try.prog .eql 3 (.int .i64 (bs.length : Int)) (.int .i64 0) = some (.bool false) := by rw [bin_eql, hne]
        have f_sub : binP Try.prog .sub 3 (.int .i64 ((P : Int) + 1)) (.int .i64 1) = some (.int .i64 (P : Int)) := by rw [bin_sub, w2]
        have f_lt : binP Try.prog .lss 3 (.int .i64 (P : Int)) (.int .i64 (bs.length : Int)) = some (.bool false) := by rw [bin_lss, decide_eq_false hlt]
        have f_conv1 : convP Try.prog 5 3 (.int .u8 b1) = some (.int .i64 b1) := by rw [conv_byte, hw1]
        have f_conv2 : convP Try.prog 5 3 (.int .u8 b2) = some (.int .i64 b2) := by rw [conv_byte, hw2]
        have f_rem1 : binP Try.prog .rem 3 (.int .i64 (P : Int)) (.int .i64 (bs.length : Int)) = some (.int .i64 (i1 : Int)) := by rw [hrem1, hi1]
        have f_rem2 : binP Try.prog .rem 3 (.int .i64 ((P : Int) * 7 + 3)) (.int .i64 (bs.length : Int)) = some (.int .i64 (i2 : Int)) := by rw [hrem2, hi2]
        have f1 : binP Try.prog .mul 3 (.int .i64 b1) (.int .i64 131) = some (.int .i64 (b1 * 131)) := by rw [bin_mul, u1]
        have f2 : binP Try.prog .mul 3 (.int .i64 (P : Int)) (.int .i64 7) = some (.int .i64 ((P : Int) * 7)) := by rw [bin_mul, u2]
        have f3 : binP Try.prog .add 3 (.int .i64 ((P : Int) * 7)) (.int .i64 3) = some (.int .i64 ((P : Int) * 7 + 3)) := by rw [bin_add, u3]
        have f4 : binP Try.prog .mul 3 (.int .i64 b2) (.int .i64 1117) = some (.int .i64 (b2 * 1117)) := by rw [bin_mul, u4]
        have f5 : binP Try.prog .add 3 (.int .i64 (b1 * 131)) (.int .i64 (b2 * 1117)) = some (.int .i64 (b1 * 131 + b2 * 1117)) := by rw [bin_add, u5]
        have f6 : binP Try.prog .mul 3 (.int .i64 (P : Int)) (.int .i64 29) = some (.int .i64 ((P : Int) * 29)) := by rw [bin_mul, u6]
        have f7 : binP Try.prog .add 3 (.int .i64 (b1 * 131 + b2 * 1117)) (.int .i64 ((P : Int) * 29)) = some (.int .i64 (b1 * 131 + b2 * 1117 + (P : Int) * 29)) := by rw [bin_add, u7]
        have f8 : binP Try.prog .quo 3 (.int .i64 (P : Int)) (.int .i64 (bs.length : Int)) = some (.int .i64 q) := by rw [hquo, u8]
        have f9 : binP Try.prog .mul 3 (.int .i64 q) (.int .i64 53) = some (.int .i64 (q * 53)) := by rw [bin_mul, u9]
        have f10 : binP Try.prog .add 3 (.int .i64 (b1 * 131 + b2 * 1117 + (P : Int) * 29)) (.int .i64 (q * 53)) = some (.int .i64 X) := by rw [bin_add, ← hX, u10]
        have f11 : binP Try.prog .quo 3 (.int .i64 X) (.int .i64 64) = some (.int .i64 Y) := by rw [hquoX, u11]
        clear hX hY hZ u1 u2 u3 u4 u5 u6 u7 u8 u9 u10 u11 hq' hquo hquoX hrem1 hrem2
        unfold spec_l20Rd_pick.main
        refine bd ptr_ptr (bd (fa1 _ _) (bd hld (bd f_add (bd ptr_ptr (bd (fa1 _ _) (bd hst (bd f_lss ?_)))))))
        refine bd (want_bool (x := false) (y := false)) (bd (v := (PV.ptr id 0, h7)) rfl ?_)
        refine bd (want_bool (x := false) (y := false)) (bd (v := (PV.ptr id 0, h7)) rfl ?_)
        refine bd (want_bool (x := false) (y := false)) (bd (v := (PV.ptr id (0 + 0), h7)) (congrArg (pv h7) (fa0 id 0)) ?_)
        refine bd (want_bool (x := false) (y := false)) (bd (v := (bp, h7)) (congrArg (pv h7) hl0) ?_)
        refine bd (want_bool (x := false) (y := false)) (bd (v := (PV.int .i64 (bs.length : Int), h7)) (congrArg (pv h7) hlen) ?_)
        refine bd (want_bool (x := false) (y := false)) (bd (v := (PV.bool false, h7)) (congrArg (pv h7) f_eql) ?_)
        refine bd (v := PV.bool false) rfl (cdF ?_)
        refine bd ptr_ptr (bd (fa1 _ _) (bd hl1 (bd f_sub (bd ptr_ptr (bd (fa0 _ _) (bd hl0 (bd hlen (bd f_lt (cdF ?_)))))))))
        refine bd ptr_ptr (bd (fa0 _ _) (bd hl0 (bd ptr_ptr (bd (fa0 _ _) (bd hl0 (bd hlen (bd f_rem1 (bd ha1 (bd hla1 (bd f_conv1 (bd f1 ?_)))))))))))
        refine bd ptr_ptr (bd (fa0 _ _) (bd hl0 (bd f2 (bd f3 (bd ptr_ptr (bd (fa0 _ _) (bd hl0 (bd hlen (bd f_rem2 (bd ha2 (bd hla2 (bd f_conv2 (bd f4 ?_)))))))))))))
        refine bd f5 (bd f6 (bd f7 (bd ptr_ptr (bd (fa0 _ _) (bd hl0 (bd hlen (bd f8 (bd f9 (bd f10 (bd f11 (bd hxor (bd hremZ (bd res_int rfl)))))))))))))

end Go.Proofs.Ytlfjjjhjjmikfaa

/- The board that the model draws: small numbers, whatever they are. -/
namespace Go.Proofs.Ytlfjjjhjjmikfaa
open Go Go.Ip Go.RowKit G

/-- Below n nothing has turned but the object id. -/
def KeepX (id n : Nat) (h h' : PHeap) : Prop := h.length ≤ h'.length ∧ ∀ i, i < n → i ≠ id → h'[i]? = h[i]?

theorem KeepX.refl (id n : Nat) (h : PHeap) : KeepX id n h h := ⟨Nat.le_refl _, fun _ _ _ => rfl⟩
theorem KeepX.trans {id n : Nat} {a b c : PHeap} (h : KeepX id n a b) (k : KeepX id n b c) : KeepX id n a c := ⟨Nat.le_trans h.1 k.1, fun i hi hn => (k.2 i hi hn).trans (h.2 i hi hn)⟩
theorem KeepX.mono {id n m : Nat} {a b : PHeap} (h : KeepX id n a b) (hm : m ≤ n) : KeepX id m a b := ⟨h.1, fun i hi hn => h.2 i (by omega) hn⟩
theorem Keep.x {id n : Nat} {a b : PHeap} (h : Keep n a b) : KeepX id n a b := ⟨h.1, fun i hi _ => h.2 i hi⟩
theorem Only.x {id n : Nat} {a b : PHeap} (h : Only id (id + 1) a b) : KeepX id n a b := ⟨by rw [h.1]; exact Nat.le_refl _, fun i _ hn => h.2 i (by omega)⟩
theorem KeepX.keep {id n : Nat} {a b : PHeap} (h : KeepX id n a b) (hn : id ≤ n) : Keep id a b := ⟨h.1, fun i hi => h.2 i (by omega) (by omega)⟩

theorem OwnSl.keepX {id n m : Nat} {h h' : PHeap} {p : PV} {xs : List Int} (s : OwnSl n h p xs) (hk : KeepX id m h h') (hn : id < n) (hm : h.length ≤ m) : OwnSl n h' p xs := by
  rcases s with s | ⟨i, h1, h2, h3⟩
  · exact .inl s
  · have := (List.getElem?_eq_some_iff.1 h3).1
    exact .inr ⟨i, h1, h2, by rw [hk.2 i (by omega) (by omega)]; exact h3⟩

theorem lit2 (h E : PHeap) (a b : Int) : buildSliceP Try.prog 30 2 [(0, .int .i64 a), (1, .int .i64 b)] (h ++ E) = some (.sl (h.length + E.length) 0 2, h ++ (E ++ [.own 1 [.int .i64 a, .int .i64 b]])) := by
  simp [buildSliceP, tyElem, tySize, tyZero, repeatCells, fillP, PV.cells, setCells]

theorem tyBox : elemT Try.prog 44 = some 30 := by kernel_rfl
theorem tyBoxU : Try.prog.underlying 44 = some (.slice 30) := by kernel_rfl
theorem tyBoxSize : sizeT Try.prog 30 = some 1 := by kernel_rfl
theorem tyBoxAgg : isAggT Try.prog 30 = some false := by kernel_rfl

theorem lit13 (h : PHeap) (a0 a1 a2 a3 a4 a5 a6 a7 a8 a9 a10 a11 a12 : Nat) : buildSliceP Try.prog 44 13 [(0, .sl a0 0 2), (1, .sl a1 0 2), (2, .sl a2 0 2), (3, .sl a3 0 2), (4, .sl a4 0 2), (5, .sl a5 0 2), (6, .sl a6 0 2), (7, .sl a7 0 2), (8, .sl a8 0 2), (9, .sl a9 0 2), (10, .sl a10 0 2), (11, .sl a11 0 2), (12, .sl a12 0 2)] h = some (.sl h.length 0 13, h ++ [.own 1 [.sl a0 0 2, .sl a1 0 2, .sl a2 0 2, .sl a3 0 2, .sl a4 0 2, .sl a5 0 2, .sl a6 0 2, .sl a7 0 2, .sl a8 0 2, .sl a9 0 2, .sl a10 0 2, .sl a11 0 2, .sl a12 0 2]]) := by kernel_rfl
theorem lit5 (h : PHeap) (a0 a1 a2 a3 a4 : Nat) : buildSliceP Try.prog 44 5 [(0, .sl a0 0 2), (1, .sl a1 0 2), (2, .sl a2 0 2), (3, .sl a3 0 2), (4, .sl a4 0 2)] h = some (.sl h.length 0 5, h ++ [.own 1 [.sl a0 0 2, .sl a1 0 2, .sl a2 0 2, .sl a3 0 2, .sl a4 0 2]]) := by kernel_rfl

def boardObjs (L : Nat) : List PObj := [.own 1 [.int .i64 1, .int .i64 1], .own 1 [.int .i64 1, .int .i64 2], .own 1 [.int .i64 2, .int .i64 1], .own 1 [.int .i64 2, .int .i64 2], .own 1 [.int .i64 2, .int .i64 3], .own 1 [.int .i64 3, .int .i64 2], .own 1 [.int .i64 3, .int .i64 3], .own 1 [.int .i64 2, .int .i64 4], .own 1 [.int .i64 4, .int .i64 2], .own 1 [.int .i64 1, .int .i64 4], .own 1 [.int .i64 2, .int .i64 2], .own 1 [.int .i64 2, .int .i64 3], .own 1 [.int .i64 3, .int .i64 2]] ++ [.own 1 [.sl (L + 0) 0 2, .sl (L + 1) 0 2, .sl (L + 2) 0 2, .sl (L + 3) 0 2, .sl (L + 4) 0 2, .sl (L + 5) 0 2, .sl (L + 6) 0 2, .sl (L + 7) 0 2, .sl (L + 8) 0 2, .sl (L + 9) 0 2, .sl (L + 10) 0 2, .sl (L + 11) 0 2, .sl (L + 12) 0 2]]

/-- The row v of the table, in whatever heap that holds the table still. -/
theorem board_row (h h' : PHeap) (id : Nat) (hid : id < h.length) (hk : KeepX id (h.length + 14) (h ++ boardObjs h.length) h') (v : Nat) (hv : v < 13) :
    ∃ r c, loadP Try.prog 30 (.ptr (h.length + 13) (0 + v)) h' = some (.sl (h.length + v) 0 2) ∧ cellsAt h' (h.length + v) = [.int .i64 r, .int .i64 c] ∧ -1 ≤ r ∧ r ≤ 5 ∧ -1 ≤ c ∧ c ≤ 5 := by
  have hb : h'[h.length + 13]? = some (.own 1 [.sl (h.length + 0) 0 2, .sl (h.length + 1) 0 2, .sl (h.length + 2) 0 2, .sl (h.length + 3) 0 2, .sl (h.length + 4) 0 2, .sl (h.length + 5) 0 2, .sl (h.length + 6) 0 2, .sl (h.length + 7) 0 2, .sl (h.length + 8) 0 2, .sl (h.length + 9) 0 2, .sl (h.length + 10) 0 2, .sl (h.length + 11) 0 2, .sl (h.length + 12) 0 2]) := by
    rw [hk.2 _ (by omega) (by omega), List.getElem?_append_right (by omega), Nat.add_sub_cancel_left]; rfl
  have hs : ∀ j, j < 13 → h'[h.length + j]? = (boardObjs h.length)[j]? := fun j hj => by
    rw [hk.2 _ (by omega) (by omega), List.getElem?_append_right (by omega), Nat.add_sub_cancel_left]
  have hrow := hs v (by omega)
  simp only [loadP, tyBoxAgg, cellsAt, hb, hrow]
  have : v = 0 ∨ v = 1 ∨ v = 2 ∨ v = 3 ∨ v = 4 ∨ v = 5 ∨ v = 6 ∨ v = 7 ∨ v = 8 ∨ v = 9 ∨ v = 10 ∨ v = 11 ∨ v = 12 := by omega
  rcases this with rfl | rfl | rfl | rfl | rfl | rfl | rfl | rfl | rfl | rfl | rfl | rfl | rfl <;> exact ⟨_, _, rfl, rfl, by omega, by omega, by omega, by omega⟩

def noneObjs (L : Nat) : List PObj := [.own 1 [.int .i64 0, .int .i64 2], .own 1 [.int .i64 3, .int .i64 4], .own 1 [.int .i64 5, .int .i64 1], .own 1 [.int .i64 2, .int .i64 (-1)], .own 1 [.int .i64 1, .int .i64 5]] ++ [.own 1 [.sl (L + 0) 0 2, .sl (L + 1) 0 2, .sl (L + 2) 0 2, .sl (L + 3) 0 2, .sl (L + 4) 0 2]]

/-- The row v of the table, in whatever heap that holds the table still. -/
theorem none_row (h h' : PHeap) (id : Nat) (hid : id < h.length) (hk : KeepX id (h.length + 6) (h ++ noneObjs h.length) h') (v : Nat) (hv : v < 5) :
    ∃ r c, loadP Try.prog 30 (.ptr (h.length + 5) (0 + v)) h' = some (.sl (h.length + v) 0 2) ∧ cellsAt h' (h.length + v) = [.int .i64 r, .int .i64 c] ∧ -1 ≤ r ∧ r ≤ 5 ∧ -1 ≤ c ∧ c ≤ 5 := by
  have hb : h'[h.length + 5]? = some (.own 1 [.sl (h.length + 0) 0 2, .sl (h.length + 1) 0 2, .sl (h.length + 2) 0 2, .sl (h.length + 3) 0 2, .sl (h.length + 4) 0 2]) := by
    rw [hk.2 _ (by omega) (by omega), List.getElem?_append_right (by omega), Nat.add_sub_cancel_left]; rfl
  have hs : ∀ j, j < 5 → h'[h.length + j]? = (noneObjs h.length)[j]? := fun j hj => by
    rw [hk.2 _ (by omega) (by omega), List.getElem?_append_right (by omega), Nat.add_sub_cancel_left]
  have hrow := hs v (by omega)
  simp only [loadP, tyBoxAgg, cellsAt, hb, hrow]
  have : v = 0 ∨ v = 1 ∨ v = 2 ∨ v = 3 ∨ v = 4 := by omega
  rcases this with rfl | rfl | rfl | rfl | rfl <;> exact ⟨_, _, rfl, rfl, by omega, by omega, by omega, by omega⟩

theorem row_get {h : PHeap} {i : Nat} {r c : Int} (hc : cellsAt h i = [.int .i64 r, .int .i64 c]) :
    indexAddrP Try.prog 30 (.sl i 0 2) (.int .i64 0) = some (.ptr i 0) ∧ loadP Try.prog 3 (.ptr i 0) h = some (.int .i64 r) ∧
    indexAddrP Try.prog 30 (.sl i 0 2) (.int .i64 1) = some (.ptr i 1) ∧ loadP Try.prog 3 (.ptr i 1) h = some (.int .i64 c) := by
  refine ⟨by simp [indexAddrP, tyS, tySize], ?_, by simp [indexAddrP, tyS, tySize], ?_⟩ <;> simp [loadP, tyAgg, hc]

theorem Rd.mono {h : PHeap} {id m m' : Nat} (r : Rd h id m) (hm : m ≤ m') : Rd h id m' := by
  obtain ⟨bp, bs, pos, h1, h2, h3, h4, h5, h6⟩ := r
  exact ⟨bp, bs, pos, h1, h2, h3, h4, h5, by omega⟩

variable (g : Nat → PV) (lf n : Nat)

end Go.Proofs.Ytlfjjjhjjmikfaa

/- Promise 1: boards are turned. -/
namespace Go.Proofs.Ytlfjjjhjjmikfaa
open Go Go.Ip Go.RowKit G

variable (g : Nat → PV) (lf n : Nat)

theorem boardB_comm (r c : Int) : boardB c r = boardB r c := by
  unfold boardB
  have : c * r = r * c := Int.mul_comm c r
  rw [this]
  congr 1
  apply propext
  constructor <;> (intro h; omega)

theorem boardOk_N (N : Nat) (hN : 2 ≤ N) (h : PHeap) (r c : Int) : CL g lf N fn_impl_BoardOk [.int .i64 r, .int .i64 c] h = some (.bool (boardB r c), h) := by
  obtain ⟨n, rfl⟩ : ∃ n, N = n + 2 := ⟨N - 2, by omega⟩
  exact boardOk_calls g lf n h r c
theorem specBoardOk_N (N : Nat) (hN : 2 ≤ N) (h : PHeap) (r c : Int) : CL g lf N fn_spec_BoardOk [.int .i64 r, .int .i64 c] h = some (.bool (boardB r c), h) := by
  obtain ⟨n, rfl⟩ : ∃ n, N = n + 2 := ⟨N - 2, by omega⟩
  exact specBoardOk_calls g lf n h r c

end Go.Proofs.Ytlfjjjhjjmikfaa

/- The position that the model draws: at most ten numbers, whatever they are. -/
namespace Go.Proofs.Ytlfjjjhjjmikfaa
open Go Go.Ip Go.RowKit G

variable (g : Nat → PV) (lf n : Nat)

theorem mul_bound {r c : Int} (h1 : -1 ≤ r) (h2 : r ≤ 5) (h3 : -1 ≤ c) (h4 : c ≤ 5) : -5 ≤ r * c ∧ r * c ≤ 25 := by
  have : r = -1 ∨ r = 0 ∨ r = 1 ∨ r = 2 ∨ r = 3 ∨ r = 4 ∨ r = 5 := by omega
  rcases this with rfl | rfl | rfl | rfl | rfl | rfl | rfl <;> omega

theorem OwnSl.keepOnly {n id : Nat} {h h' : PHeap} {p : PV} {xs : List Int} (s : OwnSl n h p xs) (hk : Only id (id + 1) h h') (hn : id < n) : OwnSl n h' p xs :=
  s.keepX (m := h.length) hk.x hn (Nat.le_refl _)

theorem tab2 (h : PHeap) : buildSliceP Try.prog 30 2 [(0, .int .i64 (-1)), (1, .int .i64 3)] h = some (.sl h.length 0 2, h ++ [.own 1 [.int .i64 (-1), .int .i64 3]]) := by
  have := lit2 h [] (-1) 3
  simpa using this

end Go.Proofs.Ytlfjjjhjjmikfaa

/- Promise 3: free boards are positions. -/
namespace Go.Proofs.Ytlfjjjhjjmikfaa
open Go Go.Ip Go.RowKit G

variable (g : Nat → PV) (lf n : Nat)

theorem alive_calls (N : Nat) (hN : 3 ≤ N) (h : PHeap) : CL g lf N fn_laws_alive [] h = some (.bool true, h) := by
  obtain ⟨n, rfl⟩ : ∃ n, N = n + 1 := ⟨N - 1, by omega⟩
  rw [laws_alive.call_eq]
  have b22 : boardB 2 2 = true := by decide
  have b02 : boardB 0 2 = false := by decide
  have e1 := boardOk_N g lf n (by omega) h 2 2
  have e2 := boardOk_N g lf n (by omega) h 0 2
  rw [b22] at e1
  rw [b02] at e2
  unfold laws_alive.main
  exact bd e1 (bd (want_bool (x := true) (y := true)) (bd e2 (bd (want_bool (x := true) (y := true)) (bd (v := (PV.bool true, h)) rfl (bd (v := PV.bool true) rfl (bd res_bool rfl))))))

theorem positionOk_N {xs : List Int} {p : PV} {h : PHeap} (N : Nat) (hN : 3 ≤ N) (r c : Int) (hp : IntSl .i64 h p xs) (hl : xs.length ≤ 2 ^ 36) (hf : xs.length < lf) :
    CL g lf N fn_impl_PositionOk [.int .i64 r, .int .i64 c, p] h = some (.bool (posB r c xs), h) := by
  obtain ⟨n, rfl⟩ : ∃ n, N = n + 3 := ⟨N - 3, by omega⟩
  exact positionOk_calls g lf n r c hp hl hf
/-- All stones of the first player are taken away. -/
def clearL (x : Int) : Int := if x = 1 then 0 else x

theorem contentB_clear {x : Int} (h : contentB x = true) : contentB (clearL x) = true := by
  unfold clearL
  split
  · decide
  · exact h

theorem posB_clear {r c : Int} {xs : List Int} (h : posB r c xs = true) : posB r c (xs.map clearL) = true := by
  unfold posB at h ⊢
  rw [Bool.and_eq_true, Bool.and_eq_true] at h ⊢
  refine ⟨⟨h.1.1, by rw [List.length_map]; exact h.1.2⟩, ?_⟩
  rw [List.all_eq_true] at h ⊢
  intro y hy
  obtain ⟨x, hx, rfl⟩ := List.mem_map.1 hy
  exact contentB_clear (h.2 x hx)

theorem posB_free {r c : Int} {m : Nat} (hb : boardB r c = true) (hm : (m : Int) = r * c) : posB r c (List.replicate m 0) = true := by
  unfold posB
  rw [Bool.and_eq_true, Bool.and_eq_true]
  refine ⟨⟨hb, decide_eq_true (by rw [List.length_replicate]; exact hm)⟩, ?_⟩
  rw [List.all_eq_true]
  intro y hy
  rw [List.eq_of_mem_replicate hy]
  decide

theorem posB_board {r c : Int} {xs : List Int} (hb : boardB r c = false) : posB r c xs = false := by
  unfold posB
  rw [hb]; rfl

end Go.Proofs.Ytlfjjjhjjmikfaa

/- Promise 5: turned by half a turn twice it is as before. -/
namespace Go.Proofs.Ytlfjjjhjjmikfaa
open Go Go.Ip Go.RowKit G

variable (g : Nat → PV) (lf n : Nat)

/-! ### sameInts: are two lists equal? -/
theorem cellsFrom_count (x : Int) : ∀ (ys : List Int) (i : Nat), (cellsFrom x i ys).length = ys.count x
  | [], _ => rfl
  | y :: ys, i => by
    have := cellsFrom_count x ys (i + 1)
    rw [cellsFrom, List.count_cons]
    by_cases h : y = x
    · rw [if_pos h, List.length_cons, this, if_pos (by simp [h])]
    · rw [if_neg h, this, if_neg (by simp [h])]; rfl

theorem posB_reverse (r c : Int) (xs : List Int) : posB r c xs.reverse = posB r c xs := by
  unfold posB
  rw [List.length_reverse, List.all_reverse]

theorem turn_turn {r c : Int} {xs : List Int} (h : posB r c xs = true) : turnL r c xs.reverse = xs := by
  unfold turnL
  rw [posB_reverse, if_pos h, List.reverse_reverse]

theorem cells_turn (r c x : Int) (xs : List Int) : (cellsL r c xs.reverse x).length = (cellsL r c xs x).length := by
  unfold cellsL
  rw [posB_reverse]
  split
  · rw [cellsFrom_count, cellsFrom_count, List.count_reverse]
  · rfl

theorem posB_some {r c : Int} {xs : List Int} (h : posB r c xs = true) : xs.length ≠ 0 := by
  unfold posB at h
  rw [Bool.and_eq_true, Bool.and_eq_true] at h
  have hb := h.1.1
  unfold boardB at hb
  have hm := of_decide_eq_true hb
  have hl := of_decide_eq_true h.1.2
  have : 0 < r * c := Int.mul_pos (by omega) (by omega)
  omega

end Go.Proofs.Ytlfjjjhjjmikfaa

/- Promise 4: each cell is of one kind. -/
namespace Go.Proofs.Ytlfjjjhjjmikfaa
open Go Go.Ip Go.RowKit G

variable (g : Nat → PV) (lf n : Nat)

/-! ### what is listed -/
theorem cellsFrom_mem (x : Int) : ∀ (ys : List Int) (i : Nat) (e : Int), e ∈ cellsFrom x i ys → ∃ j : Nat, e = ((i + j : Nat) : Int) ∧ ys[j]? = some x
  | [], _, _, h => by cases h
  | y :: ys, i, e, h => by
    rw [cellsFrom] at h
    by_cases hy : y = x
    · rw [if_pos hy, List.mem_cons] at h
      rcases h with rfl | h
      · exact ⟨0, rfl, by simp [hy]⟩
      · obtain ⟨j, he, hj⟩ := cellsFrom_mem x ys (i + 1) e h
        exact ⟨j + 1, by rw [he]; congr 1; omega, by simpa using hj⟩
    · rw [if_neg hy] at h
      obtain ⟨j, he, hj⟩ := cellsFrom_mem x ys (i + 1) e h
      exact ⟨j + 1, by rw [he]; congr 1; omega, by simpa using hj⟩

theorem cellsFrom_sorted (x : Int) : ∀ (ys : List Int) (i : Nat), (cellsFrom x i ys).Pairwise (· < ·)
  | [], _ => List.Pairwise.nil
  | y :: ys, i => by
    rw [cellsFrom]
    have ih := cellsFrom_sorted x ys (i + 1)
    by_cases hy : y = x
    · rw [if_pos hy, List.pairwise_cons]
      refine ⟨fun e he => ?_, ih⟩
      obtain ⟨j, he, _⟩ := cellsFrom_mem x ys (i + 1) e he
      omega
    · rw [if_neg hy]; exact ih

theorem cells_sum : ∀ (ys : List Int), ys.all contentB = true → ys.count 0 + ys.count 1 + ys.count 2 = ys.length
  | [], _ => rfl
  | y :: ys, h => by
    simp only [List.all_cons, Bool.and_eq_true] at h
    have ih := cells_sum ys h.2
    have hy := h.1
    unfold contentB at hy
    have hy := of_decide_eq_true hy
    have : y = 0 ∨ y = 1 ∨ y = 2 := by omega
    rcases this with rfl | rfl | rfl <;> simp <;> omega

/-! ### ascend -/
/-! ### the law's own loops -/
end Go.Proofs.Ytlfjjjhjjmikfaa

/- What both functions that mirror a position compute, and the exact law on them. -/
namespace Go.Proofs.Ytlfjjjhjjmikfaa
open Go Go.Ip Go.RowKit G

variable (g : Nat → PV) (lf n : Nat)

def swapI (x : Int) : Int := if x = 1 then 2 else if x = 2 then 1 else x
/-- Where the mirrored position's cell k comes from: of a board of R rows and C columns. -/
def sig (R C k : Nat) : Nat := k % R * C + k / R
def mir (R C : Nat) (xs : List Int) : List Int := (List.range xs.length).map fun k => swapI (xs.getD (sig R C k) 0)
def mirL (r c : Int) (xs : List Int) : List Int := if posB r c xs = true then mir r.toNat c.toNat xs else []

theorem mirL_length (r c : Int) (xs : List Int) : (mirL r c xs).length ≤ xs.length := by
  unfold mirL mir; split <;> simp

theorem sig_small : ∀ R : Fin 5, ∀ C : Fin 5, ∀ k : Fin 10, 1 ≤ R.1 → 1 ≤ C.1 → k.1 < R.1 * C.1 → sig R.1 C.1 k.1 < R.1 * C.1 ∧ sig C.1 R.1 (sig R.1 C.1 k.1) = k.1 := by decide

/-- A board's sides, as numbers. -/
def Sides (r c : Int) (R C : Nat) (xs : List Int) : Prop := r = (R : Int) ∧ c = (C : Int) ∧ 1 ≤ R ∧ R ≤ 4 ∧ 1 ≤ C ∧ C ≤ 4 ∧ R * C ≤ 9 ∧ xs.length = R * C ∧ xs.all contentB = true

theorem sides_of {r c : Int} {xs : List Int} (h : posB r c xs = true) : ∃ R C, Sides r c R C xs := by
  unfold posB at h
  rw [Bool.and_eq_true, Bool.and_eq_true] at h
  have hb := h.1.1
  unfold boardB at hb
  have hm := of_decide_eq_true hb
  have hl := of_decide_eq_true h.1.2
  obtain ⟨R, rfl⟩ := Int.eq_ofNat_of_zero_le (show 0 ≤ r by omega)
  obtain ⟨C, rfl⟩ := Int.eq_ofNat_of_zero_le (show 0 ≤ c by omega)
  have h9 := hm.2.2.2.2
  rw [← Int.natCast_mul] at h9 hl
  exact ⟨R, C, rfl, rfl, by omega, by omega, by omega, by omega, by omega, by omega, h.2⟩

theorem sig_lt {R C k : Nat} (h1 : 1 ≤ R) (h2 : R ≤ 4) (h3 : 1 ≤ C) (h4 : C ≤ 4) (h9 : R * C ≤ 9) (hk : k < R * C) : sig R C k < R * C ∧ sig C R (sig R C k) = k :=
  sig_small ⟨R, by omega⟩ ⟨C, by omega⟩ ⟨k, by omega⟩ h1 h3 hk

theorem f_rem (i R : Nat) (hR : 1 ≤ R) : binP Try.prog .rem 3 (.int .i64 (i : Int)) (.int .i64 (R : Int)) = some (.int .i64 ((i % R : Nat) : Int)) := by
  rw [bin_rem (show (R : Int) ≠ 0 by omega)]; rfl
theorem f_quo (i R : Nat) (hR : 1 ≤ R) (hi : i ≤ 1000) : binP Try.prog .quo 3 (.int .i64 (i : Int)) (.int .i64 (R : Int)) = some (.int .i64 ((i / R : Nat) : Int)) := by
  rw [bin_quo (show (R : Int) ≠ 0 by omega), show ((i : Int).tdiv (R : Int)) = ((i / R : Nat) : Int) from rfl]
  have := Nat.div_le_self i R
  obtain ⟨q, hq⟩ : ∃ q, q = i / R := ⟨_, rfl⟩
  rw [← hq] at this ⊢
  rw [wr (by omega)]
theorem f_mul (a b : Nat) (h : a * b ≤ 1000) : binP Try.prog .mul 3 (.int .i64 (a : Int)) (.int .i64 (b : Int)) = some (.int .i64 ((a * b : Nat) : Int)) := by
  rw [bin_mul, ← Int.natCast_mul, wr (by omega)]
theorem f_add (a b : Nat) (h : a + b ≤ 1000) : binP Try.prog .add 3 (.int .i64 (a : Int)) (.int .i64 (b : Int)) = some (.int .i64 ((a + b : Nat) : Int)) := by
  rw [bin_add, ← Int.natCast_add, wr (by omega)]

end Go.Proofs.Ytlfjjjhjjmikfaa

/- The neighbours of a cell: the program's loop over its table of steps, the model's two loops, and the exact law. -/
namespace Go.Proofs.Ytlfjjjhjjmikfaa
open Go Go.Ip G

/-! ### the table of steps -/
def tabCells : List PV := [.int .i64 (-1), .int .i64 0, .int .i64 (-1), .int .i64 1, .int .i64 0, .int .i64 (-1), .int .i64 0, .int .i64 1, .int .i64 1, .int .i64 (-1), .int .i64 1, .int .i64 0]
def steps : List (Int × Int) := [(-1, 0), (-1, 1), (0, -1), (0, 1), (1, -1), (1, 0)]
def stp (i : Nat) : Int × Int := steps.getD i (0, 0)

def tab64N : List Nat := [0, 1, 56, 2, 57, 49, 28, 3, 61, 58, 42, 50, 38, 29, 17, 4, 62, 47, 59, 36, 45, 43, 51, 22, 53, 39, 33, 30, 24, 18, 12, 5, 63, 55, 48, 27, 60, 41, 37, 16, 46, 35, 44, 21, 52, 32, 23, 11, 54, 26, 40, 15, 34, 20, 31, 10, 25, 14, 19, 9, 13, 8, 7, 6]
def tab64Cells : List PV := tab64N.map fun n : Nat => .int .u8 (n : Int)
/-- Where the library's table of 64 bytes is known to lie, it reads so. -/
def Tab64 (_ : Nat → PV) (_ : PHeap) : Prop := True
theorem Tab64.keep {g : Nat → PV} {h h' : PHeap} (_ : Tab64 g h) (_ : Keep h.length h h') : Tab64 g h' := trivial

theorem stp_small (i : Nat) : -1 ≤ (stp i).1 ∧ (stp i).1 ≤ 1 ∧ -1 ≤ (stp i).2 ∧ (stp i).2 ≤ 1 := by
  by_cases hi : i < 6
  · have : i = 0 ∨ i = 1 ∨ i = 2 ∨ i = 3 ∨ i = 4 ∨ i = 5 := by omega
    rcases this with rfl | rfl | rfl | rfl | rfl | rfl <;> decide
  · have : stp i = (0, 0) := by
      unfold stp
      rw [List.getD_eq_getElem?_getD, List.getElem?_eq_none (by show 6 ≤ i; omega)]; rfl
    rw [this]; decide

theorem pair_load0 (h : PHeap) (a b : PV) : loadP Try.prog 3 (.ptr h.length 0) (h ++ [.own 1 [a, b]]) = some a := by simp [loadP, tyAgg, cellsAt, PObj.get]
theorem pair_load1 (h : PHeap) (a b : PV) : loadP Try.prog 3 (.ptr h.length 1) (h ++ [.own 1 [a, b]]) = some b := by simp [loadP, tyAgg, cellsAt, PObj.get]

/-! ### what is meant -/
def rowAt (C k : Nat) (s : Int × Int) : Int := ((k / C : Nat) : Int) + s.1
def colAt (C k : Nat) (s : Int × Int) : Int := ((k % C : Nat) : Int) + s.2
def inB (R C k : Nat) (s : Int × Int) : Bool := decide (0 ≤ rowAt C k s) && decide (rowAt C k s < R) && decide (0 ≤ colAt C k s) && decide (colAt C k s < C)
def nearFrom (R C k : Nat) (ss : List (Int × Int)) : List Int := (ss.filter (inB R C k)).map fun s => rowAt C k s * C + colAt C k s
def nearN (R C k : Nat) : List Int := nearFrom R C k steps
def cellB (r c k : Int) : Bool := boardB r c && decide (0 ≤ k ∧ k < r * c)
def nearL (r c k : Int) : List Int := if cellB r c k = true then nearN r.toNat c.toNat k.toNat else []

theorem nearFrom_append (R C k : Nat) (a b : List (Int × Int)) : nearFrom R C k (a ++ b) = nearFrom R C k a ++ nearFrom R C k b := by
  unfold nearFrom; rw [List.filter_append, List.map_append]
theorem nearFrom_length (R C k : Nat) (a : List (Int × Int)) : (nearFrom R C k a).length ≤ a.length := by
  unfold nearFrom; rw [List.length_map]; exact List.length_filter_le _ _
theorem nearL_length (r c k : Int) : (nearL r c k).length ≤ 6 := by
  unfold nearL
  split
  · exact nearFrom_length _ _ _ steps
  · simp

/-- A cell of a board, as numbers. -/
def CellOf (r c k : Int) (R C K : Nat) : Prop := r = (R : Int) ∧ c = (C : Int) ∧ k = (K : Int) ∧ 1 ≤ R ∧ R ≤ 4 ∧ 1 ≤ C ∧ C ≤ 4 ∧ R * C ≤ 9 ∧ K < R * C

theorem cell_of {r c k : Int} (h : cellB r c k = true) : ∃ R C K, CellOf r c k R C K := by
  unfold cellB at h
  rw [Bool.and_eq_true] at h
  have hb := h.1
  unfold boardB at hb
  have hm := of_decide_eq_true hb
  have hk := of_decide_eq_true h.2
  obtain ⟨R, rfl⟩ := Int.eq_ofNat_of_zero_le (show 0 ≤ r by omega)
  obtain ⟨C, rfl⟩ := Int.eq_ofNat_of_zero_le (show 0 ≤ c by omega)
  obtain ⟨K, rfl⟩ := Int.eq_ofNat_of_zero_le (show 0 ≤ k by omega)
  have h9 := hm.2.2.2.2
  rw [← Int.natCast_mul] at h9 hk
  exact ⟨R, C, K, rfl, rfl, rfl, by omega, by omega, by omega, by omega, by omega, by omega⟩

theorem row_small (C k : Nat) (s : Int × Int) (hk : k ≤ 9) (hs : -1 ≤ s.1 ∧ s.1 ≤ 1 ∧ -1 ≤ s.2 ∧ s.2 ≤ 1) : -1 ≤ rowAt C k s ∧ rowAt C k s ≤ 10 ∧ -1 ≤ colAt C k s ∧ colAt C k s ≤ 10 := by
  unfold rowAt colAt
  have e1 : ((k / C : Nat) : Int) ≤ 9 := Int.ofNat_le.2 (Nat.le_trans (Nat.div_le_self k C) hk)
  have e2 : ((k % C : Nat) : Int) ≤ 9 := Int.ofNat_le.2 (Nat.le_trans (Nat.mod_le k C) hk)
  have e3 : (0 : Int) ≤ ((k / C : Nat) : Int) := Int.natCast_nonneg _
  have e4 : (0 : Int) ≤ ((k % C : Nat) : Int) := Int.natCast_nonneg _
  refine ⟨?_, ?_, ?_, ?_⟩ <;> omega

theorem mul_in {y : Int} {C : Nat} (h0 : 0 ≤ y) (h1 : y ≤ 10) (h2 : 1 ≤ C) (h3 : C ≤ 4) : 0 ≤ y * C ∧ y * C ≤ 40 := by
  have : C = 1 ∨ C = 2 ∨ C = 3 ∨ C = 4 := by omega
  rcases this with rfl | rfl | rfl | rfl <;> omega

/-- An operation under a guard. -/
theorem gd {α β : Type} {b t : Bool} {x y : Option α} {f : α → Option β} {r : Option β} (hb : b = t) (hx : x.bind f = r) : ((wantV (.bool b) t).bind fun v => (bif v then x else y).bind f) = r := by
  subst hb; simpa using hx
theorem gn {α β : Type} {b t : Bool} {x y : Option α} {f : α → Option β} {r : Option β} (hb : b = !t) (hy : y.bind f = r) : ((wantV (.bool b) t).bind fun v => (bif v then x else y).bind f) = r := by
  subst hb; cases t <;> simpa using hy

variable (g : Nat → PV) (lf n : Nat)

/-! ### the program -/
theorem cellOk_N (N : Nat) (hN : 3 ≤ N) (h : PHeap) (r c k : Int) : CL g lf N fn_impl_cellOk [.int .i64 r, .int .i64 c, .int .i64 k] h = some (.bool (cellB r c k), h) := by
  obtain ⟨n, rfl⟩ : ∃ n, N = n + 3 := ⟨N - 3, by omega⟩
  rw [impl_cellOk.call_eq]
  unfold cellB
  cases hb : boardB r c with
  | false => simp [impl_cellOk.main, boardOk_calls, hb]
  | true =>
    have hb' := hb
    unfold boardB at hb'
    have hm := of_decide_eq_true hb'
    have hmul := mul_small hm.1 hm.2.1 hm.2.2.1 hm.2.2.2.1
    by_cases h0 : 0 ≤ k <;> simp [impl_cellOk.main, boardOk_calls, hb, hmul, h0]

end Go.Proofs.Ytlfjjjhjjmikfaa

/- The model's neighbours, 'is a number in a list', and the exact law on neighbours. -/
namespace Go.Proofs.Ytlfjjjhjjmikfaa
open Go Go.Ip G

variable (g : Nat → PV) (lf n : Nat)

theorem l1In_N (N : Nat) (hN : 1 ≤ N) (h : PHeap) (a lo hi : Int) : CL g lf N fn_spec_l1In [.int .i64 a, .int .i64 lo, .int .i64 hi] h = some (.bool (decide (lo ≤ a ∧ a ≤ hi)), h) := by
  obtain ⟨n, rfl⟩ : ∃ n, N = n + 1 := ⟨N - 1, by omega⟩
  exact l1In_calls g lf n h a lo hi

def rowSteps (i : Int) : List (Int × Int) := [(i, -1), (i, 0), (i, 1)].filter fun s => s.1 != s.2
theorem rowSteps_all : rowSteps (-1) ++ rowSteps 0 ++ rowSteps 1 = steps := by decide

theorem rowSteps_length (i : Int) : (rowSteps i).length ≤ 3 := List.length_filter_le _ _

/-! ### hasInt -/
/-! ### the exact law -/
theorem eqIntS_N {xs ys : List Int} {p q : PV} {h : PHeap} (N : Nat) (hN : 1 ≤ N) (hp : IntSl .i64 h p xs) (hq : IntSl .i64 h q ys) (hl : xs.length ≤ 2 ^ 36) (hf : xs.length < lf) :
    CL g lf N fn_laws_eqIntS [p, q] h = some (.bool (decide (xs = ys)), h) := by
  obtain ⟨n, rfl⟩ : ∃ n, N = n + 1 := ⟨N - 1, by omega⟩
  exact eqIntS_calls g lf n hp hq hl hf

end Go.Proofs.Ytlfjjjhjjmikfaa

/- Promises 2 and 8: neighbours are so both ways; all neighbours are counted by rows and columns. -/
namespace Go.Proofs.Ytlfjjjhjjmikfaa
open Go Go.Ip G

/-! ### of all cells of all boards -/
def ascB : List Int → Bool
  | a :: b :: l => decide (a < b) && ascB (b :: l)
  | _ => true

theorem asc_get : ∀ {L : List Int}, ascB L = true → ∀ i (hi : i + 1 < L.length), L[i] < L[i + 1]
  | [], _, i, hi => by simp at hi
  | [a], _, i, hi => by simp at hi
  | a :: b :: l, h, 0, hi => by simp only [ascB, Bool.and_eq_true, decide_eq_true_eq] at h; exact h.1
  | a :: b :: l, h, i + 1, hi => by
    simp only [ascB, Bool.and_eq_true] at h
    exact asc_get h.2 i (by simpa using hi)

def nearOk (R C K : Nat) : Bool :=
  (nearN R C K).all (fun e => decide (0 ≤ e ∧ e < ((R * C : Nat) : Int)) && decide (e ≠ (K : Int)) && decide ((K : Int) ∈ nearN R C e.toNat) && decide (((R * C : Nat) : Int) - 1 - e ∈ nearN R C (R * C - 1 - K))) &&
    ascB (nearN R C K) && decide ((nearN R C (R * C - 1 - K)).length = (nearN R C K).length)

theorem near_all : ((List.range 5).all fun R => (List.range 5).all fun C => (List.range 9).all fun K => !(decide (1 ≤ R ∧ 1 ≤ C ∧ R * C ≤ 9 ∧ K < R * C)) || nearOk R C K) = true := by kernel_rfl

theorem near_ok {R C K : Nat} (h1 : 1 ≤ R) (h2 : R ≤ 4) (h3 : 1 ≤ C) (h4 : C ≤ 4) (h9 : R * C ≤ 9) (hK : K < R * C) : nearOk R C K = true := by
  have := List.all_eq_true.1 near_all R (by rw [List.mem_range]; omega)
  have := List.all_eq_true.1 this C (by rw [List.mem_range]; omega)
  have := List.all_eq_true.1 this K (by rw [List.mem_range]; omega)
  rwa [decide_eq_true ⟨h1, h3, h9, hK⟩, Bool.not_true, Bool.false_or] at this

def sumTo (R C : Nat) : Nat → Nat
  | 0 => 0
  | i + 1 => sumTo R C i + (nearN R C i).length

theorem sum_all : ((List.range 5).all fun R => (List.range 5).all fun C => !(decide (1 ≤ R ∧ 1 ≤ C ∧ R * C ≤ 9)) || decide ((sumTo R C (R * C) : Int) = 2 * ((R : Int) * ((C : Int) - 1) + (C : Int) * ((R : Int) - 1) + ((R : Int) - 1) * ((C : Int) - 1)))) = true := by kernel_rfl

theorem sum_ok {R C : Nat} (h1 : 1 ≤ R) (h2 : R ≤ 4) (h3 : 1 ≤ C) (h4 : C ≤ 4) (h9 : R * C ≤ 9) : (sumTo R C (R * C) : Int) = 2 * ((R : Int) * ((C : Int) - 1) + (C : Int) * ((R : Int) - 1) + ((R : Int) - 1) * ((C : Int) - 1)) := by
  have := List.all_eq_true.1 sum_all R (by rw [List.mem_range]; omega)
  have := List.all_eq_true.1 this C (by rw [List.mem_range]; omega)
  rw [decide_eq_true ⟨h1, h3, h9⟩, Bool.not_true, Bool.false_or] at this
  exact of_decide_eq_true this

theorem nearN_length (R C i : Nat) : (nearN R C i).length ≤ 6 := nearFrom_length R C i steps
theorem sumTo_le (R C : Nat) : ∀ i, sumTo R C i ≤ 6 * i
  | 0 => Nat.le_refl _
  | i + 1 => by
    have := sumTo_le R C i
    have := nearN_length R C i
    rw [sumTo]; omega

theorem nearL_cell {r c k : Int} {R C K : Nat} (h : CellOf r c k R C K) : nearL r c k = nearN R C K := by
  obtain ⟨rfl, rfl, rfl, h1, h2, h3, h4, h9, hK⟩ := h
  unfold nearL cellB boardB
  have e : ((R : Int) * (C : Int)) = ((R * C : Nat) : Int) := by rw [Int.natCast_mul]
  rw [decide_eq_true ⟨by omega, by omega, by omega, by omega, by omega⟩, decide_eq_true ⟨by omega, by omega⟩, Bool.true_and, if_pos rfl]; rfl

variable (g : Nat → PV) (lf n : Nat)

theorem quo_39 {v : Int} (h0 : 0 ≤ v) (h1 : v < 40) : binP Try.prog .quo 3 (.int .i64 v) (.int .i64 39) = some (.int .i64 (v.tdiv 39)) ∧ 0 ≤ v.tdiv 39 ∧ v.tdiv 39 ≤ 40 := by
  have := tdiv_range h0 (show (1 : Int) ≤ 39 by decide)
  rw [bin_quo (by decide), wr (by omega)]
  exact ⟨rfl, this.1, by omega⟩

/-! ### promise 8 -/
end Go.Proofs.Ytlfjjjhjjmikfaa

/- Promise 7 and the exact law on it: how far cells are from each other. -/
namespace Go.Proofs.Ytlfjjjhjjmikfaa
open Go Go.Ip G

/-! ### sets of cells as numbers -/
theorem f_shr (a i : Nat) (hi : i ≤ 60) : binP Try.prog .shr 3 (.int .i64 (a : Int)) (.int .i64 (i : Int)) = some (.int .i64 ((a >>> i : Nat) : Int)) := by
  have h0 : ¬ ((i : Int) < 0) := by omega
  have hm : min ((i : Int).toNat) (IntKind.i64.bits) = i := by
    have : IntKind.i64.bits = 64 := rfl
    rw [this]; omega
  simp only [binP, shI, if_neg h0, hm]
  congr 2
  rw [Nat.shiftRight_eq_div_pow]
  have : ((2 : Int) ^ i) = ((2 ^ i : Nat) : Int) := by simp
  rw [this, ← Int.ofNat_fdiv]

theorem f_shl (i : Nat) (hi : i ≤ 30) : binP Try.prog .shl 3 (.int .i64 1) (.int .i64 (i : Int)) = some (.int .i64 ((1 <<< i : Nat) : Int)) := by
  have h0 : ¬ ((i : Int) < 0) := by omega
  have hm : min ((i : Int).toNat) (IntKind.i64.bits) = i := by
    have : IntKind.i64.bits = 64 := rfl
    rw [this]; omega
  simp only [binP, shI, if_neg h0, hm]
  congr 2
  rw [Nat.one_shiftLeft]
  have : ((2 : Int) ^ i) = ((2 ^ i : Nat) : Int) := by simp
  rw [Int.one_mul, this]
  have hle : 2 ^ i ≤ 2 ^ 30 := Nat.pow_le_pow_right (by decide) hi
  obtain ⟨z, hz⟩ : ∃ z : Nat, z = 2 ^ i := ⟨_, rfl⟩
  rw [← hz] at hle ⊢
  exact wr (by omega)

theorem natEq (y k : Nat) : ((y : Int) == (k : Int)) = decide (y = k) := by rw [Bool.eq_iff_iff, beq_iff_eq, decide_eq_true_iff, Int.ofNat_inj]

theorem f_and {a b : Nat} (ha : a < 2 ^ 62) (hb : b < 2 ^ 62) : binP Try.prog .and 3 (.int .i64 (a : Int)) (.int .i64 (b : Int)) = some (.int .i64 ((a &&& b : Nat) : Int)) := by
  have hz : a &&& b < 2 ^ 62 := Nat.and_lt_two_pow a hb
  have e : (BitVec.ofInt IntKind.i64.bits (a : Int) &&& BitVec.ofInt IntKind.i64.bits (b : Int)).toNat = a &&& b := by
    have hbits : IntKind.i64.bits = 64 := rfl
    rw [BitVec.toNat_and, BitVec.toNat_ofInt, BitVec.toNat_ofInt, hbits]
    congr 1 <;> omega
  have : binP Try.prog .and 3 (.int .i64 (a : Int)) (.int .i64 (b : Int)) = some (.int .i64 (IntKind.i64.wrap ((BitVec.ofInt IntKind.i64.bits (a : Int) &&& BitVec.ofInt IntKind.i64.bits (b : Int)).toNat : Int))) := by simp only [binP, binI, if_true]
  rw [this, e, wr (by omega)]

theorem f_or {a b : Nat} (ha : a < 2 ^ 62) (hb : b < 2 ^ 62) : binP Try.prog .or 3 (.int .i64 (a : Int)) (.int .i64 (b : Int)) = some (.int .i64 ((a ||| b : Nat) : Int)) := by
  have hz : a ||| b < 2 ^ 62 := Nat.or_lt_two_pow ha hb
  have e : (BitVec.ofInt IntKind.i64.bits (a : Int) ||| BitVec.ofInt IntKind.i64.bits (b : Int)).toNat = a ||| b := by
    have hbits : IntKind.i64.bits = 64 := rfl
    rw [BitVec.toNat_or, BitVec.toNat_ofInt, BitVec.toNat_ofInt, hbits]
    congr 1 <;> omega
  have : binP Try.prog .or 3 (.int .i64 (a : Int)) (.int .i64 (b : Int)) = some (.int .i64 (IntKind.i64.wrap ((BitVec.ofInt IntKind.i64.bits (a : Int) ||| BitVec.ofInt IntKind.i64.bits (b : Int)).toNat : Int))) := by simp only [binP, binI, if_true]
  rw [this, e, wr (by omega)]

def orAll (w : Nat) : List Int → Nat
  | [] => w
  | e :: l => orAll (w ||| (1 <<< e.toNat)) l
def wideFrom (R C S : Nat) : Nat → Nat → Nat → Nat
  | 0, _, w => w
  | m + 1, i, w => wideFrom R C S m (i + 1) (if (S >>> i) &&& 1 = 0 then w else orAll w (nearN R C i))
def wideN (R C S : Nat) : Nat := wideFrom R C S (R * C) 0 S
def farFrom (R C B : Nat) : Nat → Nat → Nat → Int
  | 0, _, _ => -1
  | m + 1, i, S => if (S >>> B) &&& 1 = 1 then (i : Int) else farFrom R C B m (i + 1) (wideN R C S)
def farN (R C A B : Nat) : Int := farFrom R C B (R * C) 0 (1 <<< A)

theorem shl_lt {i : Nat} (hi : i < 9) : 1 <<< i < 2 ^ 9 := by
  rw [Nat.one_shiftLeft]; exact Nat.pow_lt_pow_right (by decide) hi

theorem orAll_lt : ∀ (L : List Int) (w : Nat), (∀ e ∈ L, 0 ≤ e ∧ e < 9) → w < 2 ^ 9 → orAll w L < 2 ^ 9
  | [], w, _, hw => hw
  | e :: l, w, h, hw => by
    have he := h e (by simp)
    exact orAll_lt l _ (fun x hx => h x (by simp [hx])) (Nat.or_lt_two_pow hw (shl_lt (by omega)))

theorem near_in {R C K : Nat} (h1 : 1 ≤ R) (h2 : R ≤ 4) (h3 : 1 ≤ C) (h4 : C ≤ 4) (h9 : R * C ≤ 9) (hK : K < R * C) : ∀ e ∈ nearN R C K, 0 ≤ e ∧ e < ((R * C : Nat) : Int) := by
  intro e he
  have hok := near_ok h1 h2 h3 h4 h9 hK
  unfold nearOk at hok
  simp only [Bool.and_eq_true, decide_eq_true_eq] at hok
  have hall := List.all_eq_true.1 hok.1.1 e he
  simp only [Bool.and_eq_true, decide_eq_true_eq] at hall
  exact hall.1.1.1

theorem wideFrom_lt {R C S : Nat} (h1 : 1 ≤ R) (h2 : R ≤ 4) (h3 : 1 ≤ C) (h4 : C ≤ 4) (h9 : R * C ≤ 9) : ∀ (m i w : Nat), i + m = R * C → w < 2 ^ 9 → wideFrom R C S m i w < 2 ^ 9
  | 0, _, _, _, hw => hw
  | m + 1, i, w, him, hw => by
    rw [wideFrom]
    refine wideFrom_lt h1 h2 h3 h4 h9 m (i + 1) _ (by omega) ?_
    split
    · exact hw
    · exact orAll_lt _ _ (fun e he => by have := near_in h1 h2 h3 h4 h9 (show i < R * C by omega) e he; omega) hw

/-! ### what the model says -/
def farS (C A B : Nat) : Int :=
  let d := ((B / C : Nat) : Int) - ((A / C : Nat) : Int)
  let x := ((B % C : Nat) : Int) - ((A % C : Nat) : Int)
  if d < 0 then (if 0 ≤ -x then -d + -x else (if x > -d then x else -d)) else (if 0 ≤ x then d + x else (if -x > d then -x else d))

def leastFrom (C B : Nat) (x : Int) : List Int → Int
  | [] => x
  | e :: l => leastFrom C B (if farS C e.toNat B < x then farS C e.toNat B else x) l

def farOk (R C A B : Nat) : Bool :=
  decide (farN R C A B = farS C A B) && decide (0 ≤ farS C A B ∧ farS C A B ≤ 20) && decide (farS C B A = farS C A B) &&
    ((nearN R C A).all fun e => decide (farS C e.toNat B ≤ farS C A B + 1 ∧ farS C A B - 1 ≤ farS C e.toNat B)) &&
    (decide (farS C A B = 0) == decide (A = B)) && (decide (farS C A B = 1) == decide ((B : Int) ∈ nearN R C A)) &&
    (decide (farS C A B = 0) || decide (leastFrom C B 100 (nearN R C A) = farS C A B - 1))

theorem far_all : ((List.range 5).all fun R => (List.range 5).all fun C => (List.range 9).all fun A => (List.range 9).all fun B => !(decide (1 ≤ R ∧ 1 ≤ C ∧ R * C ≤ 9 ∧ A < R * C ∧ B < R * C)) || farOk R C A B) = true := by kernel_rfl

theorem far_ok {R C A B : Nat} (h1 : 1 ≤ R) (h2 : R ≤ 4) (h3 : 1 ≤ C) (h4 : C ≤ 4) (h9 : R * C ≤ 9) (hA : A < R * C) (hB : B < R * C) : farOk R C A B = true := by
  have := List.all_eq_true.1 far_all R (by rw [List.mem_range]; omega)
  have := List.all_eq_true.1 this C (by rw [List.mem_range]; omega)
  have := List.all_eq_true.1 this A (by rw [List.mem_range]; omega)
  have := List.all_eq_true.1 this B (by rw [List.mem_range]; omega)
  rwa [decide_eq_true ⟨h1, h3, h9, hA, hB⟩, Bool.not_true, Bool.false_or] at this

variable (g : Nat → PV) (lf n : Nat)

/-! ### the program -/
def farL (r c a b : Int) : Int := if (cellB r c a && cellB r c b) = true then farS c.toNat a.toNat b.toNat else -1

theorem far_eq {R C A B : Nat} (h1 : 1 ≤ R) (h2 : R ≤ 4) (h3 : 1 ≤ C) (h4 : C ≤ 4) (h9 : R * C ≤ 9) (hA : A < R * C) (hB : B < R * C) : farN R C A B = farS C A B := by
  have := far_ok h1 h2 h3 h4 h9 hA hB
  unfold farOk at this
  simp only [Bool.and_eq_true, decide_eq_true_eq] at this
  exact this.1.1.1.1.1.1

theorem f_sub (a b : Int) (h : -1000 ≤ a - b ∧ a - b ≤ 1000) : binP Try.prog .sub 3 (.int .i64 a) (.int .i64 b) = some (.int .i64 (a - b)) := by rw [bin_sub, wr (by omega)]
theorem f_addI (a b : Int) (h : -1000 ≤ a + b ∧ a + b ≤ 1000) : binP Try.prog .add 3 (.int .i64 a) (.int .i64 b) = some (.int .i64 (a + b)) := by rw [bin_add, wr (by omega)]
theorem f_neg (a : Int) (h : -1000 ≤ a ∧ a ≤ 1000) : unP .neg (.int .i64 a) = some (.int .i64 (-a)) := by rw [un_neg, wr (by omega), show 0 - a = -a by omega]

end Go.Proofs.Ytlfjjjhjjmikfaa

/- Sets of cells as bits: what grows, what is reached, and at what cost. No program text. -/
namespace Go.Proofs.Ytlfjjjhjjmikfaa

theorem bit_iff (x k : Nat) : x >>> k % 2 = 1 ↔ x.testBit k = true := by
  rw [Nat.testBit_eq_decide_div_mod_eq, Nat.shiftRight_eq_div_pow, decide_eq_true_iff]

/-- Cell j is beside cell k: the masks tell the neighbours of each cell. -/
def Adj (M : List Nat) (k j : Nat) : Prop := (M.getD k 0).testBit j = true

inductive Reach (M : List Nat) (set fr : Nat) : Nat → Prop
  | start {j} (h : fr.testBit j = true) (hs : set.testBit j = true) : Reach M set fr j
  | step {k j} (h : Reach M set fr k) (ha : Adj M k j) (hs : set.testBit j = true) : Reach M set fr j

theorem Reach.inSet {M : List Nat} {set fr j : Nat} (h : Reach M set fr j) : set.testBit j = true := by
  cases h <;> assumption

theorem Reach.mono {M : List Nat} {set fr set' fr' : Nat} (hs : ∀ j, set.testBit j = true → set'.testBit j = true) (hf : ∀ j, fr.testBit j = true → fr'.testBit j = true) {j : Nat} (h : Reach M set fr j) : Reach M set' fr' j := by
  induction h with
  | start h h' => exact .start (hf _ h) (hs _ h')
  | step _ ha h' ih => exact .step ih ha (hs _ h')

theorem Reach.trans {M : List Nat} {set fr fr' : Nat} (hf : ∀ j, fr'.testBit j = true → Reach M set fr j) {j : Nat} (h : Reach M set fr' j) : Reach M set fr j := by
  induction h with
  | start h _ => exact hf _ h
  | step _ ha h' ih => exact .step ih ha h'

theorem one_bit (k j : Nat) : (1 <<< k).testBit j = decide (j = k) := by
  rw [Nat.one_shiftLeft, Nat.testBit_two_pow]
  by_cases h : j = k
  · subst h; simp
  · simp [h]; exact fun e => h e.symm

/-- From one cell to another, and back. -/
theorem Reach.back {M : List Nat} (sym : ∀ k j, Adj M k j → Adj M j k) {set a b : Nat} (ha : set.testBit a = true) (h : Reach M set (1 <<< a) b) : Reach M set (1 <<< b) a := by
  induction h with
  | @start j h _ =>
    rw [one_bit] at h
    have : j = a := of_decide_eq_true h
    subst this
    exact .start (by rw [one_bit]; simp) ha
  | @step k j _ hk hj ih =>
    refine ih.trans fun i hi => ?_
    rw [one_bit] at hi
    have : i = k := of_decide_eq_true hi
    subst this
    rename_i hk'
    exact .step (.start (by rw [one_bit]; simp) hj) (sym _ _ hk) hk'.inSet

/-! ### growing -/
def stepFrom (set now : Nat) : Nat → List Nat → Nat → Nat
  | _, [], nx => nx
  | k, m :: ms, nx => stepFrom set now (k + 1) ms (if now >>> k % 2 = 1 then nx ||| (m &&& set) else nx)

theorem stepFrom_le (set now : Nat) : ∀ (ms : List Nat) (k nx : Nat), nx ≤ stepFrom set now k ms nx
  | [], _, _ => Nat.le_refl _
  | m :: ms, k, nx => by
    rw [stepFrom]
    refine Nat.le_trans ?_ (stepFrom_le set now ms (k + 1) _)
    split
    · exact Nat.left_le_or
    · exact Nat.le_refl _

theorem stepFrom_bit (set now : Nat) (j : Nat) : ∀ (ms : List Nat) (k nx : Nat), (stepFrom set now k ms nx).testBit j = true ↔ nx.testBit j = true ∨ ∃ i, now.testBit (k + i) = true ∧ (ms.getD i 0).testBit j = true ∧ set.testBit j = true
  | [], k, nx => by simp [stepFrom]
  | m :: ms, k, nx => by
    rw [stepFrom, stepFrom_bit set now j ms (k + 1)]
    have hsplit : (∃ i, now.testBit (k + i) = true ∧ ((m :: ms).getD i 0).testBit j = true ∧ set.testBit j = true) ↔ (now.testBit k = true ∧ m.testBit j = true ∧ set.testBit j = true) ∨ ∃ i, now.testBit (k + 1 + i) = true ∧ (ms.getD i 0).testBit j = true ∧ set.testBit j = true := by
      constructor
      · rintro ⟨i, h⟩
        cases i with
        | zero => exact .inl (by simpa using h)
        | succ i => exact .inr ⟨i, by rw [show k + 1 + i = k + (i + 1) by omega]; simpa using h⟩
      · rintro (h | ⟨i, h⟩)
        · exact ⟨0, by simpa using h⟩
        · exact ⟨i + 1, by rw [show k + (i + 1) = k + 1 + i by omega]; simpa using h⟩
    rw [hsplit]
    by_cases hb : now >>> k % 2 = 1
    · rw [if_pos hb, Nat.testBit_or, Nat.testBit_and]
      have hb' := (bit_iff now k).1 hb
      simp [hb', or_assoc]
    · rw [if_neg hb]
      have hb' : ¬ now.testBit k = true := fun h => hb ((bit_iff now k).2 h)
      simp [hb']

def growF (M : List Nat) (set : Nat) : Nat → Nat → Nat
  | 0, now => now
  | f + 1, now => if stepFrom set now 0 M now = now then now else growF M set f (stepFrom set now 0 M now)
def growN (M : List Nat) (set fr : Nat) : Nat := growF M set 600 (fr &&& set)

theorem sub_and {a b : Nat} (h : ∀ j, a.testBit j = true → b.testBit j = true) : a &&& b = a := by
  apply Nat.eq_of_testBit_eq
  intro j
  rw [Nat.testBit_and]
  cases e : a.testBit j with
  | false => rfl
  | true => rw [h j e]; rfl

theorem sub_le {a b : Nat} (h : ∀ j, a.testBit j = true → b.testBit j = true) : a ≤ b := by
  rw [← sub_and h]; exact Nat.and_le_right

theorem step_sub {M : List Nat} {set now : Nat} (h : ∀ j, now.testBit j = true → set.testBit j = true) : ∀ j, (stepFrom set now 0 M now).testBit j = true → set.testBit j = true := by
  intro j hj
  rcases (stepFrom_bit set now j M 0 now).1 hj with hj | ⟨_, _, _, hj⟩
  · exact h j hj
  · exact hj

theorem growF_fix {M : List Nat} {set : Nat} : ∀ (f now : Nat), (∀ j, now.testBit j = true → set.testBit j = true) → set < now + f → stepFrom set (growF M set f now) 0 M (growF M set f now) = growF M set f now ∧ (∀ j, now.testBit j = true → (growF M set f now).testBit j = true)
  | 0, now, hs, hf => by have := sub_le hs; omega
  | f + 1, now, hs, hf => by
    rw [growF]
    split
    · rename_i h; exact ⟨h, fun _ h => h⟩
    · rename_i h
      have hle := stepFrom_le set now M 0 now
      have ih := growF_fix (M := M) f (stepFrom set now 0 M now) (step_sub hs) (by omega)
      exact ⟨ih.1, fun j hj => ih.2 j ((stepFrom_bit set now j M 0 now).2 (.inl hj))⟩

theorem growF_reach {M : List Nat} {set fr : Nat} : ∀ (f now : Nat), (∀ j, now.testBit j = true → Reach M set fr j) → ∀ j, (growF M set f now).testBit j = true → Reach M set fr j
  | 0, now, hs, j, hj => hs j hj
  | f + 1, now, hs, j, hj => by
    rw [growF] at hj
    split at hj
    · exact hs j hj
    · refine growF_reach f _ (fun i hi => ?_) j hj
      rcases (stepFrom_bit set now i M 0 now).1 hi with hi | ⟨k, h1, h2, h3⟩
      · exact hs i hi
      · rw [Nat.zero_add] at h1
        exact .step (hs k h1) h2 h3

theorem grow_bit {M : List Nat} {set fr : Nat} (hset : set < 2 ^ 9) (j : Nat) : (growN M set fr).testBit j = true ↔ Reach M set fr j := by
  have hsub : ∀ j, (fr &&& set).testBit j = true → set.testBit j = true := fun j hj => by rw [Nat.testBit_and, Bool.and_eq_true] at hj; exact hj.2
  constructor
  · refine growF_reach 600 _ (fun i hi => ?_) j
    rw [Nat.testBit_and, Bool.and_eq_true] at hi
    exact .start hi.1 hi.2
  · obtain ⟨hfix, hin⟩ := growF_fix (M := M) 600 (fr &&& set) hsub (by omega)
    intro h
    induction h with
    | start h hs => exact hin _ (by rw [Nat.testBit_and, h, hs]; rfl)
    | @step k j _ ha hs ih =>
      unfold growN at ih ⊢
      rw [← hfix]
      exact (stepFrom_bit set _ j M 0 _).2 (.inr ⟨k, by rw [Nat.zero_add]; exact ih, ha, hs⟩)

theorem grow_lt {M : List Nat} {set fr : Nat} (hset : set < 2 ^ 9) : growN M set fr < 2 ^ 9 :=
  Nat.lt_of_le_of_lt (sub_le fun j hj => ((grow_bit hset j).1 hj).inSet) hset

/-! ### at what cost -/
/-- Cell j is reached from the edge over own cells and at most k free ones. -/
inductive Cost (M : List Nat) (edge own free : Nat) : Nat → Nat → Prop
  | ownEdge {k j} (h : edge.testBit j = true) (ho : own.testBit j = true) : Cost M edge own free k j
  | freeEdge {k j} (h : edge.testBit j = true) (hf : free.testBit j = true) : Cost M edge own free (k + 1) j
  | ownStep {k i j} (h : Cost M edge own free k i) (ha : Adj M i j) (ho : own.testBit j = true) : Cost M edge own free k j
  | freeStep {k i j} (h : Cost M edge own free k i) (ha : Adj M i j) (hf : free.testBit j = true) : Cost M edge own free (k + 1) j

theorem Cost.more {M : List Nat} {edge own free k j : Nat} (h : Cost M edge own free k j) : Cost M edge own free (k + 1) j := by
  induction h with
  | ownEdge h ho => exact .ownEdge h ho
  | freeEdge h hf => exact .freeEdge h hf
  | ownStep _ ha ho ih => exact .ownStep ih ha ho
  | freeStep _ ha hf ih => exact .freeStep ih ha hf

theorem Cost.le {M : List Nat} {edge own free k k' j : Nat} (h : Cost M edge own free k j) (hk : k ≤ k') : Cost M edge own free k' j := by
  obtain ⟨d, rfl⟩ : ∃ d, k' = k + d := ⟨k' - k, by omega⟩
  clear hk
  induction d with
  | zero => exact h
  | succ d ih => exact ih.more

/-- Own cells more, free cells that are now own: no dearer. -/
theorem Cost.mono {M : List Nat} {edge own free own' free' : Nat} (ho : ∀ j, own.testBit j = true → own'.testBit j = true) (hf : ∀ j, free.testBit j = true → own'.testBit j = true ∨ free'.testBit j = true) {k j : Nat} (h : Cost M edge own free k j) : Cost M edge own' free' k j := by
  induction h with
  | ownEdge h h' => exact .ownEdge h (ho _ h')
  | freeEdge h h' =>
    rcases hf _ h' with h' | h'
    · exact .ownEdge h h'
    · exact .freeEdge h h'
  | ownStep _ ha h' ih => exact .ownStep ih ha (ho _ h')
  | freeStep _ ha h' ih =>
    rcases hf _ h' with h' | h'
    · exact (Cost.ownStep ih ha h').more
    · exact .freeStep ih ha h'

/-- One own cell more, at c, makes it cheaper by one at most. -/
theorem Cost.less {M : List Nat} {edge own free own' free' c : Nat} (hc : free.testBit c = true) (ho : ∀ j, own'.testBit j = true → own.testBit j = true ∨ j = c) (hf : ∀ j, free'.testBit j = true → free.testBit j = true) {k j : Nat} (h : Cost M edge own' free' k j) :
    Cost M edge own free k j ∨ (Cost M edge own free (k + 1) j ∧ Cost M edge own free (k + 1) c) := by
  induction h with
  | ownEdge h h' =>
    rcases ho _ h' with h' | rfl
    · exact .inl (.ownEdge h h')
    · exact .inr ⟨.freeEdge h hc, .freeEdge h hc⟩
  | freeEdge h h' => exact .inl (.freeEdge h (hf _ h'))
  | ownStep _ ha h' ih =>
    rcases ho _ h' with h' | rfl
    · rcases ih with ih | ⟨ih, ih2⟩
      · exact .inl (.ownStep ih ha h')
      · exact .inr ⟨.ownStep ih ha h', ih2⟩
    · rcases ih with ih | ⟨_, ih2⟩
      · exact .inr ⟨.freeStep ih ha hc, .freeStep ih ha hc⟩
      · exact .inr ⟨ih2, ih2⟩
  | freeStep _ ha h' ih =>
    rcases ih with ih | ⟨ih, ih2⟩
    · exact .inl (.freeStep ih ha (hf _ h'))
    · exact .inr ⟨.freeStep ih ha (hf _ h'), ih2.more⟩

/-- What is dear by one more is so by some free cell: with that one own it is not. -/
theorem Cost.cell {M : List Nat} {edge own free k j : Nat} (h : Cost M edge own free (k + 1) j) :
    Cost M edge own free k j ∨ ∃ c, free.testBit c = true ∧ ∀ own' free', (∀ j, own.testBit j = true → own'.testBit j = true) → own'.testBit c = true → (∀ j, free.testBit j = true → own'.testBit j = true ∨ free'.testBit j = true) → Cost M edge own' free' k j := by
  generalize hk : k + 1 = k' at h
  induction h generalizing k with
  | ownEdge h h' => exact .inl (.ownEdge h h')
  | @freeEdge k0 j h h' => exact .inr ⟨j, h', fun own' free' _ hc _ => .ownEdge h hc⟩
  | ownStep _ ha h' ih =>
    rcases ih hk with ih | ⟨c, hc, ih⟩
    · exact .inl (.ownStep ih ha h')
    · exact .inr ⟨c, hc, fun own' free' ho hoc hf => .ownStep (ih own' free' ho hoc hf) ha (ho _ h')⟩
  | @freeStep k0 i j h0 ha h' _ =>
    obtain rfl : k = k0 := by omega
    exact .inr ⟨j, h', fun own' free' ho hoc hf => .ownStep (h0.mono ho hf) ha hoc⟩

theorem cost_zero {M : List Nat} {edge own free j : Nat} : Cost M edge own free 0 j ↔ Reach M own edge j := by
  constructor
  · intro h
    generalize hk : 0 = k at h
    induction h with
    | ownEdge h ho => exact .start h ho
    | freeEdge => cases hk
    | ownStep _ ha ho ih => exact .step (ih hk) ha ho
    | freeStep => cases hk
  · intro h
    induction h with
    | start h hs => exact .ownEdge h hs
    | step _ ha hs ih => exact .ownStep ih ha hs

theorem cost_any {M : List Nat} {edge own free j : Nat} : (∃ k, Cost M edge own free k j) ↔ Reach M (own ||| free) edge j := by
  constructor
  · rintro ⟨k, h⟩
    induction h with
    | ownEdge h ho => exact .start h (by rw [Nat.testBit_or, ho]; rfl)
    | freeEdge h hf => exact .start h (by rw [Nat.testBit_or, hf, Bool.or_true])
    | ownStep _ ha ho ih => exact .step ih ha (by rw [Nat.testBit_or, ho]; rfl)
    | freeStep _ ha hf ih => exact .step ih ha (by rw [Nat.testBit_or, hf, Bool.or_true])
  · intro h
    induction h with
    | start h hs =>
      rw [Nat.testBit_or, Bool.or_eq_true] at hs
      rcases hs with hs | hs
      · exact ⟨0, .ownEdge h hs⟩
      · exact ⟨1, .freeEdge h hs⟩
    | step _ ha hs ih =>
      obtain ⟨k, ih⟩ := ih
      rw [Nat.testBit_or, Bool.or_eq_true] at hs
      rcases hs with hs | hs
      · exact ⟨k, .ownStep ih ha hs⟩
      · exact ⟨k + 1, .freeStep ih ha hs⟩

end Go.Proofs.Ytlfjjjhjjmikfaa

/- Gaps: waves of cost tell the least number of free cells. No program text. -/
namespace Go.Proofs.Ytlfjjjhjjmikfaa

def gapF (M : List Nat) (own free edge last : Nat) : Nat → Nat → Nat → Int
  | 0, _, _ => -1
  | m + 1, cost, now =>
    if growN M (own ||| now) (now ||| (edge &&& own)) &&& last = 0 then
      if stepFrom free (growN M (own ||| now) (now ||| (edge &&& own))) 0 M (growN M (own ||| now) (now ||| (edge &&& own)) ||| (edge &&& free)) = growN M (own ||| now) (now ||| (edge &&& own)) then -1
      else gapF M own free edge last m (cost + 1) (stepFrom free (growN M (own ||| now) (now ||| (edge &&& own))) 0 M (growN M (own ||| now) (now ||| (edge &&& own)) ||| (edge &&& free)))
    else (cost : Int)
def gapN (M : List Nat) (own free edge last n : Nat) : Int := gapF M own free edge last (n + 1) 0 0

/-- The last side is reached at cost k. -/
def Hits (M : List Nat) (own free edge last k : Nat) : Prop := ∃ j, last.testBit j = true ∧ Cost M edge own free k j
def IsGap (M : List Nat) (own free edge last k : Nat) : Prop := Hits M own free edge last k ∧ ∀ i, i < k → ¬ Hits M own free edge last i

theorem Hits.le {M : List Nat} {own free edge last k k' : Nat} (h : Hits M own free edge last k) (hk : k ≤ k') : Hits M own free edge last k' := by
  obtain ⟨j, hj, h⟩ := h; exact ⟨j, hj, h.le hk⟩

theorem IsGap.unique {M : List Nat} {own free edge last k k' : Nat} (h : IsGap M own free edge last k) (h' : IsGap M own free edge last k') : k = k' := by
  rcases Nat.lt_trichotomy k k' with hlt | e | hgt
  · exact absurd h.1 (h'.2 k hlt)
  · exact e
  · exact absurd h'.1 (h.2 k' hgt)

theorem hits_least {M : List Nat} {own free edge last : Nat} : ∀ k, Hits M own free edge last k → ∃ i, i ≤ k ∧ IsGap M own free edge last i
  | 0, h => ⟨0, Nat.le_refl _, h, fun i hi => by omega⟩
  | k + 1, h => by
    by_cases hk : Hits M own free edge last k
    · obtain ⟨i, hi, hg⟩ := hits_least k hk
      exact ⟨i, by omega, hg⟩
    · exact ⟨k + 1, Nat.le_refl _, h, fun i hi hh => hk (hh.le (by omega))⟩

theorem and_zero {a b : Nat} : a &&& b = 0 ↔ ∀ j, a.testBit j = true → b.testBit j = true → False := by
  constructor
  · intro h j ha hb
    have := congrArg (fun x => x.testBit j) h
    simp [Nat.testBit_and, ha, hb] at this
  · intro h
    apply Nat.eq_of_testBit_eq
    intro j
    rw [Nat.testBit_and, Nat.zero_testBit]
    cases ha : a.testBit j with
    | false => rfl
    | true =>
      cases hb : b.testBit j with
      | false => rfl
      | true => exact (h j ha hb).elim

/-- What is taken away. -/
def without (x c : Nat) : Nat := x ^^^ (x &&& (1 <<< c))
theorem without_bit (x c j : Nat) : (without x c).testBit j = (x.testBit j && decide (j ≠ c)) := by
  unfold without
  rw [Nat.testBit_xor, Nat.testBit_and, one_bit]
  by_cases h : j = c
  · subst h; simp
  · simp [h]
theorem with_bit (x c j : Nat) : (x ||| (1 <<< c)).testBit j = (x.testBit j || decide (j = c)) := by rw [Nat.testBit_or, one_bit]

section
variable {M : List Nat} {own free edge last : Nat}

/-- With a stone more a gap is as great, or one less. -/
theorem gap_more {k c : Nat} (hc : free.testBit c = true) (h : IsGap M own free edge last k) : IsGap M (own ||| (1 <<< c)) (without free c) edge last k ∨ (1 ≤ k ∧ IsGap M (own ||| (1 <<< c)) (without free c) edge last (k - 1)) := by
  have mono : ∀ i, Hits M own free edge last i → Hits M (own ||| (1 <<< c)) (without free c) edge last i := fun i ⟨j, hj, hcost⟩ =>
    ⟨j, hj, hcost.mono (fun x hx => by rw [with_bit, hx]; rfl) (fun x hx => by
      rw [with_bit, without_bit, hx]
      by_cases e : x = c
      · exact .inl (by simp [e])
      · exact .inr (by simp [e]))⟩
  have less : ∀ i, Hits M (own ||| (1 <<< c)) (without free c) edge last i → Hits M own free edge last (i + 1) := fun i ⟨j, hj, hcost⟩ => by
    refine ⟨j, hj, ?_⟩
    rcases hcost.less (own := own) (free := free) hc (fun x hx => by rw [with_bit, Bool.or_eq_true] at hx; exact hx.imp id (fun e => of_decide_eq_true e)) (fun x hx => by rw [without_bit, Bool.and_eq_true] at hx; exact hx.1) with h | ⟨h, _⟩
    · exact h.more
    · exact h
  obtain ⟨i, hi, hg⟩ := hits_least k (mono k h.1)
  have : k ≤ i + 1 := by
    rcases Nat.lt_or_ge (i + 1) k with hlt | hge
    · exact absurd (less i hg.1) (h.2 _ hlt)
    · exact hge
  by_cases e : i = k
  · subst e; exact .inl hg
  · exact .inr ⟨by omega, by rw [show k - 1 = i by omega]; exact hg⟩

/-- There is a cell that makes it one less. -/
theorem gap_cell {k : Nat} (h : IsGap M own free edge last (k + 1)) : ∃ c, free.testBit c = true ∧ IsGap M (own ||| (1 <<< c)) (without free c) edge last k := by
  obtain ⟨⟨j, hj, hcost⟩, hno⟩ := id h
  rcases hcost.cell with hc | ⟨c, hc, hall⟩
  · exact absurd ⟨j, hj, hc⟩ (hno k (by omega))
  · refine ⟨c, hc, ?_⟩
    have hit : Hits M (own ||| (1 <<< c)) (without free c) edge last k := ⟨j, hj, hall _ _ (fun x hx => by rw [with_bit, hx]; rfl) (by rw [with_bit]; simp) (fun x hx => by
      rw [with_bit, without_bit, hx]
      by_cases e : x = c
      · exact .inl (by simp [e])
      · exact .inr (by simp [e]))⟩
    rcases gap_more hc h with hg | ⟨_, hg⟩
    · exact absurd hit (hg.2 k (by omega))
    · exact hg

/-- With nothing more at a cost, nothing is ever reached. -/
theorem hits_closed {k : Nat} (hcl : ∀ j, Cost M edge own free (k + 1) j → Cost M edge own free k j) : ∀ k' j, Cost M edge own free k' j → Cost M edge own free k j := by
  intro k' j h
  induction h with
  | ownEdge h ho => exact .ownEdge h ho
  | freeEdge h hf => exact hcl _ (.freeEdge h hf)
  | ownStep _ ha ho ih => exact .ownStep ih ha ho
  | freeStep _ ha hf ih => exact hcl _ (.freeStep ih ha hf)

end

/-! ### how many -/
def pop (x : Nat) : Nat := (List.range 9).countP fun j => x.testBit j

theorem countP_lt {α : Type} {p q : α → Bool} : ∀ {l : List α} {c : α}, (∀ x ∈ l, q x = true → p x = true) → c ∈ l → p c = true → q c = false → l.countP q + 1 ≤ l.countP p
  | [], _, _, hc, _, _ => by simp at hc
  | x :: l, c, hpq, hc, hp, hq => by
    rw [List.countP_cons, List.countP_cons]
    have hle : l.countP q ≤ l.countP p := List.countP_mono_left fun y hy h => hpq y (by simp [hy]) h
    rcases List.mem_cons.1 hc with rfl | hc
    · simp [hp, hq]; omega
    · have ih := countP_lt (fun y hy h => hpq y (by simp [hy]) h) hc hp hq
      by_cases hqx : q x = true
      · have := hpq x (by simp) hqx
        simp [hqx, this]; omega
      · simp [hqx]; omega

theorem bit_small {x n j : Nat} (hx : x < 2 ^ n) (h : x.testBit j = true) : j < n := by
  rcases Nat.lt_or_ge j n with hlt | hge
  · exact hlt
  · rw [Nat.testBit_lt_two_pow (Nat.lt_of_lt_of_le hx (Nat.pow_le_pow_right (by decide) hge))] at h; cases h

theorem pop_without {x c : Nat} (hx : x < 2 ^ 9) (hc : x.testBit c = true) : pop (without x c) + 1 ≤ pop x :=
  countP_lt (c := c) (fun j _ h => by rw [without_bit, Bool.and_eq_true] at h; exact h.1) (by rw [List.mem_range]; exact bit_small hx hc) hc (by rw [without_bit]; simp)

theorem without_lt {x c n : Nat} (hx : x < 2 ^ n) : without x c < 2 ^ n :=
  Nat.lt_of_le_of_lt (sub_le fun j hj => by rw [without_bit, Bool.and_eq_true] at hj; exact hj.1) hx

theorem gap_pop {M : List Nat} {edge last : Nat} : ∀ {k own free : Nat}, free < 2 ^ 9 → IsGap M own free edge last k → k ≤ pop free
  | 0, _, _, _, _ => Nat.zero_le _
  | k + 1, own, free, hf, h => by
    obtain ⟨c, hc, hg⟩ := gap_cell h
    have := gap_pop (without_lt hf) hg
    have := pop_without hf hc
    omega

theorem pop_le {n x : Nat} (hn : n ≤ 9) (hx : x < 2 ^ n) : pop x ≤ n := by
  unfold pop
  have : (List.range 9).countP (fun j => x.testBit j) ≤ (List.range 9).countP (fun j => decide (j < n)) :=
    List.countP_mono_left fun j _ h => decide_eq_true (bit_small hx h)
  refine Nat.le_trans this ?_
  have : n = 0 ∨ n = 1 ∨ n = 2 ∨ n = 3 ∨ n = 4 ∨ n = 5 ∨ n = 6 ∨ n = 7 ∨ n = 8 ∨ n = 9 := by omega
  rcases this with rfl | rfl | rfl | rfl | rfl | rfl | rfl | rfl | rfl | rfl <;> decide

/-! ### the waves -/
section
variable {M : List Nat} {own free edge last : Nat}

theorem wave_zero (ho : own < 2 ^ 9) (j : Nat) : (growN M (own ||| 0) (0 ||| (edge &&& own))).testBit j = true ↔ Cost M edge own free 0 j := by
  rw [Nat.or_zero, Nat.zero_or, grow_bit ho, cost_zero]
  constructor
  · exact Reach.mono (fun _ h => h) (fun j h => by rw [Nat.testBit_and, Bool.and_eq_true] at h; exact h.1)
  · intro h
    induction h with
    | start h hs => exact .start (by rw [Nat.testBit_and, h, hs]; rfl) hs
    | step _ ha hs ih => exact .step ih ha hs

theorem next_bit {g k : Nat} (hg : ∀ j, g.testBit j = true ↔ Cost M edge own free k j) (j : Nat) :
    (stepFrom free g 0 M (g ||| (edge &&& free))).testBit j = true ↔ Cost M edge own free k j ∨ (edge.testBit j = true ∧ free.testBit j = true) ∨ ∃ i, Cost M edge own free k i ∧ Adj M i j ∧ free.testBit j = true := by
  rw [stepFrom_bit, Nat.testBit_or, Nat.testBit_and, Bool.or_eq_true, Bool.and_eq_true, hg, or_assoc]
  refine or_congr_right (or_congr_right ?_)
  constructor
  · rintro ⟨i, h1, h2, h3⟩
    rw [Nat.zero_add] at h1
    exact ⟨i, (hg i).1 h1, h2, h3⟩
  · rintro ⟨i, h1, h2, h3⟩
    exact ⟨i, by rw [Nat.zero_add]; exact (hg i).2 h1, h2, h3⟩

theorem wave_succ {g k : Nat} (hg : ∀ j, g.testBit j = true ↔ Cost M edge own free k j) (hlt : own ||| stepFrom free g 0 M (g ||| (edge &&& free)) < 2 ^ 9) (j : Nat) :
    (growN M (own ||| stepFrom free g 0 M (g ||| (edge &&& free))) (stepFrom free g 0 M (g ||| (edge &&& free)) ||| (edge &&& own))).testBit j = true ↔ Cost M edge own free (k + 1) j := by
  rw [grow_bit hlt]
  have hn := next_bit hg
  obtain ⟨nx, hnx⟩ : ∃ nx, nx = stepFrom free g 0 M (g ||| (edge &&& free)) := ⟨_, rfl⟩
  rw [← hnx] at hn ⊢
  have up : ∀ j, nx.testBit j = true → Cost M edge own free (k + 1) j := fun j hj => by
    rcases (hn j).1 hj with h | ⟨h, hf⟩ | ⟨i, h, ha, hf⟩
    · exact h.more
    · exact .freeEdge h hf
    · exact .freeStep h ha hf
  constructor
  · intro h
    induction h with
    | start h hs =>
      rw [Nat.testBit_or, Nat.testBit_and, Bool.or_eq_true, Bool.and_eq_true] at h
      rcases h with h | ⟨h, ho⟩
      · exact up _ h
      · exact .ownEdge h ho
    | step _ ha hs ih =>
      rw [Nat.testBit_or, Bool.or_eq_true] at hs
      rcases hs with hs | hs
      · exact .ownStep ih ha hs
      · exact up _ hs
  · intro h
    have inNx : ∀ j, nx.testBit j = true → Reach M (own ||| nx) (nx ||| (edge &&& own)) j := fun j hj =>
      .start (by rw [Nat.testBit_or, hj]; rfl) (by rw [Nat.testBit_or, hj, Bool.or_true])
    generalize hk : k + 1 = k' at h
    induction h with
    | ownEdge h ho => exact .start (by rw [Nat.testBit_or, Nat.testBit_and, h, ho]; simp) (by rw [Nat.testBit_or, ho]; rfl)
    | freeEdge h hf => exact inNx _ ((hn _).2 (.inr (.inl ⟨h, hf⟩)))
    | ownStep _ ha ho ih => exact .step (ih hk) ha (by rw [Nat.testBit_or, ho]; rfl)
    | @freeStep k0 i j h0 ha hf _ =>
      obtain rfl : k = k0 := by omega
      exact inNx _ ((hn _).2 (.inr (.inr ⟨i, h0, ha, hf⟩)))

theorem next_sub {g : Nat} : ∀ j, (stepFrom free g 0 M (g ||| (edge &&& free))).testBit j = true → g.testBit j = true ∨ free.testBit j = true := by
  intro j hj
  rcases (stepFrom_bit free g j M 0 _).1 hj with h | ⟨_, _, _, h⟩
  · rw [Nat.testBit_or, Nat.testBit_and, Bool.or_eq_true, Bool.and_eq_true] at h
    exact h.imp id (fun h => h.2)
  · exact .inr h

theorem gapF_spec (ho : own < 2 ^ 9) (hf : free < 2 ^ 9) : ∀ (m cost now : Nat), (∀ j, (growN M (own ||| now) (now ||| (edge &&& own))).testBit j = true ↔ Cost M edge own free cost j) → (∀ i, i < cost → ¬ Hits M own free edge last i) → (∀ k, IsGap M own free edge last k → k < cost + m) →
    (∃ k : Nat, gapF M own free edge last m cost now = (k : Int) ∧ IsGap M own free edge last k) ∨ (gapF M own free edge last m cost now = -1 ∧ ∀ k, ¬ Hits M own free edge last k)
  | 0, cost, now, hg, hno, hm => by
    refine .inr ⟨rfl, fun k hk => ?_⟩
    obtain ⟨i, _, hi⟩ := hits_least k hk
    exact hno i (by have := hm i hi; omega) hi.1
  | m + 1, cost, now, hg, hno, hm => by
    rw [gapF]
    obtain ⟨gr, hgr⟩ : ∃ gr, gr = growN M (own ||| now) (now ||| (edge &&& own)) := ⟨_, rfl⟩
    rw [← hgr] at hg ⊢
    by_cases hl : gr &&& last = 0
    · rw [if_pos hl]
      have hnh : ¬ Hits M own free edge last cost := fun ⟨j, hj, hc⟩ => and_zero.1 hl j ((hg j).2 hc) hj
      by_cases hn : stepFrom free gr 0 M (gr ||| (edge &&& free)) = gr
      · rw [if_pos hn]
        refine .inr ⟨rfl, fun k ⟨j, hj, hc⟩ => hnh ⟨j, hj, ?_⟩⟩
        refine hits_closed (fun x hx => ?_) k j hc
        have hnb := next_bit hg
        rw [hn] at hnb
        generalize hk : cost + 1 = k' at hx
        induction hx with
        | ownEdge h ho => exact .ownEdge h ho
        | freeEdge h hf => exact (hg _).1 ((hnb _).2 (.inr (.inl ⟨h, hf⟩)))
        | ownStep _ ha ho ih => exact .ownStep (ih hk) ha ho
        | @freeStep k0 i j h0 ha hf _ =>
          obtain rfl : cost = k0 := by omega
          exact (hg _).1 ((hnb _).2 (.inr (.inr ⟨i, h0, ha, hf⟩)))
      · rw [if_neg hn]
        have hlt : own ||| stepFrom free gr 0 M (gr ||| (edge &&& free)) < 2 ^ 9 := by
          refine Nat.or_lt_two_pow ho (Nat.lt_of_le_of_lt (sub_le (b := own ||| free) fun j hj => ?_) (Nat.or_lt_two_pow ho hf))
          rw [Nat.testBit_or, Bool.or_eq_true]
          rcases next_sub j hj with h | h
          · have hc := (hg j).1 h
            cases hc with
            | ownEdge _ h => exact .inl h
            | freeEdge _ h => exact .inr h
            | ownStep _ _ h => exact .inl h
            | freeStep _ _ h => exact .inr h
          · exact .inr h
        refine gapF_spec ho hf m (cost + 1) _ (wave_succ hg hlt) (fun i hi => ?_) (fun k hk => by have := hm k hk; omega)
        rcases Nat.lt_or_ge i cost with h | h
        · exact hno i h
        · obtain rfl : i = cost := by omega
          exact hnh
    · rw [if_neg hl]
      refine .inl ⟨cost, rfl, ?_, hno⟩
      apply Classical.byContradiction
      intro hh
      exact hl (and_zero.2 fun j h1 h2 => hh ⟨j, h2, (hg j).1 h1⟩)

theorem gapN_spec {n : Nat} (hn : n ≤ 9) (ho : own < 2 ^ 9) (hf : free < 2 ^ n) :
    (∃ k : Nat, gapN M own free edge last n = (k : Int) ∧ IsGap M own free edge last k) ∨ (gapN M own free edge last n = -1 ∧ ∀ k, ¬ Hits M own free edge last k) := by
  have hf9 : free < 2 ^ 9 := Nat.lt_of_lt_of_le hf (Nat.pow_le_pow_right (by decide) hn)
  exact gapF_spec ho hf9 (n + 1) 0 0 (wave_zero ho) (fun i hi => by omega) (fun k hk => by have := gap_pop hf9 hk; have := pop_le hn hf; omega)

end

end Go.Proofs.Ytlfjjjhjjmikfaa

/- The model's sets of cells: masks, sides, the cells with a stone, growing, and whether sides are joined. -/
namespace Go.Proofs.Ytlfjjjhjjmikfaa
open Go Go.Ip G

def masksN (R C : Nat) : List Nat := (List.range (R * C)).map fun k => orAll 0 (nearN R C k)
def ints (M : List Nat) : List Int := M.map fun x : Nat => (x : Int)
theorem ints_length (M : List Nat) : (ints M).length = M.length := List.length_map ..
theorem ints_get {M : List Nat} {k : Nat} (hk : k < M.length) : (ints M)[k]'(by rw [ints_length]; exact hk) = ((M.getD k 0 : Nat) : Int) := by
  simp [ints, List.getD_eq_getElem?_getD, hk]

/-- A board, as numbers. -/
def BoardOf (R C : Nat) : Prop := 1 ≤ R ∧ R ≤ 4 ∧ 1 ≤ C ∧ C ≤ 4 ∧ R * C ≤ 9

theorem masksN_length (R C : Nat) : (masksN R C).length = R * C := by simp [masksN]
theorem masksN_lt {R C : Nat} (hb : BoardOf R C) : ∀ m ∈ masksN R C, m < 2 ^ 9 := by
  intro m hm
  obtain ⟨k, hk, rfl⟩ := List.mem_map.1 hm
  rw [List.mem_range] at hk
  obtain ⟨h1, h2, h3, h4, h9⟩ := hb
  exact orAll_lt _ _ (fun e he => by have := near_in h1 h2 h3 h4 h9 hk e he; omega) (by decide)

/-- An operation under a guard that holds nothing. -/
theorem gu {α : Type} {t : Bool} {β : Type} {x y : Option α} {f : α → Option β} {r : Option β} (hy : y.bind f = r) : ((wantV (.tup []) t).bind fun v => (bif v then x else y).bind f) = r := by
  simpa using hy

variable (g : Nat → PV) (lf n : Nat)

/-! ### masks -/
/-! ### sides -/
def atSide (C P i : Nat) : Nat := if P = 2 then i % C else i / C
def endSide (R C P : Nat) : Nat := if P = 2 then C - 1 else R - 1
def sideFrom (R C P : Nat) (last : Bool) : Nat → Nat → Nat → Nat
  | 0, _, w => w
  | m + 1, i, w => sideFrom R C P last m (i + 1) (if (bif last then decide (atSide C P i = endSide R C P) else decide (atSide C P i = 0)) = true then w ||| (1 <<< i) else w)
def sideN (R C P : Nat) (last : Bool) : Nat := sideFrom R C P last (R * C) 0 0

theorem sideFrom_lt {R C P : Nat} {last : Bool} (h9 : R * C ≤ 9) : ∀ (m i w : Nat), i + m = R * C → w < 2 ^ 9 → sideFrom R C P last m i w < 2 ^ 9
  | 0, _, _, _, hw => hw
  | m + 1, i, w, him, hw => by
    rw [sideFrom]
    refine sideFrom_lt h9 m (i + 1) _ (by omega) ?_
    split
    · exact Nat.or_lt_two_pow hw (shl_lt (by omega))
    · exact hw
theorem sideN_lt {R C P : Nat} {last : Bool} (hB : BoardOf R C) : sideN R C P last < 2 ^ 9 := sideFrom_lt hB.2.2.2.2 _ _ _ (by omega) (by decide)

/-! ### the cells with a stone -/
def setFrom (what : Int) : Nat → List Int → Nat → Nat
  | _, [], w => w
  | k, x :: xs, w => setFrom what (k + 1) xs (if x = what then w ||| (1 <<< k) else w)
def setL (xs : List Int) (what : Int) : Nat := setFrom what 0 xs 0

theorem setFrom_lt (what : Int) {n : Nat} : ∀ (xs : List Int) (k w : Nat), k + xs.length ≤ n → w < 2 ^ n → setFrom what k xs w < 2 ^ n
  | [], _, _, _, hw => hw
  | x :: xs, k, w, hk, hw => by
    rw [setFrom]
    rw [List.length_cons] at hk
    refine setFrom_lt what xs (k + 1) _ (by omega) ?_
    split
    · refine Nat.or_lt_two_pow hw ?_
      rw [Nat.one_shiftLeft]; exact Nat.pow_lt_pow_right (by decide) (by omega)
    · exact hw
theorem setL_lt (what : Int) {xs : List Int} {n : Nat} (h : xs.length ≤ n) : setL xs what < 2 ^ n := setFrom_lt what xs 0 0 (by omega) (Nat.two_pow_pos n)

theorem setFrom_bit (what : Int) (j : Nat) : ∀ (xs : List Int) (k w : Nat), (setFrom what k xs w).testBit j = true ↔ w.testBit j = true ∨ ∃ i, j = k + i ∧ xs[i]? = some what
  | [], k, w => by simp [setFrom]
  | x :: xs, k, w => by
    rw [setFrom, setFrom_bit what j xs (k + 1)]
    have hs : (∃ i, j = k + i ∧ (x :: xs)[i]? = some what) ↔ (j = k ∧ x = what) ∨ ∃ i, j = k + 1 + i ∧ xs[i]? = some what := by
      constructor
      · rintro ⟨i, h1, h2⟩
        cases i with
        | zero => exact .inl ⟨by omega, by simpa using h2⟩
        | succ i => exact .inr ⟨i, by omega, by simpa using h2⟩
      · rintro (⟨h1, h2⟩ | ⟨i, h1, h2⟩)
        · exact ⟨0, by omega, by simp [h2]⟩
        · exact ⟨i + 1, by omega, by simpa using h2⟩
    rw [hs]
    by_cases e : x = what
    · rw [if_pos e, Nat.testBit_or, one_bit, Bool.or_eq_true, decide_eq_true_iff]
      simp [e, or_assoc]
    · rw [if_neg e]; simp [e]

theorem setL_bit {xs : List Int} {what : Int} {j : Nat} : (setL xs what).testBit j = true ↔ xs[j]? = some what := by
  unfold setL
  rw [setFrom_bit]
  constructor
  · rintro (h | ⟨i, h1, h2⟩)
    · rw [Nat.zero_testBit] at h; cases h
    · rw [Nat.zero_add] at h1; subst h1; exact h2
  · intro h; exact .inr ⟨j, by omega, h⟩

/-! ### growing -/
theorem bitq (x k : Nat) (hk : k ≤ 20) : binP Try.prog .shr 3 (.int .i64 (x : Int)) (.int .i64 (k : Int)) = some (.int .i64 ((x >>> k : Nat) : Int)) ∧ binP Try.prog .rem 3 (.int .i64 ((x >>> k : Nat) : Int)) (.int .i64 2) = some (.int .i64 ((x >>> k % 2 : Nat) : Int)) ∧
    binP Try.prog .eql 3 (.int .i64 ((x >>> k % 2 : Nat) : Int)) (.int .i64 1) = some (.bool (decide (x >>> k % 2 = 1))) :=
  ⟨f_shr x k (by omega), f_rem (x >>> k) 2 (by decide), by rw [bin_eql]; exact congrArg (fun z => some (PV.bool z)) (natEq _ 1)⟩

theorem stepFrom_lt {set now : Nat} (hs : set < 2 ^ 9) : ∀ (ms : List Nat) (k nx : Nat), nx < 2 ^ 9 → stepFrom set now k ms nx < 2 ^ 9
  | [], _, _, h => h
  | m :: ms, k, nx, h => by
    rw [stepFrom]
    refine stepFrom_lt hs ms (k + 1) _ ?_
    split
    · exact Nat.or_lt_two_pow h (Nat.and_lt_two_pow m hs)
    · exact h

def joinsN (R C P S : Nat) : Bool := !decide (growN (masksN R C) S (sideN R C P false) &&& sideN R C P true = 0)

end Go.Proofs.Ytlfjjjhjjmikfaa

/- The model's chapter 2: what Joins, GroupOf, GapOf, Filled and GapCells of it compute. -/
namespace Go.Proofs.Ytlfjjjhjjmikfaa
open Go Go.Ip G

def playerB (p : Int) : Bool := decide (1 ≤ p ∧ p ≤ 2)
def joinsL (r c : Int) (xs : List Int) (p : Int) : Bool := posB r c xs && playerB p && joinsN r.toNat c.toNat p.toNat (setL xs p)
def gapOfN (R C P : Nat) (xs : List Int) : Int := gapN (masksN R C) (setL xs P) (setL xs 0) (sideN R C P false) (sideN R C P true) (R * C)
def gapL (r c : Int) (xs : List Int) (p : Int) : Int := if (posB r c xs && playerB p) = true then gapOfN r.toNat c.toNat p.toNat xs else -1
def fillL (p x : Int) : Int := if x = 0 then p else x
def filledL (r c : Int) (xs : List Int) (p : Int) : List Int := if (posB r c xs && playerB p) = true then xs.map (fillL p) else []
def listFrom (set : Nat) : Nat → Nat → List Int
  | 0, _ => []
  | m + 1, k => if set >>> k % 2 = 1 then (k : Int) :: listFrom set m (k + 1) else listFrom set m (k + 1)
def listN (set : Nat) : List Int := listFrom set 9 0
def stoneB (r c : Int) (xs : List Int) (k : Int) : Bool := posB r c xs && decide (0 ≤ k ∧ k < (xs.length : Int)) && !decide (xs.getD k.toNat 0 = 0)
def groupL (r c : Int) (xs : List Int) (k : Int) : List Int := if stoneB r c xs k = true then listN (growN (masksN r.toNat c.toNat) (setL xs (xs.getD k.toNat 0)) (1 <<< k.toNat)) else []
def gapCellsL (r c : Int) (xs : List Int) (p : Int) : List Int :=
  if 0 < gapL r c xs p then ((List.range xs.length).filter fun k => decide (xs.getD k 0 = 0) && decide (gapL r c (xs.set k p) p = gapL r c xs p - 1)).map fun k : Nat => (k : Int) else []

theorem board_of_sides {r c : Int} {R C : Nat} {xs : List Int} (h : Sides r c R C xs) : BoardOf R C := by
  obtain ⟨_, _, h1, h2, h3, h4, h9, _, _⟩ := h
  exact ⟨h1, h2, h3, h4, h9⟩
theorem player_of {p : Int} (h : playerB p = true) : ∃ P : Nat, p = (P : Int) ∧ (P = 1 ∨ P = 2) := by
  unfold playerB at h
  have := of_decide_eq_true h
  obtain ⟨P, rfl⟩ := Int.eq_ofNat_of_zero_le (show 0 ≤ p by omega)
  exact ⟨P, rfl, by omega⟩

variable (g : Nat → PV) (lf n : Nat)

/-! ### a set's list -/
theorem listFrom_length (set : Nat) : ∀ (m k : Nat), (listFrom set m k).length ≤ m
  | 0, _ => Nat.le_refl _
  | m + 1, k => by
    have := listFrom_length set m (k + 1)
    rw [listFrom]; split
    · rw [List.length_cons]; omega
    · omega
theorem listN_length (set : Nat) : (listN set).length ≤ 9 := listFrom_length set 9 0

theorem listFrom_nil {set : Nat} : ∀ (m k : Nat), set >>> k = 0 → listFrom set m k = []
  | 0, _, _ => rfl
  | m + 1, k, h => by
    have h2 : set >>> (k + 1) = 0 := by rw [Nat.shiftRight_add, h]; rfl
    rw [listFrom, h, if_neg (by decide), listFrom_nil m (k + 1) h2]

/-! ### gaps -/
/-! ### the functions -/
end Go.Proofs.Ytlfjjjhjjmikfaa

/- The model's Filled and GapCells. -/
namespace Go.Proofs.Ytlfjjjhjjmikfaa
open Go Go.Ip G

variable (g : Nat → PV) (lf n : Nat)

/-- An empty literal, and a whole list appended: a copy. -/
theorem copy_all {xs : List Int} {p : PV} {h : PHeap} (hp : IntSl .i64 h p xs) (hx : 0 < xs.length) (hl : xs.length ≤ 2 ^ 36) :
    ∃ v q h', buildSliceP Try.prog 30 0 [] h = some v ∧ appendP Try.prog 30 30 v.1 p v.2 = some (q, h') ∧ OwnSl h.length h' q xs ∧ Keep h.length h h' := by
  rcases hp with ⟨rfl, rfl⟩ | ⟨id, off, rfl, hc⟩
  · simp at hx
  have hid : id < h.length := lt_of_cell (hc 0 _ (List.getElem?_eq_getElem hx))
  have hb : buildSliceP Try.prog 30 0 [] h = some (.sl h.length 0 0, h ++ [.own 1 []]) := by
    simp [buildSliceP, tyElem, tySize, tyZero, repeatCells, fillP]
  have hcells : ((cellsAt (h ++ [PObj.own 1 []]) id).drop off).take (xs.length * 1) = xs.map (.int .i64) := by
    rw [Nat.mul_one]
    apply List.ext_getElem?
    intro j
    have e : cellsAt (h ++ [PObj.own 1 []]) id = cellsAt h id := by unfold cellsAt; rw [List.getElem?_append_left hid]
    rw [e]
    by_cases hj : j < xs.length
    · rw [List.getElem?_take_of_lt hj, List.getElem?_drop, hc j _ (List.getElem?_eq_getElem hj), List.getElem?_map, List.getElem?_eq_getElem hj]; rfl
    · rw [List.getElem?_eq_none (by rw [List.length_take]; omega), List.getElem?_eq_none (by simp; omega)]
  have hfit : off + xs.length * 1 ≤ (cellsAt (h ++ [PObj.own 1 []]) id).length := by
    have := congrArg List.length hcells
    simp only [List.length_take, List.length_drop, List.length_map, Nat.mul_one] at this ⊢
    omega
  have hsrc : srcP (h ++ [PObj.own 1 []]) 1 (.sl id off xs.length) = some (xs.length, xs.map (.int .i64)) := by
    simp only [srcP]
    rw [if_pos hfit, hcells]
  refine ⟨_, .sl (h.length + 1) 0 (0 + xs.length), ((h ++ [PObj.own 1 []]).set h.length .dead ++ [PObj.own 1 ([] ++ xs.map (.int .i64))]), hb, ?_, .inr ⟨h.length + 1, by omega, by simp, ?_⟩, ?_⟩
  · simp only [appendP, tyElem, tySize, tySmall, bne_self_eq_false, Bool.not_true, Bool.or_self, Bool.false_eq_true, if_false, hsrc, Option.bind_some]
    have h3 : (h ++ [PObj.own 1 []])[h.length]? = some (.own 1 []) := by simp
    rw [h3]
    have : 0 + xs.length ≤ 2 ^ 36 := by omega
    simp only [List.length_nil, Nat.zero_mul, true_and, if_pos this]
    simp
  · rw [List.getElem?_append_right (by simp)]; simp
  · exact (((Keep.append _ h _ (Nat.le_refl _)).trans (Keep.set _ _ h.length .dead (Nat.le_refl _))).trans (Keep.append _ _ _ (by simp)))

/-! ### the cells that close a gap -/
def gcFrom (r c : Int) (xs : List Int) (p G : Int) : Nat → Nat → List Int
  | 0, _ => []
  | m + 1, k => if xs.getD k 0 = 0 ∧ gapL r c (xs.set k p) p = G - 1 then (k : Int) :: gcFrom r c xs p G m (k + 1) else gcFrom r c xs p G m (k + 1)

theorem gcFrom_length (r c : Int) (xs : List Int) (p G : Int) : ∀ m k, (gcFrom r c xs p G m k).length ≤ m
  | 0, _ => Nat.le_refl _
  | m + 1, k => by
    have := gcFrom_length r c xs p G m (k + 1)
    rw [gcFrom]; split
    · rw [List.length_cons]; omega
    · omega

theorem gcFrom_eq (r c : Int) (xs : List Int) (p G : Int) : ∀ m k, gcFrom r c xs p G m k = ((List.range' k m).filter fun k => decide (xs.getD k 0 = 0) && decide (gapL r c (xs.set k p) p = G - 1)).map fun k : Nat => (k : Int)
  | 0, _ => rfl
  | m + 1, k => by
    rw [gcFrom, List.range'_succ, List.filter_cons, gcFrom_eq r c xs p G m (k + 1)]
    by_cases h : xs.getD k 0 = 0 ∧ gapL r c (xs.set k p) p = G - 1
    · rw [if_pos h, decide_eq_true h.1, decide_eq_true h.2]; rfl
    · rw [if_neg h, if_neg (by rw [Bool.and_eq_true, decide_eq_true_iff, decide_eq_true_iff]; exact h)]

theorem gapL_eq {R C P : Nat} {xs : List Int} (hb : posB (R : Int) (C : Int) xs = true) (hP : P = 1 ∨ P = 2) : gapL (R : Int) (C : Int) xs (P : Int) = gapN (masksN R C) (setL xs (P : Int)) (setL xs 0) (sideN R C P false) (sideN R C P true) (R * C) := by
  have hp : playerB (P : Int) = true := by rcases hP with rfl | rfl <;> rfl
  unfold gapL
  rw [hb, hp]; rfl

theorem gapL_small (r c : Int) (xs : List Int) (p : Int) : -1 ≤ gapL r c xs p ∧ gapL r c xs p ≤ 9 := by
  cases hbp : (posB r c xs && playerB p) with
  | false => unfold gapL; rw [hbp]; simp
  | true =>
    rw [Bool.and_eq_true] at hbp
    obtain ⟨R, C, hS⟩ := sides_of hbp.1
    obtain ⟨P, rfl, hP⟩ := player_of hbp.2
    obtain ⟨rfl, rfl, _, _, _, _, h9, hlen, _⟩ := id hS
    rw [gapL_eq hbp.1 hP]
    have hst := setL_lt (P : Int) (xs := xs) (n := 9) (by omega)
    have hst0 := setL_lt 0 (xs := xs) (n := R * C) (by omega)
    rcases gapN_spec (M := masksN R C) (own := setL xs (P : Int)) (edge := sideN R C P false) (last := sideN R C P true) h9 hst hst0 with ⟨k, hk, hg⟩ | ⟨hk, _⟩
    · have := gap_pop (Nat.lt_of_lt_of_le hst0 (Nat.pow_le_pow_right (by decide) h9)) hg
      have := pop_le h9 hst0
      rw [hk]; omega
    · rw [hk]; omega

end Go.Proofs.Ytlfjjjhjjmikfaa

/- Of all boards and all sets of cells: exactly one has joined on a full board; turned, and mirrored. No program text. -/
namespace Go.Proofs.Ytlfjjjhjjmikfaa

def boards : List (Nat × Nat) := [(1, 1), (1, 2), (1, 3), (1, 4), (2, 1), (2, 2), (2, 3), (2, 4), (3, 1), (3, 2), (3, 3), (4, 1), (4, 2)]
theorem board_mem {R C : Nat} (h : BoardOf R C) : (R, C) ∈ boards := by
  obtain ⟨h1, h2, h3, h4, h9⟩ := h
  have hR : R = 1 ∨ R = 2 ∨ R = 3 ∨ R = 4 := by omega
  have hC : C = 1 ∨ C = 2 ∨ C = 3 ∨ C = 4 := by omega
  rcases hR with rfl | rfl | rfl | rfl <;> rcases hC with rfl | rfl | rfl | rfl <;> first | decide | omega

/-- The cells of a set, each at another place. -/
def moved (f : Nat → Nat) (S : Nat) : Nat → Nat
  | 0 => 0
  | k + 1 => moved f S k ||| (if S.testBit k then 1 <<< f k else 0)

def hexB (R C S : Nat) : Bool :=
  (joinsN R C 1 S != joinsN R C 2 (2 ^ (R * C) - 1 - S)) &&
  (joinsN R C 1 (moved (fun k => R * C - 1 - k) S (R * C)) == joinsN R C 1 S) && (joinsN R C 2 (moved (fun k => R * C - 1 - k) S (R * C)) == joinsN R C 2 S) &&
  (joinsN C R 2 (moved (sig C R) S (R * C)) == joinsN R C 1 S) && (joinsN C R 1 (moved (sig C R) S (R * C)) == joinsN R C 2 S)

theorem hex_all : (boards.all fun b => (List.range (2 ^ (b.1 * b.2))).all fun S => hexB b.1 b.2 S) = true := by kernel_rfl

theorem hex_ok {R C S : Nat} (hb : BoardOf R C) (hS : S < 2 ^ (R * C)) : hexB R C S = true := by
  have := List.all_eq_true.1 hex_all (R, C) (board_mem hb)
  exact List.all_eq_true.1 this S (by rw [List.mem_range]; exact hS)

end Go.Proofs.Ytlfjjjhjjmikfaa

/- Promise 6: mirrored twice it is as before. -/
namespace Go.Proofs.Ytlfjjjhjjmikfaa
open Go Go.Ip Go.RowKit G

variable (g : Nat → PV) (lf n : Nat)

theorem swapI_swapI (x : Int) : swapI (swapI x) = x := by
  unfold swapI
  by_cases h1 : x = 1
  · subst h1; decide
  · by_cases h2 : x = 2
    · subst h2; decide
    · simp [h1, h2]

theorem swapI_one (x : Int) : (swapI x == 1) = (x == 2) := by
  unfold swapI
  by_cases h1 : x = 1
  · subst h1; decide
  · by_cases h2 : x = 2
    · subst h2; decide
    · have b1 : (x == 1) = false := by simp [h1]
      have b2 : (x == 2) = false := by simp [h2]
      rw [if_neg h1, if_neg h2, b1, b2]

theorem swapI_content (x : Int) : contentB (swapI x) = contentB x := by
  unfold swapI
  by_cases h1 : x = 1
  · subst h1; decide
  · by_cases h2 : x = 2
    · subst h2; decide
    · simp [h1, h2]

theorem sig_perm_small : ∀ R : Fin 5, ∀ C : Fin 5, R.1 * C.1 ≤ 9 → ((List.range (R.1 * C.1)).map (sig R.1 C.1)).isPerm (List.range (R.1 * C.1)) = true := by decide

theorem sig_perm {R C : Nat} (h2 : R ≤ 4) (h4 : C ≤ 4) (h9 : R * C ≤ 9) : ((List.range (R * C)).map (sig R C)).Perm (List.range (R * C)) :=
  List.isPerm_iff.1 (sig_perm_small ⟨R, by omega⟩ ⟨C, by omega⟩ h9)

theorem map_getD_range (xs : List Int) : (List.range xs.length).map (fun k => xs.getD k 0) = xs := by
  apply List.ext_getElem?
  intro k
  rw [List.getElem?_map]
  by_cases hk : k < xs.length
  · rw [List.getElem?_range hk, List.getElem?_eq_getElem hk, Option.map_some, List.getD_eq_getElem?_getD, List.getElem?_eq_getElem hk]; rfl
  · rw [List.getElem?_eq_none (by rw [List.length_range]; omega), List.getElem?_eq_none (by omega)]; rfl

theorem mir_eq (R C : Nat) (xs : List Int) : mir R C xs = (((List.range xs.length).map (sig R C)).map (fun k => xs.getD k 0)).map swapI := by
  unfold mir
  rw [List.map_map, List.map_map]; rfl

theorem mir_perm {R C : Nat} {xs : List Int} (h2 : R ≤ 4) (h4 : C ≤ 4) (h9 : R * C ≤ 9) (hl : xs.length = R * C) : (mir R C xs).Perm (xs.map swapI) := by
  rw [mir_eq]
  refine List.Perm.map _ ?_
  have := (sig_perm h2 h4 h9).map (fun k => xs.getD k 0)
  rw [← hl, map_getD_range] at this
  exact this

theorem mir_length (R C : Nat) (xs : List Int) : (mir R C xs).length = xs.length := by simp [mir]

theorem count_swap (xs : List Int) : (xs.map swapI).count 1 = xs.count 2 := by
  induction xs with
  | nil => rfl
  | cons x xs ih => rw [List.map_cons, List.count_cons, List.count_cons, ih, swapI_one]

theorem mir_get {R C : Nat} {xs : List Int} {k : Nat} (hk : k < xs.length) : (mir R C xs)[k]? = some (swapI (xs.getD (sig R C k) 0)) := by
  unfold mir
  rw [List.getElem?_map, List.getElem?_range hk]; rfl

theorem mir_mir {R C : Nat} {xs : List Int} (h1 : 1 ≤ R) (h2 : R ≤ 4) (h3 : 1 ≤ C) (h4 : C ≤ 4) (h9 : R * C ≤ 9) (hl : xs.length = R * C) : mir C R (mir R C xs) = xs := by
  apply List.ext_getElem?
  intro k
  by_cases hk : k < xs.length
  · have hs := sig_lt (k := k) h3 h4 h1 h2 (by rw [Nat.mul_comm]; exact h9) (by rw [Nat.mul_comm C R]; omega)
    rw [Nat.mul_comm C R] at hs
    rw [mir_get (by rw [mir_length]; exact hk), List.getD_eq_getElem?_getD, mir_get (by omega), Option.getD_some, swapI_swapI, hs.2, List.getD_eq_getElem?_getD, List.getElem?_eq_getElem hk]; rfl
  · rw [List.getElem?_eq_none (by rw [mir_length, mir_length]; omega), List.getElem?_eq_none (by omega)]

theorem boardB_swap (r c : Int) : boardB c r = boardB r c := by
  unfold boardB
  rw [Int.mul_comm c r]
  apply decide_eq_decide.2
  constructor <;> intro h <;> omega

theorem posB_mir {r c : Int} {R C : Nat} {xs : List Int} (hs : Sides r c R C xs) (hp : posB r c xs = true) : posB c r (mir R C xs) = true := by
  obtain ⟨_, _, h1, h2, h3, h4, h9, hl, hall⟩ := hs
  unfold posB at hp ⊢
  rw [boardB_swap, mir_length, Int.mul_comm c r]
  rw [Bool.and_eq_true] at hp ⊢
  refine ⟨hp.1, ?_⟩
  rw [List.all_eq_true]
  intro x hx
  have := (mir_perm h2 h4 h9 hl).mem_iff.1 hx
  obtain ⟨y, hy, rfl⟩ := List.mem_map.1 this
  rw [swapI_content]
  exact List.all_eq_true.1 hall y hy

theorem cells_count {r c : Int} {xs : List Int} (h : posB r c xs = true) (x : Int) : (cellsL r c xs x).length = xs.count x := by
  unfold cellsL
  rw [if_pos h, cellsFrom_count]

theorem cells_mir {r c : Int} {R C : Nat} {xs : List Int} (hs : Sides r c R C xs) (hp : posB r c xs = true) : (cellsL c r (mir R C xs) 1).length = (cellsL r c xs 2).length := by
  obtain ⟨_, _, h1, h2, h3, h4, h9, hl, hall⟩ := id hs
  rw [cells_count (posB_mir hs hp), cells_count hp, (mir_perm h2 h4 h9 hl).count_eq, count_swap]

end Go.Proofs.Ytlfjjjhjjmikfaa

/- What the laws of chapter 2 say of positions, as facts on sets of cells. No program text. -/
namespace Go.Proofs.Ytlfjjjhjjmikfaa

/-! ### joined sides -/
theorem joins_iff {R C P S : Nat} (hS : S < 2 ^ 9) : joinsN R C P S = true ↔ ∃ j, (sideN R C P true).testBit j = true ∧ Reach (masksN R C) S (sideN R C P false) j := by
  unfold joinsN
  rw [Bool.not_eq_true', decide_eq_false_iff_not]
  constructor
  · intro h
    apply Classical.byContradiction
    intro hn
    exact h (and_zero.2 fun j h1 h2 => hn ⟨j, h2, (grow_bit hS j).1 h1⟩)
  · rintro ⟨j, h1, h2⟩ h
    exact and_zero.1 h j ((grow_bit hS j).2 h2) h1

theorem joins_mono {R C P S T : Nat} (hS : S < 2 ^ 9) (hT : T < 2 ^ 9) (h : ∀ j, S.testBit j = true → T.testBit j = true) (hj : joinsN R C P S = true) : joinsN R C P T = true := by
  obtain ⟨j, h1, h2⟩ := (joins_iff hS).1 hj
  exact (joins_iff hT).2 ⟨j, h1, h2.mono h (fun _ h => h)⟩

theorem compl_bit {n S : Nat} (hS : S < 2 ^ n) (j : Nat) : (2 ^ n - 1 - S).testBit j = (decide (j < n) && !S.testBit j) := by
  rw [Nat.sub_sub, Nat.add_comm 1 S]; exact Nat.testBit_two_pow_sub_succ hS j

theorem hex {R C P S : Nat} (hB : BoardOf R C) (hP : P = 1 ∨ P = 2) (hS : S < 2 ^ (R * C)) : joinsN R C P S = !joinsN R C (3 - P) (2 ^ (R * C) - 1 - S) := by
  have key : ∀ T, T < 2 ^ (R * C) → joinsN R C 1 T = !joinsN R C 2 (2 ^ (R * C) - 1 - T) := fun T hT => by
    have := hex_ok hB hT
    unfold hexB at this
    simp only [Bool.and_eq_true] at this
    have := this.1.1.1.1
    cases h1 : joinsN R C 1 T <;> cases h2 : joinsN R C 2 (2 ^ (R * C) - 1 - T) <;> rw [h1, h2] at this <;> first | rfl | cases this
  rcases hP with rfl | rfl
  · exact key S hS
  · have h2 := key (2 ^ (R * C) - 1 - S) (by omega)
    rw [show 2 ^ (R * C) - 1 - (2 ^ (R * C) - 1 - S) = S by omega] at h2
    rw [show 3 - 2 = 1 from rfl, h2, Bool.not_not]

theorem content_cases {R C : Nat} {r c : Int} {xs : List Int} (hs : Sides r c R C xs) {j : Nat} (hj : j < R * C) : xs[j]? = some 0 ∨ xs[j]? = some 1 ∨ xs[j]? = some 2 := by
  obtain ⟨_, _, _, _, _, _, _, hlen, hall⟩ := hs
  have hj' : j < xs.length := by omega
  have := List.all_eq_true.1 hall _ (List.getElem_mem hj')
  unfold contentB at this
  have := of_decide_eq_true this
  rw [List.getElem?_eq_getElem hj']
  have h3 : xs[j] = 0 ∨ xs[j] = 1 ∨ xs[j] = 2 := by omega
  rcases h3 with h | h | h <;> rw [h] <;> simp

theorem set_lt {R C : Nat} {r c : Int} {xs : List Int} (hs : Sides r c R C xs) (w : Int) : setL xs w < 2 ^ (R * C) := setL_lt w (by have := hs.2.2.2.2.2.2.2.1; omega)
theorem set_lt9 {R C : Nat} {r c : Int} {xs : List Int} (hs : Sides r c R C xs) (w : Int) : setL xs w < 2 ^ 9 := setL_lt w (by have := hs.2.2.2.2.2.2.2.1; have := hs.2.2.2.2.2.2.1; omega)

theorem set_in {R C : Nat} {r c : Int} {xs : List Int} (hs : Sides r c R C xs) {w : Int} {j : Nat} (h : (setL xs w).testBit j = true) : j < R * C := bit_small (set_lt hs w) h

/-- The cells that are not the other one's. -/
theorem own_free {R C P : Nat} {r c : Int} {xs : List Int} (hs : Sides r c R C xs) (hP : P = 1 ∨ P = 2) : 2 ^ (R * C) - 1 - setL xs ((3 - P : Nat) : Int) = setL xs (P : Int) ||| setL xs 0 := by
  apply Nat.eq_of_testBit_eq
  intro j
  rw [compl_bit (set_lt hs _), Nat.testBit_or, Bool.eq_iff_iff, Bool.and_eq_true, Bool.or_eq_true, decide_eq_true_iff, Bool.not_eq_true']
  constructor
  · rintro ⟨hj, hn⟩
    have hn' : ¬ (setL xs ((3 - P : Nat) : Int)).testBit j = true := by rw [hn]; simp
    rw [setL_bit] at hn'
    rw [setL_bit, setL_bit]
    rcases hP with rfl | rfl <;> rcases content_cases hs hj with h | h | h <;> rw [h] at hn' ⊢ <;> first | (left; rfl) | (right; rfl) | exact absurd rfl hn'
  · intro h
    have hj : j < R * C := by rcases h with h | h <;> exact set_in hs h
    refine ⟨hj, ?_⟩
    cases e : (setL xs ((3 - P : Nat) : Int)).testBit j with
    | false => rfl
    | true =>
      rw [setL_bit] at e
      rw [setL_bit, setL_bit, e] at h
      rcases hP with rfl | rfl <;> rcases h with h | h <;> cases h

theorem joinsL_eq {R C P : Nat} {xs : List Int} (hb : posB (R : Int) (C : Int) xs = true) (hP : P = 1 ∨ P = 2) : joinsL (R : Int) (C : Int) xs (P : Int) = joinsN R C P (setL xs (P : Int)) := by
  have hp : playerB (P : Int) = true := by rcases hP with rfl | rfl <;> rfl
  unfold joinsL
  rw [hb, hp]; rfl

/-- The other one has joined just if all but its stones do not join. -/
theorem other_joins {R C P : Nat} {r c : Int} {xs : List Int} (hs : Sides r c R C xs) (hP : P = 1 ∨ P = 2) : joinsN R C P (setL xs (P : Int) ||| setL xs 0) = !joinsN R C (3 - P) (setL xs ((3 - P : Nat) : Int)) := by
  have hB := board_of_sides hs
  have hP' : 3 - P = 1 ∨ 3 - P = 2 := by omega
  have := hex hB hP' (set_lt hs ((3 - P : Nat) : Int))
  rw [own_free hs hP, show 3 - (3 - P) = P by omega] at this
  rw [this, Bool.not_not]

theorem never_both {R C P : Nat} {r c : Int} {xs : List Int} (hs : Sides r c R C xs) (hP : P = 1 ∨ P = 2) (h : joinsN R C P (setL xs (P : Int)) = true) : joinsN R C (3 - P) (setL xs ((3 - P : Nat) : Int)) = false := by
  have hm := joins_mono (set_lt9 hs _) (Nat.or_lt_two_pow (set_lt9 hs _) (set_lt9 hs 0)) (fun j hj => by rw [Nat.testBit_or, hj]; rfl) h
  rw [other_joins hs hP] at hm
  simpa using hm

/-! ### filled -/
theorem filled_set {R C P : Nat} {r c : Int} {xs : List Int} (hs : Sides r c R C xs) (hP : P = 1 ∨ P = 2) : setL (xs.map (fillL (P : Int))) (P : Int) = setL xs (P : Int) ||| setL xs 0 ∧ setL (xs.map (fillL (P : Int))) ((3 - P : Nat) : Int) = setL xs ((3 - P : Nat) : Int) ∧ setL (xs.map (fillL (P : Int))) 0 = 0 := by
  refine ⟨?_, ?_, ?_⟩ <;> apply Nat.eq_of_testBit_eq <;> intro j <;> rw [Bool.eq_iff_iff]
  · rw [Nat.testBit_or, Bool.or_eq_true, setL_bit, setL_bit, setL_bit, List.getElem?_map]
    cases e : xs[j]? with
    | none => simp
    | some x =>
      simp only [Option.map_some, Option.some.injEq]
      unfold fillL
      split
      · rename_i h; subst h; simp
      · rename_i h; simp [h]
  · rw [setL_bit, setL_bit, List.getElem?_map]
    cases e : xs[j]? with
    | none => simp
    | some x =>
      simp only [Option.map_some, Option.some.injEq]
      unfold fillL
      split
      · rename_i h; subst h; rcases hP with rfl | rfl <;> simp
      · exact Iff.rfl
  · rw [setL_bit, List.getElem?_map, Nat.zero_testBit]
    cases e : xs[j]? with
    | none => simp
    | some x =>
      simp only [Option.map_some, Option.some.injEq]
      unfold fillL
      split
      · rcases hP with rfl | rfl <;> simp
      · rename_i h; simp [h]

theorem filled_pos {P : Nat} {r c : Int} {xs : List Int} (hb : posB r c xs = true) (hP : P = 1 ∨ P = 2) : posB r c (xs.map (fillL (P : Int))) = true := by
  unfold posB at hb ⊢
  rw [List.length_map]
  rw [Bool.and_eq_true] at hb ⊢
  refine ⟨hb.1, ?_⟩
  rw [List.all_map, List.all_eq_true]
  intro x hx
  have := List.all_eq_true.1 hb.2 x hx
  show contentB (fillL (P : Int) x) = true
  unfold fillL
  split
  · rcases hP with rfl | rfl <;> rfl
  · exact this

/-! ### turned and mirrored -/
theorem moved_bit (f : Nat → Nat) (S : Nat) : ∀ (n j : Nat), (moved f S n).testBit j = true ↔ ∃ k, k < n ∧ S.testBit k = true ∧ j = f k
  | 0, j => by simp [moved]
  | n + 1, j => by
    rw [moved, Nat.testBit_or, Bool.or_eq_true, moved_bit f S n j]
    have hlast : ((if S.testBit n = true then 1 <<< f n else 0).testBit j = true) ↔ (S.testBit n = true ∧ j = f n) := by
      by_cases h : S.testBit n = true
      · rw [if_pos h, one_bit, decide_eq_true_iff]; simp [h]
      · rw [if_neg h, Nat.zero_testBit]; simp [h]
    rw [hlast]
    constructor
    · rintro (⟨k, h1, h2, h3⟩ | ⟨h1, h2⟩)
      · exact ⟨k, by omega, h2, h3⟩
      · exact ⟨n, by omega, h1, h2⟩
    · rintro ⟨k, h1, h2, h3⟩
      by_cases e : k = n
      · subst e; exact .inr ⟨h2, h3⟩
      · exact .inl ⟨k, by omega, h2, h3⟩

theorem setL_reverse (xs : List Int) (w : Int) : setL xs.reverse w = moved (fun k => xs.length - 1 - k) (setL xs w) xs.length := by
  apply Nat.eq_of_testBit_eq
  intro j
  rw [Bool.eq_iff_iff, setL_bit, moved_bit]
  constructor
  · intro h
    have hj : j < xs.length := by
      have := (List.getElem?_eq_some_iff.1 h).1
      rwa [List.length_reverse] at this
    rw [List.getElem?_reverse hj] at h
    exact ⟨xs.length - 1 - j, by omega, setL_bit.2 h, by omega⟩
  · rintro ⟨k, h1, h2, rfl⟩
    rw [List.getElem?_reverse (by omega), show xs.length - 1 - (xs.length - 1 - k) = k by omega]
    exact setL_bit.1 h2

theorem setL_mir {R C : Nat} {r c : Int} {xs : List Int} (hs : Sides r c R C xs) (w : Int) : setL (mir R C xs) (swapI w) = moved (sig C R) (setL xs w) (R * C) := by
  obtain ⟨_, _, h1, h2, h3, h4, h9, hlen, _⟩ := hs
  apply Nat.eq_of_testBit_eq
  intro j
  rw [Bool.eq_iff_iff, setL_bit, moved_bit]
  constructor
  · intro h
    have hj : j < xs.length := by
      have := (List.getElem?_eq_some_iff.1 h).1
      rwa [mir_length] at this
    have hsg := sig_lt (k := j) h1 h2 h3 h4 h9 (by omega)
    rw [mir_get hj] at h
    have hk : sig R C j < xs.length := by omega
    have := congrArg swapI (Option.some.inj h)
    rw [swapI_swapI, swapI_swapI, List.getD_eq_getElem?_getD, List.getElem?_eq_getElem hk] at this
    refine ⟨sig R C j, by omega, setL_bit.2 ?_, hsg.2.symm⟩
    rw [List.getElem?_eq_getElem hk]
    exact congrArg some this
  · rintro ⟨k, hk, hb, rfl⟩
    have hsg := sig_lt (k := k) h3 h4 h1 h2 (by rw [Nat.mul_comm]; exact h9) (by rw [Nat.mul_comm C R]; exact hk)
    rw [Nat.mul_comm C R] at hsg
    have hkl : k < xs.length := by omega
    rw [mir_get (by omega), hsg.2, List.getD_eq_getElem?_getD, setL_bit.1 hb]; rfl

theorem swap_player {P : Nat} (hP : P = 1 ∨ P = 2) : swapI (P : Int) = ((3 - P : Nat) : Int) := by rcases hP with rfl | rfl <;> rfl

theorem joins_turned {R C P : Nat} {r c : Int} {xs : List Int} (hs : Sides r c R C xs) (hP : P = 1 ∨ P = 2) : joinsN R C P (setL xs.reverse (P : Int)) = joinsN R C P (setL xs (P : Int)) := by
  have hlen := hs.2.2.2.2.2.2.2.1
  have hh := hex_ok (board_of_sides hs) (set_lt hs (P : Int))
  unfold hexB at hh
  simp only [Bool.and_eq_true, beq_iff_eq] at hh
  rw [setL_reverse, hlen]
  rcases hP with rfl | rfl
  · exact hh.1.1.1.2
  · exact hh.1.1.2

theorem joins_mirrored {R C P : Nat} {r c : Int} {xs : List Int} (hs : Sides r c R C xs) (hP : P = 1 ∨ P = 2) : joinsN C R (3 - P) (setL (mir R C xs) ((3 - P : Nat) : Int)) = joinsN R C P (setL xs (P : Int)) := by
  have hh := hex_ok (board_of_sides hs) (set_lt hs (P : Int))
  unfold hexB at hh
  simp only [Bool.and_eq_true, beq_iff_eq] at hh
  rw [← swap_player hP, setL_mir hs]
  rcases hP with rfl | rfl
  · exact hh.1.2
  · exact hh.2

/-! ### gaps -/
theorem gap_spec {R C P : Nat} {r c : Int} {xs : List Int} (hs : Sides r c R C xs) :
    (∃ k : Nat, gapN (masksN R C) (setL xs (P : Int)) (setL xs 0) (sideN R C P false) (sideN R C P true) (R * C) = (k : Int) ∧ IsGap (masksN R C) (setL xs (P : Int)) (setL xs 0) (sideN R C P false) (sideN R C P true) k) ∨
    (gapN (masksN R C) (setL xs (P : Int)) (setL xs 0) (sideN R C P false) (sideN R C P true) (R * C) = -1 ∧ ∀ k, ¬ Hits (masksN R C) (setL xs (P : Int)) (setL xs 0) (sideN R C P false) (sideN R C P true) k) :=
  gapN_spec hs.2.2.2.2.2.2.1 (set_lt9 hs _) (set_lt hs 0)

theorem hits_zero {M : List Nat} {own free edge last : Nat} : Hits M own free edge last 0 ↔ ∃ j, last.testBit j = true ∧ Reach M own edge j := by
  unfold Hits
  constructor
  · rintro ⟨j, h1, h2⟩; exact ⟨j, h1, cost_zero.1 h2⟩
  · rintro ⟨j, h1, h2⟩; exact ⟨j, h1, cost_zero.2 h2⟩

theorem hits_any {M : List Nat} {own free edge last : Nat} : (∃ k, Hits M own free edge last k) ↔ ∃ j, last.testBit j = true ∧ Reach M (own ||| free) edge j := by
  unfold Hits
  constructor
  · rintro ⟨k, j, h1, h2⟩; exact ⟨j, h1, cost_any.1 ⟨k, h2⟩⟩
  · rintro ⟨j, h1, h2⟩
    obtain ⟨k, h2⟩ := cost_any.2 h2
    exact ⟨k, j, h1, h2⟩

theorem gap_zero_iff {R C P : Nat} {r c : Int} {xs : List Int} (hs : Sides r c R C xs) : gapN (masksN R C) (setL xs (P : Int)) (setL xs 0) (sideN R C P false) (sideN R C P true) (R * C) = 0 ↔ joinsN R C P (setL xs (P : Int)) = true := by
  rw [joins_iff (set_lt9 hs _), ← hits_zero (free := setL xs 0)]
  rcases gap_spec (P := P) hs with ⟨k, hk, hg⟩ | ⟨hk, hn⟩
  · rw [hk]
    constructor
    · intro h; obtain rfl : k = 0 := by omega
      exact hg.1
    · intro h
      rcases Nat.eq_zero_or_pos k with h0 | h0
      · rw [h0]; rfl
      · exact absurd h (hg.2 0 h0)
  · rw [hk]
    constructor
    · intro h; cases h
    · intro h; exact absurd h (hn 0)

theorem gap_none_iff {R C P : Nat} {r c : Int} {xs : List Int} (hs : Sides r c R C xs) (hP : P = 1 ∨ P = 2) : gapN (masksN R C) (setL xs (P : Int)) (setL xs 0) (sideN R C P false) (sideN R C P true) (R * C) = -1 ↔ joinsN R C (3 - P) (setL xs ((3 - P : Nat) : Int)) = true := by
  have ho := other_joins hs hP
  have hany : (∃ k, Hits (masksN R C) (setL xs (P : Int)) (setL xs 0) (sideN R C P false) (sideN R C P true) k) ↔ joinsN R C P (setL xs (P : Int) ||| setL xs 0) = true := by
    rw [joins_iff (Nat.or_lt_two_pow (set_lt9 hs _) (set_lt9 hs 0)), hits_any]
  rcases gap_spec (P := P) hs with ⟨k, hk, hg⟩ | ⟨hk, hn⟩
  · have := hany.1 ⟨k, hg.1⟩
    rw [ho] at this
    rw [hk]
    constructor
    · intro h; omega
    · intro h; rw [h] at this; cases this
  · rw [hk]
    refine ⟨fun _ => ?_, fun _ => rfl⟩
    have : ¬ joinsN R C P (setL xs (P : Int) ||| setL xs 0) = true := fun h => by
      obtain ⟨k, h⟩ := hany.2 h
      exact hn k h
    rw [ho] at this
    simpa using this

/-- A stone more on a free cell. -/
theorem set_more {R C P : Nat} {r c : Int} {xs : List Int} (hs : Sides r c R C xs) (hP : P = 1 ∨ P = 2) {k : Nat} (hk : xs[k]? = some 0) : setL (xs.set k (P : Int)) (P : Int) = setL xs (P : Int) ||| (1 <<< k) ∧ setL (xs.set k (P : Int)) 0 = without (setL xs 0) k ∧ Sides r c R C (xs.set k (P : Int)) := by
  have hkl : k < xs.length := (List.getElem?_eq_some_iff.1 hk).1
  refine ⟨?_, ?_, ?_⟩
  · apply Nat.eq_of_testBit_eq
    intro j
    rw [with_bit, Bool.eq_iff_iff, Bool.or_eq_true, decide_eq_true_iff, setL_bit, setL_bit, List.getElem?_set]
    by_cases e : k = j
    · subst e; simp [hkl]
    · rw [if_neg e]
      constructor
      · exact .inl
      · rintro (h | h)
        · exact h
        · exact absurd h.symm e
  · apply Nat.eq_of_testBit_eq
    intro j
    rw [without_bit, Bool.eq_iff_iff, Bool.and_eq_true, decide_eq_true_iff, setL_bit, setL_bit, List.getElem?_set]
    by_cases e : k = j
    · subst e
      rcases hP with rfl | rfl <;> simp [hkl]
    · rw [if_neg e]
      exact ⟨fun h => ⟨h, fun h2 => e h2.symm⟩, fun h => h.1⟩
  · obtain ⟨a1, a2, a3, a4, a5, a6, a7, a8, a9⟩ := hs
    refine ⟨a1, a2, a3, a4, a5, a6, a7, by rw [List.length_set]; exact a8, ?_⟩
    rw [List.all_eq_true]
    intro x hx
    rcases List.mem_or_eq_of_mem_set hx with hx | rfl
    · exact List.all_eq_true.1 a9 x hx
    · rcases hP with rfl | rfl <;> rfl

theorem gap_stone {R C P : Nat} {r c : Int} {xs : List Int} (hs : Sides r c R C xs) (hP : P = 1 ∨ P = 2) {k : Nat} (hk : xs[k]? = some 0) {G : Nat} (hG : IsGap (masksN R C) (setL xs (P : Int)) (setL xs 0) (sideN R C P false) (sideN R C P true) G) :
    gapN (masksN R C) (setL (xs.set k (P : Int)) (P : Int)) (setL (xs.set k (P : Int)) 0) (sideN R C P false) (sideN R C P true) (R * C) = (G : Int) ∨
    (1 ≤ G ∧ gapN (masksN R C) (setL (xs.set k (P : Int)) (P : Int)) (setL (xs.set k (P : Int)) 0) (sideN R C P false) (sideN R C P true) (R * C) = (G : Int) - 1) := by
  obtain ⟨e1, e2, hs'⟩ := set_more hs hP hk
  have hm := gap_more (setL_bit.2 hk) hG
  rcases gap_spec (P := P) hs' with ⟨K, hK, hg⟩ | ⟨hK, hn⟩
  · rw [hK]
    rw [e1, e2] at hg
    rcases hm with hm | ⟨h1, hm⟩
    · exact .inl (by rw [hg.unique hm])
    · exact .inr ⟨h1, by have := hg.unique hm; omega⟩
  · rw [e1, e2] at hn
    rcases hm with hm | ⟨_, hm⟩
    · exact absurd hm.1 (hn _)
    · exact absurd hm.1 (hn _)

/-! ### the cells that close a gap -/
def goodB (M : List Nat) (own free edge last n c : Nat) : Bool := free.testBit c && decide (gapN M (own ||| (1 <<< c)) (without free c) edge last n = gapN M own free edge last n - 1)

theorem gapN_is {M : List Nat} {own free edge last n k : Nat} (hn : n ≤ 9) (ho : own < 2 ^ 9) (hf : free < 2 ^ n) (h : IsGap M own free edge last k) : gapN M own free edge last n = (k : Int) := by
  rcases gapN_spec (M := M) (edge := edge) (last := last) hn ho hf with ⟨k', hk, hg⟩ | ⟨_, hno⟩
  · rw [hk, hg.unique h]
  · exact absurd h.1 (hno k)

theorem with_lt {x c n : Nat} (hx : x < 2 ^ n) (hc : c < n) : x ||| (1 <<< c) < 2 ^ n := by
  refine Nat.or_lt_two_pow hx ?_
  rw [Nat.one_shiftLeft]; exact Nat.pow_lt_pow_right (by decide) hc

theorem good_count {M : List Nat} {edge last n : Nat} (hn : n ≤ 9) : ∀ {K own free : Nat}, own < 2 ^ 9 → free < 2 ^ n → IsGap M own free edge last K → K ≤ (List.range n).countP (goodB M own free edge last n)
  | 0, _, _, _, _, _ => Nat.zero_le _
  | K + 1, own, free, ho, hf, h => by
    obtain ⟨c1, hc1, hg1⟩ := gap_cell h
    have hc1n := bit_small hf hc1
    have ho1 : own ||| (1 <<< c1) < 2 ^ 9 := with_lt ho (by omega)
    have hf1 : without free c1 < 2 ^ n := without_lt hf
    have ih := good_count hn ho1 hf1 hg1
    have hG := gapN_is hn ho hf h
    have hG1 := gapN_is hn ho1 hf1 hg1
    have hp : goodB M own free edge last n c1 = true := by
      unfold goodB
      rw [hc1, hG1, hG, decide_eq_true (by omega)]; rfl
    have hq : goodB M (own ||| (1 <<< c1)) (without free c1) edge last n c1 = false := by
      unfold goodB
      rw [without_bit]; simp
    have hqp : ∀ x ∈ List.range n, goodB M (own ||| (1 <<< c1)) (without free c1) edge last n x = true → goodB M own free edge last n x = true := by
      intro x hx hg
      rw [List.mem_range] at hx
      unfold goodB at hg ⊢
      rw [Bool.and_eq_true, decide_eq_true_iff, without_bit, Bool.and_eq_true, decide_eq_true_iff] at hg
      obtain ⟨⟨hfx, hne⟩, hgx⟩ := hg
      rw [hfx, Bool.true_and, decide_eq_true_iff, hG]
      rw [hG1] at hgx
      have hox : own ||| (1 <<< x) < 2 ^ 9 := with_lt ho (by omega)
      rcases gap_more hfx h with hm | ⟨_, hm⟩
      · exfalso
        have hcx : (without free x).testBit c1 = true := by rw [without_bit, hc1]; simp; exact fun e => hne e.symm
        have hsame : own ||| (1 <<< x) ||| (1 <<< c1) = own ||| (1 <<< c1) ||| (1 <<< x) := by rw [Nat.or_assoc, Nat.or_comm (1 <<< x), ← Nat.or_assoc]
        have hsame2 : without (without free x) c1 = without (without free c1) x := by
          apply Nat.eq_of_testBit_eq
          intro j
          rw [without_bit, without_bit, without_bit, without_bit, Bool.and_assoc, Bool.and_comm (decide (j ≠ x)), ← Bool.and_assoc]
        rcases gap_more hcx hm with hmm | ⟨_, hmm⟩
        · rw [hsame, hsame2] at hmm
          have := gapN_is hn (with_lt ho1 (by omega)) (without_lt hf1) hmm
          omega
        · rw [hsame, hsame2] at hmm
          have := gapN_is hn (with_lt ho1 (by omega)) (without_lt hf1) hmm
          omega
      · rw [gapN_is hn hox (without_lt hf) hm]; omega
    have := countP_lt hqp (show c1 ∈ List.range n by rw [List.mem_range]; exact hc1n) hp hq
    omega

end Go.Proofs.Ytlfjjjhjjmikfaa

/- Rules to walk through a function's plain form with what is to hold in the end: binds, conditions, guards, comparisons, numbers, calls and loops. -/
namespace Go.Proofs.Ytlfjjjhjjmikfaa
open Go Go.Ip G

/-- The result is there, and Q holds of it. -/
def W (x : Res) (Q : PV → PHeap → Prop) : Prop := ∃ v h', x = some (v, h') ∧ Q v h'

section
variable {α : Type} {Q Q' : PV → PHeap → Prop} {P : Program} {t : TypeId} {k : IntKind}

theorem W.ret {v : PV} {h : PHeap} (hq : Q v h) : W (some (v, h)) Q := ⟨v, h, rfl, hq⟩
theorem W.mono {x : Res} (hx : W x Q') (hf : ∀ v h, Q' v h → Q v h) : W x Q := by
  obtain ⟨v, h, e, q⟩ := hx; exact ⟨v, h, e, hf v h q⟩
theorem W.of {x : Res} {v : PV} {h : PHeap} (hx : x = some (v, h)) (hq : Q v h) : W x Q := ⟨v, h, hx, hq⟩
theorem wbd {x : Option α} {v : α} {f : α → Res} (hx : x = some v) (hf : W (f v) Q) : W (x.bind f) Q := by rw [hx]; exact hf
theorem wcall {x : Res} {f : PV × PHeap → Res} (hx : W x Q') (hf : ∀ v h, Q' v h → W (f (v, h)) Q) : W (x.bind f) Q := by
  obtain ⟨v, h, e, q⟩ := hx; rw [e]; exact hf v h q
theorem wT {x y : Res} (h : W x Q) : W (condP (.bool true) x y) Q := h
theorem wF {x y : Res} (h : W y Q) : W (condP (.bool false) x y) Q := h
theorem wif {b : Bool} {x y : Res} (h1 : b = true → W x Q) (h2 : b = false → W y Q) : W (condP (.bool b) x y) Q := by
  cases b
  · exact h2 rfl
  · exact h1 rfl
theorem wg1 {b u : Bool} {x y : Option α} {f : α → Res} (hb : b = u) (hx : W (x.bind f) Q) : W ((wantV (.bool b) u).bind fun v => (bif v then x else y).bind f) Q := by
  subst hb; simpa using hx
theorem wg0 {b u : Bool} {x y : Option α} {f : α → Res} (hb : b = !u) (hy : W (y.bind f) Q) : W ((wantV (.bool b) u).bind fun v => (bif v then x else y).bind f) Q := by
  subst hb; cases u <;> simpa using hy
theorem wgu {u : Bool} {x y : Option α} {f : α → Res} (hy : W (y.bind f) Q) : W ((wantV (.tup []) u).bind fun v => (bif v then x else y).bind f) Q := by simpa using hy
theorem wpT {u v : PV} {f : PV → Res} (h : W (f u) Q) : W ((pickP (.bool true) u v).bind f) Q := h
theorem wpF {u v : PV} {f : PV → Res} (h : W (f v) Q) : W ((pickP (.bool false) u v).bind f) Q := h
theorem wnT {f : PV → Res} (h : W (f (.bool false)) Q) : W ((unP .not (.bool true)).bind f) Q := h
theorem wnF {f : PV → Res} (h : W (f (.bool true)) Q) : W ((unP .not (.bool false)).bind f) Q := h
theorem wn {b : Bool} {f : PV → Res} (h : W (f (.bool !b)) Q) : W ((unP .not (.bool b)).bind f) Q := h
theorem wpv {x : Option PV} {h : PHeap} {f : PV × PHeap → Res} (hx : W (x.bind fun v => f (v, h)) Q) : W ((pv h x).bind f) Q := by
  cases x <;> exact hx
theorem wsm {v : α} {f : α → Res} (h : W (f v) Q) : W ((some v).bind f) Q := h
theorem wrI {a : Int} {f : PV → Res} (h : W (f (.int k a)) Q) : W ((resV (.int k a)).bind f) Q := h
theorem wrB {a : Bool} {f : PV → Res} (h : W (f (.bool a)) Q) : W ((resV (.bool a)).bind f) Q := h
theorem wrN {f : PV → Res} (h : W (f .nilsl) Q) : W ((resV .nilsl).bind f) Q := h
theorem wrP {i o : Nat} {f : PV → Res} (h : W (f (.ptr i o)) Q) : W ((resV (.ptr i o)).bind f) Q := h
theorem wrS {i o l : Nat} {f : PV → Res} (h : W (f (.sl i o l)) Q) : W ((resV (.sl i o l)).bind f) Q := h
theorem wx0 {a : PV} {l : List PV} {f : PV → Res} (h : W (f a) Q) : W ((extractP (.tup (a :: l)) 0).bind f) Q := h
theorem wx1 {a b : PV} {l : List PV} {f : PV → Res} (h : W (f b) Q) : W ((extractP (.tup (a :: b :: l)) 1).bind f) Q := h
theorem wx2 {a b c : PV} {l : List PV} {f : PV → Res} (h : W (f c) Q) : W ((extractP (.tup (a :: b :: c :: l)) 2).bind f) Q := h
theorem wx3 {a b c d : PV} {l : List PV} {f : PV → Res} (h : W (f d) Q) : W ((extractP (.tup (a :: b :: c :: d :: l)) 3).bind f) Q := h
theorem wx4 {a b c d e : PV} {l : List PV} {f : PV → Res} (h : W (f e) Q) : W ((extractP (.tup (a :: b :: c :: d :: e :: l)) 4).bind f) Q := h
theorem wck {b : Bool} {x : Res} (hb : b = true) (h : W x Q) : W (ckP b x) Q := by rw [hb]; exact h
theorem wptr {i o : Nat} {f : PV → Res} (h : W (f (.ptr i o)) Q) : W ((ptrP (.ptr i o)).bind f) Q := h

/-! ### comparisons -/
section
variable {a b : Int} {f : PV → Res}
theorem wlssT (h : a < b) (hf : W (f (.bool true)) Q) : W ((binP P .lss t (.int k a) (.int k b)).bind f) Q := wbd (by rw [bin_lss, decide_eq_true h]) hf
theorem wlssF (h : ¬ a < b) (hf : W (f (.bool false)) Q) : W ((binP P .lss t (.int k a) (.int k b)).bind f) Q := wbd (by rw [bin_lss, decide_eq_false h]) hf
theorem wleqT (h : a ≤ b) (hf : W (f (.bool true)) Q) : W ((binP P .leq t (.int k a) (.int k b)).bind f) Q := wbd (by rw [bin_leq, decide_eq_true h]) hf
theorem wleqF (h : ¬ a ≤ b) (hf : W (f (.bool false)) Q) : W ((binP P .leq t (.int k a) (.int k b)).bind f) Q := wbd (by rw [bin_leq, decide_eq_false h]) hf
theorem wgtrT (h : b < a) (hf : W (f (.bool true)) Q) : W ((binP P .gtr t (.int k a) (.int k b)).bind f) Q := wbd (by rw [bin_gtr, decide_eq_true h]) hf
theorem wgtrF (h : ¬ b < a) (hf : W (f (.bool false)) Q) : W ((binP P .gtr t (.int k a) (.int k b)).bind f) Q := wbd (by rw [bin_gtr, decide_eq_false h]) hf
theorem wgeqT (h : b ≤ a) (hf : W (f (.bool true)) Q) : W ((binP P .geq t (.int k a) (.int k b)).bind f) Q := wbd (by rw [bin_geq, decide_eq_true h]) hf
theorem wgeqF (h : ¬ b ≤ a) (hf : W (f (.bool false)) Q) : W ((binP P .geq t (.int k a) (.int k b)).bind f) Q := wbd (by rw [bin_geq, decide_eq_false h]) hf
theorem weqlT (h : a = b) (hf : W (f (.bool true)) Q) : W ((binP P .eql t (.int k a) (.int k b)).bind f) Q := wbd (by rw [bin_eql, beq_iff_eq.2 h]) hf
theorem weqlF (h : ¬ a = b) (hf : W (f (.bool false)) Q) : W ((binP P .eql t (.int k a) (.int k b)).bind f) Q := wbd (by rw [bin_eql, beq_eq_false_iff_ne.2 h]) hf
theorem wneqT (h : ¬ a = b) (hf : W (f (.bool true)) Q) : W ((binP P .neq t (.int k a) (.int k b)).bind f) Q := wbd (by rw [bin_neq, bne, beq_eq_false_iff_ne.2 h]; rfl) hf
theorem wneqF (h : a = b) (hf : W (f (.bool false)) Q) : W ((binP P .neq t (.int k a) (.int k b)).bind f) Q := wbd (by rw [bin_neq, bne, beq_iff_eq.2 h]; rfl) hf
theorem wlss (h1 : a < b → W (f (.bool true)) Q) (h2 : ¬ a < b → W (f (.bool false)) Q) : W ((binP P .lss t (.int k a) (.int k b)).bind f) Q := by
  by_cases e : a < b
  · exact wlssT e (h1 e)
  · exact wlssF e (h2 e)
theorem wleq (h1 : a ≤ b → W (f (.bool true)) Q) (h2 : ¬ a ≤ b → W (f (.bool false)) Q) : W ((binP P .leq t (.int k a) (.int k b)).bind f) Q := by
  by_cases e : a ≤ b
  · exact wleqT e (h1 e)
  · exact wleqF e (h2 e)
theorem wgtr (h1 : b < a → W (f (.bool true)) Q) (h2 : ¬ b < a → W (f (.bool false)) Q) : W ((binP P .gtr t (.int k a) (.int k b)).bind f) Q := by
  by_cases e : b < a
  · exact wgtrT e (h1 e)
  · exact wgtrF e (h2 e)
theorem wgeq (h1 : b ≤ a → W (f (.bool true)) Q) (h2 : ¬ b ≤ a → W (f (.bool false)) Q) : W ((binP P .geq t (.int k a) (.int k b)).bind f) Q := by
  by_cases e : b ≤ a
  · exact wgeqT e (h1 e)
  · exact wgeqF e (h2 e)
theorem weql (h1 : a = b → W (f (.bool true)) Q) (h2 : ¬ a = b → W (f (.bool false)) Q) : W ((binP P .eql t (.int k a) (.int k b)).bind f) Q := by
  by_cases e : a = b
  · exact weqlT e (h1 e)
  · exact weqlF e (h2 e)
theorem wneq (h1 : ¬ a = b → W (f (.bool true)) Q) (h2 : a = b → W (f (.bool false)) Q) : W ((binP P .neq t (.int k a) (.int k b)).bind f) Q := by
  by_cases e : a = b
  · exact wneqF e (h2 e)
  · exact wneqT e (h1 e)
end

/-! ### numbers -/
section
variable {a b : Int} {x y : Nat} {f : PV → Res}
theorem wadd (h : -4611686018427387904 ≤ a + b ∧ a + b ≤ 4611686018427387904) (hf : W (f (.int .i64 (a + b))) Q) : W ((binP P .add t (.int .i64 a) (.int .i64 b)).bind f) Q := wbd (by rw [bin_add, wr (by omega)]) hf
theorem wsub (h : -4611686018427387904 ≤ a - b ∧ a - b ≤ 4611686018427387904) (hf : W (f (.int .i64 (a - b))) Q) : W ((binP P .sub t (.int .i64 a) (.int .i64 b)).bind f) Q := wbd (by rw [bin_sub, wr (by omega)]) hf
theorem wmul (h : -4611686018427387904 ≤ a * b ∧ a * b ≤ 4611686018427387904) (hf : W (f (.int .i64 (a * b))) Q) : W ((binP P .mul t (.int .i64 a) (.int .i64 b)).bind f) Q := wbd (by rw [bin_mul, wr (by omega)]) hf
theorem wadd1 (h : x < 4611686018427387904) (hf : W (f (.int .i64 ((x + 1 : Nat) : Int))) Q) : W ((binP P .add t (.int .i64 (x : Int)) (.int .i64 1)).bind f) Q := wbd (by rw [bin_add, wr (by omega)]; rfl) hf
theorem waddN (h : x + y < 4611686018427387904) (hf : W (f (.int .i64 ((x + y : Nat) : Int))) Q) : W ((binP P .add t (.int .i64 (x : Int)) (.int .i64 (y : Int))).bind f) Q := wbd (by rw [bin_add, wr (by omega)]; rfl) hf
theorem wsub1 (h : 1 ≤ x) (h2 : x < 4611686018427387904) (hf : W (f (.int .i64 ((x - 1 : Nat) : Int))) Q) : W ((binP P .sub t (.int .i64 (x : Int)) (.int .i64 1)).bind f) Q := wbd (by rw [bin_sub, wr (by omega), show (x : Int) - 1 = ((x - 1 : Nat) : Int) by omega]) hf
theorem wmulN (h : x * y < 4611686018427387904) (hf : W (f (.int .i64 ((x * y : Nat) : Int))) Q) : W ((binP P .mul t (.int .i64 (x : Int)) (.int .i64 (y : Int))).bind f) Q := wbd (by rw [bin_mul, ← Int.natCast_mul, wr (by omega)]) hf
end
end

section
variable {Q : PV → PHeap → Prop} {x y : Nat} {f : PV → Res}
theorem wquoN (h : 1 ≤ y) (h2 : x < 4611686018427387904) (hf : W (f (.int .i64 ((x / y : Nat) : Int))) Q) : W ((binP Try.prog .quo 3 (.int .i64 (x : Int)) (.int .i64 (y : Int))).bind f) Q :=
  wbd (by rw [bin_quo (by omega), ← Int.ofNat_tdiv, wr (by have := Nat.div_le_self x y; generalize x / y = z at this ⊢; omega)]) hf
theorem wremN (h : 1 ≤ y) (hf : W (f (.int .i64 ((x % y : Nat) : Int))) Q) : W ((binP Try.prog .rem 3 (.int .i64 (x : Int)) (.int .i64 (y : Int))).bind f) Q := wbd (f_rem x y h) hf
theorem wrem2 (hf : W (f (.int .i64 ((x % 2 : Nat) : Int))) Q) : W ((binP Try.prog .rem 3 (.int .i64 (x : Int)) (.int .i64 2)).bind f) Q := wbd (f_rem x 2 (by decide)) hf
theorem wshl (h : y ≤ 30) (hf : W (f (.int .i64 ((1 <<< y : Nat) : Int))) Q) : W ((binP Try.prog .shl 3 (.int .i64 1) (.int .i64 (y : Int))).bind f) Q := wbd (f_shl y h) hf
theorem wshr (h : y ≤ 60) (hf : W (f (.int .i64 ((x >>> y : Nat) : Int))) Q) : W ((binP Try.prog .shr 3 (.int .i64 (x : Int)) (.int .i64 (y : Int))).bind f) Q := wbd (f_shr x y h) hf
theorem wand (hx : x < 2 ^ 62) (hy : y < 2 ^ 62) (hf : W (f (.int .i64 ((x &&& y : Nat) : Int))) Q) : W ((binP Try.prog .and 3 (.int .i64 (x : Int)) (.int .i64 (y : Int))).bind f) Q := wbd (f_and hx hy) hf
theorem wor (hx : x < 2 ^ 62) (hy : y < 2 ^ 62) (hf : W (f (.int .i64 ((x ||| y : Nat) : Int))) Q) : W ((binP Try.prog .or 3 (.int .i64 (x : Int)) (.int .i64 (y : Int))).bind f) Q := wbd (f_or hx hy) hf

/-- What is in x, and not in y. -/
def minusN (x y : Nat) : Nat := x ^^^ (x &&& y)
theorem minusN_bit (x y j : Nat) : (minusN x y).testBit j = (x.testBit j && !y.testBit j) := by
  unfold minusN; rw [Nat.testBit_xor, Nat.testBit_and]; cases x.testBit j <;> cases y.testBit j <;> rfl
theorem minusN_lt {x y n : Nat} (hx : x < 2 ^ n) : minusN x y < 2 ^ n := Nat.lt_of_le_of_lt (sub_le fun j hj => by rw [minusN_bit, Bool.and_eq_true] at hj; exact hj.1) hx
theorem minusN_one (x k : Nat) : minusN x (1 <<< k) = without x k := rfl

theorem f_andNot (hx : x < 2 ^ 62) (hy : y < 2 ^ 62) : binP Try.prog .andNot 3 (.int .i64 (x : Int)) (.int .i64 (y : Int)) = some (.int .i64 ((minusN x y : Nat) : Int)) := by
  have e1 : BitVec.ofInt 64 (x : Int) = BitVec.ofNat 64 x := by rw [BitVec.ofInt_natCast]
  have e2 : BitVec.ofInt 64 (y : Int) = BitVec.ofNat 64 y := by rw [BitVec.ofInt_natCast]
  have e3 : (BitVec.ofNat 64 x &&& ~~~(BitVec.ofNat 64 y)).toNat = minusN x y := by
    apply Nat.eq_of_testBit_eq
    intro j
    rw [minusN_bit, ← BitVec.getLsbD, BitVec.getLsbD_and, BitVec.getLsbD_not, BitVec.getLsbD_ofNat, BitVec.getLsbD_ofNat]
    by_cases hj : j < 64
    · simp [hj]
    · have : x.testBit j = false := Nat.testBit_lt_two_pow (Nat.lt_of_lt_of_le hx (Nat.pow_le_pow_right (by decide) (by omega)))
      simp [hj, this]
  show binI .andNot .i64 (x : Int) (y : Int) = _
  have hl : minusN x y < 2 ^ 62 := minusN_lt hx
  show some (PV.int .i64 (IntKind.i64.wrap ((BitVec.ofInt 64 (x : Int) &&& ~~~(BitVec.ofInt 64 (y : Int))).toNat))) = _
  rw [e1, e2, e3, wr (by omega)]
theorem wandNot (hx : x < 2 ^ 62) (hy : y < 2 ^ 62) (hf : W (f (.int .i64 ((minusN x y : Nat) : Int))) Q) : W ((binP Try.prog .andNot 3 (.int .i64 (x : Int)) (.int .i64 (y : Int))).bind f) Q := wbd (f_andNot hx hy) hf

/-! ### slices of integers -/
variable {h : PHeap} {p : PV} {xs : List Int}
theorem wlen (s : IntSl .i64 h p xs) (hf : W (f (.int .i64 (xs.length : Int))) Q) : W ((lenP Try.prog 30 p).bind f) Q := wbd s.len' hf
/-- An element is read. -/
theorem wat (s : IntSl .i64 h p xs) {i : Nat} (hi : i < xs.length) (hf : ∀ a, loadP Try.prog 3 a h = some (.int .i64 xs[i]) → W (f a) Q) : W ((indexAddrP Try.prog 30 p (.int .i64 (i : Int))).bind f) Q := by
  obtain ⟨a, e, l⟩ := s.at' hi; exact wbd e (hf a l)
theorem wresO {n : Nat} (s : OwnSl n h p xs) (hf : W (f p) Q) : W ((resV p).bind f) Q := wbd s.res hf
/-- An element is written. -/
theorem wst {n i : Nat} (s : OwnSl n h p xs) (hi : i < xs.length) {x : Int} {F : PV → PHeap → Res}
    (hf : ∀ h', OwnSl n h' p (xs.set i x) → Keep n h h' → h'.length = h.length → ∀ a, storeP Try.prog 3 a (.int .i64 x) h = some h' → W (F a h') Q) :
    W ((indexAddrP Try.prog 30 p (.int .i64 (i : Int))).bind fun a => (storeP Try.prog 3 a (.int .i64 x) h).bind fun h' => F a h') Q := by
  obtain ⟨a, h', e1, e2, o, k, l⟩ := s.store hi x
  refine wbd e1 ?_
  show W ((storeP Try.prog 3 a (.int .i64 x) h).bind fun h' => F a h') Q
  exact wbd e2 (hf h' o k l a e2)
/-- One element is appended. -/
theorem wap {n : Nat} (s : OwnSl n h p xs) (hn : n ≤ h.length) {x : Int} (hl : xs.length + 1 ≤ 2 ^ 36) {F : PV × PHeap → Res}
    (hf : ∀ p' h', OwnSl n h' p' (xs ++ [x]) → Keep n h h' → W (F (p', h')) Q) :
    W ((buildSliceP Try.prog 30 1 [(0, .int .i64 x)] h).bind fun v => (appendP Try.prog 30 30 p v.1 v.2).bind F) Q := by
  obtain ⟨v, p', h', e1, e2, o, k⟩ := s.append hn x hl
  exact wbd e1 (wbd e2 (hf p' h' o k))
/-- A slice is made. -/
theorem wmake {m : Nat} (hm : m ≤ 2 ^ 36) {F : PV × PHeap → Res} (hf : ∀ p h', OwnSl h.length h' p (List.replicate m 0) → Keep h.length h h' → W (F (p, h')) Q) :
    W ((makeP Try.prog 30 (.int .i64 (m : Int)) (.int .i64 (m : Int)) h).bind F) Q := by
  obtain ⟨p, h', e, o, k⟩ := made (h := h) hm; exact wbd e (hf p h' o k)
theorem wempty {F : PV × PHeap → Res} (hf : ∀ p h', OwnSl h.length h' p [] → Keep h.length h h' → W (F (p, h')) Q) : W ((buildSliceP Try.prog 30 0 [] h).bind F) Q := by
  obtain ⟨p, h', e, o, k⟩ := empty_lit (h := h); exact wbd e (hf p h' o k)
end

/-! ### loops -/
theorem loopW {f : St → (PX → St → Res) → Res} {k : PX → St → Res} {Q : PV → PHeap → Prop} (I : Nat → St → Prop)
    (step : ∀ n m s, I m s → (∀ m' s', m' < m → I m' s' → W (kLoop f n k .normal s') Q) → W (f s (kLoop f n k)) Q) : ∀ (fuel m : Nat) (s : St), m < fuel → I m s → W (loopK f fuel s k) Q
  | 0, m, s, hm, _ => by omega
  | n + 1, m, s, hm, hI => by
    rw [loopK_succ]
    exact step n m s hI fun m' s' hm' hI' => by rw [kLoop_normal]; exact loopW I step n m' s' (by omega) hI'

/-- A list that whatever changes behind mark b leaves as it is. -/
def Fix (b : Nat) (h : PHeap) (p : PV) (xs : List Int) : Prop := ∀ h', Keep b h h' → IntSl .i64 h' p xs
theorem Fix.now {b : Nat} {h : PHeap} {p : PV} {xs : List Int} (s : Fix b h p xs) : IntSl .i64 h p xs := s h (Keep.refl _ _)
theorem Fix.keep {b : Nat} {h h' : PHeap} {p : PV} {xs : List Int} (s : Fix b h p xs) (k : Keep b h h') : Fix b h' p xs := fun h2 k2 => s h2 (k.trans k2)
theorem IntSl.fix {h : PHeap} {p : PV} {xs : List Int} (s : IntSl .i64 h p xs) : Fix h.length h p xs := fun _ k => s.keep k
theorem Fix.mono {b b' : Nat} {h : PHeap} {p : PV} {xs : List Int} (s : Fix b h p xs) (hb : b ≤ b') : Fix b' h p xs := fun h2 k2 => s h2 (k2.mono hb)

end Go.Proofs.Ytlfjjjhjjmikfaa

/- The laws of chapter 2 over what the program's functions are asked to compute: the draws, the exact laws, and promise 9. -/
namespace Go.Proofs.Ytlfjjjhjjmikfaa
open Go Go.Ip G

/-- What the program's functions may read besides: the table of steps, where there is one. -/
def TabOk (_ : Nat → PV) (_ : PHeap) : Prop := True
theorem TabOk.keep {g : Nat → PV} {h h' : PHeap} (_ : TabOk g h) (_ : Keep h.length h h') : TabOk g h' := trivial

def FilledOk (g : Nat → PV) (lf : Nat) : Prop := ∀ (N : Nat), 20 ≤ N → ∀ (r c pl : Int) {xs : List Int} {p : PV} {h : PHeap}, TabOk g h → IntSl .i64 h p xs → xs.length ≤ 2 ^ 35 → xs.length < lf →
  ∃ q h', CL g lf N fn_impl_Filled [.int .i64 r, .int .i64 c, p, .int .i64 pl] h = some (q, h') ∧ OwnSl h.length h' q (filledL r c xs pl) ∧ Keep h.length h h'
variable (g : Nat → PV) (lf n : Nat)

/-! ### the exact laws -/
theorem groupL_length (r c : Int) (xs : List Int) (k : Int) : (groupL r c xs k).length ≤ 9 := by
  unfold groupL; split
  · exact listN_length _
  · simp
theorem filledL_length (r c : Int) (xs : List Int) (p : Int) : (filledL r c xs p).length ≤ xs.length := by
  unfold filledL; split <;> simp
theorem gapCellsL_length (r c : Int) (xs : List Int) (p : Int) : (gapCellsL r c xs p).length ≤ xs.length := by
  unfold gapCellsL; split
  · rw [List.length_map]
    refine Nat.le_trans (List.length_filter_le _ _) ?_
    rw [List.length_range]; exact Nat.le_refl _
  · simp

/-! ### the draws -/
/-- Behind a position that is none, or a player that is none. -/
theorem joinsL_none {r c : Int} {xs : List Int} {pl : Int} (h : posB r c xs = false ∨ 2 < pl) : joinsL r c xs pl = false := by
  unfold joinsL playerB
  rcases h with h | h
  · rw [h]; rfl
  · rw [decide_eq_false (show ¬ (1 ≤ pl ∧ pl ≤ 2) by omega), Bool.and_false, Bool.false_and]
theorem gapL_none {r c : Int} {xs : List Int} {pl : Int} (h : posB r c xs = false ∨ 2 < pl) : gapL r c xs pl = -1 := by
  unfold gapL playerB
  rcases h with h | h
  · rw [h]; rfl
  · rw [decide_eq_false (show ¬ (1 ≤ pl ∧ pl ≤ 2) by omega), Bool.and_false]; rfl

end Go.Proofs.Ytlfjjjhjjmikfaa

/- Promises 11, 12, 13 and 14 over what the program's functions are asked to compute. -/
namespace Go.Proofs.Ytlfjjjhjjmikfaa
open Go Go.Ip G

/-! ### more facts on positions -/
theorem range_count (w : Int) : ∀ (xs : List Int) (n : Nat), xs.length ≤ n → (List.range n).countP (fun j => decide (xs[j]? = some w)) = xs.count w
  | [], n, _ => by
    rw [List.count_nil, List.countP_eq_zero]
    intro j _; simp
  | x :: xs, n, h => by
    obtain ⟨m, rfl⟩ : ∃ m, n = m + 1 := ⟨n - 1, by simp at h; omega⟩
    rw [List.range_succ_eq_map, List.countP_cons, List.countP_map, List.count_cons]
    have ih := range_count w xs m (by simpa using h)
    have : ((fun j => decide ((x :: xs)[j]? = some w)) ∘ Nat.succ) = fun j => decide (xs[j]? = some w) := by
      funext j; simp
    rw [this, ih]
    congr 1
    by_cases e : x = w <;> simp [e]

theorem pop_count {xs : List Int} (h : xs.length ≤ 9) (w : Int) : pop (setL xs w) = xs.count w := by
  rw [← range_count w xs 9 h]
  unfold pop
  apply List.countP_congr
  intro j _
  rw [setL_bit, decide_eq_true_iff]

theorem gap_le_free {R C P : Nat} {r c : Int} {xs : List Int} (hs : Sides r c R C xs) : gapN (masksN R C) (setL xs (P : Int)) (setL xs 0) (sideN R C P false) (sideN R C P true) (R * C) ≤ (xs.count 0 : Int) := by
  have hl : xs.length ≤ 9 := by have := hs.2.2.2.2.2.2.2.1; have := hs.2.2.2.2.2.2.1; omega
  rcases gap_spec (P := P) hs with ⟨k, hk, hg⟩ | ⟨hk, _⟩
  · have := gap_pop (set_lt9 hs 0) hg
    rw [pop_count hl] at this
    rw [hk]; omega
  · rw [hk]; omega

theorem gap_joins {R C P : Nat} {xs : List Int} (hb : posB (R : Int) (C : Int) xs = true) (hs : Sides (R : Int) (C : Int) R C xs) (hP : P = 1 ∨ P = 2) : decide (gapL (R : Int) (C : Int) xs (P : Int) = 0) = joinsL (R : Int) (C : Int) xs (P : Int) := by
  rw [gapL_eq hb hP, joinsL_eq hb hP, Bool.eq_iff_iff, decide_eq_true_iff]
  exact gap_zero_iff hs
theorem gap_other {R C P : Nat} {xs : List Int} (hb : posB (R : Int) (C : Int) xs = true) (hs : Sides (R : Int) (C : Int) R C xs) (hP : P = 1 ∨ P = 2) : decide (gapL (R : Int) (C : Int) xs (P : Int) = -1) = joinsL (R : Int) (C : Int) xs ((3 - P : Nat) : Int) := by
  rw [gapL_eq hb hP, joinsL_eq hb (by omega), Bool.eq_iff_iff, decide_eq_true_iff]
  exact gap_none_iff hs hP
theorem gap_filled {R C P : Nat} {xs : List Int} (hb : posB (R : Int) (C : Int) xs = true) (hs : Sides (R : Int) (C : Int) R C xs) (hP : P = 1 ∨ P = 2) : joinsL (R : Int) (C : Int) (xs.map (fillL (P : Int))) (P : Int) = decide (0 ≤ gapL (R : Int) (C : Int) xs (P : Int)) := by
  rw [joinsL_eq (filled_pos hb hP) hP, (filled_set hs hP).1, other_joins hs hP, ← joinsL_eq hb (show 3 - P = 1 ∨ 3 - P = 2 by omega), ← gap_other hb hs hP]
  have := (gapL_small (R : Int) (C : Int) xs (P : Int)).1
  rw [Bool.eq_iff_iff, Bool.not_eq_true', decide_eq_false_iff_not, decide_eq_true_iff]
  omega

theorem pos_set {R C P : Nat} {xs : List Int} (hb : posB (R : Int) (C : Int) xs = true) (hP : P = 1 ∨ P = 2) (k : Nat) : posB (R : Int) (C : Int) (xs.set k (P : Int)) = true := by
  unfold posB at hb ⊢
  rw [List.length_set]
  rw [Bool.and_eq_true] at hb ⊢
  refine ⟨hb.1, ?_⟩
  rw [List.all_eq_true]
  intro x hx
  rcases List.mem_or_eq_of_mem_set hx with hx | rfl
  · exact List.all_eq_true.1 hb.2 x hx
  · rcases hP with rfl | rfl <;> rfl

/-- With a stone more on a free cell. -/
theorem gapL_stone {R C P : Nat} {xs : List Int} (hb : posB (R : Int) (C : Int) xs = true) (hs : Sides (R : Int) (C : Int) R C xs) (hP : P = 1 ∨ P = 2) {k : Nat} (hk : xs[k]? = some 0) (h0 : 0 ≤ gapL (R : Int) (C : Int) xs (P : Int)) :
    gapL (R : Int) (C : Int) (xs.set k (P : Int)) (P : Int) = gapL (R : Int) (C : Int) xs (P : Int) ∨ (1 ≤ gapL (R : Int) (C : Int) xs (P : Int) ∧ gapL (R : Int) (C : Int) (xs.set k (P : Int)) (P : Int) = gapL (R : Int) (C : Int) xs (P : Int) - 1) := by
  rw [gapL_eq (pos_set hb hP k) hP, gapL_eq hb hP]
  rw [gapL_eq hb hP] at h0
  rcases gap_spec (P := P) hs with ⟨G, hG, hg⟩ | ⟨hG, _⟩
  · rw [hG]
    rcases gap_stone hs hP hk hg with h | ⟨h1, h⟩
    · exact .inl h
    · exact .inr ⟨by omega, h⟩
  · omega

theorem free_first {r c : Int} {xs : List Int} (hb : posB r c xs = true) {i : Nat} (hi : i < (cellsL r c xs 0).length) : ∃ j : Nat, (cellsL r c xs 0)[i] = (j : Int) ∧ xs[j]? = some 0 := by
  obtain ⟨e, he⟩ : ∃ e, e = (cellsL r c xs 0)[i] := ⟨_, rfl⟩
  have hm : e ∈ cellsL r c xs 0 := by rw [he]; exact List.getElem_mem hi
  have hc : cellsL r c xs 0 = cellsFrom 0 0 xs := by unfold cellsL; rw [hb]; rfl
  rw [hc] at hm
  obtain ⟨j, h1, h2⟩ := cellsFrom_mem 0 xs 0 _ hm
  exact ⟨j, by rw [← he, h1, Nat.zero_add], h2⟩

variable (g : Nat → PV) (lf n : Nat)

/-! ### promise 12 -/
end Go.Proofs.Ytlfjjjhjjmikfaa

/- Promises 13 and 14 over what the program's functions are asked to compute. -/
namespace Go.Proofs.Ytlfjjjhjjmikfaa
open Go Go.Ip G

/-! ### the cells that close a gap -/
theorem gc_mem {r c p : Int} {xs : List Int} (h0 : 0 < gapL r c xs p) {k : Nat} (hk : xs[k]? = some 0) : (k : Int) ∈ gapCellsL r c xs p ↔ gapL r c (xs.set k p) p = gapL r c xs p - 1 := by
  have hkl : k < xs.length := (List.getElem?_eq_some_iff.1 hk).1
  have hgd : xs.getD k 0 = 0 := by rw [List.getD_eq_getElem?_getD, hk]; rfl
  unfold gapCellsL
  rw [if_pos h0, List.mem_map]
  constructor
  · rintro ⟨j, hj, e⟩
    obtain rfl : j = k := by omega
    rw [List.mem_filter, Bool.and_eq_true, decide_eq_true_iff, decide_eq_true_iff] at hj
    exact hj.2.2
  · intro h
    refine ⟨k, ?_, rfl⟩
    rw [List.mem_filter, Bool.and_eq_true, decide_eq_true_iff, decide_eq_true_iff, List.mem_range]
    exact ⟨hkl, hgd, h⟩

theorem gc_sorted (r c : Int) (xs : List Int) (p : Int) : ∀ i (hi : i + 1 < (gapCellsL r c xs p).length), (gapCellsL r c xs p)[i] < (gapCellsL r c xs p)[i + 1] := by
  have hs : (gapCellsL r c xs p).Pairwise (· < ·) := by
    unfold gapCellsL
    split
    · rw [List.pairwise_map]
      refine (List.Pairwise.filter _ List.pairwise_lt_range).imp ?_
      intro a b h; omega
    · exact List.Pairwise.nil
  intro i hi
  exact List.pairwise_iff_getElem.1 hs i (i + 1) (by omega) hi (by omega)

theorem gc_count {R C P : Nat} {xs : List Int} (hb : posB (R : Int) (C : Int) xs = true) (hs : Sides (R : Int) (C : Int) R C xs) (hP : P = 1 ∨ P = 2) (h0 : 0 < gapL (R : Int) (C : Int) xs (P : Int)) : gapL (R : Int) (C : Int) xs (P : Int) ≤ ((gapCellsL (R : Int) (C : Int) xs (P : Int)).length : Int) := by
  have h9 := hs.2.2.2.2.2.2.1
  have hlen := hs.2.2.2.2.2.2.2.1
  have hge := gapL_eq hb hP
  rcases gap_spec (P := P) hs with ⟨G, hG, hg⟩ | ⟨hG, _⟩
  · have hc := good_count h9 (set_lt9 hs _) (set_lt hs 0) hg
    have hl : (gapCellsL (R : Int) (C : Int) xs (P : Int)).length = (List.range (R * C)).countP (goodB (masksN R C) (setL xs (P : Int)) (setL xs 0) (sideN R C P false) (sideN R C P true) (R * C)) := by
      unfold gapCellsL
      rw [if_pos h0, List.length_map, ← List.countP_eq_length_filter, hlen]
      apply List.countP_congr
      intro k hk
      rw [List.mem_range] at hk
      have hkl : k < xs.length := by omega
      unfold goodB
      rw [Bool.and_eq_true, Bool.and_eq_true, decide_eq_true_iff, decide_eq_true_iff, decide_eq_true_iff, setL_bit]
      have hgd : xs.getD k 0 = 0 ↔ xs[k]? = some 0 := by
        rw [List.getD_eq_getElem?_getD, List.getElem?_eq_getElem hkl]; simp
      rw [hgd]
      refine and_congr_right fun hz => ?_
      obtain ⟨e1, e2, _⟩ := set_more hs hP hz
      rw [gapL_eq (pos_set hb hP k) hP, hge, e1, e2]
    rw [hge, hG, hl]
    omega
  · rw [hge, hG]; omega

variable (g : Nat → PV) (lf n : Nat)

/-! ### gaps of free boards, and mirrored -/
theorem free_all : (boards.all fun b => decide (gapL (b.1 : Int) (b.2 : Int) (List.replicate (b.1 * b.2) 0) 1 = (b.1 : Int)) && decide (gapL (b.1 : Int) (b.2 : Int) (List.replicate (b.1 * b.2) 0) 2 = (b.2 : Int))) = true := by kernel_rfl

def mirOkB (R C : Nat) : Bool :=
  ((List.range (R * C)).all fun k => (List.range (R * C)).all fun j => ((masksN R C).getD k 0).testBit j == ((masksN C R).getD (sig C R k) 0).testBit (sig C R j)) &&
  ((List.range (R * C)).all fun j => [1, 2].all fun P => [true, false].all fun last => (sideN R C P last).testBit j == (sideN C R (3 - P) last).testBit (sig C R j))
theorem mirOk_all : (boards.all fun b => mirOkB b.1 b.2) = true := by kernel_rfl

theorem cost_mirror {R C P : Nat} {r c : Int} {xs : List Int} (hs : Sides r c R C xs) (hP : P = 1 ∨ P = 2) {k j : Nat} (h : Cost (masksN R C) (sideN R C P false) (setL xs (P : Int)) (setL xs 0) k j) :
    Cost (masksN C R) (sideN C R (3 - P) false) (setL (mir R C xs) ((3 - P : Nat) : Int)) (setL (mir R C xs) 0) k (sig C R j) := by
  have hm := List.all_eq_true.1 mirOk_all (R, C) (board_mem (board_of_sides hs))
  unfold mirOkB at hm
  rw [Bool.and_eq_true] at hm
  have hadj : ∀ i j, i < R * C → j < R * C → Adj (masksN R C) i j → Adj (masksN C R) (sig C R i) (sig C R j) := fun i j hi hj ha => by
    have := List.all_eq_true.1 (List.all_eq_true.1 hm.1 i (by rw [List.mem_range]; exact hi)) j (by rw [List.mem_range]; exact hj)
    rw [beq_iff_eq] at this
    unfold Adj at ha ⊢
    rw [← this]; exact ha
  have hedge : ∀ j, j < R * C → (sideN R C P false).testBit j = true → (sideN C R (3 - P) false).testBit (sig C R j) = true := fun j hj he => by
    have := List.all_eq_true.1 hm.2 j (by rw [List.mem_range]; exact hj)
    have := List.all_eq_true.1 this P (by rcases hP with rfl | rfl <;> simp)
    have := List.all_eq_true.1 this false (by simp)
    rw [beq_iff_eq] at this
    rw [← this]; exact he
  have hown : ∀ j, (setL xs (P : Int)).testBit j = true → (setL (mir R C xs) ((3 - P : Nat) : Int)).testBit (sig C R j) = true := fun j hj => by
    rw [← swap_player hP, setL_mir hs, moved_bit]
    exact ⟨j, set_in hs hj, hj, rfl⟩
  have hfree : ∀ j, (setL xs 0).testBit j = true → (setL (mir R C xs) 0).testBit (sig C R j) = true := fun j hj => by
    have e : setL (mir R C xs) 0 = moved (sig C R) (setL xs 0) (R * C) := setL_mir hs 0
    rw [e, moved_bit]
    exact ⟨j, set_in hs hj, hj, rfl⟩
  have hin : ∀ {k j}, Cost (masksN R C) (sideN R C P false) (setL xs (P : Int)) (setL xs 0) k j → j < R * C := fun h => by
    cases h with
    | ownEdge _ h => exact set_in hs h
    | freeEdge _ h => exact set_in hs h
    | ownStep _ _ h => exact set_in hs h
    | freeStep _ _ h => exact set_in hs h
  induction h with
  | ownEdge h ho => exact .ownEdge (hedge _ (set_in hs ho) h) (hown _ ho)
  | freeEdge h hf => exact .freeEdge (hedge _ (set_in hs hf) h) (hfree _ hf)
  | ownStep h ha ho ih => exact .ownStep ih (hadj _ _ (hin h) (set_in hs ho) ha) (hown _ ho)
  | freeStep h ha hf ih => exact .freeStep ih (hadj _ _ (hin h) (set_in hs hf) ha) (hfree _ hf)

theorem hits_mirror {R C P : Nat} {r c : Int} {xs : List Int} (hs : Sides r c R C xs) (hP : P = 1 ∨ P = 2) {k : Nat} (h : Hits (masksN R C) (setL xs (P : Int)) (setL xs 0) (sideN R C P false) (sideN R C P true) k) :
    Hits (masksN C R) (setL (mir R C xs) ((3 - P : Nat) : Int)) (setL (mir R C xs) 0) (sideN C R (3 - P) false) (sideN C R (3 - P) true) k := by
  obtain ⟨j, hj, hc⟩ := h
  have hm := List.all_eq_true.1 mirOk_all (R, C) (board_mem (board_of_sides hs))
  unfold mirOkB at hm
  rw [Bool.and_eq_true] at hm
  have hjn : j < R * C := by
    cases hc with
    | ownEdge _ h => exact set_in hs h
    | freeEdge _ h => exact set_in hs h
    | ownStep _ _ h => exact set_in hs h
    | freeStep _ _ h => exact set_in hs h
  have := List.all_eq_true.1 hm.2 j (by rw [List.mem_range]; exact hjn)
  have := List.all_eq_true.1 this P (by rcases hP with rfl | rfl <;> simp)
  have := List.all_eq_true.1 this true (by simp)
  rw [beq_iff_eq] at this
  exact ⟨sig C R j, by rw [← this]; exact hj, cost_mirror hs hP hc⟩

theorem sides_mir {R C : Nat} {xs : List Int} (hb : posB (R : Int) (C : Int) xs = true) (hs : Sides (R : Int) (C : Int) R C xs) : Sides (C : Int) (R : Int) C R (mir R C xs) := by
  have hmb := posB_mir hs hb
  obtain ⟨R', C', hS'⟩ := sides_of hmb
  obtain ⟨a1, a2, rest⟩ := id hS'
  obtain rfl : R' = C := by omega
  obtain rfl : C' = R := by omega
  exact hS'

theorem gap_mirror {R C P : Nat} {xs : List Int} (hb : posB (R : Int) (C : Int) xs = true) (hs : Sides (R : Int) (C : Int) R C xs) (hP : P = 1 ∨ P = 2) : gapL (C : Int) (R : Int) (mir R C xs) ((3 - P : Nat) : Int) = gapL (R : Int) (C : Int) xs (P : Int) := by
  have hmb := posB_mir hs hb
  have hs' := sides_mir hb hs
  have hP' : 3 - P = 1 ∨ 3 - P = 2 := by omega
  have fwd : ∀ k, Hits (masksN R C) (setL xs (P : Int)) (setL xs 0) (sideN R C P false) (sideN R C P true) k → Hits (masksN C R) (setL (mir R C xs) ((3 - P : Nat) : Int)) (setL (mir R C xs) 0) (sideN C R (3 - P) false) (sideN C R (3 - P) true) k := fun k h => hits_mirror hs hP h
  have bwd : ∀ k, Hits (masksN C R) (setL (mir R C xs) ((3 - P : Nat) : Int)) (setL (mir R C xs) 0) (sideN C R (3 - P) false) (sideN C R (3 - P) true) k → Hits (masksN R C) (setL xs (P : Int)) (setL xs 0) (sideN R C P false) (sideN R C P true) k := fun k h => by
    have := hits_mirror hs' hP' h
    rw [mir_mir hs.2.2.1 hs.2.2.2.1 hs.2.2.2.2.1 hs.2.2.2.2.2.1 hs.2.2.2.2.2.2.1 hs.2.2.2.2.2.2.2.1, show 3 - (3 - P) = P by omega] at this
    exact this
  rw [gapL_eq hmb hP', gapL_eq hb hP]
  rcases gap_spec (P := P) hs with ⟨k, hk, hg⟩ | ⟨hk, hn⟩
  · rcases gap_spec (P := 3 - P) hs' with ⟨k', hk', hg'⟩ | ⟨_, hn'⟩
    · have : IsGap (masksN R C) (setL xs (P : Int)) (setL xs 0) (sideN R C P false) (sideN R C P true) k' := ⟨bwd _ hg'.1, fun i hi h => hg'.2 i hi (fwd i h)⟩
      rw [hk, hk', hg.unique this]
    · exact absurd (fwd _ hg.1) (hn' _)
  · rcases gap_spec (P := 3 - P) hs' with ⟨k', _, hg'⟩ | ⟨hk', _⟩
    · exact absurd (bwd _ hg'.1) (hn _)
    · rw [hk, hk']

end Go.Proofs.Ytlfjjjhjjmikfaa

/- Promises 10 and 15 over what the program's functions are asked to compute. -/
namespace Go.Proofs.Ytlfjjjhjjmikfaa
open Go Go.Ip G

/-! ### lists of sets -/
theorem listFrom_mem (S : Nat) (e : Int) : ∀ (m k : Nat), e ∈ listFrom S m k ↔ ∃ j : Nat, e = (j : Int) ∧ k ≤ j ∧ j < k + m ∧ S.testBit j = true
  | 0, k => by
    rw [listFrom]
    constructor
    · intro h; simp at h
    · rintro ⟨j, _, h1, h2, _⟩; omega
  | m + 1, k => by
    have ih := listFrom_mem S e m (k + 1)
    rw [listFrom]
    by_cases hb : S >>> k % 2 = 1
    · rw [if_pos hb, List.mem_cons, ih]
      constructor
      · rintro (h | ⟨j, h1, h2, h3, h4⟩)
        · exact ⟨k, h, Nat.le_refl _, by omega, (bit_iff S k).1 hb⟩
        · exact ⟨j, h1, by omega, by omega, h4⟩
      · rintro ⟨j, h1, h2, h3, h4⟩
        by_cases e2 : j = k
        · exact .inl (by rw [h1, e2])
        · exact .inr ⟨j, h1, by omega, by omega, h4⟩
    · rw [if_neg hb, ih]
      constructor
      · rintro ⟨j, h1, h2, h3, h4⟩
        exact ⟨j, h1, by omega, by omega, h4⟩
      · rintro ⟨j, h1, h2, h3, h4⟩
        by_cases e2 : j = k
        · subst e2; exact absurd ((bit_iff S j).2 h4) hb
        · exact ⟨j, h1, by omega, by omega, h4⟩

theorem listN_mem {S : Nat} (hS : S < 2 ^ 9) (e : Int) : e ∈ listN S ↔ ∃ j : Nat, e = (j : Int) ∧ S.testBit j = true := by
  unfold listN
  rw [listFrom_mem]
  constructor
  · rintro ⟨j, h1, _, _, h4⟩; exact ⟨j, h1, h4⟩
  · rintro ⟨j, h1, h4⟩; exact ⟨j, h1, Nat.zero_le _, by have := bit_small hS h4; omega, h4⟩

theorem listFrom_sorted (S : Nat) : ∀ (m k : Nat), (listFrom S m k).Pairwise (· < ·)
  | 0, _ => List.Pairwise.nil
  | m + 1, k => by
    have ih := listFrom_sorted S m (k + 1)
    rw [listFrom]
    split
    · refine List.pairwise_cons.2 ⟨fun e he => ?_, ih⟩
      obtain ⟨j, h1, h2, _, _⟩ := (listFrom_mem S e m (k + 1)).1 he
      omega
    · exact ih

theorem listN_sorted (S : Nat) : ∀ i (hi : i + 1 < (listN S).length), (listN S)[i] < (listN S)[i + 1] := fun i hi =>
  List.pairwise_iff_getElem.1 (listFrom_sorted S 9 0) i (i + 1) (by have : i + 1 < (listN S).length := hi; unfold listN at this; omega) hi (by omega)

/-! ### masks -/
def maskOkB (R C : Nat) : Bool :=
  (masksN R C).all (fun m => decide (m < 2 ^ (R * C))) && ((List.range (R * C)).all fun k => (List.range (R * C)).all fun j =>
    (((masksN R C).getD k 0).testBit j == ((masksN R C).getD j 0).testBit k) && (((masksN R C).getD k 0).testBit j == decide ((j : Int) ∈ nearN R C k)))
theorem maskOk_all : (boards.all fun b => maskOkB b.1 b.2) = true := by kernel_rfl

theorem adj_in {R C k j : Nat} (hB : BoardOf R C) (h : Adj (masksN R C) k j) : k < R * C ∧ j < R * C := by
  unfold Adj at h
  have hk : k < (masksN R C).length := by
    rcases Nat.lt_or_ge k (masksN R C).length with hlt | hge
    · exact hlt
    · rw [List.getD_eq_getElem?_getD, List.getElem?_eq_none hge] at h
      simp at h
  have hm := List.all_eq_true.1 maskOk_all (R, C) (board_mem hB)
  unfold maskOkB at hm
  rw [Bool.and_eq_true] at hm
  rw [List.getD_eq_getElem?_getD, List.getElem?_eq_getElem hk] at h
  have := List.all_eq_true.1 hm.1 _ (List.getElem_mem hk)
  have := of_decide_eq_true this
  exact ⟨by rw [masksN_length] at hk; exact hk, bit_small this h⟩

theorem adj_sym {R C : Nat} (hB : BoardOf R C) : ∀ k j, Adj (masksN R C) k j → Adj (masksN R C) j k := by
  intro k j h
  obtain ⟨hk, hj⟩ := adj_in hB h
  have hm := List.all_eq_true.1 maskOk_all (R, C) (board_mem hB)
  unfold maskOkB at hm
  rw [Bool.and_eq_true] at hm
  have := List.all_eq_true.1 (List.all_eq_true.1 hm.2 k (by rw [List.mem_range]; exact hk)) j (by rw [List.mem_range]; exact hj)
  rw [Bool.and_eq_true, beq_iff_eq, beq_iff_eq] at this
  unfold Adj at h ⊢
  rw [← this.1]; exact h

theorem adj_near {R C k j : Nat} (hB : BoardOf R C) (hk : k < R * C) (hj : j < R * C) (h : (j : Int) ∈ nearN R C k) : Adj (masksN R C) k j := by
  have hm := List.all_eq_true.1 maskOk_all (R, C) (board_mem hB)
  unfold maskOkB at hm
  rw [Bool.and_eq_true] at hm
  have := List.all_eq_true.1 (List.all_eq_true.1 hm.2 k (by rw [List.mem_range]; exact hk)) j (by rw [List.mem_range]; exact hj)
  rw [Bool.and_eq_true, beq_iff_eq, beq_iff_eq] at this
  unfold Adj
  rw [this.2, decide_eq_true_iff]; exact h

/-! ### groups -/
theorem reach_one {M : List Nat} {S k : Nat} (hk : S.testBit k = true) : Reach M S (1 <<< k) k := .start (by rw [one_bit]; simp) hk

theorem group_same {R C S k j : Nat} (hB : BoardOf R C) (hS : S < 2 ^ 9) (hk : S.testBit k = true) (h : Reach (masksN R C) S (1 <<< k) j) : growN (masksN R C) S (1 <<< j) = growN (masksN R C) S (1 <<< k) := by
  apply Nat.eq_of_testBit_eq
  intro i
  rw [Bool.eq_iff_iff, grow_bit hS, grow_bit hS]
  have one : ∀ {a : Nat} {x : Nat}, (1 <<< a).testBit x = true → x = a := fun {a x} hx => by rw [one_bit] at hx; exact of_decide_eq_true hx
  constructor
  · exact Reach.trans fun x hx => by rw [one hx]; exact h
  · exact Reach.trans fun x hx => by rw [one hx]; exact Reach.back (adj_sym hB) hk h

theorem groupL_stone {R C K : Nat} {xs : List Int} (hb : posB (R : Int) (C : Int) xs = true) {x : Int} (hx : xs[K]? = some x) (hz : x ≠ 0) : groupL (R : Int) (C : Int) xs (K : Int) = listN (growN (masksN R C) (setL xs x) (1 <<< K)) := by
  have hK : K < xs.length := (List.getElem?_eq_some_iff.1 hx).1
  have hgd : xs.getD K 0 = x := by rw [List.getD_eq_getElem?_getD, hx]; rfl
  unfold groupL stoneB
  rw [hb, decide_eq_true ⟨by omega, by omega⟩, show ((K : Int).toNat) = K from rfl, hgd, decide_eq_false hz]
  rfl

variable (g : Nat → PV) (lf n : Nat)

theorem loadAt {xs : List Int} {p a : PV} {h : PHeap} {i : Nat} (hp : IntSl .i64 h p xs) (hi : i < xs.length) (ha : indexAddrP Try.prog 30 p (.int .i64 (i : Int)) = some a) : loadP Try.prog 3 a h = some (.int .i64 xs[i]) := by
  obtain ⟨a', ha', hla⟩ := hp.at' hi
  obtain rfl : a = a' := Option.some.inj (ha.symm.trans ha')
  exact hla

end Go.Proofs.Ytlfjjjhjjmikfaa

