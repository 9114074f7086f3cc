/- Texts of this seat, in their order, put together by program. -/
import Derived.Test.YtihlmjapddjjjaaK7
import Derived.IntWalk
import Derived.Test.YtihlmjapddjjjaaProg
import Derived.KernelRfl
set_option linter.unusedSimpArgs false
set_option linter.unusedVariables false
set_option linter.unusedSectionVars false
/- What the operations come to on values that are written out: rules for the simplifier; and the types of this program. -/
set_option maxRecDepth 20000
namespace Go.Proofs.Ytihlmjapddjjjaa
open Go Go.Ip

section
variable {P : Program} {t : TypeId} {k : IntKind} {a b : Int} {h : PHeap}

@[simp] theorem bin_add : binP P .add t (.int k a) (.int k b) = some (.int k (k.wrap (a + b))) := by simp [binP, binI]
@[simp] theorem bin_sub : binP P .sub t (.int k a) (.int k b) = some (.int k (k.wrap (a - b))) := by simp [binP, binI]
@[simp] theorem bin_mul : binP P .mul t (.int k a) (.int k b) = some (.int k (k.wrap (a * b))) := by simp [binP, binI]
theorem bin_quo (hb : b ≠ 0) : binP P .quo t (.int k a) (.int k b) = some (.int k (k.wrap (a.tdiv b))) := by simp [binP, binI, hb]
theorem bin_rem (hb : b ≠ 0) : binP P .rem t (.int k a) (.int k b) = some (.int k (a.tmod b)) := by simp [binP, binI, hb]
@[simp] theorem bin_eql : binP P .eql t (.int k a) (.int k b) = some (.bool (a == b)) := by simp [binP, binI]
@[simp] theorem bin_neq : binP P .neq t (.int k a) (.int k b) = some (.bool (a != b)) := by simp [binP, binI]
@[simp] theorem bin_lss : binP P .lss t (.int k a) (.int k b) = some (.bool (decide (a < b))) := by simp [binP, binI]
@[simp] theorem bin_leq : binP P .leq t (.int k a) (.int k b) = some (.bool (decide (a ≤ b))) := by simp [binP, binI]
@[simp] theorem bin_gtr : binP P .gtr t (.int k a) (.int k b) = some (.bool (decide (b < a))) := by simp [binP, binI]
@[simp] theorem bin_geq : binP P .geq t (.int k a) (.int k b) = some (.bool (decide (b ≤ a))) := by simp [binP, binI]
@[simp] theorem un_not {x : Bool} : unP .not (.bool x) = some (.bool (!x)) := rfl
@[simp] theorem un_neg : unP .neg (.int k a) = some (.int k (k.wrap (0 - a))) := rfl
@[simp] theorem pick_bool {x : Bool} {u v : PV} : pickP (.bool x) u v = some (bif x then u else v) := rfl
@[simp] theorem want_bool {x y : Bool} : wantV (.bool x) y = some (x == y) := rfl
@[simp] theorem want_undef {y : Bool} : wantV (.tup []) y = some false := rfl
@[simp] theorem cond_bool {x : Bool} {u v : Res} : condP (.bool x) u v = bif x then u else v := rfl
@[simp] theorem res_int : resV (.int k a) = some (.int k a) := rfl
@[simp] theorem res_bool {x : Bool} : resV (.bool x) = some (.bool x) := rfl
@[simp] theorem res_sl {i o l : Nat} : resV (.sl i o l) = some (.sl i o l) := rfl
@[simp] theorem res_nilsl : resV .nilsl = some .nilsl := rfl
@[simp] theorem res_ptr {i o : Nat} : resV (.ptr i o) = some (.ptr i o) := rfl
@[simp] theorem pv_some' {v : PV} : pv h (some v) = some (v, h) := rfl
@[simp] theorem ptr_ptr {i o : Nat} : ptrP (.ptr i o) = some (.ptr i o) := rfl
@[simp] theorem extract_tup {l : List PV} {i : Nat} : extractP (.tup l) i = l[i]? := rfl
@[simp] theorem fold_nil {f : PV → PV → Option PV} {x : PV} : foldP f x [] = some x := rfl
@[simp] theorem fold_cons {f : PV → PV → Option PV} {x y : PV} {ys : List PV} : foldP f x (y :: ys) = (f x y).bind fun z => foldP f z ys := rfl
@[simp] theorem max2_int {k' : IntKind} : maxP2 (.int k a) (.int k' b) = some (.int k (if b > a then b else a)) := rfl
@[simp] theorem min2_int {k' : IntKind} : minP2 (.int k a) (.int k' b) = some (.int k (if b < a then b else a)) := rfl
theorem wr {x : Int} (hx : -9223372036854775808 ≤ x ∧ x ≤ 9223372036854775807) : IntKind.i64.wrap x = x := by rw [IntKind.wrap_i64]; omega

theorem bin_eqlB {x y : Bool} (ht : isBoolT P t = true) : binP P .eql t (.bool x) (.bool y) = some (.bool (x == y)) := by simp [binP, ht]
theorem bin_neqB {x y : Bool} (ht : isBoolT P t = true) : binP P .neq t (.bool x) (.bool y) = some (.bool (!(x == y))) := by simp [binP, ht]
end

@[simp] theorem ty_bool : isBoolT Try.prog 4 = true := by kernel_rfl
@[simp] theorem neqB {x y : Bool} : binP Try.prog .neq 4 (.bool x) (.bool y) = some (.bool (!(x == y))) := bin_neqB ty_bool
@[simp] theorem eqlB {x y : Bool} : binP Try.prog .eql 4 (.bool x) (.bool y) = some (.bool (x == y)) := bin_eqlB ty_bool

end Go.Proofs.Ytihlmjapddjjjaa

/- Slices of integers on the interpreter's heap: how they are read, made, written and appended to. -/
set_option maxRecDepth 20000
namespace Go.Proofs.Ytihlmjapddjjjaa
open Go Go.Ip G

def kLoop (f : St → (PX → St → Res) → Res) (n : Nat) (k : PX → St → Res) : PX → St → Res := fun x s => match x with | .normal => loopK f n s k | x => k x s
theorem loopK_succ (f : St → (PX → St → Res) → Res) (n : Nat) (s : St) (k : PX → St → Res) : loopK f (n + 1) s k = f s (kLoop f n k) := rfl
@[simp] theorem kLoop_normal (f : St → (PX → St → Res) → Res) (n : Nat) (s : St) (k : PX → St → Res) : kLoop f n k .normal s = loopK f n s k := rfl
@[simp] theorem kLoop_exit (f : St → (PX → St → Res) → Res) (n i : Nat) (s : St) (k : PX → St → Res) : kLoop f n k (.exit i) s = k (.exit i) s := rfl
@[simp] theorem kLoop_ret (f : St → (PX → St → Res) → Res) (n : Nat) (s : St) (k : PX → St → Res) : kLoop f n k .ret s = k .ret s := rfl

/-- The first n objects are as they were. -/
def Keep (n : Nat) (h h' : PHeap) : Prop := h.length ≤ h'.length ∧ ∀ i, i < n → h'[i]? = h[i]?

theorem Keep.refl (n : Nat) (h : PHeap) : Keep n h h := ⟨Nat.le_refl _, fun _ _ => rfl⟩
theorem Keep.trans {n : Nat} {a b c : PHeap} (h : Keep n a b) (k : Keep n b c) : Keep n a c := ⟨Nat.le_trans h.1 k.1, fun i hi => (k.2 i hi).trans (h.2 i hi)⟩
theorem Keep.mono {n m : Nat} {a b : PHeap} (h : Keep n a b) (hm : m ≤ n) : Keep m a b := ⟨h.1, fun i hi => h.2 i (by omega)⟩
theorem Keep.append (n : Nat) (h E : PHeap) (hn : n ≤ h.length) : Keep n h (h ++ E) := ⟨by simp, fun i hi => List.getElem?_append_left (by omega)⟩
theorem Keep.set (n : Nat) (h : PHeap) (i : Nat) (o : PObj) (hi : n ≤ i) : Keep n h (h.set i o) := ⟨by simp, fun j hj => List.getElem?_set_ne (by omega)⟩

theorem cellsAt_keep {n : Nat} {h h' : PHeap} (k : Keep n h h') {id : Nat} (hi : id < n) : cellsAt h' id = cellsAt h id := by
  unfold cellsAt; rw [k.2 id hi]

theorem lt_of_cell {h : PHeap} {id j : Nat} {v : PV} (hv : (cellsAt h id)[j]? = some v) : id < h.length := by
  unfold cellsAt at hv
  cases ho : h[id]? with
  | none => rw [ho] at hv; simp at hv
  | some o => exact (List.getElem?_eq_some_iff.1 ho).1

theorem IntSl.keep {k : IntKind} {h h' : PHeap} {p : PV} {xs : List Int} (s : IntSl k h p xs) (hk : Keep h.length h h') : IntSl k h' p xs := by
  rcases s with s | ⟨id, off, hp, hc⟩
  · exact .inl s
  · exact .inr ⟨id, off, hp, fun i x hx => by rw [cellsAt_keep hk (lt_of_cell (hc i x hx))]; exact hc i x hx⟩

theorem IntSl.nil (k : IntKind) (h : PHeap) : IntSl k h .nilsl [] := .inl ⟨rfl, rfl⟩

section
variable {P : Program} {T I : TypeId}

theorem IntSl.len {k : IntKind} {h : PHeap} {p : PV} {xs : List Int} (s : IntSl k h p xs) (hT : P.underlying T = some (.slice I)) : lenP P T p = some (.int .i64 xs.length) := by
  rcases s with ⟨rfl, rfl⟩ | ⟨id, off, rfl, hc⟩ <;> simp [lenP, hT]

theorem IntSl.at {k : IntKind} {h : PHeap} {p : PV} {xs : List Int} (s : IntSl k h p xs) (hT : P.underlying T = some (.slice I)) (hS : sizeT P I = some 1) (hA : isAggT P I = some false) {i : Nat} (hi : i < xs.length) :
    ∃ a, indexAddrP P T p (.int .i64 i) = some a ∧ loadP P I a h = some (.int k xs[i]) := by
  rcases s with ⟨rfl, rfl⟩ | ⟨id, off, rfl, hc⟩
  · simp at hi
  · refine ⟨.ptr id (off + i), ?_, ?_⟩
    · simp [indexAddrP, hT, hS, hi]
    · simp only [loadP, hA]
      exact hc i _ (List.getElem?_eq_getElem hi)
end

/-- A slice of integers that the call itself made, from object n on. -/
def OwnSl (n : Nat) (h : PHeap) (p : PV) (xs : List Int) : Prop :=
  (p = .nilsl ∧ xs = []) ∨ ∃ id, n ≤ id ∧ p = .sl id 0 xs.length ∧ h[id]? = some (.own 1 (xs.map (.int .i64)))

theorem OwnSl.int {n : Nat} {h : PHeap} {p : PV} {xs : List Int} (s : OwnSl n h p xs) : IntSl .i64 h p xs := by
  rcases s with s | ⟨id, _, hp, ho⟩
  · exact .inl s
  · refine .inr ⟨id, 0, hp, fun i x hx => ?_⟩
    simp [cellsAt, ho, PObj.get, hx]

theorem OwnSl.mono {n m : Nat} {h : PHeap} {p : PV} {xs : List Int} (s : OwnSl n h p xs) (hm : m ≤ n) : OwnSl m h p xs := by
  rcases s with s | ⟨id, h1, h2⟩
  · exact .inl s
  · exact .inr ⟨id, by omega, h2⟩

theorem OwnSl.keep {n : Nat} {h h' : PHeap} {p : PV} {xs : List Int} (s : OwnSl n h p xs) (hk : Keep h.length h h') : OwnSl n h' p xs := by
  rcases s with s | ⟨id, h1, h2, h3⟩
  · exact .inl s
  · exact .inr ⟨id, h1, h2, by rw [hk.2 id (List.getElem?_eq_some_iff.1 h3).1]; exact h3⟩

theorem OwnSl.nil (n : Nat) (h : PHeap) : OwnSl n h .nilsl [] := .inl ⟨rfl, rfl⟩

theorem tyS : Try.prog.underlying 31 = some (.slice 3) := by kernel_rfl
theorem tySize : sizeT Try.prog 3 = some 1 := by kernel_rfl
theorem tyAgg : isAggT Try.prog 3 = some false := by kernel_rfl
theorem tyElem : elemT Try.prog 31 = some 3 := by kernel_rfl
theorem tyZero : zeroCellsT Try.prog 3 = some [.int .i64 0] := by kernel_rfl
theorem tySmall : smallT Try.prog 3 = true := by kernel_rfl

theorem IntSl.len' {k : IntKind} {h : PHeap} {p : PV} {xs : List Int} (s : IntSl k h p xs) : lenP Try.prog 31 p = some (.int .i64 xs.length) := s.len tyS
theorem IntSl.at' {k : IntKind} {h : PHeap} {p : PV} {xs : List Int} (s : IntSl k h p xs) {i : Nat} (hi : i < xs.length) :
    ∃ a, indexAddrP Try.prog 31 p (.int .i64 i) = some a ∧ loadP Try.prog 3 a h = some (.int k xs[i]) := s.at tyS tySize tyAgg hi

theorem OwnSl.store {n : Nat} {h : PHeap} {p : PV} {xs : List Int} (s : OwnSl n h p xs) {i : Nat} (hi : i < xs.length) (x : Int) :
    ∃ a h', indexAddrP Try.prog 31 p (.int .i64 i) = some a ∧ storeP Try.prog 3 a (.int .i64 x) h = some h' ∧ OwnSl n h' p (xs.set i x) ∧ Keep n h h' ∧ h'.length = h.length := by
  rcases s with ⟨rfl, rfl⟩ | ⟨id, h1, rfl, h3⟩
  · simp at hi
  · have hid : id < h.length := (List.getElem?_eq_some_iff.1 h3).1
    refine ⟨.ptr id (0 + i), h.set id (.own 1 ((xs.set i x).map (.int .i64))), by simp [indexAddrP, tySize, hi], ?_, .inr ⟨id, h1, by simp, by rw [List.getElem?_set_self hid]⟩, Keep.set _ _ _ _ h1, by simp⟩
    simp only [storeP, h3, PV.cells, tySize, Nat.zero_add]
    rw [if_pos ⟨rfl, by simp; omega⟩]
    simp [setCells, List.map_set]

/-- What 'make' gives. -/
theorem made {h : PHeap} {m : Nat} (hm : m ≤ 2 ^ 36) : ∃ p h', makeP Try.prog 31 (.int .i64 m) (.int .i64 m) h = some (p, h') ∧ OwnSl h.length h' p (List.replicate m 0) ∧ Keep h.length h h' := by
  refine ⟨.sl h.length 0 m, h ++ [.own 1 ((List.replicate m 0).map (.int .i64))], ?_, .inr ⟨h.length, Nat.le_refl _, by simp, by simp⟩, Keep.append _ _ _ (Nat.le_refl _)⟩
  have hrep : ∀ k : Nat, repeatCells [PV.int .i64 0] k = (List.replicate k (0 : Int)).map (.int .i64) := by
    intro k
    induction k with
    | zero => rfl
    | succ k ih => rw [repeatCells, ih, List.replicate_succ]; rfl
  have hm' : (m : Int) ≤ 68719476736 := by omega
  simp [makeP, tyElem, tySize, tyZero, tySmall, hm', hrep]

/-- One element more. -/
theorem OwnSl.append {n : Nat} {h : PHeap} {p : PV} {xs : List Int} (s : OwnSl n h p xs) (hn : n ≤ h.length) (x : Int) (hl : xs.length + 1 ≤ 2 ^ 36) :
    ∃ v p' h', buildSliceP Try.prog 31 1 [(0, .int .i64 x)] h = some v ∧ appendP Try.prog 31 31 p v.1 v.2 = some (p', h') ∧ OwnSl n h' p' (xs ++ [x]) ∧ Keep n h h' := by
  have hb : buildSliceP Try.prog 31 1 [(0, .int .i64 x)] h = some (.sl h.length 0 1, h ++ [.own 1 [.int .i64 x]]) := by
    simp [buildSliceP, tyElem, tySize, tyZero, repeatCells, fillP, PV.cells, setCells]
  have hsrc : srcP (h ++ [.own 1 [.int .i64 x]]) 1 (.sl h.length 0 1) = some (1, [.int .i64 x]) := by
    simp [srcP, cellsAt, PObj.get]
  rcases s with ⟨rfl, rfl⟩ | ⟨id, h1, rfl, h3⟩
  · refine ⟨_, .sl (h.length + 1) 0 1, h ++ [.own 1 [.int .i64 x]] ++ [.own 1 [.int .i64 x]], hb, ?_, .inr ⟨h.length + 1, by omega, rfl, ?_⟩, ?_⟩
    · simp [appendP, tyElem, tySize, tySmall, hsrc]
    · rw [List.getElem?_append_right (by simp)]; simp
    · rw [List.append_assoc]; exact Keep.append _ _ _ hn
  · have hid : id < h.length := (List.getElem?_eq_some_iff.1 h3).1
    have h3' : (h ++ [PObj.own 1 [.int .i64 x]])[id]? = some (.own 1 (xs.map (.int .i64))) := by rw [List.getElem?_append_left hid]; exact h3
    refine ⟨_, .sl (h.length + 1) 0 (xs.length + 1), ((h ++ [PObj.own 1 [.int .i64 x]]).set id .dead ++ [PObj.own 1 (xs.map (.int .i64) ++ [.int .i64 x])]), hb, ?_, .inr ⟨h.length + 1, by omega, by simp, ?_⟩, ?_⟩
    · simp [appendP, tyElem, tySize, tySmall, hsrc, h3', hl]
    · rw [List.getElem?_append_right (by simp)]; simp
    · exact ((Keep.append n h _ hn).trans (Keep.set n _ id .dead h1)).trans (Keep.append _ _ _ (by simp; omega))

/-- An empty literal. -/
theorem empty_lit {h : PHeap} : ∃ p h', buildSliceP Try.prog 31 0 [] h = some (p, h') ∧ OwnSl h.length h' p [] ∧ Keep h.length h h' := by
  refine ⟨.sl h.length 0 0, h ++ [.own 1 []], by simp [buildSliceP, tyElem, tySize, tyZero, repeatCells, fillP], .inr ⟨h.length, Nat.le_refl _, rfl, by simp⟩, Keep.append _ _ _ (Nat.le_refl _)⟩

theorem nx {i : Nat} (hi : i < 2 ^ 40) : IntKind.i64.wrap ((i : Int) + 1) = ((i + 1 : Nat) : Int) := by
  rw [wr (by omega)]; rfl

end Go.Proofs.Ytihlmjapddjjjaa

/- Of each function of this seat's program its plain form over the interpreter, written by program; each equation is the kernel's. -/
set_option linter.unusedVariables false
set_option maxRecDepth 100000
namespace Go.Proofs.Ytihlmjapddjjjaa.G
open Go Go.Ip Go.Proofs

namespace laws_FnWiresOk
noncomputable def lp0 : Code := (codeAt (bodyOf Try.f3) [1, 1, 1, 1, 1, 1, 1, 0, 1, 0, 0])
def st0 (x3 x4 x5 x6 x7 : PV) (h : PHeap) : St := ⟨[.junk, .junk, .junk, x3, x4, x5, x6, x7, .junk, .junk, .junk, .junk, .junk, .junk, .junk, .junk, .junk, .junk, .junk, .junk, .junk, .junk, .junk, .junk, .junk, .junk, .junk, .junk, .junk, .junk, .junk, .junk, .junk, .junk, .junk, .junk, .junk, .junk, .junk, .junk, .junk, .junk, .junk, .junk, .junk, .junk, .junk, .junk, .junk, .junk, .junk, .junk, .junk, .junk, .junk, .junk, .junk, .junk, .junk, .junk, .junk, .junk, .junk, .junk, .junk, .junk, .junk, .junk, .junk], h⟩
def se0_3_4_5_6_7_39 (x3 x4 x5 x6 x7 x39 : PV) (h : PHeap) : St := ⟨[.junk, .junk, .junk, x3, x4, x5, x6, x7, .junk, .junk, .junk, .junk, .junk, .junk, .junk, .junk, .junk, .junk, .junk, .junk, .junk, .junk, .junk, .junk, .junk, .junk, .junk, .junk, .junk, .junk, .junk, .junk, .junk, .junk, .junk, .junk, .junk, .junk, .junk, x39, .junk, .junk, .junk, .junk, .junk, .junk, .junk, .junk, .junk, .junk, .junk, .junk, .junk, .junk, .junk, .junk, .junk, .junk, .junk, .junk, .junk, .junk, .junk, .junk, .junk, .junk, .junk, .junk, .junk], h⟩
noncomputable def K0 (E : Env) (K : PX → St → Res) : PX → St → Res := (kBlock 0 (kSeq (ev (E.cx Try.prog kl) (codeAt (bodyOf Try.f3) [1, 1, 1, 1, 1, 1, 1, 1])) K))
@[simp] theorem K0_ret (E : Env) (K : PX → St → Res) (s : St) : K0 E K .ret s = K .ret s := by kernel_rfl
noncomputable def body0 (E : Env) (K : PX → St → Res) (x3 x4 x5 x6 x7 : PV) (h : PHeap) : Res :=
    (E.p.len 23 x4).bind fun v56 =>
    (E.p.bin .lss 3 x7 v56).bind fun v57 =>
    condP v57
     (
      (E.p.indexAddr 23 x4 x7).bind fun v58 =>
      (E.p.fieldAddr 29 v58 1).bind fun v59 =>
      (E.p.load 3 v59 h).bind fun v60 =>
      (E.p.indexAddr 23 x4 x7).bind fun v61 =>
      (E.p.fieldAddr 29 v61 0).bind fun v62 =>
      (E.p.load 3 v62 h).bind fun v63 =>
      (E.p.build 29 [(0, v60), (1, v63)]).bind fun v64 =>
      (E.p.buildSlice 23 1 [(0, v64)] h).bind fun v65 =>
      (E.p.load 3 v62 v65.2).bind fun v66 =>
      ckP (plainEq v63 v66) (
      (E.p.load 3 v59 v65.2).bind fun v67 =>
      ckP (plainEq v60 v67) (
      (E.p.append 23 23 x6 v65.1 v65.2).bind fun v68 =>
      (E.p.load 3 v62 v68.2).bind fun v69 =>
      ckP (plainEq v63 v69) (
      (E.p.load 3 v59 v68.2).bind fun v70 =>
      ckP (plainEq v60 v70) (
      (E.p.bin .add 3 x7 (.int .i64 1)).bind fun v71 =>
      K .normal (st0 x3 x4 x5 v68.1 v71 v68.2))))))
     (
      K (.exit 0) (se0_3_4_5_6_7_39 x3 x4 x5 x6 x7 v57 h))
theorem body0_eq (E : Env) (K : PX → St → Res) (x3 x4 x5 x6 x7 : PV) (h : PHeap) : ev (E.cx Try.prog kl) lp0 (st0 x3 x4 x5 x6 x7 h) K = body0 E K x3 x4 x5 x6 x7 h := by kernel_rfl
theorem after0_se0_3_4_5_6_7_39 (E : Env) (x3 x4 x5 x6 x7 x39 : PV) (h : PHeap) : K0 E (kTop Try.prog Try.f3) (.exit 0) (se0_3_4_5_6_7_39 x3 x4 x5 x6 x7 x39 h) =
    (E.p.buildSlice 23 0 [] h).bind fun v39 =>
    (E.C fn_impl_WiresOk [x3, v39.1] v39.2).bind fun v40 =>
    (wantV v40.1 true).bind fun v41 =>
    (bif v41 then some (x3, v40.2) else some (.tup [], v40.2)).bind fun v42 =>
    (wantV v40.1 true).bind fun v43 =>
    (bif v43 then some (x6, v42.2) else some (.tup [], v42.2)).bind fun v44 =>
    (wantV v40.1 true).bind fun v45 =>
    (bif v45 then E.C fn_impl_WiresOk [v42.1, v44.1] v44.2 else some (.tup [], v44.2)).bind fun v46 =>
    (wantV v40.1 true).bind fun v47 =>
    (bif v47 then some (x5, v46.2) else some (.tup [], v46.2)).bind fun v48 =>
    (wantV v40.1 true).bind fun v49 =>
    (bif v49 then pv v48.2 (E.p.bin .eql 4 v46.1 v48.1) else some (.tup [], v48.2)).bind fun v50 =>
    (E.p.pick v40.1 v50.1 (.bool false)).bind fun v51 =>
    (wantV v51 true).bind fun v52 =>
    (bif v52 then E.C fn_laws_alive [] v50.2 else some (.tup [], v50.2)).bind fun v53 =>
    (E.p.pick v51 v53.1 (.bool false)).bind fun v54 =>
    (resV v54).bind fun v55 =>
    some (v55, v53.2) := by kernel_rfl
noncomputable def main (E : Env) (x0 : PV) (h : PHeap) : Res :=
    (E.p.len 22 x0).bind fun v1 =>
    (E.p.bin .gtr 3 v1 (.int .i64 1048576)).bind fun v2 =>
    condP v2
     (
      (resV (.bool true)).bind fun v3 =>
      some (v3, h))
     (
      (E.C fn_spec_DrawWiresOk [x0] h).bind fun v4 =>
      (E.p.extract v4.1 0).bind fun v5 =>
      (E.p.extract v4.1 1).bind fun v6 =>
      (E.C fn_impl_WiresOk [v5, v6] v4.2).bind fun v7 =>
      (E.C fn_spec_WiresOk [v5, v6] v7.2).bind fun v8 =>
      (E.p.bin .neq 4 v7.1 v8.1).bind fun v9 =>
      condP v9
       (
        (resV (.bool false)).bind fun v10 =>
        some (v10, v8.2))
       (
        (E.p.bin .lss 3 v5 (.int .i64 2)).bind fun v11 =>
        (wantV v11 false).bind fun v12 =>
        (bif v12 then some (v5, v8.2) else some (.tup [], v8.2)).bind fun v13 =>
        (wantV v11 false).bind fun v14 =>
        (bif v14 then pv v13.2 (E.p.bin .gtr 3 v13.1 (.int .i64 5)) else some (.tup [], v13.2)).bind fun v15 =>
        (E.p.pick v11 (.bool true) v15.1).bind fun v16 =>
        condP v16
         (
          (E.p.un .not v7.1).bind fun v17 =>
          (wantV v17 true).bind fun v18 =>
          (bif v18 then E.C fn_laws_alive [] v15.2 else some (.tup [], v15.2)).bind fun v19 =>
          (E.p.pick v17 v19.1 (.bool false)).bind fun v20 =>
          (resV v20).bind fun v21 =>
          some (v21, v19.2))
         (
          (E.p.buildSlice 23 0 [] v15.2).bind fun v22 =>
          loopK (ev (E.cx Try.prog laws_FnWiresOk.kl) laws_FnWiresOk.lp0) E.lf (laws_FnWiresOk.st0 v5 v6 v7.1 v22.1 (.int .i64 0) v22.2) (laws_FnWiresOk.K0 E (kTop Try.prog Try.f3)))))
theorem main_eq (E : Env) (x0 : PV) (h : PHeap) : runBody (E.cx Try.prog kl) Try.f3 [x0] h = main E x0 h := by kernel_rfl
theorem call_eq (g : Nat → PV) (lf n : Nat) (x0 : PV) (h : PHeap) : CL g lf (n + 1) fn_laws_FnWiresOk [x0] h = main (env g lf n) x0 h := by
  rw [← main_eq]
  show call Try.prog g KL lf (n + 1) 3 [x0] h = _
  rw [call_succ, Try.func3]
  kernel_rfl
end laws_FnWiresOk
namespace laws_FnOwnersOk
noncomputable def lp0 : Code := (codeAt (bodyOf Try.f4) [1, 1, 1, 1, 1, 1, 0, 1, 0, 0])
def st0 (x3 x4 x5 x6 x7 x8 : PV) (h : PHeap) : St := ⟨[.junk, .junk, .junk, x3, x4, x5, x6, x7, x8, .junk, .junk, .junk, .junk, .junk, .junk, .junk, .junk, .junk, .junk, .junk, .junk, .junk, .junk, .junk, .junk, .junk, .junk, .junk, .junk, .junk, .junk, .junk, .junk, .junk, .junk, .junk, .junk, .junk, .junk, .junk, .junk, .junk, .junk, .junk, .junk, .junk, .junk, .junk, .junk, .junk, .junk, .junk, .junk, .junk, .junk, .junk, .junk, .junk, .junk, .junk, .junk, .junk, .junk, .junk, .junk, .junk, .junk, .junk, .junk, .junk, .junk, .junk, .junk], h⟩
def se0_3_4_5_6_7_8_33 (x3 x4 x5 x6 x7 x8 x33 : PV) (h : PHeap) : St := ⟨[.junk, .junk, .junk, x3, x4, x5, x6, x7, x8, .junk, .junk, .junk, .junk, .junk, .junk, .junk, .junk, .junk, .junk, .junk, .junk, .junk, .junk, .junk, .junk, .junk, .junk, .junk, .junk, .junk, .junk, .junk, .junk, x33, .junk, .junk, .junk, .junk, .junk, .junk, .junk, .junk, .junk, .junk, .junk, .junk, .junk, .junk, .junk, .junk, .junk, .junk, .junk, .junk, .junk, .junk, .junk, .junk, .junk, .junk, .junk, .junk, .junk, .junk, .junk, .junk, .junk, .junk, .junk, .junk, .junk, .junk, .junk], h⟩
noncomputable def K0 (E : Env) (K : PX → St → Res) : PX → St → Res := (kBlock 0 (kSeq (ev (E.cx Try.prog kl) (codeAt (bodyOf Try.f4) [1, 1, 1, 1, 1, 1, 1])) K))
@[simp] theorem K0_ret (E : Env) (K : PX → St → Res) (s : St) : K0 E K .ret s = K .ret s := by kernel_rfl
noncomputable def body0 (E : Env) (K : PX → St → Res) (x3 x4 x5 x6 x7 x8 : PV) (h : PHeap) : Res :=
    (E.p.len 31 x5).bind fun v57 =>
    (E.p.bin .lss 3 x8 v57).bind fun v58 =>
    condP v58
     (
      (E.p.indexAddr 31 x5 x8).bind fun v59 =>
      (E.p.load 3 v59 h).bind fun v60 =>
      (E.p.bin .eql 3 v60 (.int .i64 1)).bind fun v61 =>
      (wantV v61 false).bind fun v62 =>
      (bif v62 then some (v60, h) else some (.tup [], h)).bind fun v63 =>
      (wantV v61 false).bind fun v64 =>
      (bif v64 then pv v63.2 (E.p.bin .eql 3 v63.1 (.int .i64 2)) else some (.tup [], v63.2)).bind fun v65 =>
      (E.p.pick v61 (.bool true) v65.1).bind fun v66 =>
      condP v66
       (
        (E.p.bin .sub 3 (.int .i64 3) v60).bind fun v67 =>
        (E.p.buildSlice 31 1 [(0, v67)] v65.2).bind fun v68 =>
        (E.p.append 31 31 x7 v68.1 v68.2).bind fun v69 =>
        (E.p.bin .add 3 x8 (.int .i64 1)).bind fun v70 =>
        K .normal (st0 x3 x4 x5 x6 v69.1 v70 v69.2))
       (
        (E.p.buildSlice 31 1 [(0, v60)] v65.2).bind fun v71 =>
        (E.p.append 31 31 x7 v71.1 v71.2).bind fun v72 =>
        (E.p.bin .add 3 x8 (.int .i64 1)).bind fun v73 =>
        K .normal (st0 x3 x4 x5 x6 v72.1 v73 v72.2)))
     (
      K (.exit 0) (se0_3_4_5_6_7_8_33 x3 x4 x5 x6 x7 x8 v58 h))
theorem body0_eq (E : Env) (K : PX → St → Res) (x3 x4 x5 x6 x7 x8 : PV) (h : PHeap) : ev (E.cx Try.prog kl) lp0 (st0 x3 x4 x5 x6 x7 x8 h) K = body0 E K x3 x4 x5 x6 x7 x8 h := by kernel_rfl
theorem after0_se0_3_4_5_6_7_8_33 (E : Env) (x3 x4 x5 x6 x7 x8 x33 : PV) (h : PHeap) : K0 E (kTop Try.prog Try.f4) (.exit 0) (se0_3_4_5_6_7_8_33 x3 x4 x5 x6 x7 x8 x33 h) =
    (E.C fn_impl_OwnersOk [x3, x4, x7] h).bind fun v30 =>
    (E.p.bin .eql 4 v30.1 x6).bind fun v31 =>
    (wantV v31 true).bind fun v32 =>
    (bif v32 then some (x3, v30.2) else some (.tup [], v30.2)).bind fun v33 =>
    (wantV v31 true).bind fun v34 =>
    (bif v34 then some (x4, v33.2) else some (.tup [], v33.2)).bind fun v35 =>
    (wantV v31 true).bind fun v36 =>
    (bif v36 then some (x4, v35.2) else some (.tup [], v35.2)).bind fun v37 =>
    (wantV v31 true).bind fun v38 =>
    (bif v38 then pv v37.2 (E.p.len 23 v37.1) else some (.tup [], v37.2)).bind fun v39 =>
    (wantV v31 true).bind fun v40 =>
    (bif v40 then E.p.make 31 v39.1 v39.1 v39.2 else some (.tup [], v39.2)).bind fun v41 =>
    (wantV v31 true).bind fun v42 =>
    (bif v42 then E.C fn_impl_OwnersOk [v33.1, v35.1, v41.1] v41.2 else some (.tup [], v41.2)).bind fun v43 =>
    (wantV v31 true).bind fun v44 =>
    (bif v44 then some (x3, v43.2) else some (.tup [], v43.2)).bind fun v45 =>
    (wantV v31 true).bind fun v46 =>
    (bif v46 then some (x4, v45.2) else some (.tup [], v45.2)).bind fun v47 =>
    (wantV v31 true).bind fun v48 =>
    (bif v48 then E.C fn_impl_WiresOk [v45.1, v47.1] v47.2 else some (.tup [], v47.2)).bind fun v49 =>
    (wantV v31 true).bind fun v50 =>
    (bif v50 then pv v49.2 (E.p.bin .eql 4 v43.1 v49.1) else some (.tup [], v49.2)).bind fun v51 =>
    (E.p.pick v31 v51.1 (.bool false)).bind fun v52 =>
    (wantV v52 true).bind fun v53 =>
    (bif v53 then E.C fn_laws_alive [] v51.2 else some (.tup [], v51.2)).bind fun v54 =>
    (E.p.pick v52 v54.1 (.bool false)).bind fun v55 =>
    (resV v55).bind fun v56 =>
    some (v56, v54.2) := by kernel_rfl
noncomputable def main (E : Env) (x0 : PV) (h : PHeap) : Res :=
    (E.p.len 22 x0).bind fun v1 =>
    (E.p.bin .gtr 3 v1 (.int .i64 1048576)).bind fun v2 =>
    condP v2
     (
      (resV (.bool true)).bind fun v3 =>
      some (v3, h))
     (
      (E.C fn_spec_DrawOwnersOk [x0] h).bind fun v4 =>
      (E.p.extract v4.1 0).bind fun v5 =>
      (E.p.extract v4.1 1).bind fun v6 =>
      (E.p.extract v4.1 2).bind fun v7 =>
      (E.C fn_impl_OwnersOk [v5, v6, v7] v4.2).bind fun v8 =>
      (E.C fn_spec_OwnersOk [v5, v6, v7] v8.2).bind fun v9 =>
      (E.p.bin .neq 4 v8.1 v9.1).bind fun v10 =>
      condP v10
       (
        (resV (.bool false)).bind fun v11 =>
        some (v11, v9.2))
       (
        (E.p.buildSlice 31 0 [] v9.2).bind fun v12 =>
        loopK (ev (E.cx Try.prog laws_FnOwnersOk.kl) laws_FnOwnersOk.lp0) E.lf (laws_FnOwnersOk.st0 v5 v6 v7 v8.1 v12.1 (.int .i64 0) v12.2) (laws_FnOwnersOk.K0 E (kTop Try.prog Try.f4))))
theorem main_eq (E : Env) (x0 : PV) (h : PHeap) : runBody (E.cx Try.prog kl) Try.f4 [x0] h = main E x0 h := by kernel_rfl
theorem call_eq (g : Nat → PV) (lf n : Nat) (x0 : PV) (h : PHeap) : CL g lf (n + 1) fn_laws_FnOwnersOk [x0] h = main (env g lf n) x0 h := by
  rw [← main_eq]
  show call Try.prog g KL lf (n + 1) 4 [x0] h = _
  rw [call_succ, Try.func4]
  kernel_rfl
end laws_FnOwnersOk
namespace spec_DrawWiresOk
noncomputable def main (E : Env) (x0 : PV) (h : PHeap) : Res :=
    (E.C fn_spec_l20Open [x0] h).bind fun v1 =>
    (E.C fn_spec_l20Wires [v1.1, (.int .i64 2)] v1.2).bind fun v2 =>
    (E.p.extract v2.1 0).bind fun v3 =>
    (E.p.extract v2.1 1).bind fun v4 =>
    (resV v3).bind fun v5 =>
    (resV v4).bind fun v6 =>
    some (.tup [v5, v6], v2.2)
theorem main_eq (E : Env) (x0 : PV) (h : PHeap) : runBody (E.cx Try.prog kl) Try.f5 [x0] h = main E x0 h := by kernel_rfl
theorem call_eq (g : Nat → PV) (lf n : Nat) (x0 : PV) (h : PHeap) : CL g lf (n + 1) fn_spec_DrawWiresOk [x0] h = main (env g lf n) x0 h := by
  rw [← main_eq]
  show call Try.prog g KL lf (n + 1) 5 [x0] h = _
  rw [call_succ, Try.func5]
  kernel_rfl
end spec_DrawWiresOk
namespace impl_WiresOk
noncomputable def lp0 : Code := (codeAt (bodyOf Try.f6) [1, 1, 0, 1, 0, 0])
def st0 (x0 x18 x19 x20 : PV) (h : PHeap) : St := ⟨[x0, .junk, .junk, .junk, .junk, .junk, .junk, .junk, .junk, .junk, .junk, .junk, .junk, .junk, .junk, .junk, .junk, .junk, x18, x19, x20, .junk, .junk, .junk, .junk, .junk, .junk, .junk, .junk, .junk, .junk, .junk, .junk, .junk, .junk, .junk, .junk, .junk, .junk, .junk, .junk, .junk, .junk, .junk], h⟩
def sr_4 (x4 : PV) (h : PHeap) : St := ⟨[.junk, .junk, .junk, .junk, x4, .junk, .junk, .junk, .junk, .junk, .junk, .junk, .junk, .junk, .junk, .junk, .junk, .junk, .junk, .junk, .junk, .junk, .junk, .junk, .junk, .junk, .junk, .junk, .junk, .junk, .junk, .junk, .junk, .junk, .junk, .junk, .junk, .junk, .junk, .junk, .junk, .junk, .junk, .junk], h⟩
def se0_0_18_19_20_21 (x0 x18 x19 x20 x21 : PV) (h : PHeap) : St := ⟨[x0, .junk, .junk, .junk, .junk, .junk, .junk, .junk, .junk, .junk, .junk, .junk, .junk, .junk, .junk, .junk, .junk, .junk, x18, x19, x20, x21, .junk, .junk, .junk, .junk, .junk, .junk, .junk, .junk, .junk, .junk, .junk, .junk, .junk, .junk, .junk, .junk, .junk, .junk, .junk, .junk, .junk, .junk], h⟩
noncomputable def K0 (E : Env) (K : PX → St → Res) : PX → St → Res := (kBlock 0 (kSeq (ev (E.cx Try.prog kl) (codeAt (bodyOf Try.f6) [1, 1, 1])) K))
@[simp] theorem K0_ret (E : Env) (K : PX → St → Res) (s : St) : K0 E K .ret s = K .ret s := by kernel_rfl
noncomputable def body0 (E : Env) (K : PX → St → Res) (x0 x18 x19 x20 : PV) (h : PHeap) : Res :=
    (E.p.bin .lss 3 x20 x19).bind fun v50 =>
    condP v50
     (
      (E.p.indexAddr 23 x18 x20).bind fun v51 =>
      (E.p.load 29 v51 h).bind fun v52 =>
      (E.p.alloc 29 h).bind fun v53 =>
      (E.p.store 29 v53.1 v52 v53.2).bind fun v54 =>
      (E.p.fieldAddr 29 v53.1 0).bind fun v55 =>
      (E.p.load 3 v55 v54).bind fun v56 =>
      (E.p.fieldAddr 29 v53.1 1).bind fun v57 =>
      (E.p.load 3 v57 v54).bind fun v58 =>
      (E.p.bin .eql 3 v56 v58).bind fun v59 =>
      (wantV v59 false).bind fun v60 =>
      (bif v60 then some (x0, v54) else some (.tup [], v54)).bind fun v61 =>
      (wantV v59 false).bind fun v62 =>
      (bif v62 then pv v61.2 (E.p.fieldAddr 29 v53.1 0) else some (.tup [], v61.2)).bind fun v63 =>
      (wantV v59 false).bind fun v64 =>
      (bif v64 then pv v63.2 (E.p.load 3 v63.1 v63.2) else some (.tup [], v63.2)).bind fun v65 =>
      (wantV v59 false).bind fun v66 =>
      (bif v66 then E.C fn_impl_nodeOk [v61.1, v65.1] v65.2 else some (.tup [], v65.2)).bind fun v67 =>
      (wantV v59 false).bind fun v68 =>
      (bif v68 then pv v67.2 (E.p.un .not v67.1) else some (.tup [], v67.2)).bind fun v69 =>
      (E.p.pick v59 (.bool true) v69.1).bind fun v70 =>
      (wantV v70 false).bind fun v71 =>
      (bif v71 then some (x0, v69.2) else some (.tup [], v69.2)).bind fun v72 =>
      (wantV v70 false).bind fun v73 =>
      (bif v73 then pv v72.2 (E.p.fieldAddr 29 v53.1 1) else some (.tup [], v72.2)).bind fun v74 =>
      (wantV v70 false).bind fun v75 =>
      (bif v75 then pv v74.2 (E.p.load 3 v74.1 v74.2) else some (.tup [], v74.2)).bind fun v76 =>
      (wantV v70 false).bind fun v77 =>
      (bif v77 then E.C fn_impl_nodeOk [v72.1, v76.1] v76.2 else some (.tup [], v76.2)).bind fun v78 =>
      (wantV v70 false).bind fun v79 =>
      (bif v79 then pv v78.2 (E.p.un .not v78.1) else some (.tup [], v78.2)).bind fun v80 =>
      (E.p.pick v70 (.bool true) v80.1).bind fun v81 =>
      condP v81
       (
        K .ret (sr_4 (.bool false) v80.2))
       (
        (E.p.bin .add 3 x20 (.int .i64 1)).bind fun v82 =>
        K .normal (st0 x0 x18 x19 v82 v80.2)))
     (
      K (.exit 0) (se0_0_18_19_20_21 x0 x18 x19 x20 v50 h))
theorem body0_eq (E : Env) (K : PX → St → Res) (x0 x18 x19 x20 : PV) (h : PHeap) : ev (E.cx Try.prog kl) lp0 (st0 x0 x18 x19 x20 h) K = body0 E K x0 x18 x19 x20 h := by kernel_rfl
theorem after0_se0_0_18_19_20_21 (E : Env) (x0 x18 x19 x20 x21 : PV) (h : PHeap) : K0 E (kTop Try.prog Try.f6) (.exit 0) (se0_0_18_19_20_21 x0 x18 x19 x20 x21 h) =
    (resV (.bool true)).bind fun v49 =>
    some (v49, h) := by kernel_rfl
theorem top_sr_4 (x4 : PV) (h : PHeap) : kTop Try.prog Try.f6 .ret (sr_4 x4 h) =
    (resV x4).bind fun v83 =>
    some (v83, h) := by kernel_rfl
noncomputable def main (E : Env) (x0 x1 : PV) (h : PHeap) : Res :=
    (E.p.bin .lss 3 x0 (.int .i64 2)).bind fun v1 =>
    (wantV v1 false).bind fun v2 =>
    (bif v2 then some (x0, h) else some (.tup [], h)).bind fun v3 =>
    (wantV v1 false).bind fun v4 =>
    (bif v4 then pv v3.2 (E.p.bin .gtr 3 v3.1 (.int .i64 5)) else some (.tup [], v3.2)).bind fun v5 =>
    (E.p.pick v1 (.bool true) v5.1).bind fun v6 =>
    (wantV v6 false).bind fun v7 =>
    (bif v7 then some (x1, v5.2) else some (.tup [], v5.2)).bind fun v8 =>
    (wantV v6 false).bind fun v9 =>
    (bif v9 then pv v8.2 (E.p.len 23 v8.1) else some (.tup [], v8.2)).bind fun v10 =>
    (wantV v6 false).bind fun v11 =>
    (bif v11 then pv v10.2 (E.p.bin .gtr 3 v10.1 (.int .i64 8)) else some (.tup [], v10.2)).bind fun v12 =>
    (E.p.pick v6 (.bool true) v12.1).bind fun v13 =>
    condP v13
     (
      (resV (.bool false)).bind fun v14 =>
      some (v14, v12.2))
     (
      (E.p.len 23 x1).bind fun v15 =>
      loopK (ev (E.cx Try.prog impl_WiresOk.kl) impl_WiresOk.lp0) E.lf (impl_WiresOk.st0 x0 x1 v15 (.int .i64 0) v12.2) (impl_WiresOk.K0 E (kTop Try.prog Try.f6)))
theorem main_eq (E : Env) (x0 x1 : PV) (h : PHeap) : runBody (E.cx Try.prog kl) Try.f6 [x0, x1] h = main E x0 x1 h := by kernel_rfl
theorem call_eq (g : Nat → PV) (lf n : Nat) (x0 x1 : PV) (h : PHeap) : CL g lf (n + 1) fn_impl_WiresOk [x0, x1] h = main (env g lf n) x0 x1 h := by
  rw [← main_eq]
  show call Try.prog g KL lf (n + 1) 6 [x0, x1] h = _
  rw [call_succ, Try.func6]
  kernel_rfl
end impl_WiresOk
namespace spec_WiresOk
noncomputable def lp0 : Code := (codeAt (bodyOf Try.f7) [1, 0, 1, 0, 0])
def st0 (x0 x1 x5 : PV) (h : PHeap) : St := ⟨[x0, x1, .junk, .junk, .junk, x5, .junk, .junk, .junk, .junk, .junk, .junk, .junk, .junk, .junk, .junk, .junk, .junk, .junk, .junk, .junk, .junk, .junk, .junk, .junk, .junk, .junk, .junk, .junk, .junk, .junk, .junk, .junk, .junk, .junk, .junk, .junk, .junk, .junk, .junk, .junk, .junk, .junk, .junk, .junk, .junk, .junk, .junk, .junk, .junk, .junk], h⟩
def sr_4 (x4 : PV) (h : PHeap) : St := ⟨[.junk, .junk, .junk, .junk, x4, .junk, .junk, .junk, .junk, .junk, .junk, .junk, .junk, .junk, .junk, .junk, .junk, .junk, .junk, .junk, .junk, .junk, .junk, .junk, .junk, .junk, .junk, .junk, .junk, .junk, .junk, .junk, .junk, .junk, .junk, .junk, .junk, .junk, .junk, .junk, .junk, .junk, .junk, .junk, .junk, .junk, .junk, .junk, .junk, .junk, .junk], h⟩
def se0_0_1_5_10 (x0 x1 x5 x10 : PV) (h : PHeap) : St := ⟨[x0, x1, .junk, .junk, .junk, x5, .junk, .junk, .junk, .junk, x10, .junk, .junk, .junk, .junk, .junk, .junk, .junk, .junk, .junk, .junk, .junk, .junk, .junk, .junk, .junk, .junk, .junk, .junk, .junk, .junk, .junk, .junk, .junk, .junk, .junk, .junk, .junk, .junk, .junk, .junk, .junk, .junk, .junk, .junk, .junk, .junk, .junk, .junk, .junk, .junk], h⟩
noncomputable def K0 (E : Env) (K : PX → St → Res) : PX → St → Res := (kBlock 0 (kSeq (ev (E.cx Try.prog kl) (codeAt (bodyOf Try.f7) [1, 1])) K))
@[simp] theorem K0_ret (E : Env) (K : PX → St → Res) (s : St) : K0 E K .ret s = K .ret s := by kernel_rfl
noncomputable def body0 (E : Env) (K : PX → St → Res) (x0 x1 x5 : PV) (h : PHeap) : Res :=
    (E.p.len 23 x1).bind fun v56 =>
    (E.p.bin .lss 3 x5 v56).bind fun v57 =>
    condP v57
     (
      (E.p.indexAddr 23 x1 x5).bind fun v58 =>
      (E.p.load 29 v58 h).bind fun v59 =>
      (E.p.alloc 29 h).bind fun v60 =>
      (E.p.store 29 v60.1 v59 v60.2).bind fun v61 =>
      (E.p.fieldAddr 29 v60.1 0).bind fun v62 =>
      (E.p.load 3 v62 v61).bind fun v63 =>
      (E.p.bin .lss 3 v63 (.int .i64 0)).bind fun v64 =>
      (wantV v64 false).bind fun v65 =>
      (bif v65 then pv v61 (E.p.fieldAddr 29 v60.1 0) else some (.tup [], v61)).bind fun v66 =>
      (wantV v64 false).bind fun v67 =>
      (bif v67 then pv v66.2 (E.p.load 3 v66.1 v66.2) else some (.tup [], v66.2)).bind fun v68 =>
      (wantV v64 false).bind fun v69 =>
      (bif v69 then some (x0, v68.2) else some (.tup [], v68.2)).bind fun v70 =>
      (wantV v64 false).bind fun v71 =>
      (bif v71 then pv v70.2 (E.p.bin .geq 3 v68.1 v70.1) else some (.tup [], v70.2)).bind fun v72 =>
      (E.p.pick v64 (.bool true) v72.1).bind fun v73 =>
      (wantV v73 false).bind fun v74 =>
      (bif v74 then pv v72.2 (E.p.fieldAddr 29 v60.1 1) else some (.tup [], v72.2)).bind fun v75 =>
      (wantV v73 false).bind fun v76 =>
      (bif v76 then pv v75.2 (E.p.load 3 v75.1 v75.2) else some (.tup [], v75.2)).bind fun v77 =>
      (wantV v73 false).bind fun v78 =>
      (bif v78 then pv v77.2 (E.p.bin .lss 3 v77.1 (.int .i64 0)) else some (.tup [], v77.2)).bind fun v79 =>
      (E.p.pick v73 (.bool true) v79.1).bind fun v80 =>
      (wantV v80 false).bind fun v81 =>
      (bif v81 then pv v79.2 (E.p.fieldAddr 29 v60.1 1) else some (.tup [], v79.2)).bind fun v82 =>
      (wantV v80 false).bind fun v83 =>
      (bif v83 then pv v82.2 (E.p.load 3 v82.1 v82.2) else some (.tup [], v82.2)).bind fun v84 =>
      (wantV v80 false).bind fun v85 =>
      (bif v85 then some (x0, v84.2) else some (.tup [], v84.2)).bind fun v86 =>
      (wantV v80 false).bind fun v87 =>
      (bif v87 then pv v86.2 (E.p.bin .geq 3 v84.1 v86.1) else some (.tup [], v86.2)).bind fun v88 =>
      (E.p.pick v80 (.bool true) v88.1).bind fun v89 =>
      (wantV v89 false).bind fun v90 =>
      (bif v90 then pv v88.2 (E.p.fieldAddr 29 v60.1 0) else some (.tup [], v88.2)).bind fun v91 =>
      (wantV v89 false).bind fun v92 =>
      (bif v92 then pv v91.2 (E.p.load 3 v91.1 v91.2) else some (.tup [], v91.2)).bind fun v93 =>
      (wantV v89 false).bind fun v94 =>
      (bif v94 then pv v93.2 (E.p.fieldAddr 29 v60.1 1) else some (.tup [], v93.2)).bind fun v95 =>
      (wantV v89 false).bind fun v96 =>
      (bif v96 then pv v95.2 (E.p.load 3 v95.1 v95.2) else some (.tup [], v95.2)).bind fun v97 =>
      (wantV v89 false).bind fun v98 =>
      (bif v98 then pv v97.2 (E.p.bin .eql 3 v93.1 v97.1) else some (.tup [], v97.2)).bind fun v99 =>
      (E.p.pick v89 (.bool true) v99.1).bind fun v100 =>
      condP v100
       (
        K .ret (sr_4 (.bool false) v99.2))
       (
        (E.p.bin .add 3 x5 (.int .i64 1)).bind fun v101 =>
        K .normal (st0 x0 x1 v101 v99.2)))
     (
      K (.exit 0) (se0_0_1_5_10 x0 x1 x5 v57 h))
theorem body0_eq (E : Env) (K : PX → St → Res) (x0 x1 x5 : PV) (h : PHeap) : ev (E.cx Try.prog kl) lp0 (st0 x0 x1 x5 h) K = body0 E K x0 x1 x5 h := by kernel_rfl
theorem after0_se0_0_1_5_10 (E : Env) (x0 x1 x5 x10 : PV) (h : PHeap) : K0 E (kTop Try.prog Try.f7) (.exit 0) (se0_0_1_5_10 x0 x1 x5 x10 h) =
    (E.C fn_spec_l1In [x0, (.int .i64 2), (.int .i64 5)] h).bind fun v47 =>
    (wantV v47.1 true).bind fun v48 =>
    (bif v48 then some (x1, v47.2) else some (.tup [], v47.2)).bind fun v49 =>
    (wantV v47.1 true).bind fun v50 =>
    (bif v50 then pv v49.2 (E.p.len 23 v49.1) else some (.tup [], v49.2)).bind fun v51 =>
    (wantV v47.1 true).bind fun v52 =>
    (bif v52 then pv v51.2 (E.p.bin .leq 3 v51.1 (.int .i64 8)) else some (.tup [], v51.2)).bind fun v53 =>
    (E.p.pick v47.1 v53.1 (.bool false)).bind fun v54 =>
    (resV v54).bind fun v55 =>
    some (v55, v53.2) := by kernel_rfl
theorem top_sr_4 (x4 : PV) (h : PHeap) : kTop Try.prog Try.f7 .ret (sr_4 x4 h) =
    (resV x4).bind fun v102 =>
    some (v102, h) := by kernel_rfl
noncomputable def main (E : Env) (x0 x1 : PV) (h : PHeap) : Res :=
    loopK (ev (E.cx Try.prog spec_WiresOk.kl) spec_WiresOk.lp0) E.lf (spec_WiresOk.st0 x0 x1 (.int .i64 0) h) (spec_WiresOk.K0 E (kTop Try.prog Try.f7))
theorem main_eq (E : Env) (x0 x1 : PV) (h : PHeap) : runBody (E.cx Try.prog kl) Try.f7 [x0, x1] h = main E x0 x1 h := by kernel_rfl
theorem call_eq (g : Nat → PV) (lf n : Nat) (x0 x1 : PV) (h : PHeap) : CL g lf (n + 1) fn_spec_WiresOk [x0, x1] h = main (env g lf n) x0 x1 h := by
  rw [← main_eq]
  show call Try.prog g KL lf (n + 1) 7 [x0, x1] h = _
  rw [call_succ, Try.func7]
  kernel_rfl
end spec_WiresOk
namespace laws_alive
noncomputable def main (E : Env) (h : PHeap) : Res :=
    (E.C fn_impl_BoardOk [(.int .i64 2), (.int .i64 2)] h).bind fun v1 =>
    (wantV v1.1 true).bind fun v2 =>
    (bif v2 then E.C fn_impl_BoardOk [(.int .i64 0), (.int .i64 2)] v1.2 else some (.tup [], v1.2)).bind fun v3 =>
    (wantV v1.1 true).bind fun v4 =>
    (bif v4 then pv v3.2 (E.p.un .not v3.1) else some (.tup [], v3.2)).bind fun v5 =>
    (E.p.pick v1.1 v5.1 (.bool false)).bind fun v6 =>
    (resV v6).bind fun v7 =>
    some (v7, v5.2)
theorem main_eq (E : Env) (h : PHeap) : runBody (E.cx Try.prog kl) Try.f8 [] h = main E  h := by kernel_rfl
theorem call_eq (g : Nat → PV) (lf n : Nat) (h : PHeap) : CL g lf (n + 1) fn_laws_alive [] h = main (env g lf n)  h := by
  rw [← main_eq]
  show call Try.prog g KL lf (n + 1) 8 [] h = _
  rw [call_succ, Try.func8]
  kernel_rfl
end laws_alive
namespace spec_DrawOwnersOk
noncomputable def main (E : Env) (x0 : PV) (h : PHeap) : Res :=
    (E.C fn_spec_l20Open [x0] h).bind fun v1 =>
    (E.C fn_spec_l20Owned [v1.1, (.int .i64 4)] v1.2).bind fun v2 =>
    (E.p.extract v2.1 0).bind fun v3 =>
    (E.p.extract v2.1 1).bind fun v4 =>
    (E.p.extract v2.1 2).bind fun v5 =>
    (resV v3).bind fun v6 =>
    (resV v4).bind fun v7 =>
    (resV v5).bind fun v8 =>
    some (.tup [v6, v7, v8], v2.2)
theorem main_eq (E : Env) (x0 : PV) (h : PHeap) : runBody (E.cx Try.prog kl) Try.f9 [x0] h = main E x0 h := by kernel_rfl
theorem call_eq (g : Nat → PV) (lf n : Nat) (x0 : PV) (h : PHeap) : CL g lf (n + 1) fn_spec_DrawOwnersOk [x0] h = main (env g lf n) x0 h := by
  rw [← main_eq]
  show call Try.prog g KL lf (n + 1) 9 [x0] h = _
  rw [call_succ, Try.func9]
  kernel_rfl
end spec_DrawOwnersOk
namespace impl_OwnersOk
noncomputable def lp0 : Code := (codeAt (bodyOf Try.f10) [1, 1, 0, 1, 0, 0])
def st0 (x20 x21 x22 : PV) (h : PHeap) : St := ⟨[.junk, .junk, .junk, .junk, .junk, .junk, .junk, .junk, .junk, .junk, .junk, .junk, .junk, .junk, .junk, .junk, .junk, .junk, .junk, .junk, x20, x21, x22, .junk, .junk, .junk, .junk, .junk, .junk, .junk], h⟩
def sr_6 (x6 : PV) (h : PHeap) : St := ⟨[.junk, .junk, .junk, .junk, .junk, .junk, x6, .junk, .junk, .junk, .junk, .junk, .junk, .junk, .junk, .junk, .junk, .junk, .junk, .junk, .junk, .junk, .junk, .junk, .junk, .junk, .junk, .junk, .junk, .junk], h⟩
def se0_20_21_22_23 (x20 x21 x22 x23 : PV) (h : PHeap) : St := ⟨[.junk, .junk, .junk, .junk, .junk, .junk, .junk, .junk, .junk, .junk, .junk, .junk, .junk, .junk, .junk, .junk, .junk, .junk, .junk, .junk, x20, x21, x22, x23, .junk, .junk, .junk, .junk, .junk, .junk], h⟩
noncomputable def K0 (E : Env) (K : PX → St → Res) : PX → St → Res := (kBlock 0 (kSeq (ev (E.cx Try.prog kl) (codeAt (bodyOf Try.f10) [1, 1, 1])) K))
@[simp] theorem K0_ret (E : Env) (K : PX → St → Res) (s : St) : K0 E K .ret s = K .ret s := by kernel_rfl
noncomputable def body0 (E : Env) (K : PX → St → Res) (x20 x21 x22 : PV) (h : PHeap) : Res :=
    (E.p.bin .lss 3 x22 x21).bind fun v23 =>
    condP v23
     (
      (E.p.indexAddr 31 x20 x22).bind fun v24 =>
      (E.p.load 3 v24 h).bind fun v25 =>
      (E.C fn_impl_contentOk [v25] h).bind fun v26 =>
      (E.p.un .not v26.1).bind fun v27 =>
      condP v27
       (
        K .ret (sr_6 (.bool false) v26.2))
       (
        (E.p.bin .add 3 x22 (.int .i64 1)).bind fun v28 =>
        K .normal (st0 x20 x21 v28 v26.2)))
     (
      K (.exit 0) (se0_20_21_22_23 x20 x21 x22 v23 h))
theorem body0_eq (E : Env) (K : PX → St → Res) (x20 x21 x22 : PV) (h : PHeap) : ev (E.cx Try.prog kl) lp0 (st0 x20 x21 x22 h) K = body0 E K x20 x21 x22 h := by kernel_rfl
theorem after0_se0_20_21_22_23 (E : Env) (x20 x21 x22 x23 : PV) (h : PHeap) : K0 E (kTop Try.prog Try.f10) (.exit 0) (se0_20_21_22_23 x20 x21 x22 x23 h) =
    (resV (.bool true)).bind fun v22 =>
    some (v22, h) := by kernel_rfl
theorem top_sr_6 (x6 : PV) (h : PHeap) : kTop Try.prog Try.f10 .ret (sr_6 x6 h) =
    (resV x6).bind fun v29 =>
    some (v29, h) := by kernel_rfl
noncomputable def main (E : Env) (x0 x1 x2 : PV) (h : PHeap) : Res :=
    (E.C fn_impl_WiresOk [x0, x1] h).bind fun v1 =>
    (E.p.un .not v1.1).bind fun v2 =>
    (wantV v2 false).bind fun v3 =>
    (bif v3 then some (x2, v1.2) else some (.tup [], v1.2)).bind fun v4 =>
    (wantV v2 false).bind fun v5 =>
    (bif v5 then pv v4.2 (E.p.len 31 v4.1) else some (.tup [], v4.2)).bind fun v6 =>
    (wantV v2 false).bind fun v7 =>
    (bif v7 then some (x1, v6.2) else some (.tup [], v6.2)).bind fun v8 =>
    (wantV v2 false).bind fun v9 =>
    (bif v9 then pv v8.2 (E.p.len 23 v8.1) else some (.tup [], v8.2)).bind fun v10 =>
    (wantV v2 false).bind fun v11 =>
    (bif v11 then pv v10.2 (E.p.bin .neq 3 v6.1 v10.1) else some (.tup [], v10.2)).bind fun v12 =>
    (E.p.pick v2 (.bool true) v12.1).bind fun v13 =>
    condP v13
     (
      (resV (.bool false)).bind fun v14 =>
      some (v14, v12.2))
     (
      (E.p.len 31 x2).bind fun v15 =>
      loopK (ev (E.cx Try.prog impl_OwnersOk.kl) impl_OwnersOk.lp0) E.lf (impl_OwnersOk.st0 x2 v15 (.int .i64 0) v12.2) (impl_OwnersOk.K0 E (kTop Try.prog Try.f10)))
theorem main_eq (E : Env) (x0 x1 x2 : PV) (h : PHeap) : runBody (E.cx Try.prog kl) Try.f10 [x0, x1, x2] h = main E x0 x1 x2 h := by kernel_rfl
theorem call_eq (g : Nat → PV) (lf n : Nat) (x0 x1 x2 : PV) (h : PHeap) : CL g lf (n + 1) fn_impl_OwnersOk [x0, x1, x2] h = main (env g lf n) x0 x1 x2 h := by
  rw [← main_eq]
  show call Try.prog g KL lf (n + 1) 10 [x0, x1, x2] h = _
  rw [call_succ, Try.func10]
  kernel_rfl
end impl_OwnersOk
namespace spec_OwnersOk
noncomputable def lp0 : Code := (codeAt (bodyOf Try.f11) [1, 0, 1, 0, 0])
def st0 (x0 x1 x2 x7 : PV) (h : PHeap) : St := ⟨[x0, x1, x2, .junk, .junk, .junk, .junk, x7, .junk, .junk, .junk, .junk, .junk, .junk, .junk, .junk, .junk, .junk, .junk, .junk, .junk, .junk, .junk, .junk, .junk, .junk, .junk, .junk, .junk, .junk], h⟩
def sr_6 (x6 : PV) (h : PHeap) : St := ⟨[.junk, .junk, .junk, .junk, .junk, .junk, x6, .junk, .junk, .junk, .junk, .junk, .junk, .junk, .junk, .junk, .junk, .junk, .junk, .junk, .junk, .junk, .junk, .junk, .junk, .junk, .junk, .junk, .junk, .junk], h⟩
def se0_0_1_2_7_11 (x0 x1 x2 x7 x11 : PV) (h : PHeap) : St := ⟨[x0, x1, x2, .junk, .junk, .junk, .junk, x7, .junk, .junk, .junk, x11, .junk, .junk, .junk, .junk, .junk, .junk, .junk, .junk, .junk, .junk, .junk, .junk, .junk, .junk, .junk, .junk, .junk, .junk], h⟩
noncomputable def K0 (E : Env) (K : PX → St → Res) : PX → St → Res := (kBlock 0 (kSeq (ev (E.cx Try.prog kl) (codeAt (bodyOf Try.f11) [1, 1])) K))
@[simp] theorem K0_ret (E : Env) (K : PX → St → Res) (s : St) : K0 E K .ret s = K .ret s := by kernel_rfl
noncomputable def body0 (E : Env) (K : PX → St → Res) (x0 x1 x2 x7 : PV) (h : PHeap) : Res :=
    (E.p.len 31 x2).bind fun v21 =>
    (E.p.bin .lss 3 x7 v21).bind fun v22 =>
    condP v22
     (
      (E.p.indexAddr 31 x2 x7).bind fun v23 =>
      (E.p.load 3 v23 h).bind fun v24 =>
      (E.C fn_spec_l1In [v24, (.int .i64 0), (.int .i64 2)] h).bind fun v25 =>
      (E.p.un .not v25.1).bind fun v26 =>
      condP v26
       (
        K .ret (sr_6 (.bool false) v25.2))
       (
        (E.p.bin .add 3 x7 (.int .i64 1)).bind fun v27 =>
        K .normal (st0 x0 x1 x2 v27 v25.2)))
     (
      K (.exit 0) (se0_0_1_2_7_11 x0 x1 x2 x7 v22 h))
theorem body0_eq (E : Env) (K : PX → St → Res) (x0 x1 x2 x7 : PV) (h : PHeap) : ev (E.cx Try.prog kl) lp0 (st0 x0 x1 x2 x7 h) K = body0 E K x0 x1 x2 x7 h := by kernel_rfl
theorem after0_se0_0_1_2_7_11 (E : Env) (x0 x1 x2 x7 x11 : PV) (h : PHeap) : K0 E (kTop Try.prog Try.f11) (.exit 0) (se0_0_1_2_7_11 x0 x1 x2 x7 x11 h) =
    (E.C fn_spec_WiresOk [x0, x1] h).bind fun v8 =>
    (wantV v8.1 true).bind fun v9 =>
    (bif v9 then some (x2, v8.2) else some (.tup [], v8.2)).bind fun v10 =>
    (wantV v8.1 true).bind fun v11 =>
    (bif v11 then pv v10.2 (E.p.len 31 v10.1) else some (.tup [], v10.2)).bind fun v12 =>
    (wantV v8.1 true).bind fun v13 =>
    (bif v13 then some (x1, v12.2) else some (.tup [], v12.2)).bind fun v14 =>
    (wantV v8.1 true).bind fun v15 =>
    (bif v15 then pv v14.2 (E.p.len 23 v14.1) else some (.tup [], v14.2)).bind fun v16 =>
    (wantV v8.1 true).bind fun v17 =>
    (bif v17 then pv v16.2 (E.p.bin .eql 3 v12.1 v16.1) else some (.tup [], v16.2)).bind fun v18 =>
    (E.p.pick v8.1 v18.1 (.bool false)).bind fun v19 =>
    (resV v19).bind fun v20 =>
    some (v20, v18.2) := by kernel_rfl
theorem top_sr_6 (x6 : PV) (h : PHeap) : kTop Try.prog Try.f11 .ret (sr_6 x6 h) =
    (resV x6).bind fun v28 =>
    some (v28, h) := by kernel_rfl
noncomputable def main (E : Env) (x0 x1 x2 : PV) (h : PHeap) : Res :=
    loopK (ev (E.cx Try.prog spec_OwnersOk.kl) spec_OwnersOk.lp0) E.lf (spec_OwnersOk.st0 x0 x1 x2 (.int .i64 0) h) (spec_OwnersOk.K0 E (kTop Try.prog Try.f11))
theorem main_eq (E : Env) (x0 x1 x2 : PV) (h : PHeap) : runBody (E.cx Try.prog kl) Try.f11 [x0, x1, x2] h = main E x0 x1 x2 h := by kernel_rfl
theorem call_eq (g : Nat → PV) (lf n : Nat) (x0 x1 x2 : PV) (h : PHeap) : CL g lf (n + 1) fn_spec_OwnersOk [x0, x1, x2] h = main (env g lf n) x0 x1 x2 h := by
  rw [← main_eq]
  show call Try.prog g KL lf (n + 1) 11 [x0, x1, x2] h = _
  rw [call_succ, Try.func11]
  kernel_rfl
end spec_OwnersOk
namespace spec_l20Wires
noncomputable def lp0 : Code := (codeAt (bodyOf Try.f12) [1, 1, 1, 0, 1, 0, 0])
def st0 (x0 x1 x6 x7 x8 : PV) (h : PHeap) : St := ⟨[x0, x1, .junk, .junk, .junk, .junk, x6, x7, x8, .junk, .junk, .junk, .junk, .junk, .junk, .junk, .junk, .junk, .junk, .junk, .junk, .junk, .junk, .junk, .junk, .junk, .junk, .junk, .junk, .junk, .junk, .junk, .junk, .junk, .junk, .junk, .junk, .junk, .junk, .junk, .junk, .junk, .junk, .junk, .junk, .junk, .junk, .junk, .junk, .junk, .junk, .junk, .junk, .junk, .junk, .junk, .junk, .junk, .junk, .junk, .junk, .junk, .junk, .junk, .junk, .junk], h⟩
def se0_0_1_6_7_8_19 (x0 x1 x6 x7 x8 x19 : PV) (h : PHeap) : St := ⟨[x0, x1, .junk, .junk, .junk, .junk, x6, x7, x8, .junk, .junk, .junk, .junk, .junk, .junk, .junk, .junk, .junk, .junk, x19, .junk, .junk, .junk, .junk, .junk, .junk, .junk, .junk, .junk, .junk, .junk, .junk, .junk, .junk, .junk, .junk, .junk, .junk, .junk, .junk, .junk, .junk, .junk, .junk, .junk, .junk, .junk, .junk, .junk, .junk, .junk, .junk, .junk, .junk, .junk, .junk, .junk, .junk, .junk, .junk, .junk, .junk, .junk, .junk, .junk, .junk], h⟩
noncomputable def K0 (E : Env) (K : PX → St → Res) : PX → St → Res := (kBlock 0 (kSeq (ev (E.cx Try.prog kl) (codeAt (bodyOf Try.f12) [1, 1, 1, 1])) K))
@[simp] theorem K0_ret (E : Env) (K : PX → St → Res) (s : St) : K0 E K .ret s = K .ret s := by kernel_rfl
noncomputable def body0 (E : Env) (K : PX → St → Res) (x0 x1 x6 x7 x8 : PV) (h : PHeap) : Res :=
    (E.p.bin .gtr 3 x8 (.int .i64 0)).bind fun v39 =>
    condP v39
     (
      (E.C fn_spec_l20Rd_pick [x0, x6] h).bind fun v40 =>
      (E.p.bin .add 3 v40.1 (.int .i64 1)).bind fun v41 =>
      (E.p.bin .sub 3 x6 (.int .i64 1)).bind fun v42 =>
      (E.C fn_spec_l20Rd_pick [x0, v42] v40.2).bind fun v43 =>
      (E.p.bin .add 3 v41 v43.1).bind fun v44 =>
      (E.p.bin .rem 3 v44 x6).bind fun v45 =>
      (E.p.build 29 [(0, v40.1), (1, v45)]).bind fun v46 =>
      (E.p.buildSlice 23 1 [(0, v46)] v43.2).bind fun v47 =>
      (E.p.append 23 23 x7 v47.1 v47.2).bind fun v48 =>
      (E.p.bin .sub 3 x8 (.int .i64 1)).bind fun v49 =>
      K .normal (st0 x0 x1 x6 v48.1 v49 v48.2))
     (
      K (.exit 0) (se0_0_1_6_7_8_19 x0 x1 x6 x7 x8 v39 h))
theorem body0_eq (E : Env) (K : PX → St → Res) (x0 x1 x6 x7 x8 : PV) (h : PHeap) : ev (E.cx Try.prog kl) lp0 (st0 x0 x1 x6 x7 x8 h) K = body0 E K x0 x1 x6 x7 x8 h := by kernel_rfl
theorem after0_se0_0_1_6_7_8_19 (E : Env) (x0 x1 x6 x7 x8 x19 : PV) (h : PHeap) : K0 E (kTop Try.prog Try.f12) (.exit 0) (se0_0_1_6_7_8_19 x0 x1 x6 x7 x8 x19 h) =
    (E.C fn_spec_l20Rd_odd [x0, x1] h).bind fun v17 =>
    condP v17.1
     (
      (E.C fn_spec_l20Rd_pick [x0, (.int .i64 3)] v17.2).bind fun v18 =>
      (E.p.bin .eql 3 v18.1 (.int .i64 0)).bind fun v19 =>
      condP v19
       (
        (E.p.build 29 [(0, (.int .i64 1)), (1, (.int .i64 1))]).bind fun v20 =>
        (E.p.buildSlice 23 1 [(0, v20)] v18.2).bind fun v21 =>
        (E.p.append 23 23 x7 v21.1 v21.2).bind fun v22 =>
        (resV x6).bind fun v23 =>
        (resV v22.1).bind fun v24 =>
        some (.tup [v23, v24], v22.2))
       (
        (E.p.bin .eql 3 v18.1 (.int .i64 1)).bind fun v25 =>
        condP v25
         (
          (E.p.build 29 [(0, (.int .i64 0)), (1, x6)]).bind fun v26 =>
          (E.p.buildSlice 23 1 [(0, v26)] v18.2).bind fun v27 =>
          (E.p.append 23 23 x7 v27.1 v27.2).bind fun v28 =>
          (resV x6).bind fun v29 =>
          (resV v28.1).bind fun v30 =>
          some (.tup [v29, v30], v28.2))
         (
          (E.p.buildSlice 31 2 [(0, (.int .i64 1)), (1, (.int .i64 6))] v18.2).bind fun v31 =>
          (E.C fn_spec_l20Rd_pick [x0, (.int .i64 2)] v31.2).bind fun v32 =>
          (E.p.indexAddr 31 v31.1 v32.1).bind fun v33 =>
          (E.p.load 3 v33 v32.2).bind fun v34 =>
          (resV v34).bind fun v35 =>
          (resV x7).bind fun v36 =>
          some (.tup [v35, v36], v32.2))))
     (
      (resV x6).bind fun v37 =>
      (resV x7).bind fun v38 =>
      some (.tup [v37, v38], v17.2)) := by kernel_rfl
noncomputable def main (E : Env) (x0 x1 : PV) (h : PHeap) : Res :=
    (E.C fn_spec_l20Rd_pick [x0, (.int .i64 4)] h).bind fun v1 =>
    (E.p.bin .add 3 (.int .i64 2) v1.1).bind fun v2 =>
    (E.p.buildSlice 23 0 [] v1.2).bind fun v3 =>
    (E.C fn_spec_l20Rd_pick [x0, (.int .i64 7)] v3.2).bind fun v4 =>
    (E.p.bin .add 3 (.int .i64 1) v4.1).bind fun v5 =>
    loopK (ev (E.cx Try.prog spec_l20Wires.kl) spec_l20Wires.lp0) E.lf (spec_l20Wires.st0 x0 x1 v2 v3.1 v5 v4.2) (spec_l20Wires.K0 E (kTop Try.prog Try.f12))
theorem main_eq (E : Env) (x0 x1 : PV) (h : PHeap) : runBody (E.cx Try.prog kl) Try.f12 [x0, x1] h = main E x0 x1 h := by kernel_rfl
theorem call_eq (g : Nat → PV) (lf n : Nat) (x0 x1 : PV) (h : PHeap) : CL g lf (n + 1) fn_spec_l20Wires [x0, x1] h = main (env g lf n) x0 x1 h := by
  rw [← main_eq]
  show call Try.prog g KL lf (n + 1) 12 [x0, x1] h = _
  rw [call_succ, Try.func12]
  kernel_rfl
end spec_l20Wires
namespace spec_l20Open
noncomputable def main (E : Env) (x0 : PV) (h : PHeap) : Res :=
    (E.p.len 22 x0).bind fun v1 =>
    (E.p.bin .gtr 3 v1 (.int .i64 2000)).bind fun v2 =>
    condP v2
     (
      (E.p.slice 22 x0 none (some (.int .i64 2000)) h).bind fun v3 =>
      (E.p.build 44 [(0, v3)]).bind fun v4 =>
      (E.p.box v4 h).bind fun v5 =>
      (resV v5.1).bind fun v6 =>
      some (v6, v5.2))
     (
      (E.p.build 44 [(0, x0)]).bind fun v7 =>
      (E.p.box v7 h).bind fun v8 =>
      (resV v8.1).bind fun v9 =>
      some (v9, v8.2))
theorem main_eq (E : Env) (x0 : PV) (h : PHeap) : runBody (E.cx Try.prog kl) Try.f13 [x0] h = main E x0 h := by kernel_rfl
theorem call_eq (g : Nat → PV) (lf n : Nat) (x0 : PV) (h : PHeap) : CL g lf (n + 1) fn_spec_l20Open [x0] h = main (env g lf n) x0 h := by
  rw [← main_eq]
  show call Try.prog g KL lf (n + 1) 13 [x0] h = _
  rw [call_succ, Try.func13]
  kernel_rfl
end spec_l20Open
namespace impl_nodeOk
noncomputable def main (E : Env) (x0 x1 : PV) (h : PHeap) : Res :=
    (E.p.bin .geq 3 x1 (.int .i64 0)).bind fun v1 =>
    (wantV v1 true).bind fun v2 =>
    (bif v2 then some (x1, h) else some (.tup [], h)).bind fun v3 =>
    (wantV v1 true).bind fun v4 =>
    (bif v4 then some (x0, v3.2) else some (.tup [], v3.2)).bind fun v5 =>
    (wantV v1 true).bind fun v6 =>
    (bif v6 then pv v5.2 (E.p.bin .lss 3 v3.1 v5.1) else some (.tup [], v5.2)).bind fun v7 =>
    (E.p.pick v1 v7.1 (.bool false)).bind fun v8 =>
    (resV v8).bind fun v9 =>
    some (v9, v7.2)
theorem main_eq (E : Env) (x0 x1 : PV) (h : PHeap) : runBody (E.cx Try.prog kl) Try.f14 [x0, x1] h = main E x0 x1 h := by kernel_rfl
theorem call_eq (g : Nat → PV) (lf n : Nat) (x0 x1 : PV) (h : PHeap) : CL g lf (n + 1) fn_impl_nodeOk [x0, x1] h = main (env g lf n) x0 x1 h := by
  rw [← main_eq]
  show call Try.prog g KL lf (n + 1) 14 [x0, x1] h = _
  rw [call_succ, Try.func14]
  kernel_rfl
end impl_nodeOk
namespace spec_l1In
noncomputable def main (E : Env) (x0 x1 x2 : PV) (h : PHeap) : Res :=
    (E.p.bin .geq 3 x0 x1).bind fun v1 =>
    (wantV v1 true).bind fun v2 =>
    (bif v2 then some (x0, h) else some (.tup [], h)).bind fun v3 =>
    (wantV v1 true).bind fun v4 =>
    (bif v4 then some (x2, v3.2) else some (.tup [], v3.2)).bind fun v5 =>
    (wantV v1 true).bind fun v6 =>
    (bif v6 then pv v5.2 (E.p.bin .leq 3 v3.1 v5.1) else some (.tup [], v5.2)).bind fun v7 =>
    (E.p.pick v1 v7.1 (.bool false)).bind fun v8 =>
    (resV v8).bind fun v9 =>
    some (v9, v7.2)
theorem main_eq (E : Env) (x0 x1 x2 : PV) (h : PHeap) : runBody (E.cx Try.prog kl) Try.f15 [x0, x1, x2] h = main E x0 x1 x2 h := by kernel_rfl
theorem call_eq (g : Nat → PV) (lf n : Nat) (x0 x1 x2 : PV) (h : PHeap) : CL g lf (n + 1) fn_spec_l1In [x0, x1, x2] h = main (env g lf n) x0 x1 x2 h := by
  rw [← main_eq]
  show call Try.prog g KL lf (n + 1) 15 [x0, x1, x2] h = _
  rw [call_succ, Try.func15]
  kernel_rfl
end spec_l1In
namespace impl_BoardOk
noncomputable def main (E : Env) (x0 x1 : PV) (h : PHeap) : Res :=
    (E.C fn_impl_sizeOk [x0] h).bind fun v1 =>
    (wantV v1.1 true).bind fun v2 =>
    (bif v2 then some (x1, v1.2) else some (.tup [], v1.2)).bind fun v3 =>
    (wantV v1.1 true).bind fun v4 =>
    (bif v4 then E.C fn_impl_sizeOk [v3.1] v3.2 else some (.tup [], v3.2)).bind fun v5 =>
    (E.p.pick v1.1 v5.1 (.bool false)).bind fun v6 =>
    (wantV v6 true).bind fun v7 =>
    (bif v7 then some (x0, v5.2) else some (.tup [], v5.2)).bind fun v8 =>
    (wantV v6 true).bind fun v9 =>
    (bif v9 then some (x1, v8.2) else some (.tup [], v8.2)).bind fun v10 =>
    (wantV v6 true).bind fun v11 =>
    (bif v11 then pv v10.2 (E.p.bin .mul 3 v8.1 v10.1) else some (.tup [], v10.2)).bind fun v12 =>
    (wantV v6 true).bind fun v13 =>
    (bif v13 then pv v12.2 (E.p.bin .leq 3 v12.1 (.int .i64 9)) else some (.tup [], v12.2)).bind fun v14 =>
    (E.p.pick v6 v14.1 (.bool false)).bind fun v15 =>
    (resV v15).bind fun v16 =>
    some (v16, v14.2)
theorem main_eq (E : Env) (x0 x1 : PV) (h : PHeap) : runBody (E.cx Try.prog kl) Try.f16 [x0, x1] h = main E x0 x1 h := by kernel_rfl
theorem call_eq (g : Nat → PV) (lf n : Nat) (x0 x1 : PV) (h : PHeap) : CL g lf (n + 1) fn_impl_BoardOk [x0, x1] h = main (env g lf n) x0 x1 h := by
  rw [← main_eq]
  show call Try.prog g KL lf (n + 1) 16 [x0, x1] h = _
  rw [call_succ, Try.func16]
  kernel_rfl
end impl_BoardOk
namespace spec_l20Owned
noncomputable def lp0 : Code := (codeAt (bodyOf Try.f17) [1, 1, 1, 1, 0, 1, 0, 0])
def st0 (x0 x1 x7 x8 x9 x10 x11 : PV) (h : PHeap) : St := ⟨[x0, x1, .junk, .junk, .junk, .junk, .junk, x7, x8, x9, x10, x11, .junk, .junk, .junk, .junk, .junk, .junk, .junk, .junk, .junk, .junk, .junk, .junk, .junk, .junk, .junk, .junk, .junk, .junk, .junk, .junk, .junk, .junk, .junk, .junk, .junk, .junk, .junk, .junk, .junk, .junk, .junk, .junk, .junk, .junk, .junk, .junk, .junk], h⟩
def se0_0_1_7_8_9_10_11_25 (x0 x1 x7 x8 x9 x10 x11 x25 : PV) (h : PHeap) : St := ⟨[x0, x1, .junk, .junk, .junk, .junk, .junk, x7, x8, x9, x10, x11, .junk, .junk, .junk, .junk, .junk, .junk, .junk, .junk, .junk, .junk, .junk, .junk, .junk, x25, .junk, .junk, .junk, .junk, .junk, .junk, .junk, .junk, .junk, .junk, .junk, .junk, .junk, .junk, .junk, .junk, .junk, .junk, .junk, .junk, .junk, .junk, .junk], h⟩
noncomputable def K0 (E : Env) (K : PX → St → Res) : PX → St → Res := (kBlock 0 (kSeq (ev (E.cx Try.prog kl) (codeAt (bodyOf Try.f17) [1, 1, 1, 1, 1])) K))
@[simp] theorem K0_ret (E : Env) (K : PX → St → Res) (s : St) : K0 E K .ret s = K .ret s := by kernel_rfl
noncomputable def body0 (E : Env) (K : PX → St → Res) (x0 x1 x7 x8 x9 x10 x11 : PV) (h : PHeap) : Res :=
    (E.p.len 23 x8).bind fun v26 =>
    (E.p.bin .lss 3 x11 v26).bind fun v27 =>
    condP v27
     (
      (E.C fn_spec_l20Rd_pick [x0, (.int .i64 3)] h).bind fun v28 =>
      (E.C fn_spec_l20Rd_pick [x0, (.int .i64 4)] v28.2).bind fun v29 =>
      (E.p.bin .lss 3 v29.1 x10).bind fun v30 =>
      condP v30
       (
        (E.p.buildSlice 31 1 [(0, (.int .i64 0))] v29.2).bind fun v31 =>
        (E.p.append 31 31 x9 v31.1 v31.2).bind fun v32 =>
        (E.p.bin .add 3 x11 (.int .i64 1)).bind fun v33 =>
        K .normal (st0 x0 x1 x7 x8 v32.1 x10 v33 v32.2))
       (
        (E.p.buildSlice 31 1 [(0, v28.1)] v29.2).bind fun v34 =>
        (E.p.append 31 31 x9 v34.1 v34.2).bind fun v35 =>
        (E.p.bin .add 3 x11 (.int .i64 1)).bind fun v36 =>
        K .normal (st0 x0 x1 x7 x8 v35.1 x10 v36 v35.2)))
     (
      K (.exit 0) (se0_0_1_7_8_9_10_11_25 x0 x1 x7 x8 x9 x10 x11 v27 h))
theorem body0_eq (E : Env) (K : PX → St → Res) (x0 x1 x7 x8 x9 x10 x11 : PV) (h : PHeap) : ev (E.cx Try.prog kl) lp0 (st0 x0 x1 x7 x8 x9 x10 x11 h) K = body0 E K x0 x1 x7 x8 x9 x10 x11 h := by kernel_rfl
theorem after0_se0_0_1_7_8_9_10_11_25 (E : Env) (x0 x1 x7 x8 x9 x10 x11 x25 : PV) (h : PHeap) : K0 E (kTop Try.prog Try.f17) (.exit 0) (se0_0_1_7_8_9_10_11_25 x0 x1 x7 x8 x9 x10 x11 x25 h) =
    (E.C fn_spec_l20Rd_odd [x0, x1] h).bind fun v17 =>
    condP v17.1
     (
      (E.p.buildSlice 31 1 [(0, (.int .i64 3))] v17.2).bind fun v18 =>
      (E.p.append 31 31 x9 v18.1 v18.2).bind fun v19 =>
      (resV x7).bind fun v20 =>
      (resV x8).bind fun v21 =>
      (resV v19.1).bind fun v22 =>
      some (.tup [v20, v21, v22], v19.2))
     (
      (resV x7).bind fun v23 =>
      (resV x8).bind fun v24 =>
      (resV x9).bind fun v25 =>
      some (.tup [v23, v24, v25], v17.2)) := by kernel_rfl
noncomputable def main (E : Env) (x0 x1 : PV) (h : PHeap) : Res :=
    (E.C fn_spec_l20Wires [x0, x1] h).bind fun v1 =>
    (E.p.extract v1.1 0).bind fun v2 =>
    (E.p.extract v1.1 1).bind fun v3 =>
    (E.p.buildSlice 31 0 [] v1.2).bind fun v4 =>
    (E.C fn_spec_l20Rd_pick [x0, (.int .i64 4)] v4.2).bind fun v5 =>
    loopK (ev (E.cx Try.prog spec_l20Owned.kl) spec_l20Owned.lp0) E.lf (spec_l20Owned.st0 x0 x1 v2 v3 v4.1 v5.1 (.int .i64 0) v5.2) (spec_l20Owned.K0 E (kTop Try.prog Try.f17))
theorem main_eq (E : Env) (x0 x1 : PV) (h : PHeap) : runBody (E.cx Try.prog kl) Try.f17 [x0, x1] h = main E x0 x1 h := by kernel_rfl
theorem call_eq (g : Nat → PV) (lf n : Nat) (x0 x1 : PV) (h : PHeap) : CL g lf (n + 1) fn_spec_l20Owned [x0, x1] h = main (env g lf n) x0 x1 h := by
  rw [← main_eq]
  show call Try.prog g KL lf (n + 1) 17 [x0, x1] h = _
  rw [call_succ, Try.func17]
  kernel_rfl
end spec_l20Owned
namespace impl_contentOk
noncomputable def main (E : Env) (x0 : PV) (h : PHeap) : Res :=
    (E.p.bin .eql 3 x0 (.int .i64 0)).bind fun v1 =>
    (wantV v1 false).bind fun v2 =>
    (bif v2 then some (x0, h) else some (.tup [], h)).bind fun v3 =>
    (wantV v1 false).bind fun v4 =>
    (bif v4 then pv v3.2 (E.p.bin .eql 3 v3.1 (.int .i64 1)) else some (.tup [], v3.2)).bind fun v5 =>
    (E.p.pick v1 (.bool true) v5.1).bind fun v6 =>
    (wantV v6 false).bind fun v7 =>
    (bif v7 then some (x0, v5.2) else some (.tup [], v5.2)).bind fun v8 =>
    (wantV v6 false).bind fun v9 =>
    (bif v9 then pv v8.2 (E.p.bin .eql 3 v8.1 (.int .i64 2)) else some (.tup [], v8.2)).bind fun v10 =>
    (E.p.pick v6 (.bool true) v10.1).bind fun v11 =>
    (resV v11).bind fun v12 =>
    some (v12, v10.2)
theorem main_eq (E : Env) (x0 : PV) (h : PHeap) : runBody (E.cx Try.prog kl) Try.f18 [x0] h = main E x0 h := by kernel_rfl
theorem call_eq (g : Nat → PV) (lf n : Nat) (x0 : PV) (h : PHeap) : CL g lf (n + 1) fn_impl_contentOk [x0] h = main (env g lf n) x0 h := by
  rw [← main_eq]
  show call Try.prog g KL lf (n + 1) 18 [x0] h = _
  rw [call_succ, Try.func18]
  kernel_rfl
end impl_contentOk
namespace spec_l20Rd_pick
noncomputable def main (E : Env) (x0 x1 : PV) (h : PHeap) : Res :=
    (E.p.ptr x0).bind fun v1 =>
    (E.p.fieldAddr 44 v1 1).bind fun v2 =>
    (E.p.load 3 v2 h).bind fun v3 =>
    (E.p.bin .add 3 v3 (.int .i64 1)).bind fun v4 =>
    (E.p.ptr x0).bind fun v5 =>
    (E.p.fieldAddr 44 v5 1).bind fun v6 =>
    (E.p.store 3 v6 v4 h).bind fun v7 =>
    (E.p.bin .lss 3 x1 (.int .i64 1)).bind fun v8 =>
    (wantV v8 false).bind fun v9 =>
    (bif v9 then some (x0, v7) else some (.tup [], v7)).bind fun v10 =>
    (wantV v8 false).bind fun v11 =>
    (bif v11 then pv v10.2 (E.p.ptr v10.1) else some (.tup [], v10.2)).bind fun v12 =>
    (wantV v8 false).bind fun v13 =>
    (bif v13 then pv v12.2 (E.p.fieldAddr 44 v12.1 0) else some (.tup [], v12.2)).bind fun v14 =>
    (wantV v8 false).bind fun v15 =>
    (bif v15 then pv v14.2 (E.p.load 22 v14.1 v14.2) else some (.tup [], v14.2)).bind fun v16 =>
    (wantV v8 false).bind fun v17 =>
    (bif v17 then pv v16.2 (E.p.len 22 v16.1) else some (.tup [], v16.2)).bind fun v18 =>
    (wantV v8 false).bind fun v19 =>
    (bif v19 then pv v18.2 (E.p.bin .eql 3 v18.1 (.int .i64 0)) else some (.tup [], v18.2)).bind fun v20 =>
    (E.p.pick v8 (.bool true) v20.1).bind fun v21 =>
    condP v21
     (
      (resV (.int .i64 0)).bind fun v22 =>
      some (v22, v20.2))
     (
      (E.p.ptr x0).bind fun v23 =>
      (E.p.fieldAddr 44 v23 1).bind fun v24 =>
      (E.p.load 3 v24 v20.2).bind fun v25 =>
      (E.p.bin .sub 3 v25 (.int .i64 1)).bind fun v26 =>
      (E.p.ptr x0).bind fun v27 =>
      (E.p.fieldAddr 44 v27 0).bind fun v28 =>
      (E.p.load 22 v28 v20.2).bind fun v29 =>
      (E.p.len 22 v29).bind fun v30 =>
      (E.p.bin .lss 3 v26 v30).bind fun v31 =>
      condP v31
       (
        (E.p.ptr x0).bind fun v32 =>
        (E.p.fieldAddr 44 v32 0).bind fun v33 =>
        (E.p.load 22 v33 v20.2).bind fun v34 =>
        (E.p.indexAddr 22 v34 v26).bind fun v35 =>
        (E.p.load 5 v35 v20.2).bind fun v36 =>
        (E.p.conv 5 3 v36).bind fun v37 =>
        (E.p.bin .rem 3 v37 x1).bind fun v38 =>
        (resV v38).bind fun v39 =>
        some (v39, v20.2))
       (
        (E.p.ptr x0).bind fun v40 =>
        (E.p.fieldAddr 44 v40 0).bind fun v41 =>
        (E.p.load 22 v41 v20.2).bind fun v42 =>
        (E.p.ptr x0).bind fun v43 =>
        (E.p.fieldAddr 44 v43 0).bind fun v44 =>
        (E.p.load 22 v44 v20.2).bind fun v45 =>
        (E.p.len 22 v45).bind fun v46 =>
        (E.p.bin .rem 3 v26 v46).bind fun v47 =>
        (E.p.indexAddr 22 v42 v47).bind fun v48 =>
        (E.p.load 5 v48 v20.2).bind fun v49 =>
        (E.p.conv 5 3 v49).bind fun v50 =>
        (E.p.bin .mul 3 v50 (.int .i64 131)).bind fun v51 =>
        (E.p.ptr x0).bind fun v52 =>
        (E.p.fieldAddr 44 v52 0).bind fun v53 =>
        (E.p.load 22 v53 v20.2).bind fun v54 =>
        (E.p.bin .mul 3 v26 (.int .i64 7)).bind fun v55 =>
        (E.p.bin .add 3 v55 (.int .i64 3)).bind fun v56 =>
        (E.p.ptr x0).bind fun v57 =>
        (E.p.fieldAddr 44 v57 0).bind fun v58 =>
        (E.p.load 22 v58 v20.2).bind fun v59 =>
        (E.p.len 22 v59).bind fun v60 =>
        (E.p.bin .rem 3 v56 v60).bind fun v61 =>
        (E.p.indexAddr 22 v54 v61).bind fun v62 =>
        (E.p.load 5 v62 v20.2).bind fun v63 =>
        (E.p.conv 5 3 v63).bind fun v64 =>
        (E.p.bin .mul 3 v64 (.int .i64 1117)).bind fun v65 =>
        (E.p.bin .add 3 v51 v65).bind fun v66 =>
        (E.p.bin .mul 3 v26 (.int .i64 29)).bind fun v67 =>
        (E.p.bin .add 3 v66 v67).bind fun v68 =>
        (E.p.ptr x0).bind fun v69 =>
        (E.p.fieldAddr 44 v69 0).bind fun v70 =>
        (E.p.load 22 v70 v20.2).bind fun v71 =>
        (E.p.len 22 v71).bind fun v72 =>
        (E.p.bin .quo 3 v26 v72).bind fun v73 =>
        (E.p.bin .mul 3 v73 (.int .i64 53)).bind fun v74 =>
        (E.p.bin .add 3 v68 v74).bind fun v75 =>
        (E.p.bin .quo 3 v75 (.int .i64 64)).bind fun v76 =>
        (E.p.bin .xor 3 v75 v76).bind fun v77 =>
        (E.p.bin .rem 3 v77 x1).bind fun v78 =>
        (resV v78).bind fun v79 =>
        some (v79, v20.2)))
theorem main_eq (E : Env) (x0 x1 : PV) (h : PHeap) : runBody (E.cx Try.prog kl) Try.f19 [x0, x1] h = main E x0 x1 h := by kernel_rfl
theorem call_eq (g : Nat → PV) (lf n : Nat) (x0 x1 : PV) (h : PHeap) : CL g lf (n + 1) fn_spec_l20Rd_pick [x0, x1] h = main (env g lf n) x0 x1 h := by
  rw [← main_eq]
  show call Try.prog g KL lf (n + 1) 19 [x0, x1] h = _
  rw [call_succ, Try.func19]
  kernel_rfl
end spec_l20Rd_pick
namespace spec_l20Rd_odd
noncomputable def main (E : Env) (x0 x1 : PV) (h : PHeap) : Res :=
    (E.p.bin .gtr 3 x1 (.int .i64 0)).bind fun v1 =>
    (wantV v1 true).bind fun v2 =>
    (bif v2 then some (x0, h) else some (.tup [], h)).bind fun v3 =>
    (wantV v1 true).bind fun v4 =>
    (bif v4 then some (x1, v3.2) else some (.tup [], v3.2)).bind fun v5 =>
    (wantV v1 true).bind fun v6 =>
    (bif v6 then E.C fn_spec_l20Rd_pick [v3.1, v5.1] v5.2 else some (.tup [], v5.2)).bind fun v7 =>
    (wantV v1 true).bind fun v8 =>
    (bif v8 then some (x1, v7.2) else some (.tup [], v7.2)).bind fun v9 =>
    (wantV v1 true).bind fun v10 =>
    (bif v10 then pv v9.2 (E.p.bin .sub 3 v9.1 (.int .i64 1)) else some (.tup [], v9.2)).bind fun v11 =>
    (wantV v1 true).bind fun v12 =>
    (bif v12 then pv v11.2 (E.p.bin .eql 3 v7.1 v11.1) else some (.tup [], v11.2)).bind fun v13 =>
    (E.p.pick v1 v13.1 (.bool false)).bind fun v14 =>
    (resV v14).bind fun v15 =>
    some (v15, v13.2)
theorem main_eq (E : Env) (x0 x1 : PV) (h : PHeap) : runBody (E.cx Try.prog kl) Try.f20 [x0, x1] h = main E x0 x1 h := by kernel_rfl
theorem call_eq (g : Nat → PV) (lf n : Nat) (x0 x1 : PV) (h : PHeap) : CL g lf (n + 1) fn_spec_l20Rd_odd [x0, x1] h = main (env g lf n) x0 x1 h := by
  rw [← main_eq]
  show call Try.prog g KL lf (n + 1) 20 [x0, x1] h = _
  rw [call_succ, Try.func20]
  kernel_rfl
end spec_l20Rd_odd
namespace impl_sizeOk
noncomputable def main (E : Env) (x0 : PV) (h : PHeap) : Res :=
    (E.p.bin .geq 3 x0 (.int .i64 1)).bind fun v1 =>
    (wantV v1 true).bind fun v2 =>
    (bif v2 then some (x0, h) else some (.tup [], h)).bind fun v3 =>
    (wantV v1 true).bind fun v4 =>
    (bif v4 then pv v3.2 (E.p.bin .leq 3 v3.1 (.int .i64 4)) else some (.tup [], v3.2)).bind fun v5 =>
    (E.p.pick v1 v5.1 (.bool false)).bind fun v6 =>
    (resV v6).bind fun v7 =>
    some (v7, v5.2)
theorem main_eq (E : Env) (x0 : PV) (h : PHeap) : runBody (E.cx Try.prog kl) Try.f21 [x0] h = main E x0 h := by kernel_rfl
theorem call_eq (g : Nat → PV) (lf n : Nat) (x0 : PV) (h : PHeap) : CL g lf (n + 1) fn_impl_sizeOk [x0] h = main (env g lf n) x0 h := by
  rw [← main_eq]
  show call Try.prog g KL lf (n + 1) 21 [x0] h = _
  rw [call_succ, Try.func21]
  kernel_rfl
end impl_sizeOk
end Go.Proofs.Ytihlmjapddjjjaa.G

/- Which boards there are: what the program's and the model's functions on a board's sides compute. -/
set_option maxRecDepth 20000
namespace Go.Proofs.Ytihlmjapddjjjaa
open Go Go.Ip G

def boardB (r c : Int) : Bool := decide (1 ≤ r ∧ r ≤ 4 ∧ 1 ≤ c ∧ c ≤ 4 ∧ r * c ≤ 9)

theorem mul_small {r c : Int} (h1 : 1 ≤ r) (h2 : r ≤ 4) (h3 : 1 ≤ c) (h4 : c ≤ 4) : IntKind.i64.wrap (r * c) = r * c := by
  have : r = 1 ∨ r = 2 ∨ r = 3 ∨ r = 4 := by omega
  rcases this with rfl | rfl | rfl | rfl <;> exact wr (by omega)

variable (g : Nat → PV) (lf n : Nat) (h : PHeap)

theorem sizeOk_calls (a : Int) : CL g lf (n + 1) fn_impl_sizeOk [.int .i64 a] h = some (.bool (decide (1 ≤ a ∧ a ≤ 4)), h) := by
  rw [impl_sizeOk.call_eq]
  by_cases h1 : 1 ≤ a <;> simp [impl_sizeOk.main, h1]

theorem boardOk_calls (r c : Int) : CL g lf (n + 2) fn_impl_BoardOk [.int .i64 r, .int .i64 c] h = some (.bool (boardB r c), h) := by
  rw [impl_BoardOk.call_eq]
  by_cases h1 : 1 ≤ r ∧ r ≤ 4
  · by_cases h2 : 1 ≤ c ∧ c ≤ 4
    · simp [impl_BoardOk.main, sizeOk_calls, h1, h2, boardB, mul_small h1.1 h1.2 h2.1 h2.2]
    · have hb : boardB r c = false := by unfold boardB; simp; omega
      simp [impl_BoardOk.main, sizeOk_calls, h1, h2, hb]
  · have hb : boardB r c = false := by unfold boardB; simp; omega
    simp [impl_BoardOk.main, sizeOk_calls, h1, hb]

theorem l1In_calls (a lo hi : Int) : CL g lf (n + 1) fn_spec_l1In [.int .i64 a, .int .i64 lo, .int .i64 hi] h = some (.bool (decide (lo ≤ a ∧ a ≤ hi)), h) := by
  rw [spec_l1In.call_eq]
  by_cases h1 : lo ≤ a <;> simp [spec_l1In.main, h1]

end Go.Proofs.Ytihlmjapddjjjaa

/- What the laws' helpers on slices of integers, and both functions that check a position, compute. -/
set_option maxRecDepth 20000
namespace Go.Proofs.Ytihlmjapddjjjaa
open Go Go.Ip G

variable (g : Nat → PV) (lf n : Nat)

/-! ### toIntS: a copy -/
/-! ### eqIntS: are two lists equal? -/
/-! ### positions -/
def contentB (x : Int) : Bool := decide (0 ≤ x ∧ x ≤ 2)
def posB (r c : Int) (xs : List Int) : Bool := boardB r c && decide ((xs.length : Int) = r * c) && xs.all contentB

theorem contentOk_calls (a : Int) (h : PHeap) : CL g lf (n + 1) fn_impl_contentOk [.int .i64 a] h = some (.bool (contentB a), h) := by
  rw [impl_contentOk.call_eq]
  by_cases h0 : a = 0
  · subst h0; simp [impl_contentOk.main, contentB]
  · by_cases h1 : a = 1
    · subst h1; simp [impl_contentOk.main, contentB]
    · by_cases h2 : a = 2
      · subst h2; simp [impl_contentOk.main, contentB]
      · have : contentB a = false := by unfold contentB; simp; omega
        have b0 : (a == 0) = false := by simp [h0]
        have b1 : (a == 1) = false := by simp [h1]
        have b2 : (a == 2) = false := by simp [h2]
        simp [impl_contentOk.main, b0, b1, b2, this]

end Go.Proofs.Ytihlmjapddjjjaa

/- The exact law on positions. -/
set_option maxRecDepth 20000
namespace Go.Proofs.Ytihlmjapddjjjaa
open Go Go.Ip G

variable (g : Nat → PV) (lf n : Nat)

end Go.Proofs.Ytihlmjapddjjjaa

/- The marks that the exact laws lay and look for, and the lists that both programs make of a position. -/
set_option maxRecDepth 20000
namespace Go.Proofs.Ytihlmjapddjjjaa
open Go Go.Ip G

/-- A slice of the call's own, among the objects from n up to m. -/
def OwnB (n m : Nat) (h : PHeap) (p : PV) (xs : List Int) : Prop :=
  (p = .nilsl ∧ xs = []) ∨ ∃ id, n ≤ id ∧ id < m ∧ p = .sl id 0 xs.length ∧ h[id]? = some (.own 1 (xs.map (.int .i64)))

theorem OwnSl.b {n : Nat} {h : PHeap} {p : PV} {xs : List Int} (s : OwnSl n h p xs) : OwnB n h.length h p xs := by
  rcases s with s | ⟨id, h1, h2, h3⟩
  · exact .inl s
  · exact .inr ⟨id, h1, (List.getElem?_eq_some_iff.1 h3).1, h2, h3⟩

theorem OwnB.sl {n m : Nat} {h : PHeap} {p : PV} {xs : List Int} (s : OwnB n m h p xs) : OwnSl n h p xs := by
  rcases s with s | ⟨id, h1, _, h2, h3⟩
  · exact .inl s
  · exact .inr ⟨id, h1, h2, h3⟩

theorem OwnB.int {n m : Nat} {h : PHeap} {p : PV} {xs : List Int} (s : OwnB n m h p xs) : IntSl .i64 h p xs := s.sl.int

/-- Only the objects from n up to m may have been written to. -/
def Only (n m : Nat) (h h' : PHeap) : Prop := h'.length = h.length ∧ ∀ i, (i < n ∨ m ≤ i) → h'[i]? = h[i]?

theorem Only.refl (n m : Nat) (h : PHeap) : Only n m h h := ⟨rfl, fun _ _ => rfl⟩
theorem Only.trans {n m : Nat} {a b c : PHeap} (h : Only n m a b) (k : Only n m b c) : Only n m a c := ⟨k.1.trans h.1, fun i hi => (k.2 i hi).trans (h.2 i hi)⟩
theorem Only.keep {n m : Nat} {a b : PHeap} (h : Only n m a b) : Keep n a b := ⟨by rw [h.1]; exact Nat.le_refl _, fun i hi => h.2 i (.inl hi)⟩

theorem OwnB.keep {n m : Nat} {h h' : PHeap} {p : PV} {xs : List Int} (s : OwnB n m h p xs) (k : Keep m h h') : OwnB n m h' p xs := by
  rcases s with s | ⟨id, h1, h2, h3, h4⟩
  · exact .inl s
  · exact .inr ⟨id, h1, h2, h3, by rw [k.2 id h2]; exact h4⟩

theorem OwnB.only {n m n' m' : Nat} {h h' : PHeap} {p : PV} {xs : List Int} (s : OwnB n m h p xs) (k : Only n' m' h h') (hd : m ≤ n' ∨ m' ≤ n) : OwnB n m h' p xs := by
  rcases s with s | ⟨id, h1, h2, h3, h4⟩
  · exact .inl s
  · exact .inr ⟨id, h1, h2, h3, by rw [k.2 id (by omega)]; exact h4⟩

theorem OwnB.store {n m : Nat} {h : PHeap} {p : PV} {xs : List Int} (s : OwnB n m h p xs) {i : Nat} (hi : i < xs.length) (x : Int) :
    ∃ a h', indexAddrP Try.prog 31 p (.int .i64 i) = some a ∧ storeP Try.prog 3 a (.int .i64 x) h = some h' ∧ OwnB n m h' p (xs.set i x) ∧ Only n m h h' := by
  rcases s with ⟨rfl, rfl⟩ | ⟨id, h1, h2, rfl, h3⟩
  · simp at hi
  · have hid : id < h.length := (List.getElem?_eq_some_iff.1 h3).1
    refine ⟨.ptr id (0 + i), h.set id (.own 1 ((xs.set i x).map (.int .i64))), by simp [indexAddrP, tySize, hi], ?_, .inr ⟨id, h1, h2, by simp, by rw [List.getElem?_set_self hid]⟩, ⟨by simp, fun j hj => List.getElem?_set_ne (by omega)⟩⟩
    simp only [storeP, h3, PV.cells, tySize, Nat.zero_add]
    rw [if_pos ⟨rfl, by simp; omega⟩]
    simp [setCells, List.map_set]

/-- k, k + 1, k + 2 .. -/
def marks (k : Int) : Nat → List Int
  | 0 => []
  | n + 1 => k :: marks (k + 1) n

variable (g : Nat → PV) (lf n : Nat)

end Go.Proofs.Ytihlmjapddjjjaa

/- The cells of one kind, and a position turned by half a turn: both programs, and their exact laws. -/
set_option maxRecDepth 20000
namespace Go.Proofs.Ytihlmjapddjjjaa
open Go Go.Ip G

variable (g : Nat → PV) (lf n : Nat)

theorem OwnSl.res {n : Nat} {h : PHeap} {p : PV} {xs : List Int} (s : OwnSl n h p xs) : resV p = some p := by
  rcases s with ⟨rfl, _⟩ | ⟨id, _, rfl, _⟩ <;> rfl

end Go.Proofs.Ytihlmjapddjjjaa

/- A position turned by half a turn: both programs, and the exact law. -/
set_option maxRecDepth 20000
namespace Go.Proofs.Ytihlmjapddjjjaa
open Go Go.Ip G

variable (g : Nat → PV) (lf n : Nat)

end Go.Proofs.Ytihlmjapddjjjaa

/- The reader from which the model draws: what a pick may come to. -/
set_option maxRecDepth 20000
namespace Go.Proofs.Ytihlmjapddjjjaa
open Go Go.Ip Go.RowKit G

/-- A slice of bytes that came in, as the interpreter's heap holds it: the first object. -/
def Arg (h : PHeap) (p : PV) (xs : List Int) : Prop :=
  (∀ h', Keep 1 h h' → IntSl .u8 h' p xs) ∧ 1 ≤ h.length ∧ (∀ id off len, p = .sl id off len → 0 < len → id = 0 ∧ eszAt h id = 1) ∧ ∀ b ∈ xs, 0 ≤ b ∧ b ≤ 255

theorem arg_of {w : World} {a : Option Addr} {len cap : Nat} {zs : List Int}
    (h : (a = none ∧ len = 0 ∧ cap = 0 ∧ zs = []) ∨ ∃ x, a = some x ∧ len ≤ cap ∧ cap ≤ maxLen ∧ zs.length = cap ∧ (∀ i, i < zs.length → w.cell? (x.add i) = some (.int .u8 (zs.getD i 0))) ∧ ∀ n ∈ zs, (Lit.int .u8 n).wf = true) :
    ∃ μ o p, Sim w.heap.size w μ [o] w ∧ rep μ p (.slice a len cap) ∧ Arg [o] p (zs.take len) := by
  obtain ⟨μ, o, p, sim, hr, hs, hlen, hmax, hwf, hobj⟩ := row_arg h
  have hb : ∀ b ∈ zs.take len, 0 ≤ b ∧ b ≤ 255 := by
    intro b hb
    have := hwf b hb
    simp only [Lit.wf, IntKind.has, IntKind.min, IntKind.max, IntKind.signed, IntKind.bits] at this
    simp at this
    omega
  by_cases h0 : len = 0
  · refine ⟨μ, o, p, sim, hr, ?_, Nat.le_refl _, ?_, hb⟩
    · intro h' _
      rcases hs with hs | ⟨id, off, hp, hc⟩
      · exact .inl hs
      · exact .inr ⟨id, off, hp, fun i x hx => by simp [h0] at hx⟩
    · intro id off l hp hl
      subst hp
      obtain ⟨_, _, _, _, e, _⟩ := rep_sl hr
      cases e
      omega
  · rcases hs with ⟨_, hs⟩ | ⟨id, off, hp, hc⟩
    · rw [hs] at hlen; simp at hlen; omega
    · have hlt : 0 < (zs.take len).length := by omega
      have hid : id = 0 := by
        have := lt_of_cell (hc 0 _ (List.getElem?_eq_getElem hlt))
        simp at this
        exact this
      subst hid
      refine ⟨μ, o, p, sim, hr, ?_, Nat.le_refl _, ?_, hb⟩
      · intro h' hk
        exact .inr ⟨0, off, hp, fun i x hx => by rw [cellsAt_keep hk (by omega)]; exact hc i x hx⟩
      · intro id' off' l hp' hl
        rw [hp] at hp'
        cases hp'
        refine ⟨rfl, ?_⟩
        rcases hobj with rfl | ⟨c, rfl⟩
        · have := hc 0 _ (List.getElem?_eq_getElem hlt)
          simp [cellsAt, PObj.get] at this
        · rfl

theorem fa0 (id off : Nat) : fieldAddrP Try.prog 44 (.ptr id off) 0 = some (.ptr id (off + 0)) := by kernel_rfl
theorem fa1 (id off : Nat) : fieldAddrP Try.prog 44 (.ptr id off) 1 = some (.ptr id (off + 1)) := by kernel_rfl
theorem tyB : Try.prog.underlying 22 = some (.slice 5) := by kernel_rfl
theorem tyBSize : sizeT Try.prog 5 = some 1 := by kernel_rfl
theorem tyBAgg : isAggT Try.prog 5 = some false := by kernel_rfl
theorem tyBsAgg : isAggT Try.prog 22 = some false := by kernel_rfl
theorem tyBElem : elemT Try.prog 22 = some 5 := by kernel_rfl
theorem conv_byte (k : IntKind) (x : Int) : convP Try.prog 5 3 (.int k x) = some (.int .i64 (IntKind.i64.wrap x)) := by kernel_rfl
theorem build_sl (a b c : Nat) : buildP Try.prog 44 [(0, .sl a b c)] = some (.agg [.sl a b c, .int .i64 0]) := by kernel_rfl
theorem build_nil : buildP Try.prog 44 [(0, .nilsl)] = some (.agg [.nilsl, .int .i64 0]) := by kernel_rfl

/-- The reader: object id, over a code of at most 2000 bytes, at most m picks behind. -/
def Rd (h : PHeap) (id m : Nat) : Prop :=
  ∃ bp bs pos, h[id]? = some (.own 1 [bp, .int .i64 pos]) ∧ (∀ h', Keep id h h' → IntSl .u8 h' bp bs) ∧ (∀ b ∈ bs, (0 : Int) ≤ b ∧ b ≤ 255) ∧ bs.length ≤ 2000 ∧ 0 ≤ pos ∧ pos ≤ (m : Int)

theorem Rd.keep {h h' : PHeap} {id m n : Nat} (r : Rd h id m) (hk : Keep n h h') (hn : id < n) : Rd h' id m := by
  obtain ⟨bp, bs, pos, h1, h2, rest⟩ := r
  exact ⟨bp, bs, pos, by rw [hk.2 id hn]; exact h1, fun h3 hk3 => h2 h3 ((hk.mono (by omega)).trans hk3), rest⟩

theorem Rd.lt {h : PHeap} {id m : Nat} (r : Rd h id m) : id < h.length := by
  obtain ⟨bp, bs, pos, h1, _⟩ := r
  exact (List.getElem?_eq_some_iff.1 h1).1

theorem xor_small {a b : Int} (ha : 0 ≤ a) (ha' : a < 4611686018427387904) (hb : 0 ≤ b) (hb' : b < 4611686018427387904) :
    0 ≤ IntKind.i64.wrap ((BitVec.ofInt IntKind.i64.bits a ^^^ BitVec.ofInt IntKind.i64.bits b).toNat : Int) := by
  obtain ⟨x, rfl⟩ := Int.eq_ofNat_of_zero_le ha
  obtain ⟨y, rfl⟩ := Int.eq_ofNat_of_zero_le hb
  have hx : x < 2 ^ 62 := by omega
  have hy : y < 2 ^ 62 := by omega
  have hz : x ^^^ y < 2 ^ 62 := Nat.xor_lt_two_pow hx hy
  have e : (BitVec.ofInt IntKind.i64.bits (x : Int) ^^^ BitVec.ofInt IntKind.i64.bits (y : Int)).toNat = x ^^^ y := by
    have hbits : IntKind.i64.bits = 64 := rfl
    rw [BitVec.toNat_xor, BitVec.toNat_ofInt, BitVec.toNat_ofInt, hbits]
    congr 1 <;> omega
  rw [e, wr (by omega)]
  omega

variable (g : Nat → PV) (lf n : Nat)

theorem open_calls {p : PV} {xs : List Int} {h : PHeap} (N : Nat) (hN : 1 ≤ N) (ha : Arg h p xs) :
    ∃ h', CL g lf N fn_spec_l20Open [p] h = some (.ptr h.length 0, h') ∧ Rd h' h.length 0 ∧ Keep h.length h h' := by
  obtain ⟨n, rfl⟩ : ∃ n, N = n + 1 := ⟨N - 1, by omega⟩
  rw [spec_l20Open.call_eq]
  obtain ⟨hs, hlen, hesz, hb⟩ := ha
  have hs0 := hs h (Keep.refl _ _)
  have hlenp : lenP Try.prog 22 p = some (.int .i64 xs.length) := hs0.len tyB
  by_cases hbig : (2000 : Int) < (xs.length : Int)
  · rcases hs0 with ⟨_, rfl⟩ | ⟨id, off, rfl, hc⟩
    · simp at hbig
    · obtain ⟨rfl, he⟩ := hesz id off xs.length rfl (by omega)
      have hsl : sliceP Try.prog 22 (.sl 0 off xs.length) none (some (.int .i64 2000)) h = some (.sl 0 off 2000) := by
        have : (2000 : Int) ≤ (xs.length : Int) := by omega
        simp [sliceP, tyBElem, tyBSize, he, boundP, this]
      refine ⟨h ++ [.own 1 [.sl 0 off 2000, .int .i64 0]], ?_, ?_, Keep.append _ _ _ (Nat.le_refl _)⟩
      · simp [spec_l20Open.main, hlenp, hbig, hsl, build_sl, boxP, PV.cells, PV.oneCell]
      · refine ⟨.sl 0 off 2000, xs.take 2000, 0, by simp, fun h' hk => ?_, fun b hb' => hb b (List.mem_of_mem_take hb'), by simp; omega, by omega, by omega⟩
        have hk' : Keep 1 h h' := ((Keep.append h.length h _ (Nat.le_refl _)).mono hlen).trans (hk.mono hlen)
        rcases hs h' hk' with ⟨hx, _⟩ | ⟨id', off', hx, hc'⟩
        · cases hx
        · cases hx
          refine .inr ⟨0, off, by simp; omega, fun i x hi => ?_⟩
          rw [List.getElem?_take] at hi
          split at hi
          · exact hc' i x hi
          · cases hi
  · refine ⟨h ++ [.own 1 [p, .int .i64 0]], ?_, ?_, Keep.append _ _ _ (Nat.le_refl _)⟩
    · rcases hs0 with ⟨rfl, rfl⟩ | ⟨id, off, rfl, hc⟩
      · simp [spec_l20Open.main, hlenp, build_nil, boxP, PV.cells, PV.oneCell]
      · simp [spec_l20Open.main, hlenp, hbig, build_sl, boxP, PV.cells, PV.oneCell]
    · exact ⟨p, xs, 0, by simp, fun h' hk => hs h' (((Keep.append h.length h _ (Nat.le_refl _)).mono hlen).trans (hk.mono hlen)), hb, by omega, by omega, by omega⟩

end Go.Proofs.Ytihlmjapddjjjaa

/- What a pick and a chance come to. -/
set_option maxRecDepth 20000
namespace Go.Proofs.Ytihlmjapddjjjaa
open Go Go.Ip Go.RowKit G

variable (g : Nat → PV) (lf n : Nat)

theorem tmod_range {x k : Int} (hx : 0 ≤ x) (hk : 1 ≤ k) : 0 ≤ x.tmod k ∧ x.tmod k < k := by
  rw [Int.tmod_eq_emod_of_nonneg hx]
  exact ⟨Int.emod_nonneg _ (by omega), Int.emod_lt_of_pos _ (by omega)⟩

theorem tdiv_range {x k : Int} (hx : 0 ≤ x) (hk : 1 ≤ k) : 0 ≤ x.tdiv k ∧ x.tdiv k ≤ x := by
  rw [Int.tdiv_eq_ediv_of_nonneg hx]
  exact ⟨Int.ediv_nonneg hx (by omega), Int.ediv_le_self _ hx⟩

theorem bd {α β : Type} {x : Option α} {v : α} {f : α → Option β} {r : Option β} (hx : x = some v) (hf : f v = r) : x.bind f = r := by rw [hx]; exact hf
theorem cdT {x y r : Res} (h : x = r) : condP (.bool true) x y = r := h
theorem cdF {x y r : Res} (h : y = r) : condP (.bool false) x y = r := h
/-- A pick of n: some number from 0 on, below n; the reader has gone on by one. -/
theorem pick_calls {h : PHeap} {id m : Nat} (N : Nat) (hN : 1 ≤ N) (k : Int) (hr : Rd h id m) (hm : m ≤ 1000000) (hk : k ≤ 1000000) :
    ∃ (v : Int) (h' : PHeap), CL g lf N fn_spec_l20Rd_pick [.ptr id 0, .int .i64 k] h = some (.int .i64 v, h') ∧ Rd h' id (m + 1) ∧ Only id (id + 1) h h' ∧ 0 ≤ v ∧ (1 ≤ k → v < k) ∧ (k < 1 → v = 0) := by
  obtain ⟨n, rfl⟩ : ∃ n, N = n + 1 := ⟨N - 1, by omega⟩
  rw [spec_l20Rd_pick.call_eq]
  obtain ⟨bp, bs, pos, ho, hs, hb, hl, hp0, hpm⟩ := hr
  have hid : id < h.length := (List.getElem?_eq_some_iff.1 ho).1
  have w1 : IntKind.i64.wrap (pos + 1) = pos + 1 := wr (by omega)
  have hld : loadP Try.prog 3 (.ptr id (0 + 1)) h = some (.int .i64 pos) := by simp [loadP, tyAgg, cellsAt, ho, PObj.get]
  obtain ⟨h7, hh7⟩ : ∃ h7, h7 = h.set id (.own 1 [bp, .int .i64 (pos + 1)]) := ⟨_, rfl⟩
  have hst : storeP Try.prog 3 (.ptr id (0 + 1)) (.int .i64 (pos + 1)) h = some h7 := by
    rw [hh7]
    simp [storeP, ho, PV.cells, tySize, setCells]
  have ho7 : h7[id]? = some (.own 1 [bp, .int .i64 (pos + 1)]) := by rw [hh7, List.getElem?_set_self hid]
  have hk7 : Keep id h h7 := by rw [hh7]; exact Keep.set _ _ _ _ (Nat.le_refl _)
  have hon : Only id (id + 1) h h7 := by rw [hh7]; exact ⟨by simp, fun j hj => List.getElem?_set_ne (by omega)⟩
  have hrd : Rd h7 id (m + 1) := ⟨bp, bs, pos + 1, ho7, fun h' hk' => hs h' (hk7.trans hk'), hb, hl, by omega, by push_cast; omega⟩
  have hl1 : loadP Try.prog 3 (.ptr id (0 + 1)) h7 = some (.int .i64 (pos + 1)) := by simp [loadP, tyAgg, cellsAt, ho7, PObj.get]
  have hl0 : loadP Try.prog 22 (.ptr id (0 + 0)) h7 = some bp := by simp [loadP, tyBsAgg, cellsAt, ho7, PObj.get]
  have hs7 := hs h7 hk7
  have hlen : lenP Try.prog 22 bp = some (.int .i64 bs.length) := hs7.len tyB
  have w2 : IntKind.i64.wrap (pos + 1 - 1) = pos := by rw [show pos + 1 - 1 = pos by omega]; exact wr (by omega)
  by_cases hk1 : k < 1
  · refine ⟨0, h7, ?_, hrd, hon, by omega, by omega, fun _ => rfl⟩
    have f_add : binP Try.prog .add 3 (.int .i64 pos) (.int .i64 1) = some (.int .i64 (pos + 1)) := by rw [bin_add, w1]
    have f_lss : binP Try.prog .lss 3 (.int .i64 k) (.int .i64 1) = some (.bool true) := by rw [bin_lss, decide_eq_true hk1]
    unfold spec_l20Rd_pick.main
    refine bd ptr_ptr (bd (fa1 _ _) (bd hld (bd f_add (bd ptr_ptr (bd (fa1 _ _) (bd hst (bd f_lss ?_)))))))
    refine bd (want_bool (x := true) (y := false)) (bd (v := (PV.tup [], h7)) rfl ?_)
    refine bd (want_bool (x := true) (y := false)) (bd (v := (PV.tup [], h7)) rfl ?_)
    refine bd (want_bool (x := true) (y := false)) (bd (v := (PV.tup [], h7)) rfl ?_)
    refine bd (want_bool (x := true) (y := false)) (bd (v := (PV.tup [], h7)) rfl ?_)
    refine bd (want_bool (x := true) (y := false)) (bd (v := (PV.tup [], h7)) rfl ?_)
    refine bd (want_bool (x := true) (y := false)) (bd (v := (PV.tup [], h7)) rfl ?_)
    refine bd (v := PV.bool true) rfl (cdT ?_)
    exact bd res_int rfl
  · have hk1' : 1 ≤ k := by omega
    by_cases hb0 : bs.length = 0
    · refine ⟨0, h7, ?_, hrd, hon, by omega, by omega, by omega⟩
      have f_add : binP Try.prog .add 3 (.int .i64 pos) (.int .i64 1) = some (.int .i64 (pos + 1)) := by rw [bin_add, w1]
      have f_lss : binP Try.prog .lss 3 (.int .i64 k) (.int .i64 1) = some (.bool false) := by rw [bin_lss, decide_eq_false hk1]
      have f_eql : binP Try.prog .eql 3 (.int .i64 (bs.length : Int)) (.int .i64 0) = some (.bool true) := by rw [bin_eql, hb0]; rfl
      unfold spec_l20Rd_pick.main
      refine bd ptr_ptr (bd (fa1 _ _) (bd hld (bd f_add (bd ptr_ptr (bd (fa1 _ _) (bd hst (bd f_lss ?_)))))))
      refine bd (want_bool (x := false) (y := false)) (bd (v := (PV.ptr id 0, h7)) rfl ?_)
      refine bd (want_bool (x := false) (y := false)) (bd (v := (PV.ptr id 0, h7)) rfl ?_)
      refine bd (want_bool (x := false) (y := false)) (bd (v := (PV.ptr id (0 + 0), h7)) (congrArg (pv h7) (fa0 id 0)) ?_)
      refine bd (want_bool (x := false) (y := false)) (bd (v := (bp, h7)) (congrArg (pv h7) hl0) ?_)
      refine bd (want_bool (x := false) (y := false)) (bd (v := (PV.int .i64 (bs.length : Int), h7)) (congrArg (pv h7) hlen) ?_)
      refine bd (want_bool (x := false) (y := false)) (bd (v := (PV.bool true, h7)) (congrArg (pv h7) f_eql) ?_)
      refine bd (v := PV.bool true) rfl (cdT ?_)
      exact bd res_int rfl
    · have hb1 : 1 ≤ (bs.length : Int) := by omega
      have hne : ((bs.length : Int) == 0) = false := beq_eq_false_iff_ne.2 (by omega)
      obtain ⟨P, hP⟩ := Int.eq_ofNat_of_zero_le hp0
      subst hP
      have byte : ∀ (j : Nat) (hj : j < bs.length), ∃ a, indexAddrP Try.prog 22 bp (.int .i64 j) = some a ∧ loadP Try.prog 5 a h7 = some (.int .u8 bs[j]) ∧ 0 ≤ bs[j] ∧ bs[j] ≤ 255 ∧ IntKind.i64.wrap bs[j] = bs[j] := by
        intro j hj
        obtain ⟨a, h1, h2⟩ := hs7.at tyB tyBSize tyBAgg hj
        have := hb _ (List.getElem_mem hj)
        exact ⟨a, h1, h2, this.1, this.2, wr (by omega)⟩
      by_cases hlt : (P : Int) < (bs.length : Int)
      · obtain ⟨a, ha, hla, hb2, hb3, hw⟩ := byte P (by omega)
        have hr := tmod_range hb2 hk1'
        refine ⟨bs[P].tmod k, h7, ?_, hrd, hon, hr.1, fun _ => hr.2, by omega⟩
        have hrem := bin_rem (P := Try.prog) (t := 3) (k := .i64) (a := bs[P]) (show k ≠ 0 by omega)
        have f_add : binP Try.prog .add 3 (.int .i64 (P : Int)) (.int .i64 1) = some (.int .i64 ((P : Int) + 1)) := by rw [bin_add, w1]
        have f_lss : binP Try.prog .lss 3 (.int .i64 k) (.int .i64 1) = some (.bool false) := by rw [bin_lss, decide_eq_false hk1]
        have f_eql : binP Try.prog .eql 3 (.int .i64 (bs.length : Int)) (.int .i64 0) = some (.bool false) := by rw [bin_eql, hne]
        have f_sub : binP Try.prog .sub 3 (.int .i64 ((P : Int) + 1)) (.int .i64 1) = some (.int .i64 (P : Int)) := by rw [bin_sub, w2]
        have f_lt : binP Try.prog .lss 3 (.int .i64 (P : Int)) (.int .i64 (bs.length : Int)) = some (.bool true) := by rw [bin_lss, decide_eq_true hlt]
        have f_conv : convP Try.prog 5 3 (.int .u8 bs[P]) = some (.int .i64 bs[P]) := by rw [conv_byte, hw]
        unfold spec_l20Rd_pick.main
        refine bd ptr_ptr (bd (fa1 _ _) (bd hld (bd f_add (bd ptr_ptr (bd (fa1 _ _) (bd hst (bd f_lss ?_)))))))
        refine bd (want_bool (x := false) (y := false)) (bd (v := (PV.ptr id 0, h7)) rfl ?_)
        refine bd (want_bool (x := false) (y := false)) (bd (v := (PV.ptr id 0, h7)) rfl ?_)
        refine bd (want_bool (x := false) (y := false)) (bd (v := (PV.ptr id (0 + 0), h7)) (congrArg (pv h7) (fa0 id 0)) ?_)
        refine bd (want_bool (x := false) (y := false)) (bd (v := (bp, h7)) (congrArg (pv h7) hl0) ?_)
        refine bd (want_bool (x := false) (y := false)) (bd (v := (PV.int .i64 (bs.length : Int), h7)) (congrArg (pv h7) hlen) ?_)
        refine bd (want_bool (x := false) (y := false)) (bd (v := (PV.bool false, h7)) (congrArg (pv h7) f_eql) ?_)
        refine bd (v := PV.bool false) rfl (cdF ?_)
        refine bd ptr_ptr (bd (fa1 _ _) (bd hl1 (bd f_sub (bd ptr_ptr (bd (fa0 _ _) (bd hl0 (bd hlen (bd f_lt (cdT ?_)))))))))
        refine bd ptr_ptr (bd (fa0 _ _) (bd hl0 (bd ha (bd hla (bd f_conv (bd hrem (bd res_int rfl)))))))
      · -- past its end
        have hr1 := tmod_range (x := (P : Int)) (k := (bs.length : Int)) (by omega) hb1
        obtain ⟨i1, hi1⟩ : ∃ i : Nat, (P : Int).tmod (bs.length : Int) = i := ⟨((P : Int).tmod bs.length).toNat, by omega⟩
        have hr2 := tmod_range (x := (P : Int) * 7 + 3) (k := (bs.length : Int)) (by omega) hb1
        obtain ⟨i2, hi2⟩ : ∃ i : Nat, ((P : Int) * 7 + 3).tmod (bs.length : Int) = i := ⟨(((P : Int) * 7 + 3).tmod bs.length).toNat, by omega⟩
        obtain ⟨a1, ha1, hla1, c1, c2, hw1⟩ := byte i1 (by omega)
        obtain ⟨a2, ha2, hla2, d1, d2, hw2⟩ := byte i2 (by omega)
        obtain ⟨b1, hb1'⟩ : ∃ b, b = bs[i1]'(by omega) := ⟨_, rfl⟩
        obtain ⟨b2, hb2'⟩ : ∃ b, b = bs[i2]'(by omega) := ⟨_, rfl⟩
        rw [← hb1'] at hla1 c1 c2 hw1
        rw [← hb2'] at hla2 d1 d2 hw2
        have hq := tdiv_range (x := (P : Int)) (k := (bs.length : Int)) (by omega) hb1
        have hquo := bin_quo (P := Try.prog) (t := 3) (k := .i64) (a := (P : Int)) (show (bs.length : Int) ≠ 0 by omega)
        have hrem1 := bin_rem (P := Try.prog) (t := 3) (k := .i64) (a := (P : Int)) (show (bs.length : Int) ≠ 0 by omega)
        have hrem2 := bin_rem (P := Try.prog) (t := 3) (k := .i64) (a := (P : Int) * 7 + 3) (show (bs.length : Int) ≠ 0 by omega)
        obtain ⟨q, hq'⟩ : ∃ q, q = (P : Int).tdiv (bs.length : Int) := ⟨_, rfl⟩
        rw [← hq'] at hq hquo
        have u1 : IntKind.i64.wrap (b1 * 131) = b1 * 131 := wr (by omega)
        have u2 : IntKind.i64.wrap ((P : Int) * 7) = (P : Int) * 7 := wr (by omega)
        have u3 : IntKind.i64.wrap ((P : Int) * 7 + 3) = (P : Int) * 7 + 3 := wr (by omega)
        have u4 : IntKind.i64.wrap (b2 * 1117) = b2 * 1117 := wr (by omega)
        have u5 : IntKind.i64.wrap (b1 * 131 + b2 * 1117) = b1 * 131 + b2 * 1117 := wr (by omega)
        have u6 : IntKind.i64.wrap ((P : Int) * 29) = (P : Int) * 29 := wr (by omega)
        have u7 : IntKind.i64.wrap (b1 * 131 + b2 * 1117 + (P : Int) * 29) = b1 * 131 + b2 * 1117 + (P : Int) * 29 := wr (by omega)
        have u8 : IntKind.i64.wrap q = q := wr (by omega)
        have u9 : IntKind.i64.wrap (q * 53) = q * 53 := wr (by omega)
        obtain ⟨X, hX⟩ : ∃ X, X = b1 * 131 + b2 * 1117 + (P : Int) * 29 + q * 53 := ⟨_, rfl⟩
        have u10 : IntKind.i64.wrap X = X := wr (by omega)
        have hX0 : 0 ≤ X := by omega
        have hX1 : X < 4611686018427387904 := by omega
        have hXq := tdiv_range (x := X) (k := 64) hX0 (by omega)
        have hquoX := bin_quo (P := Try.prog) (t := 3) (k := .i64) (a := X) (show (64 : Int) ≠ 0 by omega)
        obtain ⟨Y, hY⟩ : ∃ Y, Y = X.tdiv 64 := ⟨_, rfl⟩
        rw [← hY] at hXq hquoX
        have u11 : IntKind.i64.wrap Y = Y := wr (by omega)
        obtain ⟨Z, hZ⟩ : ∃ Z, Z = IntKind.i64.wrap ((BitVec.ofInt IntKind.i64.bits X ^^^ BitVec.ofInt IntKind.i64.bits Y).toNat : Int) := ⟨_, rfl⟩
        have hZ0 : 0 ≤ Z := by rw [hZ]; exact xor_small hX0 hX1 hXq.1 (by omega)
        have hxor : binP Try.prog .xor 3 (.int .i64 X) (.int .i64 Y) = some (.int .i64 Z) := by rw [hZ]; simp [binP, binI]
        have hremZ := bin_rem (P := Try.prog) (t := 3) (k := .i64) (a := Z) (show k ≠ 0 by omega)
        have hrZ := tmod_range hZ0 hk1'
        refine ⟨Z.tmod k, h7, ?_, hrd, hon, hrZ.1, fun _ => hrZ.2, by omega⟩
        have f_add : binP Try.prog .add 3 (.int .i64 (P : Int)) (.int .i64 1) = some (.int .i64 ((P : Int) + 1)) := by rw [bin_add, w1]
        have f_lss : binP Try.prog .lss 3 (.int .i64 k) (.int .i64 1) = some (.bool false) := by rw [bin_lss, decide_eq_false hk1]
        have f_eql : binP Try.prog .eql 3 (.int .i64 (bs.length : Int)) (.int .i64 0) = some (.bool false) := by rw [bin_eql, hne]
        have f_sub : binP Try.prog .sub 3 (.int .i64 ((P : Int) + 1)) (.int .i64 1) = some (.int .i64 (P : Int)) := by rw [bin_sub, w2]
        have f_lt : binP Try.prog .lss 3 (.int .i64 (P : Int)) (.int .i64 (bs.length : Int)) = some (.bool false) := by rw [bin_lss, decide_eq_false hlt]
        have f_conv1 : convP Try.prog 5 3 (.int .u8 b1) = some (.int .i64 b1) := by rw [conv_byte, hw1]
        have f_conv2 : convP Try.prog 5 3 (.int .u8 b2) = some (.int .i64 b2) := by rw [conv_byte, hw2]
        have f_rem1 : binP Try.prog .rem 3 (.int .i64 (P : Int)) (.int .i64 (bs.length : Int)) = some (.int .i64 (i1 : Int)) := by rw [hrem1, hi1]
        have f_rem2 : binP Try.prog .rem 3 (.int .i64 ((P : Int) * 7 + 3)) (.int .i64 (bs.length : Int)) = some (.int .i64 (i2 : Int)) := by rw [hrem2, hi2]
        have f1 : binP Try.prog .mul 3 (.int .i64 b1) (.int .i64 131) = some (.int .i64 (b1 * 131)) := by rw [bin_mul, u1]
        have f2 : binP Try.prog .mul 3 (.int .i64 (P : Int)) (.int .i64 7) = some (.int .i64 ((P : Int) * 7)) := by rw [bin_mul, u2]
        have f3 : binP Try.prog .add 3 (.int .i64 ((P : Int) * 7)) (.int .i64 3) = some (.int .i64 ((P : Int) * 7 + 3)) := by rw [bin_add, u3]
        have f4 : binP Try.prog .mul 3 (.int .i64 b2) (.int .i64 1117) = some (.int .i64 (b2 * 1117)) := by rw [bin_mul, u4]
        have f5 : binP Try.prog .add 3 (.int .i64 (b1 * 131)) (.int .i64 (b2 * 1117)) = some (.int .i64 (b1 * 131 + b2 * 1117)) := by rw [bin_add, u5]
        have f6 : binP Try.prog .mul 3 (.int .i64 (P : Int)) (.int .i64 29) = some (.int .i64 ((P : Int) * 29)) := by rw [bin_mul, u6]
        have f7 : binP Try.prog .add 3 (.int .i64 (b1 * 131 + b2 * 1117)) (.int .i64 ((P : Int) * 29)) = some (.int .i64 (b1 * 131 + b2 * 1117 + (P : Int) * 29)) := by rw [bin_add, u7]
        have f8 : binP Try.prog .quo 3 (.int .i64 (P : Int)) (.int .i64 (bs.length : Int)) = some (.int .i64 q) := by rw [hquo, u8]
        have f9 : binP Try.prog .mul 3 (.int .i64 q) (.int .i64 53) = some (.int .i64 (q * 53)) := by rw [bin_mul, u9]
        have f10 : binP Try.prog .add 3 (.int .i64 (b1 * 131 + b2 * 1117 + (P : Int) * 29)) (.int .i64 (q * 53)) = some (.int .i64 X) := by rw [bin_add, ← hX, u10]
        have f11 : binP Try.prog .quo 3 (.int .i64 X) (.int .i64 64) = some (.int .i64 Y) := by rw [hquoX, u11]
        clear hX hY hZ u1 u2 u3 u4 u5 u6 u7 u8 u9 u10 u11 hq' hquo hquoX hrem1 hrem2
        unfold spec_l20Rd_pick.main
        refine bd ptr_ptr (bd (fa1 _ _) (bd hld (bd f_add (bd ptr_ptr (bd (fa1 _ _) (bd hst (bd f_lss ?_)))))))
        refine bd (want_bool (x := false) (y := false)) (bd (v := (PV.ptr id 0, h7)) rfl ?_)
        refine bd (want_bool (x := false) (y := false)) (bd (v := (PV.ptr id 0, h7)) rfl ?_)
        refine bd (want_bool (x := false) (y := false)) (bd (v := (PV.ptr id (0 + 0), h7)) (congrArg (pv h7) (fa0 id 0)) ?_)
        refine bd (want_bool (x := false) (y := false)) (bd (v := (bp, h7)) (congrArg (pv h7) hl0) ?_)
        refine bd (want_bool (x := false) (y := false)) (bd (v := (PV.int .i64 (bs.length : Int), h7)) (congrArg (pv h7) hlen) ?_)
        refine bd (want_bool (x := false) (y := false)) (bd (v := (PV.bool false, h7)) (congrArg (pv h7) f_eql) ?_)
        refine bd (v := PV.bool false) rfl (cdF ?_)
        refine bd ptr_ptr (bd (fa1 _ _) (bd hl1 (bd f_sub (bd ptr_ptr (bd (fa0 _ _) (bd hl0 (bd hlen (bd f_lt (cdF ?_)))))))))
        refine bd ptr_ptr (bd (fa0 _ _) (bd hl0 (bd ptr_ptr (bd (fa0 _ _) (bd hl0 (bd hlen (bd f_rem1 (bd ha1 (bd hla1 (bd f_conv1 (bd f1 ?_)))))))))))
        refine bd ptr_ptr (bd (fa0 _ _) (bd hl0 (bd f2 (bd f3 (bd ptr_ptr (bd (fa0 _ _) (bd hl0 (bd hlen (bd f_rem2 (bd ha2 (bd hla2 (bd f_conv2 (bd f4 ?_)))))))))))))
        refine bd f5 (bd f6 (bd f7 (bd ptr_ptr (bd (fa0 _ _) (bd hl0 (bd hlen (bd f8 (bd f9 (bd f10 (bd f11 (bd hxor (bd hremZ (bd res_int rfl)))))))))))))

theorem odd_calls {h : PHeap} {id m : Nat} (N : Nat) (hN : 2 ≤ N) (k : Int) (hr : Rd h id m) (hm : m ≤ 1000000) (hk : k ≤ 1000000) (hk0 : 1 ≤ k) :
    ∃ (b : Bool) (h' : PHeap), CL g lf N fn_spec_l20Rd_odd [.ptr id 0, .int .i64 k] h = some (.bool b, h') ∧ Rd h' id (m + 1) ∧ Only id (id + 1) h h' := by
  obtain ⟨n, rfl⟩ : ∃ n, N = n + 1 := ⟨N - 1, by omega⟩
  rw [spec_l20Rd_odd.call_eq]
  obtain ⟨v, h', e, hr', ho, _⟩ := pick_calls g lf n (by omega) k hr hm hk
  have hpos : (0 : Int) < k := by omega
  have w1 : IntKind.i64.wrap (k - 1) = k - 1 := wr (by omega)
  refine ⟨v == k - 1, h', ?_, hr', ho⟩
  simp [spec_l20Rd_odd.main, hpos, e, w1]

end Go.Proofs.Ytihlmjapddjjjaa

/- The board that the model draws: small numbers, whatever they are. -/
set_option maxRecDepth 20000
namespace Go.Proofs.Ytihlmjapddjjjaa
open Go Go.Ip Go.RowKit G

/-- Below n nothing has turned but the object id. -/
def KeepX (id n : Nat) (h h' : PHeap) : Prop := h.length ≤ h'.length ∧ ∀ i, i < n → i ≠ id → h'[i]? = h[i]?

theorem KeepX.refl (id n : Nat) (h : PHeap) : KeepX id n h h := ⟨Nat.le_refl _, fun _ _ _ => rfl⟩
theorem KeepX.trans {id n : Nat} {a b c : PHeap} (h : KeepX id n a b) (k : KeepX id n b c) : KeepX id n a c := ⟨Nat.le_trans h.1 k.1, fun i hi hn => (k.2 i hi hn).trans (h.2 i hi hn)⟩
theorem KeepX.mono {id n m : Nat} {a b : PHeap} (h : KeepX id n a b) (hm : m ≤ n) : KeepX id m a b := ⟨h.1, fun i hi hn => h.2 i (by omega) hn⟩
theorem Keep.x {id n : Nat} {a b : PHeap} (h : Keep n a b) : KeepX id n a b := ⟨h.1, fun i hi _ => h.2 i hi⟩
theorem Only.x {id n : Nat} {a b : PHeap} (h : Only id (id + 1) a b) : KeepX id n a b := ⟨by rw [h.1]; exact Nat.le_refl _, fun i _ hn => h.2 i (by omega)⟩
theorem KeepX.keep {id n : Nat} {a b : PHeap} (h : KeepX id n a b) (hn : id ≤ n) : Keep id a b := ⟨h.1, fun i hi => h.2 i (by omega) (by omega)⟩

theorem OwnSl.keepX {id n m : Nat} {h h' : PHeap} {p : PV} {xs : List Int} (s : OwnSl n h p xs) (hk : KeepX id m h h') (hn : id < n) (hm : h.length ≤ m) : OwnSl n h' p xs := by
  rcases s with s | ⟨i, h1, h2, h3⟩
  · exact .inl s
  · have := (List.getElem?_eq_some_iff.1 h3).1
    exact .inr ⟨i, h1, h2, by rw [hk.2 i (by omega) (by omega)]; exact h3⟩

theorem Rd.mono {h : PHeap} {id m m' : Nat} (r : Rd h id m) (hm : m ≤ m') : Rd h id m' := by
  obtain ⟨bp, bs, pos, h1, h2, h3, h4, h5, h6⟩ := r
  exact ⟨bp, bs, pos, h1, h2, h3, h4, h5, by omega⟩

variable (g : Nat → PV) (lf n : Nat)

end Go.Proofs.Ytihlmjapddjjjaa

/- Promise 1: boards are turned. -/
set_option maxRecDepth 20000
namespace Go.Proofs.Ytihlmjapddjjjaa
open Go Go.Ip Go.RowKit G

variable (g : Nat → PV) (lf n : Nat)

theorem boardOk_N (N : Nat) (hN : 2 ≤ N) (h : PHeap) (r c : Int) : CL g lf N fn_impl_BoardOk [.int .i64 r, .int .i64 c] h = some (.bool (boardB r c), h) := by
  obtain ⟨n, rfl⟩ : ∃ n, N = n + 2 := ⟨N - 2, by omega⟩
  exact boardOk_calls g lf n h r c
end Go.Proofs.Ytihlmjapddjjjaa

/- The position that the model draws: at most ten numbers, whatever they are. -/
set_option maxRecDepth 20000
namespace Go.Proofs.Ytihlmjapddjjjaa
open Go Go.Ip Go.RowKit G

variable (g : Nat → PV) (lf n : Nat)

end Go.Proofs.Ytihlmjapddjjjaa

/- Promise 3: free boards are positions. -/
set_option maxRecDepth 20000
namespace Go.Proofs.Ytihlmjapddjjjaa
open Go Go.Ip Go.RowKit G

variable (g : Nat → PV) (lf n : Nat)

theorem alive_calls (N : Nat) (hN : 3 ≤ N) (h : PHeap) : CL g lf N fn_laws_alive [] h = some (.bool true, h) := by
  obtain ⟨n, rfl⟩ : ∃ n, N = n + 1 := ⟨N - 1, by omega⟩
  rw [laws_alive.call_eq]
  have b22 : boardB 2 2 = true := by decide
  have b02 : boardB 0 2 = false := by decide
  have e1 := boardOk_N g lf n (by omega) h 2 2
  have e2 := boardOk_N g lf n (by omega) h 0 2
  rw [b22] at e1
  rw [b02] at e2
  unfold laws_alive.main
  exact bd e1 (bd (want_bool (x := true) (y := true)) (bd e2 (bd (want_bool (x := true) (y := true)) (bd (v := (PV.bool true, h)) rfl (bd (v := PV.bool true) rfl (bd res_bool rfl))))))

end Go.Proofs.Ytihlmjapddjjjaa

/- Promise 5: turned by half a turn twice it is as before. -/
set_option maxRecDepth 20000
namespace Go.Proofs.Ytihlmjapddjjjaa
open Go Go.Ip Go.RowKit G

variable (g : Nat → PV) (lf n : Nat)

/-! ### sameInts: are two lists equal? -/
end Go.Proofs.Ytihlmjapddjjjaa

/- Promise 4: each cell is of one kind. -/
set_option maxRecDepth 20000
namespace Go.Proofs.Ytihlmjapddjjjaa
open Go Go.Ip Go.RowKit G

variable (g : Nat → PV) (lf n : Nat)

/-! ### what is listed -/
/-! ### ascend -/
/-! ### the law's own loops -/
end Go.Proofs.Ytihlmjapddjjjaa

/- What both functions that mirror a position compute, and the exact law on them. -/
set_option maxRecDepth 20000
namespace Go.Proofs.Ytihlmjapddjjjaa
open Go Go.Ip Go.RowKit G

variable (g : Nat → PV) (lf n : Nat)

/-- Where the mirrored position's cell k comes from: of a board of R rows and C columns. -/
def sig (R C k : Nat) : Nat := k % R * C + k / R
/-- A board's sides, as numbers. -/
def Sides (r c : Int) (R C : Nat) (xs : List Int) : Prop := r = (R : Int) ∧ c = (C : Int) ∧ 1 ≤ R ∧ R ≤ 4 ∧ 1 ≤ C ∧ C ≤ 4 ∧ R * C ≤ 9 ∧ xs.length = R * C ∧ xs.all contentB = true

theorem f_rem (i R : Nat) (hR : 1 ≤ R) : binP Try.prog .rem 3 (.int .i64 (i : Int)) (.int .i64 (R : Int)) = some (.int .i64 ((i % R : Nat) : Int)) := by
  rw [bin_rem (show (R : Int) ≠ 0 by omega)]; rfl
theorem f_add (a b : Nat) (h : a + b ≤ 1000) : binP Try.prog .add 3 (.int .i64 (a : Int)) (.int .i64 (b : Int)) = some (.int .i64 ((a + b : Nat) : Int)) := by
  rw [bin_add, ← Int.natCast_add, wr (by omega)]

end Go.Proofs.Ytihlmjapddjjjaa

/- The neighbours of a cell: the program's loop over its table of steps, the model's two loops, and the exact law. -/
set_option maxRecDepth 20000
namespace Go.Proofs.Ytihlmjapddjjjaa
open Go Go.Ip G

/-! ### the table of steps -/
def steps : List (Int × Int) := [(-1, 0), (-1, 1), (0, -1), (0, 1), (1, -1), (1, 0)]
/-- Where the library's table of 64 bytes is known to lie, it reads so. -/
def Tab64 (_ : Nat → PV) (_ : PHeap) : Prop := True
theorem Tab64.keep {g : Nat → PV} {h h' : PHeap} (_ : Tab64 g h) (_ : Keep h.length h h') : Tab64 g h' := trivial

/-! ### what is meant -/
def rowAt (C k : Nat) (s : Int × Int) : Int := ((k / C : Nat) : Int) + s.1
def colAt (C k : Nat) (s : Int × Int) : Int := ((k % C : Nat) : Int) + s.2
def inB (R C k : Nat) (s : Int × Int) : Bool := decide (0 ≤ rowAt C k s) && decide (rowAt C k s < R) && decide (0 ≤ colAt C k s) && decide (colAt C k s < C)
def nearFrom (R C k : Nat) (ss : List (Int × Int)) : List Int := (ss.filter (inB R C k)).map fun s => rowAt C k s * C + colAt C k s
def nearN (R C k : Nat) : List Int := nearFrom R C k steps
/-- An operation under a guard. -/
theorem gd {α β : Type} {b t : Bool} {x y : Option α} {f : α → Option β} {r : Option β} (hb : b = t) (hx : x.bind f = r) : ((wantV (.bool b) t).bind fun v => (bif v then x else y).bind f) = r := by
  subst hb; simpa using hx
variable (g : Nat → PV) (lf n : Nat)

/-! ### the program -/
end Go.Proofs.Ytihlmjapddjjjaa

/- The model's neighbours, 'is a number in a list', and the exact law on neighbours. -/
set_option maxRecDepth 20000
namespace Go.Proofs.Ytihlmjapddjjjaa
open Go Go.Ip G

variable (g : Nat → PV) (lf n : Nat)

theorem l1In_N (N : Nat) (hN : 1 ≤ N) (h : PHeap) (a lo hi : Int) : CL g lf N fn_spec_l1In [.int .i64 a, .int .i64 lo, .int .i64 hi] h = some (.bool (decide (lo ≤ a ∧ a ≤ hi)), h) := by
  obtain ⟨n, rfl⟩ : ∃ n, N = n + 1 := ⟨N - 1, by omega⟩
  exact l1In_calls g lf n h a lo hi

/-! ### hasInt -/
/-! ### the exact law -/
end Go.Proofs.Ytihlmjapddjjjaa

/- Promises 2 and 8: neighbours are so both ways; all neighbours are counted by rows and columns. -/
set_option maxRecDepth 20000
namespace Go.Proofs.Ytihlmjapddjjjaa
open Go Go.Ip G

/-! ### of all cells of all boards -/
variable (g : Nat → PV) (lf n : Nat)

/-! ### promise 8 -/
end Go.Proofs.Ytihlmjapddjjjaa

/- Promise 7 and the exact law on it: how far cells are from each other. -/
set_option maxRecDepth 20000
namespace Go.Proofs.Ytihlmjapddjjjaa
open Go Go.Ip G

/-! ### sets of cells as numbers -/
def orAll (w : Nat) : List Int → Nat
  | [] => w
  | e :: l => orAll (w ||| (1 <<< e.toNat)) l
/-! ### what the model says -/
variable (g : Nat → PV) (lf n : Nat)

/-! ### the program -/
theorem f_sub (a b : Int) (h : -1000 ≤ a - b ∧ a - b ≤ 1000) : binP Try.prog .sub 3 (.int .i64 a) (.int .i64 b) = some (.int .i64 (a - b)) := by rw [bin_sub, wr (by omega)]
end Go.Proofs.Ytihlmjapddjjjaa

/- Sets of cells as bits: what grows, what is reached, and at what cost. No program text. -/
set_option maxRecDepth 20000
namespace Go.Proofs.Ytihlmjapddjjjaa

theorem bit_iff (x k : Nat) : x >>> k % 2 = 1 ↔ x.testBit k = true := by
  rw [Nat.testBit_eq_decide_div_mod_eq, Nat.shiftRight_eq_div_pow, decide_eq_true_iff]

/-- Cell j is beside cell k: the masks tell the neighbours of each cell. -/
def Adj (M : List Nat) (k j : Nat) : Prop := (M.getD k 0).testBit j = true

inductive Reach (M : List Nat) (set fr : Nat) : Nat → Prop
  | start {j} (h : fr.testBit j = true) (hs : set.testBit j = true) : Reach M set fr j
  | step {k j} (h : Reach M set fr k) (ha : Adj M k j) (hs : set.testBit j = true) : Reach M set fr j

theorem Reach.inSet {M : List Nat} {set fr j : Nat} (h : Reach M set fr j) : set.testBit j = true := by
  cases h <;> assumption

theorem Reach.mono {M : List Nat} {set fr set' fr' : Nat} (hs : ∀ j, set.testBit j = true → set'.testBit j = true) (hf : ∀ j, fr.testBit j = true → fr'.testBit j = true) {j : Nat} (h : Reach M set fr j) : Reach M set' fr' j := by
  induction h with
  | start h h' => exact .start (hf _ h) (hs _ h')
  | step _ ha h' ih => exact .step ih ha (hs _ h')

theorem Reach.trans {M : List Nat} {set fr fr' : Nat} (hf : ∀ j, fr'.testBit j = true → Reach M set fr j) {j : Nat} (h : Reach M set fr' j) : Reach M set fr j := by
  induction h with
  | start h _ => exact hf _ h
  | step _ ha h' ih => exact .step ih ha h'

theorem one_bit (k j : Nat) : (1 <<< k).testBit j = decide (j = k) := by
  rw [Nat.one_shiftLeft, Nat.testBit_two_pow]
  by_cases h : j = k
  · subst h; simp
  · simp [h]; exact fun e => h e.symm

/-- From one cell to another, and back. -/
theorem Reach.back {M : List Nat} (sym : ∀ k j, Adj M k j → Adj M j k) {set a b : Nat} (ha : set.testBit a = true) (h : Reach M set (1 <<< a) b) : Reach M set (1 <<< b) a := by
  induction h with
  | @start j h _ =>
    rw [one_bit] at h
    have : j = a := of_decide_eq_true h
    subst this
    exact .start (by rw [one_bit]; simp) ha
  | @step k j _ hk hj ih =>
    refine ih.trans fun i hi => ?_
    rw [one_bit] at hi
    have : i = k := of_decide_eq_true hi
    subst this
    rename_i hk'
    exact .step (.start (by rw [one_bit]; simp) hj) (sym _ _ hk) hk'.inSet

/-! ### growing -/
def stepFrom (set now : Nat) : Nat → List Nat → Nat → Nat
  | _, [], nx => nx
  | k, m :: ms, nx => stepFrom set now (k + 1) ms (if now >>> k % 2 = 1 then nx ||| (m &&& set) else nx)

theorem stepFrom_le (set now : Nat) : ∀ (ms : List Nat) (k nx : Nat), nx ≤ stepFrom set now k ms nx
  | [], _, _ => Nat.le_refl _
  | m :: ms, k, nx => by
    rw [stepFrom]
    refine Nat.le_trans ?_ (stepFrom_le set now ms (k + 1) _)
    split
    · exact Nat.left_le_or
    · exact Nat.le_refl _

theorem stepFrom_bit (set now : Nat) (j : Nat) : ∀ (ms : List Nat) (k nx : Nat), (stepFrom set now k ms nx).testBit j = true ↔ nx.testBit j = true ∨ ∃ i, now.testBit (k + i) = true ∧ (ms.getD i 0).testBit j = true ∧ set.testBit j = true
  | [], k, nx => by simp [stepFrom]
  | m :: ms, k, nx => by
    rw [stepFrom, stepFrom_bit set now j ms (k + 1)]
    have hsplit : (∃ i, now.testBit (k + i) = true ∧ ((m :: ms).getD i 0).testBit j = true ∧ set.testBit j = true) ↔ (now.testBit k = true ∧ m.testBit j = true ∧ set.testBit j = true) ∨ ∃ i, now.testBit (k + 1 + i) = true ∧ (ms.getD i 0).testBit j = true ∧ set.testBit j = true := by
      constructor
      · rintro ⟨i, h⟩
        cases i with
        | zero => exact .inl (by simpa using h)
        | succ i => exact .inr ⟨i, by rw [show k + 1 + i = k + (i + 1) by omega]; simpa using h⟩
      · rintro (h | ⟨i, h⟩)
        · exact ⟨0, by simpa using h⟩
        · exact ⟨i + 1, by rw [show k + (i + 1) = k + 1 + i by omega]; simpa using h⟩
    rw [hsplit]
    by_cases hb : now >>> k % 2 = 1
    · rw [if_pos hb, Nat.testBit_or, Nat.testBit_and]
      have hb' := (bit_iff now k).1 hb
      simp [hb', or_assoc]
    · rw [if_neg hb]
      have hb' : ¬ now.testBit k = true := fun h => hb ((bit_iff now k).2 h)
      simp [hb']

def growF (M : List Nat) (set : Nat) : Nat → Nat → Nat
  | 0, now => now
  | f + 1, now => if stepFrom set now 0 M now = now then now else growF M set f (stepFrom set now 0 M now)
def growN (M : List Nat) (set fr : Nat) : Nat := growF M set 600 (fr &&& set)

theorem sub_and {a b : Nat} (h : ∀ j, a.testBit j = true → b.testBit j = true) : a &&& b = a := by
  apply Nat.eq_of_testBit_eq
  intro j
  rw [Nat.testBit_and]
  cases e : a.testBit j with
  | false => rfl
  | true => rw [h j e]; rfl

theorem sub_le {a b : Nat} (h : ∀ j, a.testBit j = true → b.testBit j = true) : a ≤ b := by
  rw [← sub_and h]; exact Nat.and_le_right

theorem step_sub {M : List Nat} {set now : Nat} (h : ∀ j, now.testBit j = true → set.testBit j = true) : ∀ j, (stepFrom set now 0 M now).testBit j = true → set.testBit j = true := by
  intro j hj
  rcases (stepFrom_bit set now j M 0 now).1 hj with hj | ⟨_, _, _, hj⟩
  · exact h j hj
  · exact hj

theorem growF_fix {M : List Nat} {set : Nat} : ∀ (f now : Nat), (∀ j, now.testBit j = true → set.testBit j = true) → set < now + f → stepFrom set (growF M set f now) 0 M (growF M set f now) = growF M set f now ∧ (∀ j, now.testBit j = true → (growF M set f now).testBit j = true)
  | 0, now, hs, hf => by have := sub_le hs; omega
  | f + 1, now, hs, hf => by
    rw [growF]
    split
    · rename_i h; exact ⟨h, fun _ h => h⟩
    · rename_i h
      have hle := stepFrom_le set now M 0 now
      have ih := growF_fix (M := M) f (stepFrom set now 0 M now) (step_sub hs) (by omega)
      exact ⟨ih.1, fun j hj => ih.2 j ((stepFrom_bit set now j M 0 now).2 (.inl hj))⟩

theorem growF_reach {M : List Nat} {set fr : Nat} : ∀ (f now : Nat), (∀ j, now.testBit j = true → Reach M set fr j) → ∀ j, (growF M set f now).testBit j = true → Reach M set fr j
  | 0, now, hs, j, hj => hs j hj
  | f + 1, now, hs, j, hj => by
    rw [growF] at hj
    split at hj
    · exact hs j hj
    · refine growF_reach f _ (fun i hi => ?_) j hj
      rcases (stepFrom_bit set now i M 0 now).1 hi with hi | ⟨k, h1, h2, h3⟩
      · exact hs i hi
      · rw [Nat.zero_add] at h1
        exact .step (hs k h1) h2 h3

theorem grow_bit {M : List Nat} {set fr : Nat} (hset : set < 2 ^ 9) (j : Nat) : (growN M set fr).testBit j = true ↔ Reach M set fr j := by
  have hsub : ∀ j, (fr &&& set).testBit j = true → set.testBit j = true := fun j hj => by rw [Nat.testBit_and, Bool.and_eq_true] at hj; exact hj.2
  constructor
  · refine growF_reach 600 _ (fun i hi => ?_) j
    rw [Nat.testBit_and, Bool.and_eq_true] at hi
    exact .start hi.1 hi.2
  · obtain ⟨hfix, hin⟩ := growF_fix (M := M) 600 (fr &&& set) hsub (by omega)
    intro h
    induction h with
    | start h hs => exact hin _ (by rw [Nat.testBit_and, h, hs]; rfl)
    | @step k j _ ha hs ih =>
      unfold growN at ih ⊢
      rw [← hfix]
      exact (stepFrom_bit set _ j M 0 _).2 (.inr ⟨k, by rw [Nat.zero_add]; exact ih, ha, hs⟩)

/-! ### at what cost -/
/-- Cell j is reached from the edge over own cells and at most k free ones. -/
inductive Cost (M : List Nat) (edge own free : Nat) : Nat → Nat → Prop
  | ownEdge {k j} (h : edge.testBit j = true) (ho : own.testBit j = true) : Cost M edge own free k j
  | freeEdge {k j} (h : edge.testBit j = true) (hf : free.testBit j = true) : Cost M edge own free (k + 1) j
  | ownStep {k i j} (h : Cost M edge own free k i) (ha : Adj M i j) (ho : own.testBit j = true) : Cost M edge own free k j
  | freeStep {k i j} (h : Cost M edge own free k i) (ha : Adj M i j) (hf : free.testBit j = true) : Cost M edge own free (k + 1) j

theorem Cost.more {M : List Nat} {edge own free k j : Nat} (h : Cost M edge own free k j) : Cost M edge own free (k + 1) j := by
  induction h with
  | ownEdge h ho => exact .ownEdge h ho
  | freeEdge h hf => exact .freeEdge h hf
  | ownStep _ ha ho ih => exact .ownStep ih ha ho
  | freeStep _ ha hf ih => exact .freeStep ih ha hf

/-- Own cells more, free cells that are now own: no dearer. -/
theorem Cost.mono {M : List Nat} {edge own free own' free' : Nat} (ho : ∀ j, own.testBit j = true → own'.testBit j = true) (hf : ∀ j, free.testBit j = true → own'.testBit j = true ∨ free'.testBit j = true) {k j : Nat} (h : Cost M edge own free k j) : Cost M edge own' free' k j := by
  induction h with
  | ownEdge h h' => exact .ownEdge h (ho _ h')
  | freeEdge h h' =>
    rcases hf _ h' with h' | h'
    · exact .ownEdge h h'
    · exact .freeEdge h h'
  | ownStep _ ha h' ih => exact .ownStep ih ha (ho _ h')
  | freeStep _ ha h' ih =>
    rcases hf _ h' with h' | h'
    · exact (Cost.ownStep ih ha h').more
    · exact .freeStep ih ha h'

/-- What is dear by one more is so by some free cell: with that one own it is not. -/
theorem Cost.cell {M : List Nat} {edge own free k j : Nat} (h : Cost M edge own free (k + 1) j) :
    Cost M edge own free k j ∨ ∃ c, free.testBit c = true ∧ ∀ own' free', (∀ j, own.testBit j = true → own'.testBit j = true) → own'.testBit c = true → (∀ j, free.testBit j = true → own'.testBit j = true ∨ free'.testBit j = true) → Cost M edge own' free' k j := by
  generalize hk : k + 1 = k' at h
  induction h generalizing k with
  | ownEdge h h' => exact .inl (.ownEdge h h')
  | @freeEdge k0 j h h' => exact .inr ⟨j, h', fun own' free' _ hc _ => .ownEdge h hc⟩
  | ownStep _ ha h' ih =>
    rcases ih hk with ih | ⟨c, hc, ih⟩
    · exact .inl (.ownStep ih ha h')
    · exact .inr ⟨c, hc, fun own' free' ho hoc hf => .ownStep (ih own' free' ho hoc hf) ha (ho _ h')⟩
  | @freeStep k0 i j h0 ha h' _ =>
    obtain rfl : k = k0 := by omega
    exact .inr ⟨j, h', fun own' free' ho hoc hf => .ownStep (h0.mono ho hf) ha hoc⟩

end Go.Proofs.Ytihlmjapddjjjaa

/- Gaps: waves of cost tell the least number of free cells. No program text. -/
set_option maxRecDepth 20000
namespace Go.Proofs.Ytihlmjapddjjjaa

/-- The last side is reached at cost k. -/
def Hits (M : List Nat) (own free edge last k : Nat) : Prop := ∃ j, last.testBit j = true ∧ Cost M edge own free k j
def IsGap (M : List Nat) (own free edge last k : Nat) : Prop := Hits M own free edge last k ∧ ∀ i, i < k → ¬ Hits M own free edge last i

theorem IsGap.unique {M : List Nat} {own free edge last k k' : Nat} (h : IsGap M own free edge last k) (h' : IsGap M own free edge last k') : k = k' := by
  rcases Nat.lt_trichotomy k k' with hlt | e | hgt
  · exact absurd h.1 (h'.2 k hlt)
  · exact e
  · exact absurd h'.1 (h.2 k' hgt)

theorem and_zero {a b : Nat} : a &&& b = 0 ↔ ∀ j, a.testBit j = true → b.testBit j = true → False := by
  constructor
  · intro h j ha hb
    have := congrArg (fun x => x.testBit j) h
    simp [Nat.testBit_and, ha, hb] at this
  · intro h
    apply Nat.eq_of_testBit_eq
    intro j
    rw [Nat.testBit_and, Nat.zero_testBit]
    cases ha : a.testBit j with
    | false => rfl
    | true =>
      cases hb : b.testBit j with
      | false => rfl
      | true => exact (h j ha hb).elim

/-- What is taken away. -/
def without (x c : Nat) : Nat := x ^^^ (x &&& (1 <<< c))
theorem without_bit (x c j : Nat) : (without x c).testBit j = (x.testBit j && decide (j ≠ c)) := by
  unfold without
  rw [Nat.testBit_xor, Nat.testBit_and, one_bit]
  by_cases h : j = c
  · subst h; simp
  · simp [h]
theorem with_bit (x c j : Nat) : (x ||| (1 <<< c)).testBit j = (x.testBit j || decide (j = c)) := by rw [Nat.testBit_or, one_bit]

section
variable {M : List Nat} {own free edge last : Nat}

end

/-! ### how many -/
def pop (x : Nat) : Nat := (List.range 9).countP fun j => x.testBit j

theorem bit_small {x n j : Nat} (hx : x < 2 ^ n) (h : x.testBit j = true) : j < n := by
  rcases Nat.lt_or_ge j n with hlt | hge
  · exact hlt
  · rw [Nat.testBit_lt_two_pow (Nat.lt_of_lt_of_le hx (Nat.pow_le_pow_right (by decide) hge))] at h; cases h

/-! ### the waves -/
section
variable {M : List Nat} {own free edge last : Nat}

end

end Go.Proofs.Ytihlmjapddjjjaa

/- The model's sets of cells: masks, sides, the cells with a stone, growing, and whether sides are joined. -/
set_option maxRecDepth 20000
namespace Go.Proofs.Ytihlmjapddjjjaa
open Go Go.Ip G

def masksN (R C : Nat) : List Nat := (List.range (R * C)).map fun k => orAll 0 (nearN R C k)
/-- A board, as numbers. -/
def BoardOf (R C : Nat) : Prop := 1 ≤ R ∧ R ≤ 4 ∧ 1 ≤ C ∧ C ≤ 4 ∧ R * C ≤ 9

variable (g : Nat → PV) (lf n : Nat)

/-! ### masks -/
/-! ### sides -/
def atSide (C P i : Nat) : Nat := if P = 2 then i % C else i / C
def endSide (R C P : Nat) : Nat := if P = 2 then C - 1 else R - 1
def sideFrom (R C P : Nat) (last : Bool) : Nat → Nat → Nat → Nat
  | 0, _, w => w
  | m + 1, i, w => sideFrom R C P last m (i + 1) (if (bif last then decide (atSide C P i = endSide R C P) else decide (atSide C P i = 0)) = true then w ||| (1 <<< i) else w)
def sideN (R C P : Nat) (last : Bool) : Nat := sideFrom R C P last (R * C) 0 0

/-! ### the cells with a stone -/
/-! ### growing -/
def joinsN (R C P S : Nat) : Bool := !decide (growN (masksN R C) S (sideN R C P false) &&& sideN R C P true = 0)

end Go.Proofs.Ytihlmjapddjjjaa

/- The model's chapter 2: what Joins, GroupOf, GapOf, Filled and GapCells of it compute. -/
set_option maxRecDepth 20000
namespace Go.Proofs.Ytihlmjapddjjjaa
open Go Go.Ip G

variable (g : Nat → PV) (lf n : Nat)

/-! ### a set's list -/
/-! ### gaps -/
/-! ### the functions -/
end Go.Proofs.Ytihlmjapddjjjaa

/- The model's Filled and GapCells. -/
set_option maxRecDepth 20000
namespace Go.Proofs.Ytihlmjapddjjjaa
open Go Go.Ip G

variable (g : Nat → PV) (lf n : Nat)

/-! ### the cells that close a gap -/
end Go.Proofs.Ytihlmjapddjjjaa

/- Of all boards and all sets of cells: exactly one has joined on a full board; turned, and mirrored. No program text. -/
set_option maxRecDepth 20000
namespace Go.Proofs.Ytihlmjapddjjjaa

def boards : List (Nat × Nat) := [(1, 1), (1, 2), (1, 3), (1, 4), (2, 1), (2, 2), (2, 3), (2, 4), (3, 1), (3, 2), (3, 3), (4, 1), (4, 2)]
theorem board_mem {R C : Nat} (h : BoardOf R C) : (R, C) ∈ boards := by
  obtain ⟨h1, h2, h3, h4, h9⟩ := h
  have hR : R = 1 ∨ R = 2 ∨ R = 3 ∨ R = 4 := by omega
  have hC : C = 1 ∨ C = 2 ∨ C = 3 ∨ C = 4 := by omega
  rcases hR with rfl | rfl | rfl | rfl <;> rcases hC with rfl | rfl | rfl | rfl <;> first | decide | omega

/-- The cells of a set, each at another place. -/
def moved (f : Nat → Nat) (S : Nat) : Nat → Nat
  | 0 => 0
  | k + 1 => moved f S k ||| (if S.testBit k then 1 <<< f k else 0)

def hexB (R C S : Nat) : Bool :=
  (joinsN R C 1 S != joinsN R C 2 (2 ^ (R * C) - 1 - S)) &&
  (joinsN R C 1 (moved (fun k => R * C - 1 - k) S (R * C)) == joinsN R C 1 S) && (joinsN R C 2 (moved (fun k => R * C - 1 - k) S (R * C)) == joinsN R C 2 S) &&
  (joinsN C R 2 (moved (sig C R) S (R * C)) == joinsN R C 1 S) && (joinsN C R 1 (moved (sig C R) S (R * C)) == joinsN R C 2 S)

theorem hex_all : (boards.all fun b => (List.range (2 ^ (b.1 * b.2))).all fun S => hexB b.1 b.2 S) = true := by kernel_rfl

theorem hex_ok {R C S : Nat} (hb : BoardOf R C) (hS : S < 2 ^ (R * C)) : hexB R C S = true := by
  have := List.all_eq_true.1 hex_all (R, C) (board_mem hb)
  exact List.all_eq_true.1 this S (by rw [List.mem_range]; exact hS)

end Go.Proofs.Ytihlmjapddjjjaa

/- Promise 6: mirrored twice it is as before. -/
set_option maxRecDepth 20000
namespace Go.Proofs.Ytihlmjapddjjjaa
open Go Go.Ip Go.RowKit G

variable (g : Nat → PV) (lf n : Nat)

end Go.Proofs.Ytihlmjapddjjjaa

/- What the laws of chapter 2 say of positions, as facts on sets of cells. No program text. -/
set_option maxRecDepth 20000
namespace Go.Proofs.Ytihlmjapddjjjaa

/-! ### joined sides -/
theorem joins_iff {R C P S : Nat} (hS : S < 2 ^ 9) : joinsN R C P S = true ↔ ∃ j, (sideN R C P true).testBit j = true ∧ Reach (masksN R C) S (sideN R C P false) j := by
  unfold joinsN
  rw [Bool.not_eq_true', decide_eq_false_iff_not]
  constructor
  · intro h
    apply Classical.byContradiction
    intro hn
    exact h (and_zero.2 fun j h1 h2 => hn ⟨j, h2, (grow_bit hS j).1 h1⟩)
  · rintro ⟨j, h1, h2⟩ h
    exact and_zero.1 h j ((grow_bit hS j).2 h2) h1

theorem joins_mono {R C P S T : Nat} (hS : S < 2 ^ 9) (hT : T < 2 ^ 9) (h : ∀ j, S.testBit j = true → T.testBit j = true) (hj : joinsN R C P S = true) : joinsN R C P T = true := by
  obtain ⟨j, h1, h2⟩ := (joins_iff hS).1 hj
  exact (joins_iff hT).2 ⟨j, h1, h2.mono h (fun _ h => h)⟩

theorem compl_bit {n S : Nat} (hS : S < 2 ^ n) (j : Nat) : (2 ^ n - 1 - S).testBit j = (decide (j < n) && !S.testBit j) := by
  rw [Nat.sub_sub, Nat.add_comm 1 S]; exact Nat.testBit_two_pow_sub_succ hS j

theorem hex {R C P S : Nat} (hB : BoardOf R C) (hP : P = 1 ∨ P = 2) (hS : S < 2 ^ (R * C)) : joinsN R C P S = !joinsN R C (3 - P) (2 ^ (R * C) - 1 - S) := by
  have key : ∀ T, T < 2 ^ (R * C) → joinsN R C 1 T = !joinsN R C 2 (2 ^ (R * C) - 1 - T) := fun T hT => by
    have := hex_ok hB hT
    unfold hexB at this
    simp only [Bool.and_eq_true] at this
    have := this.1.1.1.1
    cases h1 : joinsN R C 1 T <;> cases h2 : joinsN R C 2 (2 ^ (R * C) - 1 - T) <;> rw [h1, h2] at this <;> first | rfl | cases this
  rcases hP with rfl | rfl
  · exact key S hS
  · have h2 := key (2 ^ (R * C) - 1 - S) (by omega)
    rw [show 2 ^ (R * C) - 1 - (2 ^ (R * C) - 1 - S) = S by omega] at h2
    rw [show 3 - 2 = 1 from rfl, h2, Bool.not_not]

/-! ### filled -/
/-! ### turned and mirrored -/
theorem moved_bit (f : Nat → Nat) (S : Nat) : ∀ (n j : Nat), (moved f S n).testBit j = true ↔ ∃ k, k < n ∧ S.testBit k = true ∧ j = f k
  | 0, j => by simp [moved]
  | n + 1, j => by
    rw [moved, Nat.testBit_or, Bool.or_eq_true, moved_bit f S n j]
    have hlast : ((if S.testBit n = true then 1 <<< f n else 0).testBit j = true) ↔ (S.testBit n = true ∧ j = f n) := by
      by_cases h : S.testBit n = true
      · rw [if_pos h, one_bit, decide_eq_true_iff]; simp [h]
      · rw [if_neg h, Nat.zero_testBit]; simp [h]
    rw [hlast]
    constructor
    · rintro (⟨k, h1, h2, h3⟩ | ⟨h1, h2⟩)
      · exact ⟨k, by omega, h2, h3⟩
      · exact ⟨n, by omega, h1, h2⟩
    · rintro ⟨k, h1, h2, h3⟩
      by_cases e : k = n
      · subst e; exact .inr ⟨h2, h3⟩
      · exact .inl ⟨k, by omega, h2, h3⟩

/-! ### gaps -/
/-! ### the cells that close a gap -/
end Go.Proofs.Ytihlmjapddjjjaa

/- Who wins, told by the sets of both players' stones: what it is, that a stone more never harms, that to move never harms, and that turned and mirrored it is the same. No program text. -/
set_option maxRecDepth 20000
namespace Go.Proofs.Ytihlmjapddjjjaa
open Go Go.Ip G

/-- A stone of the one to move. -/
def putA (t k a : Nat) : Nat := if t = 1 then a ||| (1 <<< k) else a
def putB (t k b : Nat) : Nat := if t = 1 then b else b ||| (1 <<< k)

def winF (R C : Nat) : Nat → Nat → Nat → Nat → Nat
  | 0, a, b, t => if joinsN R C 1 a = true then 1 else if joinsN R C 2 b = true then 2 else 3 - t
  | f + 1, a, b, t => if joinsN R C 1 a = true then 1 else if joinsN R C 2 b = true then 2 else
      if ((List.range (R * C)).any fun k => !(a ||| b).testBit k && decide (winF R C f (putA t k a) (putB t k b) (3 - t) = t)) = true then t else 3 - t

def winN (R C a b t : Nat) : Nat := winF R C (R * C) a b t

/-- A position, by its two sets. -/
def Pos (R C a b : Nat) : Prop := a < 2 ^ (R * C) ∧ b < 2 ^ (R * C) ∧ ∀ j, a.testBit j = true → b.testBit j = true → False

theorem Pos.lt9 {R C a b : Nat} (hB : BoardOf R C) (h : Pos R C a b) : a < 2 ^ 9 ∧ b < 2 ^ 9 := by
  have : 2 ^ (R * C) ≤ 2 ^ 9 := Nat.pow_le_pow_right (by decide) hB.2.2.2.2
  exact ⟨Nat.lt_of_lt_of_le h.1 this, Nat.lt_of_lt_of_le h.2.1 this⟩

theorem Pos.put {R C a b t k : Nat} (h : Pos R C a b) (hk : k < R * C) (hf : (a ||| b).testBit k = false) : Pos R C (putA t k a) (putB t k b) := by
  rw [Nat.testBit_or, Bool.or_eq_false_iff] at hf
  have hl : 1 <<< k < 2 ^ (R * C) := by rw [Nat.one_shiftLeft]; exact Nat.pow_lt_pow_right (by decide) hk
  unfold putA putB
  split
  · refine ⟨Nat.or_lt_two_pow h.1 hl, h.2.1, fun j h1 h2 => ?_⟩
    rw [with_bit, Bool.or_eq_true, decide_eq_true_eq] at h1
    rcases h1 with h1 | rfl
    · exact h.2.2 j h1 h2
    · rw [hf.2] at h2; cases h2
  · refine ⟨h.1, Nat.or_lt_two_pow h.2.1 hl, fun j h1 h2 => ?_⟩
    rw [with_bit, Bool.or_eq_true, decide_eq_true_eq] at h2
    rcases h2 with h2 | rfl
    · exact h.2.2 j h1 h2
    · rw [hf.1] at h1; cases h1

/-- Never have both joined. -/
theorem Pos.both {R C a b : Nat} (hB : BoardOf R C) (h : Pos R C a b) (h1 : joinsN R C 1 a = true) : joinsN R C 2 b = false := by
  cases e : joinsN R C 2 b with
  | false => rfl
  | true =>
    have l9 := h.lt9 hB
    have hc : 2 ^ (R * C) - 1 - a < 2 ^ 9 := by
      have : 2 ^ (R * C) ≤ 2 ^ 9 := Nat.pow_le_pow_right (by decide) hB.2.2.2.2
      omega
    have h2 := joins_mono (P := 2) l9.2 hc (fun j hj => by
      rw [compl_bit h.1]
      have hjn := bit_small h.2.1 hj
      cases ea : a.testBit j with
      | false => simp [hjn]
      | true => exact (h.2.2 j ea hj).elim) e
    have h3 := hex hB (.inl rfl) h.1
    rw [h1, show 3 - 1 = 2 from rfl, h2] at h3
    cases h3

/-- If nobody has joined there is a free cell. -/
theorem Pos.free {R C a b : Nat} (hB : BoardOf R C) (h : Pos R C a b) (h1 : joinsN R C 1 a = false) (h2 : joinsN R C 2 b = false) : ∃ k, k < R * C ∧ (a ||| b).testBit k = false := by
  apply Classical.byContradiction
  intro hn
  have hall : ∀ k, k < R * C → (a ||| b).testBit k = true := fun k hk => by
    cases e : (a ||| b).testBit k with
    | true => rfl
    | false => exact (hn ⟨k, hk, e⟩).elim
  have hb : 2 ^ (R * C) - 1 - a = b := by
    apply Nat.eq_of_testBit_eq
    intro j
    rw [compl_bit h.1]
    by_cases hj : j < R * C
    · have := hall j hj
      rw [Nat.testBit_or, Bool.or_eq_true] at this
      cases ea : a.testBit j with
      | true =>
        cases eb : b.testBit j with
        | false => simp
        | true => exact (h.2.2 j ea eb).elim
      | false =>
        rw [ea] at this
        simp at this
        simp [hj, this]
    · cases eb : b.testBit j with
      | true => exact (hj (bit_small h.2.1 eb)).elim
      | false => simp [hj]
  have h3 := hex hB (.inl rfl) h.1
  rw [show 3 - 1 = 2 from rfl, hb, h1, h2] at h3
  cases h3

/-! ### turned and mirrored -/
/-- Each place is taken by just one. -/
structure Perm (f : Nat → Nat) (n : Nat) : Prop where
  lt : ∀ k, k < n → f k < n
  inj : ∀ i k, i < n → k < n → f i = f k → i = k
  onto : ∀ j, j < n → ∃ k, k < n ∧ f k = j

theorem moved_at {f : Nat → Nat} {S n k : Nat} (hf : Perm f n) (hk : k < n) : (moved f S n).testBit (f k) = S.testBit k := by
  rw [Bool.eq_iff_iff, moved_bit]
  constructor
  · rintro ⟨i, hi, h, e⟩
    rw [hf.inj k i hk hi e]; exact h
  · intro h; exact ⟨k, hk, h, rfl⟩

theorem moved_lt {f : Nat → Nat} {S n : Nat} (hf : Perm f n) : moved f S n < 2 ^ n := by
  apply Nat.lt_pow_two_of_testBit
  intro i hi
  cases e : (moved f S n).testBit i with
  | false => rfl
  | true =>
    obtain ⟨k, hk, _, rfl⟩ := (moved_bit f S n i).1 e
    have := hf.lt k hk
    omega

theorem Pos.moved {R C R' C' a b : Nat} {f : Nat → Nat} (hn : R' * C' = R * C) (hf : Perm f (R * C)) (h : Pos R C a b) : Pos R' C' (moved f a (R * C)) (moved f b (R * C)) := by
  refine ⟨by rw [hn]; exact moved_lt hf, by rw [hn]; exact moved_lt hf, fun j h1 h2 => ?_⟩
  obtain ⟨i, hi, ha, rfl⟩ := (moved_bit _ _ _ _).1 h1
  rw [moved_at hf hi] at h2
  exact h.2.2 i ha h2

end Go.Proofs.Ytihlmjapddjjjaa

/- A game in which both take cells in turn until one of both has what is wanted: never have both, and on a full board one has. Who wins, that a cell more never harms, and that to move never harms. No program text. -/
set_option maxRecDepth 20000
namespace Go.Proofs.Ytihlmjapddjjjaa
open Go Go.Ip G

/-- What the first one wants, and the second one: more never harms, and on a full board just one of both has it. -/
structure Game (n : Nat) (J1 J2 : Nat → Bool) : Prop where
  mono1 : ∀ a b, a < 2 ^ n → b < 2 ^ n → (∀ j, a.testBit j = true → b.testBit j = true) → J1 a = true → J1 b = true
  mono2 : ∀ a b, a < 2 ^ n → b < 2 ^ n → (∀ j, a.testBit j = true → b.testBit j = true) → J2 a = true → J2 b = true
  ex : ∀ a, a < 2 ^ n → J2 (2 ^ n - 1 - a) = !J1 a

def gWinF (n : Nat) (J1 J2 : Nat → Bool) : Nat → Nat → Nat → Nat → Nat
  | 0, a, b, t => if J1 a = true then 1 else if J2 b = true then 2 else 3 - t
  | f + 1, a, b, t => if J1 a = true then 1 else if J2 b = true then 2 else
      if ((List.range n).any fun k => !(a ||| b).testBit k && decide (gWinF n J1 J2 f (putA t k a) (putB t k b) (3 - t) = t)) = true then t else 3 - t

def gWin (n : Nat) (J1 J2 : Nat → Bool) (a b t : Nat) : Nat := gWinF n J1 J2 n a b t

/-- A position, by its two sets. -/
def gPos (n a b : Nat) : Prop := a < 2 ^ n ∧ b < 2 ^ n ∧ ∀ j, a.testBit j = true → b.testBit j = true → False

theorem gPos.put {n a b t k : Nat} (h : gPos n a b) (hk : k < n) (hf : (a ||| b).testBit k = false) : gPos n (putA t k a) (putB t k b) := by
  rw [Nat.testBit_or, Bool.or_eq_false_iff] at hf
  have hl : 1 <<< k < 2 ^ n := by rw [Nat.one_shiftLeft]; exact Nat.pow_lt_pow_right (by decide) hk
  unfold putA putB
  split
  · refine ⟨Nat.or_lt_two_pow h.1 hl, h.2.1, fun j h1 h2 => ?_⟩
    rw [with_bit, Bool.or_eq_true, decide_eq_true_eq] at h1
    rcases h1 with h1 | rfl
    · exact h.2.2 j h1 h2
    · rw [hf.2] at h2; cases h2
  · refine ⟨h.1, Nat.or_lt_two_pow h.2.1 hl, fun j h1 h2 => ?_⟩
    rw [with_bit, Bool.or_eq_true, decide_eq_true_eq] at h2
    rcases h2 with h2 | rfl
    · exact h.2.2 j h1 h2
    · rw [hf.1] at h1; cases h1

/-- Never have both. -/
theorem gPos.both {n a b : Nat} {J1 J2 : Nat → Bool} (hB : Game n J1 J2) (h : gPos n a b) (h1 : J1 a = true) : J2 b = false := by
  cases e : J2 b with
  | false => rfl
  | true =>
    have hc : 2 ^ n - 1 - a < 2 ^ n := by have := Nat.two_pow_pos n; omega
    have h2 := hB.mono2 b _ h.2.1 hc (fun j hj => by
      rw [compl_bit h.1]
      have hjn := bit_small h.2.1 hj
      cases ea : a.testBit j with
      | false => simp [hjn]
      | true => exact (h.2.2 j ea hj).elim) e
    rw [hB.ex a h.1, h1] at h2
    cases h2
/-- If nobody has joined there is a free cell. -/
theorem gPos.free {n a b : Nat} {J1 J2 : Nat → Bool} (hB : Game n J1 J2) (h : gPos n a b) (h1 : J1 a = false) (h2 : J2 b = false) : ∃ k, k < n ∧ (a ||| b).testBit k = false := by
  apply Classical.byContradiction
  intro hn
  have hall : ∀ k, k < n → (a ||| b).testBit k = true := fun k hk => by
    cases e : (a ||| b).testBit k with
    | true => rfl
    | false => exact (hn ⟨k, hk, e⟩).elim
  have hb : 2 ^ n - 1 - a = b := by
    apply Nat.eq_of_testBit_eq
    intro j
    rw [compl_bit h.1]
    by_cases hj : j < n
    · have := hall j hj
      rw [Nat.testBit_or, Bool.or_eq_true] at this
      cases ea : a.testBit j with
      | true =>
        cases eb : b.testBit j with
        | false => simp
        | true => exact (h.2.2 j ea eb).elim
      | false =>
        rw [ea] at this
        simp at this
        simp [hj, this]
    · cases eb : b.testBit j with
      | true => exact (hj (bit_small h.2.1 eb)).elim
      | false => simp [hj]
  have h3 := hB.ex a h.1
  rw [hb, h1, h2] at h3
  cases h3

end Go.Proofs.Ytihlmjapddjjjaa

/- Nets: which nodes are come to by a set of wires; sets that link the ends. No program text. -/
set_option maxRecDepth 20000
namespace Go.Proofs.Ytihlmjapddjjjaa
open Go Go.Ip G

/-- All wires are between two different nodes of at most five. -/
def NetN (nodes : Nat) (ws : List (Nat × Nat)) : Prop := 2 ≤ nodes ∧ nodes ≤ 5 ∧ ws.length ≤ 8 ∧ ∀ w ∈ ws, w.1 < nodes ∧ w.2 < nodes ∧ w.1 ≠ w.2

/-- One comes from a node to another one by wires of a set. -/
inductive Conn (ws : List (Nat × Nat)) (set u : Nat) : Nat → Prop where
  | refl : Conn ws set u u
  | fwd {v k : Nat} {w : Nat × Nat} : Conn ws set u v → ws[k]? = some w → set.testBit k = true → w.1 = v → Conn ws set u w.2
  | bwd {v k : Nat} {w : Nat × Nat} : Conn ws set u v → ws[k]? = some w → set.testBit k = true → w.2 = v → Conn ws set u w.1

theorem Conn.mono {ws : List (Nat × Nat)} {S S' u v : Nat} (hm : ∀ j, S.testBit j = true → S'.testBit j = true) (h : Conn ws S u v) : Conn ws S' u v := by
  induction h with
  | refl => exact .refl
  | fwd _ hw hs e ih => exact .fwd ih hw (hm _ hs) e
  | bwd _ hw hs e ih => exact .bwd ih hw (hm _ hs) e
theorem Conn.trans {ws : List (Nat × Nat)} {S u v x : Nat} (h : Conn ws S u v) (h2 : Conn ws S v x) : Conn ws S u x := by
  induction h2 with
  | refl => exact h
  | fwd _ hw hs e ih => exact .fwd ih hw hs e
  | bwd _ hw hs e ih => exact .bwd ih hw hs e
theorem Conn.symm {ws : List (Nat × Nat)} {S u v : Nat} (h : Conn ws S u v) : Conn ws S v u := by
  induction h with
  | refl => exact .refl
  | fwd _ hw hs e ih => subst e; exact (Conn.bwd .refl hw hs rfl).trans ih
  | bwd _ hw hs e ih => subst e; exact (Conn.fwd .refl hw hs rfl).trans ih

end Go.Proofs.Ytihlmjapddjjjaa

/- Least sets of wires that link, and that cut. No program text. -/
set_option maxRecDepth 20000
namespace Go.Proofs.Ytihlmjapddjjjaa
open Go Go.Ip G

section
variable {nodes : Nat} {ws : List (Nat × Nat)} (hn : NetN nodes ws)
include hn
end

end Go.Proofs.Ytihlmjapddjjjaa

/- A further wire never harms who joins; with two wires between the ends the first one wins. No program text. -/
set_option maxRecDepth 20000
namespace Go.Proofs.Ytihlmjapddjjjaa
open Go Go.Ip G

theorem Conn.more {ws l : List (Nat × Nat)} {S u v : Nat} (h : Conn ws S u v) : Conn (ws ++ l) S u v := by
  have hg : ∀ {k : Nat} {w}, ws[k]? = some w → (ws ++ l)[k]? = some w := fun hw => by rw [List.getElem?_append_left (List.getElem?_eq_some_iff.1 hw).1]; exact hw
  induction h with
  | refl => exact .refl
  | fwd _ hw hs e ih => exact .fwd ih (hg hw) hs e
  | bwd _ hw hs e ih => exact .bwd ih (hg hw) hs e
end Go.Proofs.Ytihlmjapddjjjaa

/- The gap of wires: layers of nodes, by how many free wires must be taken to come to them. No program text. -/
set_option maxRecDepth 20000
namespace Go.Proofs.Ytihlmjapddjjjaa
open Go Go.Ip G

/-! ### as it is reckoned -/
/-! ### as sets of nodes -/
def Cr (ws : List (Nat × Nat)) (free : Nat) (S : Nat → Prop) (u : Nat) : Prop := ∃ k w, ws[k]? = some w ∧ free.testBit k = true ∧ ((u = w.1 ∧ S w.2) ∨ (u = w.2 ∧ S w.1))
def Ly (ws : List (Nat × Nat)) (own free : Nat) : Nat → Nat → Prop
  | 0, v => Conn ws own 0 v
  | c + 1, v => ∃ u, (Ly ws own free c u ∨ Cr ws free (Ly ws own free c) u) ∧ Conn ws own u v

section
variable {ws : List (Nat × Nat)} {own free : Nat}
theorem Cr.mono {S T : Nat → Prop} {f f' u : Nat} (hf : ∀ j, f.testBit j = true → f'.testBit j = true) (hS : ∀ v, S v → T v) (h : Cr ws f S u) : Cr ws f' T u := by
  obtain ⟨k, w, hw, hk, h⟩ := h
  refine ⟨k, w, hw, hf k hk, ?_⟩
  rcases h with ⟨h1, h2⟩ | ⟨h1, h2⟩
  · exact .inl ⟨h1, hS _ h2⟩
  · exact .inr ⟨h1, hS _ h2⟩
/-- With the free wires owned as well one comes to just what some layer holds. -/
theorem Ly.conn {c v : Nat} (h : Ly ws own free c v) : Conn ws (own ||| free) 0 v := by
  induction c generalizing v with
  | zero => exact Conn.mono (fun j hj => by rw [Nat.testBit_or, hj]; rfl) (show Conn ws own 0 v from h)
  | succ c ih =>
    obtain ⟨u, hu, hc⟩ := h
    have hc' : Conn ws (own ||| free) u v := hc.mono fun j hj => by rw [Nat.testBit_or, hj]; rfl
    refine Conn.trans ?_ hc'
    rcases hu with hu | ⟨k, w, hw, hk, h⟩
    · exact ih hu
    · have hb : (own ||| free).testBit k = true := by rw [Nat.testBit_or, hk, Bool.or_true]
      rcases h with ⟨rfl, h2⟩ | ⟨rfl, h2⟩
      · exact .bwd (ih h2) hw hb rfl
      · exact .fwd (ih h2) hw hb rfl
/-! ### a free wire that is taken -/
theorem Ly.more {e : Nat} {we : Nat × Nat} (he : ws[e]? = some we) {c v : Nat} (h : Ly ws own free c v) : Ly ws (own ||| (1 <<< e)) (without free e) c v := by
  have hm : ∀ j, own.testBit j = true → (own ||| (1 <<< e)).testBit j = true := fun j hj => by rw [with_bit, hj]; rfl
  have hbe : (own ||| (1 <<< e)).testBit e = true := by rw [with_bit]; simp
  induction c generalizing v with
  | zero => exact Conn.mono hm (show Conn ws own 0 v from h)
  | succ c ih =>
    obtain ⟨u, hu, hc⟩ := h
    have hc' := hc.mono hm
    rcases hu with hu | ⟨k, w, hw, hk, h⟩
    · exact ⟨u, .inl (ih hu), hc'⟩
    · by_cases hke : k = e
      · subst hke
        obtain rfl := Option.some.inj (he.symm.trans hw)
        rcases h with ⟨rfl, h2⟩ | ⟨rfl, h2⟩
        · exact ⟨we.2, .inl (ih h2), (Conn.bwd .refl he hbe rfl).trans hc'⟩
        · exact ⟨we.1, .inl (ih h2), (Conn.fwd .refl he hbe rfl).trans hc'⟩
      · refine ⟨u, .inr ⟨k, w, hw, by rw [without_bit, hk]; simp [hke], ?_⟩, hc'⟩
        rcases h with ⟨h1, h2⟩ | ⟨h1, h2⟩
        · exact .inl ⟨h1, ih h2⟩
        · exact .inr ⟨h1, ih h2⟩
end

/-! ### what is reckoned are the layers -/
theorem Conn.lt {nodes : Nat} {ws : List (Nat × Nat)} (hn : NetN nodes ws) {S u v : Nat} (hu : u < nodes) (h : Conn ws S u v) : v < nodes := by
  cases h with
  | refl => exact hu
  | fwd _ hw _ _ => exact (hn.2.2.2 _ (List.mem_of_getElem? hw)).2.1
  | bwd _ hw _ _ => exact (hn.2.2.2 _ (List.mem_of_getElem? hw)).1

section
variable {nodes : Nat} {ws : List (Nat × Nat)} (hn : NetN nodes ws) {own free : Nat}
include hn
theorem Ly.lt {c v : Nat} (h : Ly ws own free c v) : v < nodes := by
  have := hn.1
  exact Conn.lt hn (by omega) h.conn
end

end Go.Proofs.Ytihlmjapddjjjaa

/- Rules to walk through a function's plain form with what is to hold in the end: binds, conditions, guards, comparisons, numbers, calls and loops. -/
set_option maxRecDepth 20000
namespace Go.Proofs.Ytihlmjapddjjjaa
open Go Go.Ip G

/-- The result is there, and Q holds of it. -/
def W (x : Res) (Q : PV → PHeap → Prop) : Prop := ∃ v h', x = some (v, h') ∧ Q v h'

section
variable {α : Type} {Q Q' : PV → PHeap → Prop} {P : Program} {t : TypeId} {k : IntKind}

theorem W.ret {v : PV} {h : PHeap} (hq : Q v h) : W (some (v, h)) Q := ⟨v, h, rfl, hq⟩
theorem W.mono {x : Res} (hx : W x Q') (hf : ∀ v h, Q' v h → Q v h) : W x Q := by
  obtain ⟨v, h, e, q⟩ := hx; exact ⟨v, h, e, hf v h q⟩
theorem W.of {x : Res} {v : PV} {h : PHeap} (hx : x = some (v, h)) (hq : Q v h) : W x Q := ⟨v, h, hx, hq⟩
theorem wbd {x : Option α} {v : α} {f : α → Res} (hx : x = some v) (hf : W (f v) Q) : W (x.bind f) Q := by rw [hx]; exact hf
theorem wcall {x : Res} {f : PV × PHeap → Res} (hx : W x Q') (hf : ∀ v h, Q' v h → W (f (v, h)) Q) : W (x.bind f) Q := by
  obtain ⟨v, h, e, q⟩ := hx; rw [e]; exact hf v h q
theorem wT {x y : Res} (h : W x Q) : W (condP (.bool true) x y) Q := h
theorem wF {x y : Res} (h : W y Q) : W (condP (.bool false) x y) Q := h
theorem wg1 {b u : Bool} {x y : Option α} {f : α → Res} (hb : b = u) (hx : W (x.bind f) Q) : W ((wantV (.bool b) u).bind fun v => (bif v then x else y).bind f) Q := by
  subst hb; simpa using hx
theorem wg0 {b u : Bool} {x y : Option α} {f : α → Res} (hb : b = !u) (hy : W (y.bind f) Q) : W ((wantV (.bool b) u).bind fun v => (bif v then x else y).bind f) Q := by
  subst hb; cases u <;> simpa using hy
theorem wpT {u v : PV} {f : PV → Res} (h : W (f u) Q) : W ((pickP (.bool true) u v).bind f) Q := h
theorem wpF {u v : PV} {f : PV → Res} (h : W (f v) Q) : W ((pickP (.bool false) u v).bind f) Q := h
theorem wnT {f : PV → Res} (h : W (f (.bool false)) Q) : W ((unP .not (.bool true)).bind f) Q := h
theorem wnF {f : PV → Res} (h : W (f (.bool true)) Q) : W ((unP .not (.bool false)).bind f) Q := h
theorem wpv {x : Option PV} {h : PHeap} {f : PV × PHeap → Res} (hx : W (x.bind fun v => f (v, h)) Q) : W ((pv h x).bind f) Q := by
  cases x <;> exact hx
theorem wsm {v : α} {f : α → Res} (h : W (f v) Q) : W ((some v).bind f) Q := h
theorem wrI {a : Int} {f : PV → Res} (h : W (f (.int k a)) Q) : W ((resV (.int k a)).bind f) Q := h
theorem wrB {a : Bool} {f : PV → Res} (h : W (f (.bool a)) Q) : W ((resV (.bool a)).bind f) Q := h
theorem wx0 {a : PV} {l : List PV} {f : PV → Res} (h : W (f a) Q) : W ((extractP (.tup (a :: l)) 0).bind f) Q := h
theorem wx1 {a b : PV} {l : List PV} {f : PV → Res} (h : W (f b) Q) : W ((extractP (.tup (a :: b :: l)) 1).bind f) Q := h
theorem wx2 {a b c : PV} {l : List PV} {f : PV → Res} (h : W (f c) Q) : W ((extractP (.tup (a :: b :: c :: l)) 2).bind f) Q := h
theorem wck {b : Bool} {x : Res} (hb : b = true) (h : W x Q) : W (ckP b x) Q := by rw [hb]; exact h
/-! ### comparisons -/
section
variable {a b : Int} {f : PV → Res}
theorem wlssT (h : a < b) (hf : W (f (.bool true)) Q) : W ((binP P .lss t (.int k a) (.int k b)).bind f) Q := wbd (by rw [bin_lss, decide_eq_true h]) hf
theorem wlssF (h : ¬ a < b) (hf : W (f (.bool false)) Q) : W ((binP P .lss t (.int k a) (.int k b)).bind f) Q := wbd (by rw [bin_lss, decide_eq_false h]) hf
theorem wleqT (h : a ≤ b) (hf : W (f (.bool true)) Q) : W ((binP P .leq t (.int k a) (.int k b)).bind f) Q := wbd (by rw [bin_leq, decide_eq_true h]) hf
theorem wleqF (h : ¬ a ≤ b) (hf : W (f (.bool false)) Q) : W ((binP P .leq t (.int k a) (.int k b)).bind f) Q := wbd (by rw [bin_leq, decide_eq_false h]) hf
theorem wgtrT (h : b < a) (hf : W (f (.bool true)) Q) : W ((binP P .gtr t (.int k a) (.int k b)).bind f) Q := wbd (by rw [bin_gtr, decide_eq_true h]) hf
theorem wgtrF (h : ¬ b < a) (hf : W (f (.bool false)) Q) : W ((binP P .gtr t (.int k a) (.int k b)).bind f) Q := wbd (by rw [bin_gtr, decide_eq_false h]) hf
theorem wgeqT (h : b ≤ a) (hf : W (f (.bool true)) Q) : W ((binP P .geq t (.int k a) (.int k b)).bind f) Q := wbd (by rw [bin_geq, decide_eq_true h]) hf
theorem wgeqF (h : ¬ b ≤ a) (hf : W (f (.bool false)) Q) : W ((binP P .geq t (.int k a) (.int k b)).bind f) Q := wbd (by rw [bin_geq, decide_eq_false h]) hf
theorem weqlT (h : a = b) (hf : W (f (.bool true)) Q) : W ((binP P .eql t (.int k a) (.int k b)).bind f) Q := wbd (by rw [bin_eql, beq_iff_eq.2 h]) hf
theorem weqlF (h : ¬ a = b) (hf : W (f (.bool false)) Q) : W ((binP P .eql t (.int k a) (.int k b)).bind f) Q := wbd (by rw [bin_eql, beq_eq_false_iff_ne.2 h]) hf
theorem wneqT (h : ¬ a = b) (hf : W (f (.bool true)) Q) : W ((binP P .neq t (.int k a) (.int k b)).bind f) Q := wbd (by rw [bin_neq, bne, beq_eq_false_iff_ne.2 h]; rfl) hf
theorem wneqF (h : a = b) (hf : W (f (.bool false)) Q) : W ((binP P .neq t (.int k a) (.int k b)).bind f) Q := wbd (by rw [bin_neq, bne, beq_iff_eq.2 h]; rfl) hf
theorem wlss (h1 : a < b → W (f (.bool true)) Q) (h2 : ¬ a < b → W (f (.bool false)) Q) : W ((binP P .lss t (.int k a) (.int k b)).bind f) Q := by
  by_cases e : a < b
  · exact wlssT e (h1 e)
  · exact wlssF e (h2 e)
theorem weql (h1 : a = b → W (f (.bool true)) Q) (h2 : ¬ a = b → W (f (.bool false)) Q) : W ((binP P .eql t (.int k a) (.int k b)).bind f) Q := by
  by_cases e : a = b
  · exact weqlT e (h1 e)
  · exact weqlF e (h2 e)
end

/-! ### numbers -/
section
variable {a b : Int} {x y : Nat} {f : PV → Res}
theorem wadd (h : -4611686018427387904 ≤ a + b ∧ a + b ≤ 4611686018427387904) (hf : W (f (.int .i64 (a + b))) Q) : W ((binP P .add t (.int .i64 a) (.int .i64 b)).bind f) Q := wbd (by rw [bin_add, wr (by omega)]) hf
theorem wsub (h : -4611686018427387904 ≤ a - b ∧ a - b ≤ 4611686018427387904) (hf : W (f (.int .i64 (a - b))) Q) : W ((binP P .sub t (.int .i64 a) (.int .i64 b)).bind f) Q := wbd (by rw [bin_sub, wr (by omega)]) hf
theorem wadd1 (h : x < 4611686018427387904) (hf : W (f (.int .i64 ((x + 1 : Nat) : Int))) Q) : W ((binP P .add t (.int .i64 (x : Int)) (.int .i64 1)).bind f) Q := wbd (by rw [bin_add, wr (by omega)]; rfl) hf
theorem waddN (h : x + y < 4611686018427387904) (hf : W (f (.int .i64 ((x + y : Nat) : Int))) Q) : W ((binP P .add t (.int .i64 (x : Int)) (.int .i64 (y : Int))).bind f) Q := wbd (by rw [bin_add, wr (by omega)]; rfl) hf
theorem wsub1 (h : 1 ≤ x) (h2 : x < 4611686018427387904) (hf : W (f (.int .i64 ((x - 1 : Nat) : Int))) Q) : W ((binP P .sub t (.int .i64 (x : Int)) (.int .i64 1)).bind f) Q := wbd (by rw [bin_sub, wr (by omega), show (x : Int) - 1 = ((x - 1 : Nat) : Int) by omega]) hf
end
end

section
variable {Q : PV → PHeap → Prop} {x y : Nat} {f : PV → Res}
theorem wremN (h : 1 ≤ y) (hf : W (f (.int .i64 ((x % y : Nat) : Int))) Q) : W ((binP Try.prog .rem 3 (.int .i64 (x : Int)) (.int .i64 (y : Int))).bind f) Q := wbd (f_rem x y h) hf
/-! ### slices of integers -/
variable {h : PHeap} {p : PV} {xs : List Int}
/-- An element is read. -/
theorem wat (s : IntSl .i64 h p xs) {i : Nat} (hi : i < xs.length) (hf : ∀ a, loadP Try.prog 3 a h = some (.int .i64 xs[i]) → W (f a) Q) : W ((indexAddrP Try.prog 31 p (.int .i64 (i : Int))).bind f) Q := by
  obtain ⟨a, e, l⟩ := s.at' hi; exact wbd e (hf a l)
theorem wresO {n : Nat} (s : OwnSl n h p xs) (hf : W (f p) Q) : W ((resV p).bind f) Q := wbd s.res hf
/-- One element is appended. -/
theorem wap {n : Nat} (s : OwnSl n h p xs) (hn : n ≤ h.length) {x : Int} (hl : xs.length + 1 ≤ 2 ^ 36) {F : PV × PHeap → Res}
    (hf : ∀ p' h', OwnSl n h' p' (xs ++ [x]) → Keep n h h' → W (F (p', h')) Q) :
    W ((buildSliceP Try.prog 31 1 [(0, .int .i64 x)] h).bind fun v => (appendP Try.prog 31 31 p v.1 v.2).bind F) Q := by
  obtain ⟨v, p', h', e1, e2, o, k⟩ := s.append hn x hl
  exact wbd e1 (wbd e2 (hf p' h' o k))
/-- A slice is made. -/
theorem wmake {m : Nat} (hm : m ≤ 2 ^ 36) {F : PV × PHeap → Res} (hf : ∀ p h', OwnSl h.length h' p (List.replicate m 0) → Keep h.length h h' → W (F (p, h')) Q) :
    W ((makeP Try.prog 31 (.int .i64 (m : Int)) (.int .i64 (m : Int)) h).bind F) Q := by
  obtain ⟨p, h', e, o, k⟩ := made (h := h) hm; exact wbd e (hf p h' o k)
theorem wempty {F : PV × PHeap → Res} (hf : ∀ p h', OwnSl h.length h' p [] → Keep h.length h h' → W (F (p, h')) Q) : W ((buildSliceP Try.prog 31 0 [] h).bind F) Q := by
  obtain ⟨p, h', e, o, k⟩ := empty_lit (h := h); exact wbd e (hf p h' o k)
end

/-! ### loops -/
theorem loopW {f : St → (PX → St → Res) → Res} {k : PX → St → Res} {Q : PV → PHeap → Prop} (I : Nat → St → Prop)
    (step : ∀ n m s, I m s → (∀ m' s', m' < m → I m' s' → W (kLoop f n k .normal s') Q) → W (f s (kLoop f n k)) Q) : ∀ (fuel m : Nat) (s : St), m < fuel → I m s → W (loopK f fuel s k) Q
  | 0, m, s, hm, _ => by omega
  | n + 1, m, s, hm, hI => by
    rw [loopK_succ]
    exact step n m s hI fun m' s' hm' hI' => by rw [kLoop_normal]; exact loopW I step n m' s' (by omega) hI'

/-- A list that whatever changes behind mark b leaves as it is. -/
def Fix (b : Nat) (h : PHeap) (p : PV) (xs : List Int) : Prop := ∀ h', Keep b h h' → IntSl .i64 h' p xs
theorem Fix.now {b : Nat} {h : PHeap} {p : PV} {xs : List Int} (s : Fix b h p xs) : IntSl .i64 h p xs := s h (Keep.refl _ _)
theorem Fix.keep {b : Nat} {h h' : PHeap} {p : PV} {xs : List Int} (s : Fix b h p xs) (k : Keep b h h') : Fix b h' p xs := fun h2 k2 => s h2 (k.trans k2)
theorem IntSl.fix {h : PHeap} {p : PV} {xs : List Int} (s : IntSl .i64 h p xs) : Fix h.length h p xs := fun _ k => s.keep k
theorem Fix.mono {b b' : Nat} {h : PHeap} {p : PV} {xs : List Int} (s : Fix b h p xs) (hb : b ≤ b') : Fix b' h p xs := fun h2 k2 => s h2 (k2.mono hb)

end Go.Proofs.Ytihlmjapddjjjaa

/- The laws of chapter 2 over what the program's functions are asked to compute: the draws, the exact laws, and promise 9. -/
set_option maxRecDepth 20000
namespace Go.Proofs.Ytihlmjapddjjjaa
open Go Go.Ip G

def TabT (g : Nat → PV) (h : PHeap) : Prop := Tab64 g h
theorem TabT.keep {g : Nat → PV} {h h' : PHeap} (t : TabT g h) (k : Keep h.length h h') : TabT g h' := Tab64.keep t k
def TabOk (g : Nat → PV) (h : PHeap) : Prop := TabT g h
theorem TabOk.keep {g : Nat → PV} {h h' : PHeap} (t : TabOk g h) (k : Keep h.length h h') : TabOk g h' := TabT.keep t k

variable (g : Nat → PV) (lf n : Nat)

/-! ### the exact laws -/
/-! ### the draws -/
end Go.Proofs.Ytihlmjapddjjjaa

/- Promises 11, 12, 13 and 14 over what the program's functions are asked to compute. -/
set_option maxRecDepth 20000
namespace Go.Proofs.Ytihlmjapddjjjaa
open Go Go.Ip G

/-! ### more facts on positions -/
variable (g : Nat → PV) (lf n : Nat)

/-! ### promise 12 -/
end Go.Proofs.Ytihlmjapddjjjaa

/- Promises 13 and 14 over what the program's functions are asked to compute. -/
set_option maxRecDepth 20000
namespace Go.Proofs.Ytihlmjapddjjjaa
open Go Go.Ip G

/-! ### the cells that close a gap -/
variable (g : Nat → PV) (lf n : Nat)

/-! ### gaps of free boards, and mirrored -/
end Go.Proofs.Ytihlmjapddjjjaa

/- Promises 10 and 15 over what the program's functions are asked to compute. -/
set_option maxRecDepth 20000
namespace Go.Proofs.Ytihlmjapddjjjaa
open Go Go.Ip G

/-! ### lists of sets -/
/-! ### masks -/
/-! ### groups -/
variable (g : Nat → PV) (lf n : Nat)

theorem loadAt {xs : List Int} {p a : PV} {h : PHeap} {i : Nat} (hp : IntSl .i64 h p xs) (hi : i < xs.length) (ha : indexAddrP Try.prog 31 p (.int .i64 (i : Int)) = some a) : loadP Try.prog 3 a h = some (.int .i64 xs[i]) := by
  obtain ⟨a', ha', hla⟩ := hp.at' hi
  obtain rfl : a = a' := Option.some.inj (ha.symm.trans ha')
  exact hla

end Go.Proofs.Ytihlmjapddjjjaa

/- Promise 15 over what the program's functions are asked to compute. -/
set_option maxRecDepth 20000
namespace Go.Proofs.Ytihlmjapddjjjaa
open Go Go.Ip G

/-! ### sides -/
variable (g : Nat → PV) (lf n : Nat)

end Go.Proofs.Ytihlmjapddjjjaa

/- What chapter 3's functions tell of a position (moveL, playedL, winL, winCellsL, lineL), and what holds of them. No program text. -/
set_option maxRecDepth 20000
namespace Go.Proofs.Ytihlmjapddjjjaa
open Go Go.Ip G

/-! ### none -/
/-! ### sets -/
section
variable {R C : Nat} {xs : List Int} (hb : posB (R : Int) (C : Int) xs = true) (hS : Sides (R : Int) (C : Int) R C xs)
include hS
omit hS
include hb
include hS
end

/-! ### turned, mirrored -/
section
variable {R C : Nat} {xs : List Int} (hb : posB (R : Int) (C : Int) xs = true) (hS : Sides (R : Int) (C : Int) R C xs)
include hb hS
end

/-! ### moves -/
/-! ### winning cells -/
section
variable {R C : Nat} {xs : List Int} (hb : posB (R : Int) (C : Int) xs = true) (hS : Sides (R : Int) (C : Int) R C xs)
include hb hS
omit hb hS
include hb hS
end

/-! ### played on -/
section
variable {R C : Nat} {xs : List Int} (hb : posB (R : Int) (C : Int) xs = true) (hS : Sides (R : Int) (C : Int) R C xs)
include hb hS
end

end Go.Proofs.Ytihlmjapddjjjaa

/- The model's table of who wins: each position has a place of its own in it. No program text. -/
set_option maxRecDepth 20000
namespace Go.Proofs.Ytihlmjapddjjjaa
open Go Go.Ip G

/-- The place of a position, from its first k cells: the same number as the model reckons. -/
def keyF (a b : Nat) : Nat → Nat
  | 0 => 0
  | k + 1 => 3 * keyF a b k + (a >>> k % 2) + 2 * (b >>> k % 2)

theorem digit_le {R C a b : Nat} (h : Pos R C a b) (k : Nat) : a >>> k % 2 + 2 * (b >>> k % 2) ≤ 2 := by
  have h1 := bit_iff a k
  have h2 := bit_iff b k
  rcases Nat.mod_two_eq_zero_or_one (a >>> k) with e1 | e1 <;> rcases Nat.mod_two_eq_zero_or_one (b >>> k) with e2 | e2
  · omega
  · omega
  · omega
  · exact (h.2.2 k (h1.1 e1) (h2.1 e2)).elim
theorem key_lt {R C a b : Nat} (h : Pos R C a b) : ∀ k, keyF a b k < 3 ^ k
  | 0 => Nat.zero_lt_one
  | k + 1 => by
    have ih := key_lt h k
    have hd := digit_le h k
    rw [keyF, Nat.pow_succ]; omega
theorem key_inj {R C a b a' b' : Nat} (h : Pos R C a b) (h' : Pos R C a' b') : ∀ k, keyF a b k = keyF a' b' k → ∀ i, i < k → a.testBit i = a'.testBit i ∧ b.testBit i = b'.testBit i
  | 0, _, i, hi => by omega
  | k + 1, he, i, hi => by
    have hd := digit_le h k
    have hd' := digit_le h' k
    rw [keyF, keyF] at he
    have e1 : keyF a b k = keyF a' b' k := by omega
    have e2 : a >>> k % 2 = a' >>> k % 2 ∧ b >>> k % 2 = b' >>> k % 2 := by
      have := Nat.mod_two_eq_zero_or_one (a >>> k); have := Nat.mod_two_eq_zero_or_one (a' >>> k); omega
    by_cases hik : i = k
    · subst hik
      have t : ∀ x y : Nat, x >>> i % 2 = y >>> i % 2 → x.testBit i = y.testBit i := fun x y e => by
        rw [Bool.eq_iff_iff, ← bit_iff, ← bit_iff, e]
      exact ⟨t _ _ e2.1, t _ _ e2.2⟩
    · exact key_inj h h' k e1 i (by omega)
theorem key_pos {R C a b a' b' : Nat} (h : Pos R C a b) (h' : Pos R C a' b') (he : keyF a b (R * C) = keyF a' b' (R * C)) : a = a' ∧ b = b' := by
  have hk := key_inj h h' _ he
  have t : ∀ x y : Nat, x < 2 ^ (R * C) → y < 2 ^ (R * C) → (∀ i, i < R * C → x.testBit i = y.testBit i) → x = y := fun x y hx hy hxy => by
    apply Nat.eq_of_testBit_eq
    intro j
    by_cases hj : j < R * C
    · exact hxy j hj
    · have e1 : x.testBit j = false := Nat.testBit_lt_two_pow (Nat.lt_of_lt_of_le hx (Nat.pow_le_pow_right (by decide) (by omega)))
      have e2 : y.testBit j = false := Nat.testBit_lt_two_pow (Nat.lt_of_lt_of_le hy (Nat.pow_le_pow_right (by decide) (by omega)))
      rw [e1, e2]
  exact ⟨t _ _ h.1 h'.1 fun i hi => (hk i hi).1, t _ _ h.2.1 h'.2.1 fun i hi => (hk i hi).2⟩

def keyN (R C a b t : Nat) : Nat := 2 * keyF a b (R * C) + (t - 1)
/-- What the table holds: nothing, or who wins. -/
def Inv (R C : Nat) (T : List Int) : Prop := T.length = 2 * 3 ^ (R * C) ∧ ∀ a b t, Pos R C a b → (t = 1 ∨ t = 2) → T[keyN R C a b t]? = some 0 ∨ T[keyN R C a b t]? = some ((winN R C a b t : Nat) : Int)

theorem keyN_lt {R C a b t : Nat} (h : Pos R C a b) (ht : t = 1 ∨ t = 2) : keyN R C a b t < 2 * 3 ^ (R * C) := by
  have := key_lt h (R * C); unfold keyN; omega
theorem Inv.new (R C : Nat) : Inv R C (List.replicate (2 * 3 ^ (R * C)) 0) := by
  refine ⟨List.length_replicate, fun a b t h ht => .inl ?_⟩
  rw [List.getElem?_replicate, if_pos (keyN_lt h ht)]
theorem Inv.put {R C a b t : Nat} {T : List Int} (hi : Inv R C T) (h : Pos R C a b) (ht : t = 1 ∨ t = 2) : Inv R C (T.set (keyN R C a b t) ((winN R C a b t : Nat) : Int)) := by
  refine ⟨by rw [List.length_set]; exact hi.1, fun a' b' t' h' ht' => ?_⟩
  rw [List.getElem?_set]
  by_cases e : keyN R C a b t = keyN R C a' b' t'
  · right
    rw [if_pos e, if_pos (by rw [hi.1]; exact keyN_lt h ht)]
    unfold keyN at e
    have e1 : keyF a b (R * C) = keyF a' b' (R * C) := by omega
    have e2 : t = t' := by omega
    obtain ⟨rfl, rfl⟩ := key_pos h h' e1
    rw [e2]
  · rw [if_neg e]; exact hi.2 a' b' t' h' ht'
theorem Inv.get {R C a b t : Nat} {T : List Int} (hi : Inv R C T) (h : Pos R C a b) (ht : t = 1 ∨ t = 2) : ∃ hl : keyN R C a b t < T.length, T[keyN R C a b t] = 0 ∨ T[keyN R C a b t] = ((winN R C a b t : Nat) : Int) := by
  have hl : keyN R C a b t < T.length := by rw [hi.1]; exact keyN_lt h ht
  refine ⟨hl, ?_⟩
  have := hi.2 a b t h ht
  rw [List.getElem?_eq_getElem hl] at this
  exact this.imp Option.some.inj Option.some.inj

end Go.Proofs.Ytihlmjapddjjjaa

/- Nets as lists, and the model's table of a game in which both take cells. No program text. -/
set_option maxRecDepth 20000
namespace Go.Proofs.Ytihlmjapddjjjaa
open Go Go.Ip G

theorem gdigit_le {n a b : Nat} (h : gPos n a b) (k : Nat) : a >>> k % 2 + 2 * (b >>> k % 2) ≤ 2 := by
  have h1 := bit_iff a k
  have h2 := bit_iff b k
  rcases Nat.mod_two_eq_zero_or_one (a >>> k) with e1 | e1 <;> rcases Nat.mod_two_eq_zero_or_one (b >>> k) with e2 | e2
  · omega
  · omega
  · omega
  · exact (h.2.2 k (h1.1 e1) (h2.1 e2)).elim
theorem gkey_lt {n a b : Nat} (h : gPos n a b) : ∀ k, keyF a b k < 3 ^ k
  | 0 => Nat.zero_lt_one
  | k + 1 => by
    have ih := gkey_lt h k
    have hd := gdigit_le h k
    rw [keyF, Nat.pow_succ]; omega
theorem gkey_inj {n a b a' b' : Nat} (h : gPos n a b) (h' : gPos n a' b') : ∀ k, keyF a b k = keyF a' b' k → ∀ i, i < k → a.testBit i = a'.testBit i ∧ b.testBit i = b'.testBit i
  | 0, _, i, hi => by omega
  | k + 1, he, i, hi => by
    have hd := gdigit_le h k
    have hd' := gdigit_le h' k
    rw [keyF, keyF] at he
    have e1 : keyF a b k = keyF a' b' k := by omega
    have e2 : a >>> k % 2 = a' >>> k % 2 ∧ b >>> k % 2 = b' >>> k % 2 := by
      have := Nat.mod_two_eq_zero_or_one (a >>> k); have := Nat.mod_two_eq_zero_or_one (a' >>> k); omega
    by_cases hik : i = k
    · subst hik
      have t : ∀ x y : Nat, x >>> i % 2 = y >>> i % 2 → x.testBit i = y.testBit i := fun x y e => by
        rw [Bool.eq_iff_iff, ← bit_iff, ← bit_iff, e]
      exact ⟨t _ _ e2.1, t _ _ e2.2⟩
    · exact gkey_inj h h' k e1 i (by omega)
theorem gkey_pos {n a b a' b' : Nat} (h : gPos n a b) (h' : gPos n a' b') (he : keyF a b (n) = keyF a' b' (n)) : a = a' ∧ b = b' := by
  have hk := gkey_inj h h' _ he
  have t : ∀ x y : Nat, x < 2 ^ (n) → y < 2 ^ (n) → (∀ i, i < n → x.testBit i = y.testBit i) → x = y := fun x y hx hy hxy => by
    apply Nat.eq_of_testBit_eq
    intro j
    by_cases hj : j < n
    · exact hxy j hj
    · have e1 : x.testBit j = false := Nat.testBit_lt_two_pow (Nat.lt_of_lt_of_le hx (Nat.pow_le_pow_right (by decide) (by omega)))
      have e2 : y.testBit j = false := Nat.testBit_lt_two_pow (Nat.lt_of_lt_of_le hy (Nat.pow_le_pow_right (by decide) (by omega)))
      rw [e1, e2]
  exact ⟨t _ _ h.1 h'.1 fun i hi => (hk i hi).1, t _ _ h.2.1 h'.2.1 fun i hi => (hk i hi).2⟩


def gkeyN (n a b t : Nat) : Nat := 2 * keyF a b (n) + (t - 1)
/-- What the table holds: nothing, or who wins. -/
def GInv (n : Nat) (J1 J2 : Nat → Bool) (T : List Int) : Prop := T.length = 2 * 3 ^ (n) ∧ ∀ a b t, gPos n a b → (t = 1 ∨ t = 2) → T[gkeyN n a b t]? = some 0 ∨ T[gkeyN n a b t]? = some ((gWin n J1 J2 a b t : Nat) : Int)

theorem gkeyN_lt {n a b t : Nat} (h : gPos n a b) (ht : t = 1 ∨ t = 2) : gkeyN n a b t < 2 * 3 ^ (n) := by
  have := gkey_lt h (n); unfold gkeyN; omega
theorem GInv.new (n : Nat) (J1 J2 : Nat → Bool) : GInv n J1 J2 (List.replicate (2 * 3 ^ (n)) 0) := by
  refine ⟨List.length_replicate, fun a b t h ht => .inl ?_⟩
  rw [List.getElem?_replicate, if_pos (gkeyN_lt h ht)]
theorem GInv.put {n a b t : Nat} {J1 J2 : Nat → Bool} {T : List Int} (hi : GInv n J1 J2 T) (h : gPos n a b) (ht : t = 1 ∨ t = 2) : GInv n J1 J2 (T.set (gkeyN n a b t) ((gWin n J1 J2 a b t : Nat) : Int)) := by
  refine ⟨by rw [List.length_set]; exact hi.1, fun a' b' t' h' ht' => ?_⟩
  rw [List.getElem?_set]
  by_cases e : gkeyN n a b t = gkeyN n a' b' t'
  · right
    rw [if_pos e, if_pos (by rw [hi.1]; exact gkeyN_lt h ht)]
    unfold gkeyN at e
    have e1 : keyF a b (n) = keyF a' b' (n) := by omega
    have e2 : t = t' := by omega
    obtain ⟨rfl, rfl⟩ := gkey_pos h h' e1
    rw [e2]
  · rw [if_neg e]; exact hi.2 a' b' t' h' ht'
theorem GInv.get {n a b t : Nat} {J1 J2 : Nat → Bool} {T : List Int} (hi : GInv n J1 J2 T) (h : gPos n a b) (ht : t = 1 ∨ t = 2) : ∃ hl : gkeyN n a b t < T.length, T[gkeyN n a b t] = 0 ∨ T[gkeyN n a b t] = ((gWin n J1 J2 a b t : Nat) : Int) := by
  have hl : gkeyN n a b t < T.length := by rw [hi.1]; exact gkeyN_lt h ht
  refine ⟨hl, ?_⟩
  have := hi.2 a b t h ht
  rw [List.getElem?_eq_getElem hl] at this
  exact this.imp Option.some.inj Option.some.inj

/-! ### nets as lists -/
/-- A wire between two different nodes. -/
def goodW (nodes : Int) (w : Int × Int) : Bool := decide (0 ≤ w.1 ∧ w.1 < nodes ∧ 0 ≤ w.2 ∧ w.2 < nodes ∧ w.1 ≠ w.2)
def wiresB (nodes : Int) (ws : List (Int × Int)) : Bool := ws.all (goodW nodes) && (decide (2 ≤ nodes ∧ nodes ≤ 5) && decide (ws.length ≤ 8))
def ownersB (nodes : Int) (ws : List (Int × Int)) (os : List Int) : Bool := os.all contentB && (wiresB nodes ws && decide (os.length = ws.length))
end Go.Proofs.Ytihlmjapddjjjaa

/- Slices of wires (pairs of integers) on the interpreter's heap: how they are read, made, written and appended to. -/
set_option maxRecDepth 20000
namespace Go.Proofs.Ytihlmjapddjjjaa
open Go Go.Ip G

/-- The cells of a list of wires. -/
def wc : List (Int × Int) → List PV
  | [] => []
  | w :: l => .int .i64 w.1 :: .int .i64 w.2 :: wc l
theorem wc_length : ∀ ws, (wc ws).length = 2 * ws.length
  | [] => rfl
  | w :: l => by rw [wc, List.length_cons, List.length_cons, wc_length l, List.length_cons]; omega
theorem wc_append : ∀ a b, wc (a ++ b) = wc a ++ wc b
  | [], _ => rfl
  | w :: l, b => by rw [List.cons_append, wc, wc, wc_append l b]; rfl
theorem wc_at : ∀ (ws : List (Int × Int)) (i : Nat) (hi : i < ws.length), (wc ws)[i * 2]? = some (.int .i64 ws[i].1) ∧ (wc ws)[i * 2 + 1]? = some (.int .i64 ws[i].2)
  | [], _, h => by simp at h
  | w :: l, 0, _ => ⟨rfl, rfl⟩
  | w :: l, i + 1, h => by
    have := wc_at l i (by simpa using h)
    rw [wc, show (i + 1) * 2 = i * 2 + 1 + 1 by omega]
    exact this
theorem wc_set0 : ∀ (ws : List (Int × Int)) (i : Nat) (x : Int) (hi : i < ws.length), (wc ws).set (i * 2) (.int .i64 x) = wc (ws.set i (x, ws[i].2))
  | [], _, _, h => by simp at h
  | w :: l, 0, _, _ => rfl
  | w :: l, i + 1, x, h => by
    have := wc_set0 l i x (by simpa using h)
    rw [wc, show (i + 1) * 2 = i * 2 + 1 + 1 by omega, List.set_cons_succ, List.set_cons_succ, this]
    rfl
theorem wc_set1 : ∀ (ws : List (Int × Int)) (i : Nat) (x : Int) (hi : i < ws.length), (wc ws).set (i * 2 + 1) (.int .i64 x) = wc (ws.set i (ws[i].1, x))
  | [], _, _, h => by simp at h
  | w :: l, 0, _, _ => rfl
  | w :: l, i + 1, x, h => by
    have := wc_set1 l i x (by simpa using h)
    rw [wc, show (i + 1) * 2 + 1 = i * 2 + 1 + 1 + 1 by omega, List.set_cons_succ, List.set_cons_succ, this]
    rfl

/-- A slice of wires. -/
def WSl (h : PHeap) (p : PV) (ws : List (Int × Int)) : Prop :=
  (p = .nilsl ∧ ws = []) ∨ ∃ id off, p = .sl id off ws.length ∧ (off = 0 ∨ ws ≠ []) ∧ ∀ i x, (wc ws)[i]? = some x → (cellsAt h id)[off + i]? = some x
theorem WSl.keep {h h' : PHeap} {p : PV} {ws : List (Int × Int)} (s : WSl h p ws) (hk : Keep h.length h h') : WSl h' p ws := by
  rcases s with s | ⟨id, off, hp, hz, hc⟩
  · exact .inl s
  · exact .inr ⟨id, off, hp, hz, fun i x hx => by rw [cellsAt_keep hk (lt_of_cell (hc i x hx))]; exact hc i x hx⟩
theorem WSl.plain1 {h : PHeap} {p : PV} {ws : List (Int × Int)} (s : WSl h p ws) : plain1 p p = true := by
  rcases s with ⟨rfl, _⟩ | ⟨id, off, rfl, hz, _⟩
  · rfl
  · have h0 : off = 0 ∨ 0 < ws.length := hz.imp (fun e => e) fun e => List.length_pos_iff.2 e
    simp only [Ip.plain1, decide_true, Bool.true_and, Bool.or_eq_true, decide_eq_true_eq]
    exact h0
/-- One that the call itself made, from object n on. -/
def OwnW (n : Nat) (h : PHeap) (p : PV) (ws : List (Int × Int)) : Prop :=
  (p = .nilsl ∧ ws = []) ∨ ∃ id, n ≤ id ∧ p = .sl id 0 ws.length ∧ h[id]? = some (.own 2 (wc ws))
theorem OwnW.sl {n : Nat} {h : PHeap} {p : PV} {ws : List (Int × Int)} (s : OwnW n h p ws) : WSl h p ws := by
  rcases s with s | ⟨id, _, hp, ho⟩
  · exact .inl s
  · refine .inr ⟨id, 0, hp, .inl rfl, fun i x hx => ?_⟩
    simp [cellsAt, ho, PObj.get, hx]
theorem OwnW.mono {n m : Nat} {h : PHeap} {p : PV} {ws : List (Int × Int)} (s : OwnW n h p ws) (hm : m ≤ n) : OwnW m h p ws := by
  rcases s with s | ⟨id, h1, h2⟩
  · exact .inl s
  · exact .inr ⟨id, by omega, h2⟩
theorem OwnW.keep {n : Nat} {h h' : PHeap} {p : PV} {ws : List (Int × Int)} (s : OwnW n h p ws) (hk : Keep h.length h h') : OwnW n h' p ws := by
  rcases s with s | ⟨id, h1, h2, h3⟩
  · exact .inl s
  · exact .inr ⟨id, h1, h2, by rw [hk.2 id (List.getElem?_eq_some_iff.1 h3).1]; exact h3⟩
theorem OwnW.nil (n : Nat) (h : PHeap) : OwnW n h .nilsl [] := .inl ⟨rfl, rfl⟩
/-- A list of wires that whatever changes behind mark b leaves as it is. -/
def FixW (b : Nat) (h : PHeap) (p : PV) (ws : List (Int × Int)) : Prop := ∀ h', Keep b h h' → WSl h' p ws
theorem FixW.now {b : Nat} {h : PHeap} {p : PV} {ws : List (Int × Int)} (s : FixW b h p ws) : WSl h p ws := s h (Keep.refl _ _)
theorem FixW.keep {b : Nat} {h h' : PHeap} {p : PV} {ws : List (Int × Int)} (s : FixW b h p ws) (k : Keep b h h') : FixW b h' p ws := fun h2 k2 => s h2 (k.trans k2)
theorem WSl.fix {h : PHeap} {p : PV} {ws : List (Int × Int)} (s : WSl h p ws) : FixW h.length h p ws := fun _ k => s.keep k
theorem FixW.mono {b b' : Nat} {h : PHeap} {p : PV} {ws : List (Int × Int)} (s : FixW b h p ws) (hb : b ≤ b') : FixW b' h p ws := fun h2 k2 => s h2 (k2.mono hb)
theorem FixW.get {b : Nat} {h h' : PHeap} {p : PV} {ws : List (Int × Int)} (s : FixW b h p ws) (k : Keep b h h') : WSl h' p ws := s h' k

theorem twS : Try.prog.underlying 23 = some (.slice 29) := by kernel_rfl
theorem twSize : sizeT Try.prog 29 = some 2 := by kernel_rfl
theorem twAgg : isAggT Try.prog 29 = some true := by kernel_rfl
theorem twElem : elemT Try.prog 23 = some 29 := by kernel_rfl
theorem twZero : zeroCellsT Try.prog 29 = some [.int .i64 0, .int .i64 0] := by kernel_rfl
theorem twSmall : smallT Try.prog 29 = true := by kernel_rfl
theorem twB (a b : Int) : buildP Try.prog 29 [(0, .int .i64 a), (1, .int .i64 b)] = some (.agg [.int .i64 a, .int .i64 b]) := by kernel_rfl

theorem twFA (id off : Nat) : fieldAddrP Try.prog 29 (.ptr id off) 0 = some (.ptr id (off + 0)) := by kernel_rfl
theorem twFB (id off : Nat) : fieldAddrP Try.prog 29 (.ptr id off) 1 = some (.ptr id (off + 1)) := by kernel_rfl

section
variable {Q : PV → PHeap → Prop} {h : PHeap} {p : PV} {ws : List (Int × Int)}
theorem WSl.len (s : WSl h p ws) : lenP Try.prog 23 p = some (.int .i64 ws.length) := by
  rcases s with ⟨rfl, rfl⟩ | ⟨id, off, rfl, hz, hc⟩ <;> simp [lenP, twS]
/-- A wire's place, and what is read there. -/
theorem WSl.at (s : WSl h p ws) {i : Nat} (hi : i < ws.length) : ∃ id off, indexAddrP Try.prog 23 p (.int .i64 (i : Int)) = some (.ptr id off) ∧
    loadP Try.prog 29 (.ptr id off) h = some (.agg [.int .i64 ws[i].1, .int .i64 ws[i].2]) ∧
    loadP Try.prog 3 (.ptr id (off + 0)) h = some (.int .i64 ws[i].1) ∧ loadP Try.prog 3 (.ptr id (off + 1)) h = some (.int .i64 ws[i].2) := by
  rcases s with ⟨rfl, rfl⟩ | ⟨id, off, rfl, hz, hc⟩
  · simp at hi
  · obtain ⟨h0, h1⟩ := wc_at ws i hi
    have c0 := hc _ _ h0
    have c1 := hc _ _ h1
    refine ⟨id, off + i * 2, ?_, ?_, ?_, ?_⟩
    · simp [indexAddrP, twS, twSize, hi]
    · simp only [loadP, twAgg, twSize]
      have hl := (List.getElem?_eq_some_iff.1 c1).1
      rw [if_pos (by omega)]
      congr 2
      obtain ⟨_, c0⟩ := List.getElem?_eq_some_iff.1 c0
      obtain ⟨_, c1⟩ := List.getElem?_eq_some_iff.1 c1
      rw [List.drop_eq_getElem_cons (by omega), List.drop_eq_getElem_cons (by omega)]
      simp only [List.take_succ_cons, List.take_zero]
      rw [c0]
      congr 2
    · simp only [loadP, tyAgg, Nat.add_zero]; exact c0
    · simp only [loadP, tyAgg, Nat.add_assoc]; exact c1
theorem wfa0 {id off : Nat} {f : PV → Res} (hf : W (f (.ptr id (off + 0))) Q) : W ((fieldAddrP Try.prog 29 (.ptr id off) 0).bind f) Q := wbd (twFA id off) hf
theorem wfa1 {id off : Nat} {f : PV → Res} (hf : W (f (.ptr id (off + 1))) Q) : W ((fieldAddrP Try.prog 29 (.ptr id off) 1).bind f) Q := wbd (twFB id off) hf
theorem wbw {a b : Int} {f : PV → Res} (hf : W (f (.agg [.int .i64 a, .int .i64 b])) Q) : W ((buildP Try.prog 29 [(0, .int .i64 a), (1, .int .i64 b)]).bind f) Q := wbd (twB a b) hf
theorem wresW {n : Nat} (s : OwnW n h p ws) {f : PV → Res} (hf : W (f p) Q) : W ((resV p).bind f) Q := by
  rcases s with ⟨rfl, rfl⟩ | ⟨id, _, rfl, _⟩ <;> exact hf
/-- A wire of its own: an object of two cells. -/
def AtW (h : PHeap) (id : Nat) (a b : Int) : Prop := h[id]? = some (.own 1 [.int .i64 a, .int .i64 b])
theorem AtW.lt {id : Nat} {a b : Int} (s : AtW h id a b) : id < h.length := (List.getElem?_eq_some_iff.1 s).1
theorem AtW.keep {h' : PHeap} {id : Nat} {a b : Int} (s : AtW h id a b) (k : Keep h.length h h') : AtW h' id a b := by unfold AtW; rw [k.2 id s.lt]; exact s
theorem AtW.l0 {id : Nat} {a b : Int} (s : AtW h id a b) : loadP Try.prog 3 (.ptr id (0 + 0)) h = some (.int .i64 a) := by
  simp only [loadP, tyAgg, cellsAt]; rw [show h[id]? = _ from s]; rfl
theorem AtW.l1 {id : Nat} {a b : Int} (s : AtW h id a b) : loadP Try.prog 3 (.ptr id (0 + 1)) h = some (.int .i64 b) := by
  simp only [loadP, tyAgg, cellsAt]; rw [show h[id]? = _ from s]; rfl
theorem AtW.all {id : Nat} {a b : Int} (s : AtW h id a b) : loadP Try.prog 29 (.ptr id 0) h = some (.agg [.int .i64 a, .int .i64 b]) := by
  have hc : cellsAt h id = [.int .i64 a, .int .i64 b] := by unfold cellsAt; rw [show h[id]? = _ from s]; rfl
  simp only [loadP, twAgg, twSize, hc]; rfl
theorem walW {F : PV × PHeap → Res} (hf : ∀ h' id, AtW h' id 0 0 → Keep h.length h h' → h.length ≤ id → W (F (.ptr id 0, h')) Q) : W ((allocP Try.prog 29 h).bind F) Q := by
  have : allocP Try.prog 29 h = some (.ptr h.length 0, h ++ [.own 1 [.int .i64 0, .int .i64 0]]) := by unfold allocP; rw [twZero]; rfl
  exact wbd this (hf _ _ (by unfold AtW; simp) (Keep.append _ _ _ (Nat.le_refl _)) (Nat.le_refl _))
/-- The whole wire is written. -/
theorem wstW {id n : Nat} {a b x y : Int} (s : AtW h id x y) (hn : n ≤ id) {F : PHeap → Res} (hf : ∀ h', AtW h' id a b → Keep n h h' → h'.length = h.length → W (F h') Q) : W ((storeP Try.prog 29 (.ptr id 0) (.agg [.int .i64 a, .int .i64 b]) h).bind F) Q := by
  have hl := s.lt
  have : storeP Try.prog 29 (.ptr id 0) (.agg [.int .i64 a, .int .i64 b]) h = some (h.set id (.own 1 [.int .i64 a, .int .i64 b])) := by
    simp only [storeP]; rw [show h[id]? = _ from s, twSize]; rfl
  exact wbd this (hf _ (by unfold AtW; rw [List.getElem?_set_self hl]) (Keep.set _ _ _ _ hn) (by simp))
/-- A wire of a slice is written: whole, or one of its ends. -/
theorem OwnW.store {n : Nat} (s : OwnW n h p ws) {i : Nat} (hi : i < ws.length) : ∃ id, n ≤ id ∧ indexAddrP Try.prog 23 p (.int .i64 (i : Int)) = some (.ptr id (i * 2)) ∧
    (∀ a b, ∃ h', storeP Try.prog 29 (.ptr id (i * 2)) (.agg [.int .i64 a, .int .i64 b]) h = some h' ∧ OwnW n h' p (ws.set i (a, b)) ∧ Keep n h h' ∧ h'.length = h.length) ∧
    (∀ a, ∃ h', storeP Try.prog 3 (.ptr id (i * 2 + 0)) (.int .i64 a) h = some h' ∧ OwnW n h' p (ws.set i (a, ws[i].2)) ∧ Keep n h h' ∧ h'.length = h.length) ∧
    (∀ b, ∃ h', storeP Try.prog 3 (.ptr id (i * 2 + 1)) (.int .i64 b) h = some h' ∧ OwnW n h' p (ws.set i (ws[i].1, b)) ∧ Keep n h h' ∧ h'.length = h.length) := by
  rcases s with ⟨rfl, rfl⟩ | ⟨id, h1, rfl, h3⟩
  · simp at hi
  · have hid : id < h.length := (List.getElem?_eq_some_iff.1 h3).1
    have hwl := wc_length ws
    refine ⟨id, h1, by simp [indexAddrP, twS, twSize, hi], fun a b => ?_, fun a => ?_, fun b => ?_⟩
    · refine ⟨h.set id (.own 2 (wc (ws.set i (a, b)))), ?_, .inr ⟨id, h1, by simp, by rw [List.getElem?_set_self hid]⟩, Keep.set _ _ _ _ h1, by simp⟩
      have e1 := wc_set0 ws i a hi
      have e2 := wc_set1 (ws.set i (a, ws[i].2)) i b (by rw [List.length_set]; exact hi)
      rw [← e1, List.getElem_set_self, List.set_set] at e2
      simp only [storeP, h3, twSize]
      show (if 2 = 2 ∧ i * 2 + 2 ≤ (wc ws).length then some (h.set id (.own 2 (setCells (wc ws) (i * 2) [.int .i64 a, .int .i64 b]))) else none) = _
      rw [if_pos ⟨rfl, by omega⟩]
      simp only [setCells]
      rw [e2]
    · refine ⟨h.set id (.own 2 (wc (ws.set i (a, ws[i].2)))), ?_, .inr ⟨id, h1, by simp, by rw [List.getElem?_set_self hid]⟩, Keep.set _ _ _ _ h1, by simp⟩
      simp only [storeP, h3, tySize]
      show (if 1 = 1 ∧ i * 2 + 0 + 1 ≤ (wc ws).length then some (h.set id (.own 2 (setCells (wc ws) (i * 2 + 0) [.int .i64 a]))) else none) = _
      rw [if_pos ⟨rfl, by omega⟩]
      simp only [setCells, Nat.add_zero]
      rw [wc_set0 ws i a hi]
    · refine ⟨h.set id (.own 2 (wc (ws.set i (ws[i].1, b)))), ?_, .inr ⟨id, h1, by simp, by rw [List.getElem?_set_self hid]⟩, Keep.set _ _ _ _ h1, by simp⟩
      simp only [storeP, h3, tySize]
      show (if 1 = 1 ∧ i * 2 + 1 + 1 ≤ (wc ws).length then some (h.set id (.own 2 (setCells (wc ws) (i * 2 + 1) [.int .i64 b]))) else none) = _
      rw [if_pos ⟨rfl, by omega⟩]
      simp only [setCells]
      rw [wc_set1 ws i b hi]
theorem wemptyW {F : PV × PHeap → Res} (hf : ∀ p h', OwnW h.length h' p [] → Keep h.length h h' → W (F (p, h')) Q) : W ((buildSliceP Try.prog 23 0 [] h).bind F) Q := by
  refine wbd (v := (.sl h.length 0 0, h ++ [.own 2 []])) ?_ (hf _ _ (.inr ⟨h.length, Nat.le_refl _, rfl, by simp [wc]⟩) (Keep.append _ _ _ (Nat.le_refl _)))
  simp [buildSliceP, twElem, twSize, twZero, repeatCells, fillP]
/-- One wire is appended. -/
theorem wapW {n : Nat} (s : OwnW n h p ws) (hn : n ≤ h.length) {a b : Int} (hl : ws.length + 1 ≤ 2 ^ 36) {F : PV × PHeap → Res}
    (hf : ∀ p' h', OwnW n h' p' (ws ++ [(a, b)]) → Keep n h h' → W (F (p', h')) Q) :
    W ((buildSliceP Try.prog 23 1 [(0, .agg [.int .i64 a, .int .i64 b])] h).bind fun v => (appendP Try.prog 23 23 p v.1 v.2).bind F) Q := by
  have hb : buildSliceP Try.prog 23 1 [(0, .agg [.int .i64 a, .int .i64 b])] h = some (.sl h.length 0 1, h ++ [.own 2 [.int .i64 a, .int .i64 b]]) := by
    simp [buildSliceP, twElem, twSize, twZero, repeatCells, fillP, PV.cells, PV.oneCell, setCells]
  have hsrc : srcP (h ++ [.own 2 [.int .i64 a, .int .i64 b]]) 2 (.sl h.length 0 1) = some (1, [.int .i64 a, .int .i64 b]) := by
    simp [srcP, cellsAt, PObj.get]
  refine wbd hb ?_
  rcases s with ⟨rfl, rfl⟩ | ⟨id, h1, rfl, h3⟩
  · refine wbd (v := (.sl (h.length + 1) 0 1, h ++ [.own 2 [.int .i64 a, .int .i64 b]] ++ [.own 2 [.int .i64 a, .int .i64 b]])) ?_ (hf _ _ (.inr ⟨h.length + 1, by omega, rfl, ?_⟩) ?_)
    · simp [appendP, twElem, twSize, twSmall, hsrc]
    · rw [List.getElem?_append_right (by simp)]; simp [wc]
    · rw [List.append_assoc]; exact Keep.append _ _ _ hn
  · have hid : id < h.length := (List.getElem?_eq_some_iff.1 h3).1
    have h3' : (h ++ [PObj.own 2 [.int .i64 a, .int .i64 b]])[id]? = some (.own 2 (wc ws)) := by rw [List.getElem?_append_left hid]; exact h3
    refine wbd (v := (.sl (h.length + 1) 0 (ws.length + 1), ((h ++ [PObj.own 2 [.int .i64 a, .int .i64 b]]).set id .dead ++ [PObj.own 2 (wc ws ++ [.int .i64 a, .int .i64 b])]))) ?_ (hf _ _ (.inr ⟨h.length + 1, by omega, by simp, ?_⟩) ?_)
    · have := wc_length ws
      simp [appendP, twElem, twSize, twSmall, hsrc, h3', hl, this, Nat.mul_comm]
    · rw [List.getElem?_append_right (by simp)]; simp [wc_append, wc]
    · exact ((Keep.append n h _ hn).trans (Keep.set n _ id .dead h1)).trans (Keep.append _ _ _ (by simp; omega))
end

end Go.Proofs.Ytihlmjapddjjjaa

/- The model's chapter 3: what MoveOk, Played, WinnerOf, WinningCells and LinePlayed of it compute. -/
set_option maxRecDepth 20000
namespace Go.Proofs.Ytihlmjapddjjjaa
open Go Go.Ip G

variable (g : Nat → PV) (lf n : Nat)

/-! ### the solver -/
end Go.Proofs.Ytihlmjapddjjjaa

/- The model's chapter 9, first part: nets, what is come to, links, owners and who has won. -/
set_option maxRecDepth 20000
namespace Go.Proofs.Ytihlmjapddjjjaa
open Go Go.Ip G

section
variable {Q : PV → PHeap → Prop} {x : Nat} {f : PV → Res}
end
variable (g : Nat → PV) (lf n : Nat)

theorem specWiresOk_calls {ws : List (Int × Int)} {p : PV} {h : PHeap} (N : Nat) (hN : 3 ≤ N) (nodes : Int) (hp : WSl h p ws) (hl : ws.length ≤ 2 ^ 35) (hf : ws.length < lf) :
    ∃ h', CL g lf N fn_spec_WiresOk [.int .i64 nodes, p] h = some (.bool (wiresB nodes ws), h') ∧ Keep h.length h h' := by
  obtain ⟨n, rfl⟩ : ∃ n, N = n + 1 := ⟨N - 1, by omega⟩
  have : W (CL g lf (n + 1) fn_spec_WiresOk [.int .i64 nodes, p] h) fun v h' => v = .bool (wiresB nodes ws) ∧ Keep h.length h h' := by
    rw [spec_WiresOk.call_eq]
    unfold spec_WiresOk.main
    simp only [env_lf]
    refine loopW (fun m s => ∃ (k : Nat) (h1 : PHeap), s = spec_WiresOk.st0 (.int .i64 nodes) p (.int .i64 (k : Int)) h1 ∧ k + m = ws.length ∧ (ws.all (goodW nodes) = (ws.drop k).all (goodW nodes)) ∧ Keep h.length h h1) ?_ lf ws.length _ hf ⟨0, h, rfl, by omega, rfl, Keep.refl _ _⟩
    rintro n1 m s ⟨k, h1, rfl, hkm, hall, k1⟩ next
    have hp1 := hp.keep k1
    have hlen := hp1.len
    rw [spec_WiresOk.body0_eq]
    unfold spec_WiresOk.body0
    simp only [env_pick, env_alloc, env_load, env_store, env_bin, env_fieldAddr, env_indexAddr, env_len]
    cases m with
    | zero =>
      have hin : ∀ hh, CL g lf n fn_spec_l1In [.int .i64 nodes, .int .i64 2, .int .i64 5] hh = some (.bool (decide (2 ≤ nodes ∧ nodes ≤ 5)), hh) := fun hh => l1In_N g lf n (by omega) hh nodes 2 5
      have hin1 := hin h1
      rw [List.drop_eq_nil_of_le (by omega), List.all_nil] at hall
      cases hd : decide (2 ≤ nodes ∧ nodes ≤ 5) with
      | false =>
        rw [hd] at hin1
        repeat (first | with_reducible refine wF ?_ | with_reducible refine wg0 rfl ?_ | with_reducible refine wpF ?_ | with_reducible refine wsm ?_ | with_reducible refine wrB ?_ | with_reducible refine wbd (by assumption) ?_ | with_reducible refine wlssF (by omega) ?_ | rw [kLoop_exit] | rw [spec_WiresOk.after0_se0_0_1_5_10] | dsimp only | simp only [env_C, env_Y, env_g, env_lf, env_pick, env_alloc, env_box, env_build, env_buildSlice, env_load, env_store, env_ptr, env_bin, env_un, env_conv, env_make, env_slice, env_fieldAddr, env_field, env_indexAddr, env_index, env_extract, env_len, env_append, env_max, env_min, env_makeMap, env_lookup, env_update, env_clos, env_bstr])
        exact W.ret ⟨by unfold wiresB; rw [hall, hd]; rfl, k1⟩
      | true =>
        rw [hd] at hin1
        by_cases h8 : ws.length ≤ 8
        · repeat (first | with_reducible refine wF ?_ | with_reducible refine wg1 rfl ?_ | with_reducible refine wpT ?_ | with_reducible refine wpv ?_ | with_reducible refine wsm ?_ | with_reducible refine wrB ?_ | with_reducible refine wbd (by assumption) ?_ | with_reducible refine wlssF (by omega) ?_ | with_reducible refine wleqT (by omega) ?_ | rw [kLoop_exit] | rw [spec_WiresOk.after0_se0_0_1_5_10] | dsimp only | simp only [env_C, env_Y, env_g, env_lf, env_pick, env_alloc, env_box, env_build, env_buildSlice, env_load, env_store, env_ptr, env_bin, env_un, env_conv, env_make, env_slice, env_fieldAddr, env_field, env_indexAddr, env_index, env_extract, env_len, env_append, env_max, env_min, env_makeMap, env_lookup, env_update, env_clos, env_bstr])
          exact W.ret ⟨by unfold wiresB; rw [hall, hd, decide_eq_true h8]; rfl, k1⟩
        · repeat (first | with_reducible refine wF ?_ | with_reducible refine wg1 rfl ?_ | with_reducible refine wpT ?_ | with_reducible refine wpv ?_ | with_reducible refine wsm ?_ | with_reducible refine wrB ?_ | with_reducible refine wbd (by assumption) ?_ | with_reducible refine wlssF (by omega) ?_ | with_reducible refine wleqF (by omega) ?_ | rw [kLoop_exit] | rw [spec_WiresOk.after0_se0_0_1_5_10] | dsimp only | simp only [env_C, env_Y, env_g, env_lf, env_pick, env_alloc, env_box, env_build, env_buildSlice, env_load, env_store, env_ptr, env_bin, env_un, env_conv, env_make, env_slice, env_fieldAddr, env_field, env_indexAddr, env_index, env_extract, env_len, env_append, env_max, env_min, env_makeMap, env_lookup, env_update, env_clos, env_bstr])
          exact W.ret ⟨by unfold wiresB; rw [hall, hd, decide_eq_false h8]; rfl, k1⟩
    | succ m =>
      have hk : k < ws.length := by omega
      have hdx : ws.drop k = ws[k] :: ws.drop (k + 1) := List.drop_eq_getElem_cons hk
      obtain ⟨id, off, e0, l0, _, _⟩ := hp1.at hk
      obtain ⟨⟨A, B⟩, hw⟩ : ∃ w, w = ws[k] := ⟨_, rfl⟩
      rw [← hw] at l0 hdx
      rw [hdx, List.all_cons] at hall
      repeat (first | with_reducible refine wT ?_ | with_reducible refine wbd (by assumption) ?_ | (refine walW fun h2 i2 a2 k2 ii2 => ?_) | (refine wstW a2 ii2 fun h3 a3 k3 hl3 => ?_) | with_reducible refine wlssT (by omega) ?_ | dsimp only)
      have l3 := a3.l0
      have l4 := a3.l1
      have K3 : Keep h.length h h3 := k1.trans ((k2.trans k3).mono k1.1)
      have done : ∀ b, goodW nodes (A, B) = b → (b = false → W (spec_WiresOk.K0 (env g lf n) (kTop Try.prog Try.f7) .ret (spec_WiresOk.sr_4 (.bool false) h3)) fun v h' => v = .bool (wiresB nodes ws) ∧ Keep h.length h h') := by
        intro b hb hbf
        rw [hb, hbf, Bool.false_and] at hall
        rw [spec_WiresOk.K0_ret, spec_WiresOk.top_sr_4]
        repeat (first | with_reducible refine wrB ?_)
        exact W.ret ⟨by unfold wiresB; rw [hall]; rfl, K3⟩
      by_cases c1 : A < 0
      · repeat (first | with_reducible refine wT ?_ | with_reducible refine wg0 rfl ?_ | with_reducible refine wpT ?_ | with_reducible refine wsm ?_ | with_reducible refine wbd (by assumption) ?_ | (with_reducible refine wfa0 ?_) | with_reducible refine wlssT (by omega) ?_ | rw [kLoop_ret] | dsimp only)
        exact done false (decide_eq_false (fun hh => by have := hh.1; simp only at this; omega)) rfl
      · by_cases c2 : nodes ≤ A
        · repeat (first | with_reducible refine wT ?_ | with_reducible refine wg1 rfl ?_ | with_reducible refine wg0 rfl ?_ | with_reducible refine wpT ?_ | with_reducible refine wpF ?_ | with_reducible refine wpv ?_ | with_reducible refine wsm ?_ | with_reducible refine wbd (by assumption) ?_ | (with_reducible refine wfa0 ?_) | with_reducible refine wlssF (by omega) ?_ | with_reducible refine wgeqT (by omega) ?_ | rw [kLoop_ret] | dsimp only)
          exact done false (decide_eq_false (fun hh => by have := hh.2.1; simp only at this; omega)) rfl
        · by_cases c3 : B < 0
          · repeat (first | with_reducible refine wT ?_ | with_reducible refine wg1 rfl ?_ | with_reducible refine wg0 rfl ?_ | with_reducible refine wpT ?_ | with_reducible refine wpF ?_ | with_reducible refine wpv ?_ | with_reducible refine wsm ?_ | with_reducible refine wbd (by assumption) ?_ | (with_reducible refine wfa0 ?_) | (with_reducible refine wfa1 ?_) | with_reducible refine wlssT (by omega) ?_ | with_reducible refine wlssF (by omega) ?_ | with_reducible refine wgeqF (by omega) ?_ | rw [kLoop_ret] | dsimp only)
            exact done false (decide_eq_false (fun hh => by have := hh.2.2.1; simp only at this; omega)) rfl
          · by_cases c4 : nodes ≤ B
            · repeat (first | with_reducible refine wT ?_ | with_reducible refine wg1 rfl ?_ | with_reducible refine wg0 rfl ?_ | with_reducible refine wpT ?_ | with_reducible refine wpF ?_ | with_reducible refine wpv ?_ | with_reducible refine wsm ?_ | with_reducible refine wbd (by assumption) ?_ | (with_reducible refine wfa0 ?_) | (with_reducible refine wfa1 ?_) | with_reducible refine wlssF (by omega) ?_ | with_reducible refine wgeqT (by omega) ?_ | with_reducible refine wgeqF (by omega) ?_ | rw [kLoop_ret] | dsimp only)
              exact done false (decide_eq_false (fun hh => by have := hh.2.2.2.1; simp only at this; omega)) rfl
            · by_cases c5 : A = B
              · repeat (first | with_reducible refine wT ?_ | with_reducible refine wg1 rfl ?_ | with_reducible refine wpF ?_ | with_reducible refine wpv ?_ | with_reducible refine wsm ?_ | with_reducible refine wbd (by assumption) ?_ | (with_reducible refine wfa0 ?_) | (with_reducible refine wfa1 ?_) | with_reducible refine wlssF (by omega) ?_ | with_reducible refine wgeqF (by omega) ?_ | with_reducible refine weqlT (by omega) ?_ | rw [kLoop_ret] | dsimp only)
                exact done false (decide_eq_false (fun hh => hh.2.2.2.2 c5)) rfl
              · repeat (first | with_reducible refine wF ?_ | with_reducible refine wg1 rfl ?_ | with_reducible refine wpF ?_ | with_reducible refine wpv ?_ | with_reducible refine wsm ?_ | with_reducible refine wbd (by assumption) ?_ | (with_reducible refine wfa0 ?_) | (with_reducible refine wfa1 ?_) | with_reducible refine wadd1 (by omega) ?_ | with_reducible refine wlssF (by omega) ?_ | with_reducible refine wgeqF (by omega) ?_ | with_reducible refine weqlF (by omega) ?_ | dsimp only)
                refine next _ _ (Nat.lt_succ_self m) ⟨k + 1, h3, rfl, by omega, ?_, K3⟩
                have hg : goodW nodes (A, B) = true := decide_eq_true ⟨by simp only; omega, by simp only; omega, by simp only; omega, by simp only; omega, c5⟩
                rw [hall, hg, Bool.true_and]
  obtain ⟨_, h', e, rfl, k⟩ := this
  exact ⟨h', e, k⟩

/-! ### what is come to -/
/-! ### links, owners, who has won -/
theorem specOwners_calls {ws : List (Int × Int)} {os : List Int} {p po : PV} {h : PHeap} (N : Nat) (hN : 4 ≤ N) (nodes : Int) (hp : WSl h p ws) (hl : ws.length ≤ 2 ^ 35) (hf : ws.length < lf) (ho : IntSl .i64 h po os) (hol : os.length ≤ 2 ^ 35) (hof : os.length < lf) :
    ∃ h', CL g lf N fn_spec_OwnersOk [.int .i64 nodes, p, po] h = some (.bool (ownersB nodes ws os), h') ∧ Keep h.length h h' := by
  obtain ⟨n, rfl⟩ : ∃ n, N = n + 1 := ⟨N - 1, by omega⟩
  have hlo := ho.len'
  have : W (CL g lf (n + 1) fn_spec_OwnersOk [.int .i64 nodes, p, po] h) fun v h' => v = .bool (ownersB nodes ws os) ∧ Keep h.length h h' := by
    rw [spec_OwnersOk.call_eq]
    unfold spec_OwnersOk.main
    simp only [env_lf]
    refine loopW (fun m s => ∃ k : Nat, s = spec_OwnersOk.st0 (.int .i64 nodes) p po (.int .i64 (k : Int)) h ∧ k + m = os.length ∧ os.all contentB = (os.drop k).all contentB) ?_ lf os.length _ hof ⟨0, rfl, by omega, rfl⟩
    rintro n1 m s ⟨k, rfl, hkm, hall⟩ next
    rw [spec_OwnersOk.body0_eq]
    unfold spec_OwnersOk.body0
    simp only [env_C, env_load, env_bin, env_un, env_indexAddr, env_len]
    cases m with
    | zero =>
      rw [List.drop_eq_nil_of_le (by omega), List.all_nil] at hall
      obtain ⟨h1, e1, k1⟩ := specWiresOk_calls g lf n (by omega) nodes hp hl hf
      have hlen := (hp.keep k1).len
      unfold ownersB
      rw [hall, Bool.true_and]
      cases hb : wiresB nodes ws with
      | false =>
        rw [hb] at e1
        repeat (first | with_reducible refine wF ?_ | with_reducible refine wg0 rfl ?_ | with_reducible refine wpF ?_ | with_reducible refine wsm ?_ | with_reducible refine wrB ?_ | with_reducible refine wbd (by assumption) ?_ | with_reducible refine wlssF (by omega) ?_ | rw [kLoop_exit] | rw [spec_OwnersOk.after0_se0_0_1_2_7_11] | dsimp only | simp only [env_C, env_Y, env_g, env_lf, env_pick, env_alloc, env_box, env_build, env_buildSlice, env_load, env_store, env_ptr, env_bin, env_un, env_conv, env_make, env_slice, env_fieldAddr, env_field, env_indexAddr, env_index, env_extract, env_len, env_append, env_max, env_min, env_makeMap, env_lookup, env_update, env_clos, env_bstr])
        exact W.ret ⟨rfl, k1⟩
      | true =>
        rw [hb] at e1
        by_cases he : os.length = ws.length
        · rw [decide_eq_true he]
          repeat (first | with_reducible refine wF ?_ | with_reducible refine wg1 rfl ?_ | with_reducible refine wpT ?_ | with_reducible refine wpv ?_ | with_reducible refine wsm ?_ | with_reducible refine wrB ?_ | with_reducible refine wbd (by assumption) ?_ | with_reducible refine wlssF (by omega) ?_ | with_reducible refine weqlT (by omega) ?_ | rw [kLoop_exit] | rw [spec_OwnersOk.after0_se0_0_1_2_7_11] | dsimp only | simp only [env_C, env_Y, env_g, env_lf, env_pick, env_alloc, env_box, env_build, env_buildSlice, env_load, env_store, env_ptr, env_bin, env_un, env_conv, env_make, env_slice, env_fieldAddr, env_field, env_indexAddr, env_index, env_extract, env_len, env_append, env_max, env_min, env_makeMap, env_lookup, env_update, env_clos, env_bstr])
          exact W.ret ⟨rfl, k1⟩
        · rw [decide_eq_false he]
          repeat (first | with_reducible refine wF ?_ | with_reducible refine wg1 rfl ?_ | with_reducible refine wpT ?_ | with_reducible refine wpv ?_ | with_reducible refine wsm ?_ | with_reducible refine wrB ?_ | with_reducible refine wbd (by assumption) ?_ | with_reducible refine wlssF (by omega) ?_ | with_reducible refine weqlF (by omega) ?_ | rw [kLoop_exit] | rw [spec_OwnersOk.after0_se0_0_1_2_7_11] | dsimp only | simp only [env_C, env_Y, env_g, env_lf, env_pick, env_alloc, env_box, env_build, env_buildSlice, env_load, env_store, env_ptr, env_bin, env_un, env_conv, env_make, env_slice, env_fieldAddr, env_field, env_indexAddr, env_index, env_extract, env_len, env_append, env_max, env_min, env_makeMap, env_lookup, env_update, env_clos, env_bstr])
          exact W.ret ⟨rfl, k1⟩
    | succ m =>
      have hk : k < os.length := by omega
      have hdx : os.drop k = os[k] :: os.drop (k + 1) := List.drop_eq_getElem_cons hk
      rw [hdx, List.all_cons] at hall
      obtain ⟨a, ea, la⟩ := ho.at' hk
      have hin : CL g lf n fn_spec_l1In [.int .i64 os[k], .int .i64 0, .int .i64 2] h = some (.bool (contentB os[k]), h) := l1In_N g lf n (by omega) h os[k] 0 2
      cases hc : contentB os[k] with
      | true =>
        rw [hc] at hin hall
        repeat (first | with_reducible refine wT ?_ | with_reducible refine wF ?_ | with_reducible refine wnT ?_ | with_reducible refine wbd (by assumption) ?_ | with_reducible refine wadd1 (by omega) ?_ | with_reducible refine wlssT (by omega) ?_ | dsimp only)
        exact next _ _ (Nat.lt_succ_self m) ⟨k + 1, rfl, by omega, by rw [hall, Bool.true_and]⟩
      | false =>
        rw [hc] at hin hall
        repeat (first | with_reducible refine wT ?_ | with_reducible refine wnF ?_ | with_reducible refine wbd (by assumption) ?_ | with_reducible refine wlssT (by omega) ?_ | rw [kLoop_ret] | dsimp only)
        rw [spec_OwnersOk.K0_ret, spec_OwnersOk.top_sr_6]
        repeat (first | with_reducible refine wrB ?_)
        exact W.ret ⟨by unfold ownersB; rw [hall]; rfl, Keep.refl _ _⟩
  obtain ⟨_, h', e, rfl, k⟩ := this
  exact ⟨h', e, k⟩

end Go.Proofs.Ytihlmjapddjjjaa

/- The model's chapter 9, second part: who wins, which wires win, least links and cuts, the gap. -/
set_option maxRecDepth 20000
namespace Go.Proofs.Ytihlmjapddjjjaa
open Go Go.Ip G

variable (g : Nat → PV) (lf n : Nat)

/-! ### wires that win -/
end Go.Proofs.Ytihlmjapddjjjaa

/- The model's chapter 9, third part: least links and cuts, and the gap. -/
set_option maxRecDepth 20000
namespace Go.Proofs.Ytihlmjapddjjjaa
open Go Go.Ip G

variable (g : Nat → PV) (lf n : Nat)

/-! ### the gap -/
end Go.Proofs.Ytihlmjapddjjjaa

/- The draws of chapter 9: nodes, wires, owners, sets. -/
set_option maxRecDepth 20000
namespace Go.Proofs.Ytihlmjapddjjjaa
open Go Go.Ip G

theorem OwnW.keepX {id n m : Nat} {h h' : PHeap} {p : PV} {ws : List (Int × Int)} (s : OwnW n h p ws) (hk : KeepX id m h h') (hn : id < n) (hm : h.length ≤ m) : OwnW n h' p ws := by
  rcases s with s | ⟨i, h1, h2, h3⟩
  · exact .inl s
  · have hi := (List.getElem?_eq_some_iff.1 h3).1
    exact .inr ⟨i, h1, h2, by rw [hk.2 i (by omega) (by omega)]; exact h3⟩
theorem wlit2 {Q : PV → PHeap → Prop} {h : PHeap} {a b : Int} {F : PV × PHeap → Res} (hf : ∀ p h', OwnSl h.length h' p [a, b] → Keep h.length h h' → W (F (p, h')) Q) : W ((buildSliceP Try.prog 31 2 [(0, .int .i64 a), (1, .int .i64 b)] h).bind F) Q := by
  have hb : buildSliceP Try.prog 31 2 [(0, .int .i64 a), (1, .int .i64 b)] h = some (.sl h.length 0 2, h ++ [.own 1 ([a, b].map (.int .i64))]) := by
    simp [buildSliceP, tyElem, tySize, tyZero, repeatCells, fillP, PV.cells, setCells]
  exact wbd hb (hf _ _ (.inr ⟨h.length, Nat.le_refl _, rfl, by simp⟩) (Keep.append _ _ _ (Nat.le_refl _)))

variable (g : Nat → PV) (lf n : Nat)

theorem wires_W {h : PHeap} {id m : Nat} (N : Nat) (hN : 3 ≤ N) (c : Int) (hc1 : 1 ≤ c) (hc2 : c ≤ 1000000) (hr : Rd h id m) (hm : m ≤ 600000) (hlf : 20 < lf) :
    W (CL g lf N fn_spec_l20Wires [.ptr id 0, .int .i64 c] h) fun v h' => ∃ (nodes : Int) (q : PV) (ws : List (Int × Int)) (m' : Nat), v = .tup [.int .i64 nodes, q] ∧ Rd h' id m' ∧ m' ≤ m + 100 ∧ KeepX id h.length h h' ∧ OwnW h.length h' q ws ∧ ws.length ≤ 8 ∧ 1 ≤ nodes ∧ nodes ≤ 6 := by
  obtain ⟨n, rfl⟩ : ∃ n, N = n + 1 := ⟨N - 1, by omega⟩
  have hid := hr.lt
  rw [spec_l20Wires.call_eq]
  unfold spec_l20Wires.main
  simp only [env_C, env_lf, env_buildSlice, env_bin]
  obtain ⟨v1, h1, e1, r1, o1, a1, a2, _⟩ := pick_calls g lf n (by omega) 4 hr (by omega) (by omega)
  obtain ⟨V, rfl⟩ := Int.eq_ofNat_of_zero_le a1
  have hV : V < 4 := by omega
  have K1 : KeepX id h.length h h1 := o1.x
  have hl12 : h1.length = h.length := o1.1
  repeat (first | with_reducible refine wbd (by assumption) ?_ | (refine wemptyW fun q h2 w2 k2 => ?_) | with_reducible refine wadd (by omega) ?_ | dsimp only)
  dsimp only at w2 k2
  have r2 := r1.keep k2 r1.lt
  have K2 : KeepX id h.length h h2 := K1.trans ((Keep.x k2).mono (by omega))
  obtain ⟨v3, h3, e3, r3, o3, b1, b2, _⟩ := pick_calls g lf n (by omega) 7 r2 (by omega) (by omega)
  obtain ⟨U, rfl⟩ := Int.eq_ofNat_of_zero_le b1
  have hU : U < 7 := by omega
  have K3 : KeepX id h.length h h3 := K2.trans o3.x
  have w3 : OwnW h.length h3 q [] := (w2.mono (by omega)).keepX (o3.x (n := h2.length)) (by omega) (Nat.le_refl _)
  obtain ⟨M, hM⟩ : ∃ M, M = 2 + V := ⟨_, rfl⟩
  have hM2 : (2 : Int) + (V : Int) = (M : Int) := by omega
  have hM5 : M ≤ 5 := by omega
  have hM0 : 2 ≤ M := by omega
  repeat (first | with_reducible refine wbd (by assumption) ?_ | with_reducible refine wadd (by omega) ?_ | dsimp only)
  refine loopW (fun d s => ∃ (q : PV) (ws : List (Int × Int)) (m' : Nat) (h4 : PHeap), s = spec_l20Wires.st0 (.ptr id 0) (.int .i64 c) (.int .i64 (M : Int)) q (.int .i64 (d : Int)) h4 ∧ Rd h4 id m' ∧ m' + 2 * d ≤ m + 2 + 14 ∧ KeepX id h.length h h4 ∧ OwnW h.length h4 q ws ∧ ws.length + d ≤ 7) ?_ lf (1 + U) _ (by omega)
    ⟨q, [], m + 1 + 1, h3, by rw [hM2, show (1 : Int) + (U : Int) = ((1 + U : Nat) : Int) by omega], r3, by omega, K3, w3, by simp; omega⟩
  rintro n1 d s ⟨q, ws, m', h4, rfl, r4, hm4, K4, w4, hw⟩ next
  rw [spec_l20Wires.body0_eq]
  unfold spec_l20Wires.body0
  simp only [env_C, env_build, env_buildSlice, env_bin, env_append]
  have hl4 := K4.1
  cases d with
  | zero =>
    obtain ⟨bo, h5, e5, r5, o5⟩ := odd_calls g lf n (by omega) c r4 (by omega) hc2 hc1
    have K5 : KeepX id h.length h h5 := K4.trans o5.x
    have w5 : OwnW h.length h5 q ws := w4.keepX (o5.x (n := h4.length)) (by omega) (Nat.le_refl _)
    have hl5 := K5.1
    cases bo with
    | false =>
      repeat (first | with_reducible refine wF ?_ | with_reducible refine wrI ?_ | with_reducible refine wbd (by assumption) ?_ | (with_reducible refine wresW w5 ?_) | with_reducible refine wgtrF (by omega) ?_ | rw [kLoop_exit] | rw [spec_l20Wires.after0_se0_0_1_6_7_8_19] | dsimp only | simp only [env_C, env_Y, env_g, env_lf, env_pick, env_alloc, env_box, env_build, env_buildSlice, env_load, env_store, env_ptr, env_bin, env_un, env_conv, env_make, env_slice, env_fieldAddr, env_field, env_indexAddr, env_index, env_extract, env_len, env_append, env_max, env_min, env_makeMap, env_lookup, env_update, env_clos, env_bstr])
      exact W.ret ⟨_, q, ws, _, rfl, r5, by omega, K5, w5, by omega, by omega, by omega⟩
    | true =>
      obtain ⟨v6, h6, e6, r6, o6, c1, c2, _⟩ := pick_calls g lf n (by omega) 3 r5 (by omega) (by omega)
      have K6 : KeepX id h.length h h6 := K5.trans o6.x
      have w6 : OwnW h.length h6 q ws := w5.keepX (o6.x (n := h5.length)) (by omega) (Nat.le_refl _)
      have hl6 := K6.1
      repeat (first | with_reducible refine wT ?_ | with_reducible refine wF ?_ | with_reducible refine wbd (by assumption) ?_ | with_reducible refine wgtrF (by omega) ?_ | rw [kLoop_exit] | rw [spec_l20Wires.after0_se0_0_1_6_7_8_19] | dsimp only | simp only [env_C, env_Y, env_g, env_lf, env_pick, env_alloc, env_box, env_build, env_buildSlice, env_load, env_store, env_ptr, env_bin, env_un, env_conv, env_make, env_slice, env_fieldAddr, env_field, env_indexAddr, env_index, env_extract, env_len, env_append, env_max, env_min, env_makeMap, env_lookup, env_update, env_clos, env_bstr])
      refine weql (fun e => ?_) (fun e => ?_)
      · repeat (first | with_reducible refine wT ?_ | (with_reducible refine wbw ?_))
        refine wapW w6 hl6 (by omega) fun p' h7 w7 k7 => ?_
        have r7 := r6.keep k7 (by omega)
        repeat (first | with_reducible refine wrI ?_ | (with_reducible refine wresW w7 ?_) | dsimp only)
        exact W.ret ⟨_, p', _, _, rfl, r7, by omega, K6.trans (Keep.x k7), w7, by simp; omega, by omega, by omega⟩
      · repeat (first | with_reducible refine wF ?_)
        refine weql (fun e => ?_) (fun e => ?_)
        · repeat (first | with_reducible refine wT ?_ | (with_reducible refine wbw ?_))
          refine wapW w6 hl6 (by omega) fun p' h7 w7 k7 => ?_
          have r7 := r6.keep k7 (by omega)
          repeat (first | with_reducible refine wrI ?_ | (with_reducible refine wresW w7 ?_) | dsimp only)
          exact W.ret ⟨_, p', _, _, rfl, r7, by omega, K6.trans (Keep.x k7), w7, by simp; omega, by omega, by omega⟩
        · repeat (first | with_reducible refine wF ?_ | (refine wlit2 fun q7 h7 o7 k7 => ?_) | dsimp only)
          have r7 := r6.keep k7 r6.lt
          have K7 : KeepX id h.length h h7 := K6.trans ((Keep.x k7).mono hl6)
          have w7 : OwnW h.length h7 q ws := w6.keep k7
          obtain ⟨v8, h8, e8, r8, o8, d1, d2, _⟩ := pick_calls g lf n (by omega) 2 r7 (by omega) (by omega)
          obtain ⟨Y, rfl⟩ := Int.eq_ofNat_of_zero_le d1
          have hY : Y < 2 := by omega
          have w8 : OwnW h.length h8 q ws := w7.keepX (o8.x (n := h7.length)) (by omega) (Nat.le_refl _)
          have o7' : OwnSl h6.length h8 q7 [1, 6] := o7.keepX (o8.x (n := h7.length)) (by omega) (Nat.le_refl _)
          repeat (first | with_reducible refine wrI ?_ | with_reducible refine wbd (by assumption) ?_ | (refine wat o7'.int (show Y < 2 from hY) fun a hl => ?_) | dsimp only)
          repeat (first | (with_reducible refine wresW w8 ?_))
          have hv : 1 ≤ ([1, 6] : List Int)[Y] ∧ ([1, 6] : List Int)[Y] ≤ 6 := by
            have : Y = 0 ∨ Y = 1 := by omega
            rcases this with rfl | rfl <;> simp
          exact W.ret ⟨_, q, ws, _, rfl, r8, by omega, K7.trans o8.x, w8, by omega, hv.1, hv.2⟩
  | succ d =>
    obtain ⟨v5, h5, e5, r5, o5, c1, c2, _⟩ := pick_calls g lf n (by omega) (M : Int) r4 (by omega) (by omega)
    obtain ⟨A, rfl⟩ := Int.eq_ofNat_of_zero_le c1
    have hA : A < M := by omega
    obtain ⟨v6, h6, e6, r6, o6, d1, d2, _⟩ := pick_calls g lf n (by omega) ((M - 1 : Nat) : Int) r5 (by omega) (by omega)
    obtain ⟨B, rfl⟩ := Int.eq_ofNat_of_zero_le d1
    have hB : B < M := by omega
    have K6 : KeepX id h.length h h6 := (K4.trans o5.x).trans o6.x
    have w6 : OwnW h.length h6 q ws := (w4.keepX (o5.x (n := h4.length)) (by omega) (Nat.le_refl _)).keepX (o6.x (n := h5.length)) (by omega) (Nat.le_refl _)
    have hl6 := K6.1
    repeat (first | with_reducible refine wT ?_ | with_reducible refine wbd (by assumption) ?_ | (with_reducible refine wbw ?_) | with_reducible refine wadd1 (by omega) ?_ | with_reducible refine waddN (by omega) ?_ | with_reducible refine wsub1 (by omega) (by omega) ?_ | with_reducible refine wremN (by omega) ?_ | with_reducible refine wgtrT (by omega) ?_ | dsimp only)
    refine wapW w6 hl6 (by omega) fun p' h7 w7 k7 => ?_
    have r7 := r6.keep k7 (by omega)
    repeat (first | with_reducible refine wsub1 (by omega) (by omega) ?_ | dsimp only)
    refine next _ _ (Nat.lt_succ_self d) ⟨p', _, _, h7, rfl, r7, by omega, K6.trans (Keep.x k7), w7, by simp; omega⟩

theorem owned_W {h : PHeap} {id m : Nat} (N : Nat) (hN : 4 ≤ N) (c : Int) (hc1 : 1 ≤ c) (hc2 : c ≤ 1000000) (hr : Rd h id m) (hm : m ≤ 500000) (hlf : 20 < lf) :
    W (CL g lf N fn_spec_l20Owned [.ptr id 0, .int .i64 c] h) fun v h' => ∃ (nodes : Int) (q : PV) (ws : List (Int × Int)) (qo : PV) (os : List Int) (m' : Nat), v = .tup [.int .i64 nodes, q, qo] ∧ Rd h' id m' ∧ m' ≤ m + 200 ∧ KeepX id h.length h h' ∧ OwnW h.length h' q ws ∧ ws.length ≤ 8 ∧ 1 ≤ nodes ∧ nodes ≤ 6 ∧ OwnSl h.length h' qo os ∧ os.length ≤ 9 := by
  obtain ⟨n, rfl⟩ : ∃ n, N = n + 1 := ⟨N - 1, by omega⟩
  have hid := hr.lt
  rw [spec_l20Owned.call_eq]
  unfold spec_l20Owned.main
  simp only [env_C, env_lf, env_buildSlice, env_extract]
  refine wcall (wires_W g lf n (by omega) c hc1 hc2 hr (by omega) hlf) fun v h1 ⟨nodes, q, ws, m1, hv, r1, hm1, K1, w1, hw8, hn1, hn6⟩ => ?_
  subst hv
  have hl1 := K1.1
  repeat (first | with_reducible refine wx0 ?_ | with_reducible refine wx1 ?_ | (refine wempty fun qo h2 o2 k2 => ?_) | dsimp only)
  dsimp only at o2 k2
  have r2 := r1.keep k2 r1.lt
  have K2 : KeepX id h.length h h2 := K1.trans ((Keep.x k2).mono hl1)
  have w2 := w1.keep k2
  obtain ⟨v3, h3, e3, r3, o3, b1, b2, _⟩ := pick_calls g lf n (by omega) 4 r2 (by omega) (by omega)
  have K3 : KeepX id h.length h h3 := K2.trans o3.x
  have hl2 := K2.1
  have w3 : OwnW h.length h3 q ws := w2.keepX (o3.x (n := h2.length)) (by omega) (Nat.le_refl _)
  have q3 : OwnSl h1.length h3 qo [] := o2.keepX (o3.x (n := h2.length)) (by omega) (Nat.le_refl _)
  have hl13 : h1.length ≤ h3.length := Nat.le_trans k2.1 (o3.x (n := 0)).1
  have hlw := w3.sl.len
  repeat (first | with_reducible refine wbd (by assumption) ?_ | dsimp only)
  refine loopW (fun d s => ∃ (k : Nat) (qo : PV) (os : List Int) (m' : Nat) (h4 : PHeap), s = spec_l20Owned.st0 (.ptr id 0) (.int .i64 c) (.int .i64 nodes) q qo (.int .i64 v3) (.int .i64 (k : Int)) h4 ∧ k + d = ws.length ∧ Rd h4 id m' ∧ m' + 2 * d ≤ m + 140 ∧ KeepX id h.length h h4 ∧ OwnW h.length h4 q ws ∧ OwnSl h1.length h4 qo os ∧ os.length = k ∧ h1.length ≤ h4.length) ?_ lf ws.length _ (by omega)
    ⟨0, qo, [], m1 + 1, h3, rfl, by omega, r3, by omega, K3, w3, q3, rfl, hl13⟩
  rintro n1 d s ⟨k, qo, os, m', h4, rfl, hkd, r4, hm4, K4, w4, q4, hos, hl4⟩ next
  rw [spec_l20Owned.body0_eq]
  unfold spec_l20Owned.body0
  simp only [env_C, env_buildSlice, env_bin, env_len, env_append]
  cases d with
  | zero =>
    obtain ⟨bo, h5, e5, r5, o5⟩ := odd_calls g lf n (by omega) c r4 (by omega) hc2 hc1
    have K5 : KeepX id h.length h h5 := K4.trans o5.x
    have w5 : OwnW h.length h5 q ws := w4.keepX (o5.x (n := h4.length)) (by omega) (Nat.le_refl _)
    have q5 : OwnSl h1.length h5 qo os := q4.keepX (o5.x (n := h4.length)) (by omega) (Nat.le_refl _)
    have hl5 : h1.length ≤ h5.length := Nat.le_trans hl4 (o5.x (n := 0)).1
    cases bo with
    | false =>
      repeat (first | with_reducible refine wF ?_ | with_reducible refine wrI ?_ | with_reducible refine wbd (by assumption) ?_ | (with_reducible refine wresW w5 ?_) | (with_reducible refine wresO q5 ?_) | with_reducible refine wlssF (by omega) ?_ | rw [kLoop_exit] | rw [spec_l20Owned.after0_se0_0_1_7_8_9_10_11_25] | dsimp only | simp only [env_C, env_Y, env_g, env_lf, env_pick, env_alloc, env_box, env_build, env_buildSlice, env_load, env_store, env_ptr, env_bin, env_un, env_conv, env_make, env_slice, env_fieldAddr, env_field, env_indexAddr, env_index, env_extract, env_len, env_append, env_max, env_min, env_makeMap, env_lookup, env_update, env_clos, env_bstr])
      exact W.ret ⟨_, q, ws, qo, os, _, rfl, r5, by omega, K5, w5, hw8, hn1, hn6, q5.mono hl1, by omega⟩
    | true =>
      repeat (first | with_reducible refine wT ?_ | with_reducible refine wF ?_ | with_reducible refine wrI ?_ | with_reducible refine wbd (by assumption) ?_ | (refine wap q5 hl5 (by omega) fun p' h6 q6 k6 => ?_) | with_reducible refine wlssF (by omega) ?_ | rw [kLoop_exit] | rw [spec_l20Owned.after0_se0_0_1_7_8_9_10_11_25] | dsimp only | simp only [env_C, env_Y, env_g, env_lf, env_pick, env_alloc, env_box, env_build, env_buildSlice, env_load, env_store, env_ptr, env_bin, env_un, env_conv, env_make, env_slice, env_fieldAddr, env_field, env_indexAddr, env_index, env_extract, env_len, env_append, env_max, env_min, env_makeMap, env_lookup, env_update, env_clos, env_bstr])
      have r6 := r5.keep k6 (by omega)
      have K6 : KeepX id h.length h h6 := K5.trans ((Keep.x k6).mono hl1)
      have w6 : OwnW h.length h6 q ws := by
        rcases w5 with w5 | ⟨i, i1, i2, i3⟩
        · exact .inl w5
        · rcases w1 with w1 | ⟨j, j1, j2, j3⟩
          · rw [w1.1] at i2; cases i2
          · have hji : j = i := by rw [i2] at j2; cases j2; rfl
            subst hji
            have := (List.getElem?_eq_some_iff.1 j3).1
            exact .inr ⟨j, i1, i2, by rw [k6.2 j this]; exact i3⟩
      repeat (first | (with_reducible refine wresW w6 ?_) | (with_reducible refine wresO q6 ?_))
      exact W.ret ⟨_, q, ws, p', _, _, rfl, r6, by omega, K6, w6, hw8, hn1, hn6, q6.mono hl1, by simp; omega⟩
  | succ d =>
    obtain ⟨v5, h5, e5, r5, o5, c1, c2, _⟩ := pick_calls g lf n (by omega) 3 r4 (by omega) (by omega)
    obtain ⟨v6, h6, e6, r6, o6, d1, d2, _⟩ := pick_calls g lf n (by omega) 4 r5 (by omega) (by omega)
    have K6 : KeepX id h.length h h6 := (K4.trans o5.x).trans o6.x
    have w6 : OwnW h.length h6 q ws := (w4.keepX (o5.x (n := h4.length)) (by omega) (Nat.le_refl _)).keepX (o6.x (n := h5.length)) (by omega) (Nat.le_refl _)
    have q6 : OwnSl h1.length h6 qo os := (q4.keepX (o5.x (n := h4.length)) (by omega) (Nat.le_refl _)).keepX (o6.x (n := h5.length)) (by omega) (Nat.le_refl _)
    have hl6 : h1.length ≤ h6.length := Nat.le_trans hl4 (Nat.le_trans (o5.x (n := 0)).1 (o6.x (n := 0)).1)
    have fin : ∀ x (p' : PV) (h7 : PHeap), OwnSl h1.length h7 p' (os ++ [x]) → Keep h1.length h6 h7 → ∃ (k' : Nat) (qo : PV) (os : List Int) (m' : Nat) (h4 : PHeap), spec_l20Owned.st0 (.ptr id 0) (.int .i64 c) (.int .i64 nodes) q p' (.int .i64 v3) (.int .i64 ((k + 1 : Nat) : Int)) h7 = spec_l20Owned.st0 (.ptr id 0) (.int .i64 c) (.int .i64 nodes) q qo (.int .i64 v3) (.int .i64 (k' : Int)) h4 ∧ k' + d = ws.length ∧ Rd h4 id m' ∧ m' + 2 * d ≤ m + 140 ∧ KeepX id h.length h h4 ∧ OwnW h.length h4 q ws ∧ OwnSl h1.length h4 qo os ∧ os.length = k' ∧ h1.length ≤ h4.length := fun x p' h7 q7 k7 => by
      have w7 : OwnW h.length h7 q ws := by
        rcases w6 with w6 | ⟨i, i1, i2, i3⟩
        · exact .inl w6
        · rcases w1 with w1 | ⟨j, j1, j2, j3⟩
          · rw [w1.1] at i2; cases i2
          · have hji : j = i := by rw [i2] at j2; cases j2; rfl
            subst hji
            have := (List.getElem?_eq_some_iff.1 j3).1
            exact .inr ⟨j, i1, i2, by rw [k7.2 j this]; exact i3⟩
      exact ⟨k + 1, p', _, _, h7, rfl, by omega, r6.keep k7 (by omega), by omega, K6.trans ((Keep.x k7).mono hl1), w7, q7, by simp; omega, Nat.le_trans hl6 k7.1⟩
    repeat (first | with_reducible refine wT ?_ | with_reducible refine wbd (by assumption) ?_ | with_reducible refine wlssT (by omega) ?_ | dsimp only)
    refine wlss (fun e => ?_) (fun e => ?_)
    · repeat (first | with_reducible refine wT ?_ | (refine wap q6 hl6 (by omega) fun p' h7 q7 k7 => ?_) | with_reducible refine wadd1 (by omega) ?_ | dsimp only)
      skip
      exact next _ _ (Nat.lt_succ_self d) (fin _ p' h7 q7 k7)
    · repeat (first | with_reducible refine wF ?_ | (refine wap q6 hl6 (by omega) fun p' h7 q7 k7 => ?_) | with_reducible refine wadd1 (by omega) ?_ | dsimp only)
      skip
      exact next _ _ (Nat.lt_succ_self d) (fin _ p' h7 q7 k7)

theorem drawWiresOk_W {p : PV} {ys : List Int} {h : PHeap} (N : Nat) (hN : 7 ≤ N) (ha : Arg h p ys) (hlf : 20 < lf) :
    ∃ (nodes : Int) (q : PV) (ws : List (Int × Int)) (h' : PHeap), CL g lf N fn_spec_DrawWiresOk [p] h = some (.tup [.int .i64 nodes, q], h') ∧ Keep h.length h h' ∧ WSl h' q ws ∧ ws.length ≤ 8 ∧ 1 ≤ nodes ∧ nodes ≤ 6 := by
  obtain ⟨n, rfl⟩ : ∃ n, N = n + 1 := ⟨N - 1, by omega⟩
  have : W (CL g lf (n + 1) fn_spec_DrawWiresOk [p] h) fun v h' => ∃ (nodes : Int) (q : PV) (ws : List (Int × Int)), v = .tup [.int .i64 nodes, q] ∧ Keep h.length h h' ∧ WSl h' q ws ∧ ws.length ≤ 8 ∧ 1 ≤ nodes ∧ nodes ≤ 6 := by
    obtain ⟨h1, e1, r1, k1⟩ := open_calls g lf n (by omega) ha
    rw [spec_DrawWiresOk.call_eq]
    unfold spec_DrawWiresOk.main
    simp only [env_C, env_extract]
    repeat (first | with_reducible refine wbd (by assumption) ?_ | dsimp only)
    refine wcall (wires_W g lf n (by omega) _ (by decide) (by decide) r1 (by omega) hlf) fun v h2 ⟨nodes, q, ws, m1, hv, r2, hm, K, w, hw, hn1, hn6⟩ => ?_
    subst hv
    repeat (first | with_reducible refine wrI ?_ | with_reducible refine wx0 ?_ | with_reducible refine wx1 ?_ | (with_reducible refine wresW w ?_) | dsimp only)
    exact W.ret ⟨nodes, q, ws, rfl, k1.trans (K.keep (Nat.le_of_lt r1.lt)), w.sl, hw, hn1, hn6⟩
  obtain ⟨v, h', e, nodes, q, ws, rfl, rest⟩ := this
  exact ⟨nodes, q, ws, h', e, rest⟩

theorem drawOwnersOk_W {p : PV} {ys : List Int} {h : PHeap} (N : Nat) (hN : 7 ≤ N) (ha : Arg h p ys) (hlf : 20 < lf) :
    ∃ (nodes : Int) (q : PV) (ws : List (Int × Int)) (qo : PV) (os : List Int) (h' : PHeap), CL g lf N fn_spec_DrawOwnersOk [p] h = some (.tup [.int .i64 nodes, q, qo], h') ∧ Keep h.length h h' ∧ WSl h' q ws ∧ ws.length ≤ 8 ∧ 1 ≤ nodes ∧ nodes ≤ 6 ∧ IntSl .i64 h' qo os ∧ os.length ≤ 9 := by
  obtain ⟨n, rfl⟩ : ∃ n, N = n + 1 := ⟨N - 1, by omega⟩
  have : W (CL g lf (n + 1) fn_spec_DrawOwnersOk [p] h) fun v h' => ∃ (nodes : Int) (q : PV) (ws : List (Int × Int)) (qo : PV) (os : List Int), v = .tup [.int .i64 nodes, q, qo] ∧ Keep h.length h h' ∧ WSl h' q ws ∧ ws.length ≤ 8 ∧ 1 ≤ nodes ∧ nodes ≤ 6 ∧ IntSl .i64 h' qo os ∧ os.length ≤ 9 := by
    obtain ⟨h1, e1, r1, k1⟩ := open_calls g lf n (by omega) ha
    rw [spec_DrawOwnersOk.call_eq]
    unfold spec_DrawOwnersOk.main
    simp only [env_C, env_extract]
    repeat (first | with_reducible refine wbd (by assumption) ?_ | dsimp only)
    refine wcall (owned_W g lf n (by omega) _ (by decide) (by decide) r1 (by omega) hlf) fun v h2 ⟨nodes, q, ws, qo, os, m1, hv, r2, hm, K, w, hw, hn1, hn6, o, ho⟩ => ?_
    subst hv
    repeat (first | with_reducible refine wrI ?_ | with_reducible refine wx0 ?_ | with_reducible refine wx1 ?_ | with_reducible refine wx2 ?_ | (with_reducible refine wresW w ?_) | (with_reducible refine wresO o ?_) | dsimp only)
    exact W.ret ⟨nodes, q, ws, qo, os, rfl, k1.trans (K.keep (Nat.le_of_lt r1.lt)), w.sl, hw, hn1, hn6, o.int, ho⟩
  obtain ⟨v, h', e, nodes, q, ws, qo, os, rfl, rest⟩ := this
  exact ⟨nodes, q, ws, qo, os, h', e, rest⟩

end Go.Proofs.Ytihlmjapddjjjaa

/- The laws' helpers on slices of wires: copied, compared, marked. -/
set_option maxRecDepth 20000
namespace Go.Proofs.Ytihlmjapddjjjaa
open Go Go.Ip G

section
variable {Q : PV → PHeap → Prop} {h : PHeap} {p : PV} {ws : List (Int × Int)}
end

variable (g : Nat → PV) (lf n : Nat)

/-- Between two marks. -/
def OwnWB (n m : Nat) (h : PHeap) (p : PV) (ws : List (Int × Int)) : Prop := (p = .nilsl ∧ ws = []) ∨ ∃ id, n ≤ id ∧ id < m ∧ p = .sl id 0 ws.length ∧ h[id]? = some (.own 2 (wc ws))
theorem OwnW.b {n : Nat} {h : PHeap} {p : PV} {ws : List (Int × Int)} (s : OwnW n h p ws) : OwnWB n h.length h p ws := by
  rcases s with s | ⟨id, h1, h2, h3⟩
  · exact .inl s
  · exact .inr ⟨id, h1, (List.getElem?_eq_some_iff.1 h3).1, h2, h3⟩
theorem OwnWB.sl {n m : Nat} {h : PHeap} {p : PV} {ws : List (Int × Int)} (s : OwnWB n m h p ws) : OwnW n h p ws := by
  rcases s with s | ⟨id, h1, _, h2, h3⟩
  · exact .inl s
  · exact .inr ⟨id, h1, h2, h3⟩
theorem OwnWB.keep {n m : Nat} {h h' : PHeap} {p : PV} {ws : List (Int × Int)} (s : OwnWB n m h p ws) (k : Keep m h h') : OwnWB n m h' p ws := by
  rcases s with s | ⟨id, h1, h2, h3, h4⟩
  · exact .inl s
  · exact .inr ⟨id, h1, h2, h3, by rw [k.2 id h2]; exact h4⟩
end Go.Proofs.Ytihlmjapddjjjaa

/- The model's chapter 3, on: the winning cells and the moves played on. -/
set_option maxRecDepth 20000
namespace Go.Proofs.Ytihlmjapddjjjaa
open Go Go.Ip G

/-! ### two lists at once: one between two marks, that is written to, and one apart from it, that grows -/
def Apart (b0 b1 b2 : Nat) (h : PHeap) (q : PV) (ys : List Int) : Prop := ∃ n m, OwnB n m h q ys ∧ b0 ≤ n ∧ (m ≤ b1 ∨ b2 ≤ n) ∧ m ≤ h.length
theorem Apart.keep {b0 b1 b2 : Nat} {h h' : PHeap} {q : PV} {ys : List Int} (s : Apart b0 b1 b2 h q ys) (k : Keep h.length h h') : Apart b0 b1 b2 h' q ys := by
  obtain ⟨n, m, o, h1, h2, h3⟩ := s
  exact ⟨n, m, o.keep (k.mono h3), h1, h2, Nat.le_trans h3 k.1⟩
theorem Apart.only {b0 b1 b2 : Nat} {h h' : PHeap} {q : PV} {ys : List Int} (s : Apart b0 b1 b2 h q ys) (k : Only b1 b2 h h') : Apart b0 b1 b2 h' q ys := by
  obtain ⟨n, m, o, h1, h2, h3⟩ := s
  exact ⟨n, m, o.only k (h2.imp id id), h1, h2, by rw [k.1]; exact h3⟩
theorem Apart.sl {b0 b1 b2 : Nat} {h : PHeap} {q : PV} {ys : List Int} (s : Apart b0 b1 b2 h q ys) : OwnSl b0 h q ys := by
  obtain ⟨n, m, o, h1, h2, h3⟩ := s
  exact o.sl.mono h1

theorem OwnB.append {n m : Nat} {h : PHeap} {p : PV} {xs : List Int} (s : OwnB n m h p xs) (hn : n ≤ h.length) (x : Int) (hl : xs.length + 1 ≤ 2 ^ 36) :
    ∃ v p' h', buildSliceP Try.prog 31 1 [(0, .int .i64 x)] h = some v ∧ appendP Try.prog 31 31 p v.1 v.2 = some (p', h') ∧ OwnSl h.length h' p' (xs ++ [x]) ∧ Keep n h h' ∧
      ∀ a b r zs, OwnB a b h r zs → (b ≤ n ∨ m ≤ a) → OwnB a b h' r zs := by
  have hb : buildSliceP Try.prog 31 1 [(0, .int .i64 x)] h = some (.sl h.length 0 1, h ++ [.own 1 [.int .i64 x]]) := by
    simp [buildSliceP, tyElem, tySize, tyZero, repeatCells, fillP, PV.cells, setCells]
  have hsrc : srcP (h ++ [.own 1 [.int .i64 x]]) 1 (.sl h.length 0 1) = some (1, [.int .i64 x]) := by
    simp [srcP, cellsAt, PObj.get]
  rcases s with ⟨rfl, rfl⟩ | ⟨id, h1, h2, rfl, h3⟩
  · refine ⟨_, .sl (h.length + 1) 0 1, h ++ [.own 1 [.int .i64 x]] ++ [.own 1 [.int .i64 x]], hb, ?_, .inr ⟨h.length + 1, by omega, rfl, ?_⟩, ?_, ?_⟩
    · simp [appendP, tyElem, tySize, tySmall, hsrc]
    · rw [List.getElem?_append_right (by simp)]; simp
    · rw [List.append_assoc]; exact Keep.append _ _ _ hn
    · rintro a b r zs (⟨rfl, rfl⟩ | ⟨i, i1, i2, rfl, i3⟩) _
      · exact .inl ⟨rfl, rfl⟩
      · refine .inr ⟨i, i1, i2, rfl, ?_⟩
        have hi : i < h.length := (List.getElem?_eq_some_iff.1 i3).1
        rw [List.append_assoc, List.getElem?_append_left hi]; exact i3
  · have hid : id < h.length := (List.getElem?_eq_some_iff.1 h3).1
    have h3' : (h ++ [PObj.own 1 [.int .i64 x]])[id]? = some (.own 1 (xs.map (.int .i64))) := by rw [List.getElem?_append_left hid]; exact h3
    refine ⟨_, .sl (h.length + 1) 0 (xs.length + 1), ((h ++ [PObj.own 1 [.int .i64 x]]).set id .dead ++ [PObj.own 1 (xs.map (.int .i64) ++ [.int .i64 x])]), hb, ?_, .inr ⟨h.length + 1, by omega, by simp, ?_⟩, ?_, ?_⟩
    · simp [appendP, tyElem, tySize, tySmall, hsrc, h3', hl]
    · rw [List.getElem?_append_right (by simp)]; simp
    · exact ((Keep.append n h _ hn).trans (Keep.set n _ id .dead h1)).trans (Keep.append _ _ _ (by simp; omega))
    · rintro a b r zs (⟨rfl, rfl⟩ | ⟨i, i1, i2, rfl, i3⟩) hd
      · exact .inl ⟨rfl, rfl⟩
      · refine .inr ⟨i, i1, i2, rfl, ?_⟩
        have hi : i < h.length := (List.getElem?_eq_some_iff.1 i3).1
        rw [List.getElem?_append_left (by simp; omega), List.getElem?_set_ne (by omega), List.getElem?_append_left hi]; exact i3

section
variable {Q : PV → PHeap → Prop} {h : PHeap} {p r : PV} {xs zs : List Int} {b0 b1 b2 : Nat}
end

/-! ### winning cells -/
variable (g : Nat → PV) (lf n : Nat)

/-! ### played on -/
end Go.Proofs.Ytihlmjapddjjjaa

/- Chapter 3's laws over what the program's functions are asked to compute: the draws, and the exact laws. -/
set_option maxRecDepth 20000
namespace Go.Proofs.Ytihlmjapddjjjaa
open Go Go.Ip G

theorem W.yes {x : Res} (hx : W x fun v _ => v = .bool true) : ∃ h', x = some (.bool true, h') := by
  obtain ⟨_, h', e, rfl⟩ := hx; exact ⟨h', e⟩
section
variable {Q : PV → PHeap → Prop} {b : Bool} {f : PV → Res}
theorem wneqBB (hf : W (f (.bool false)) Q) : W ((binP Try.prog .neq 4 (.bool b) (.bool b)).bind f) Q := wbd (by rw [neqB]; simp) hf
theorem weqlBB (hf : W (f (.bool true)) Q) : W ((binP Try.prog .eql 4 (.bool b) (.bool b)).bind f) Q := wbd (by rw [eqlB]; simp) hf
end
theorem Fix.re {m : Nat} {h h' : PHeap} {p : PV} {xs : List Int} (s : Fix m h p xs) (k : Keep m h h') (hm : m ≤ h.length) : Fix h'.length h' p xs := fun h2 k2 => s h2 (k.trans (k2.mono (Nat.le_trans hm k.1)))
theorem tabF {g : Nat → PV} {h h1 : PHeap} (t : TabOk g h) (k : Keep h.length h h1) : ∀ h2, Keep h1.length h1 h2 → TabOk g h2 := fun _ k2 => (t.keep k).keep k2

variable (g : Nat → PV) (lf n : Nat)

/-! ### the draws -/
end Go.Proofs.Ytihlmjapddjjjaa

/- What is asked of the program's functions of chapter 9, and their exact laws. -/
set_option maxRecDepth 20000
namespace Go.Proofs.Ytihlmjapddjjjaa
open Go Go.Ip G

def WiresOkOk (g : Nat → PV) (lf : Nat) : Prop := ∀ (N : Nat), 40 ≤ N → ∀ (nodes : Int) {ws : List (Int × Int)} {p : PV} {h : PHeap}, TabOk g h → WSl h p ws → ws.length ≤ 2 ^ 35 → ws.length < lf →
  ∃ h', CL g lf N fn_impl_WiresOk [.int .i64 nodes, p] h = some (.bool (wiresB nodes ws), h') ∧ Keep h.length h h'
def OwnersOkOk (g : Nat → PV) (lf : Nat) : Prop := ∀ (N : Nat), 40 ≤ N → ∀ (nodes : Int) {ws : List (Int × Int)} {p : PV} {os : List Int} {po : PV} {h : PHeap}, TabOk g h → WSl h p ws → ws.length ≤ 2 ^ 35 → ws.length < lf → IntSl .i64 h po os → os.length ≤ 2 ^ 35 → os.length < lf →
  ∃ h', CL g lf N fn_impl_OwnersOk [.int .i64 nodes, p, po] h = some (.bool (ownersB nodes ws os), h') ∧ Keep h.length h h'
variable (g : Nat → PV) (lf n : Nat)

end Go.Proofs.Ytihlmjapddjjjaa

/- The laws of chapter 9 over what the program's functions are asked to compute: wires, links, owners, and what is won. -/
set_option maxRecDepth 20000
namespace Go.Proofs.Ytihlmjapddjjjaa
open Go Go.Ip G

/-! ### one wire more, with what lies between its two steps -/
theorem OwnW.two {n : Nat} {h : PHeap} {p : PV} {ws : List (Int × Int)} (s : OwnW n h p ws) (hn : n ≤ h.length) (a b : Int) (hl : ws.length + 1 ≤ 2 ^ 36) :
    ∃ v p' h', buildSliceP Try.prog 23 1 [(0, .agg [.int .i64 a, .int .i64 b])] h = some v ∧ Keep h.length h v.2 ∧ appendP Try.prog 23 23 p v.1 v.2 = some (p', h') ∧ OwnW n h' p' (ws ++ [(a, b)]) ∧ Keep n h h' := by
  have hb : buildSliceP Try.prog 23 1 [(0, .agg [.int .i64 a, .int .i64 b])] h = some (.sl h.length 0 1, h ++ [.own 2 [.int .i64 a, .int .i64 b]]) := by
    simp [buildSliceP, twElem, twSize, twZero, repeatCells, fillP, PV.cells, PV.oneCell, setCells]
  have hsrc : srcP (h ++ [.own 2 [.int .i64 a, .int .i64 b]]) 2 (.sl h.length 0 1) = some (1, [.int .i64 a, .int .i64 b]) := by
    simp [srcP, cellsAt, PObj.get]
  rcases s with ⟨rfl, rfl⟩ | ⟨id, h1, rfl, h3⟩
  · refine ⟨_, .sl (h.length + 1) 0 1, h ++ [.own 2 [.int .i64 a, .int .i64 b]] ++ [.own 2 [.int .i64 a, .int .i64 b]], hb, Keep.append _ _ _ (Nat.le_refl _), ?_, .inr ⟨h.length + 1, by omega, rfl, ?_⟩, ?_⟩
    · simp [appendP, twElem, twSize, twSmall, hsrc]
    · rw [List.getElem?_append_right (by simp)]; simp [wc]
    · rw [List.append_assoc]; exact Keep.append _ _ _ hn
  · have hid : id < h.length := (List.getElem?_eq_some_iff.1 h3).1
    have h3' : (h ++ [PObj.own 2 [.int .i64 a, .int .i64 b]])[id]? = some (.own 2 (wc ws)) := by rw [List.getElem?_append_left hid]; exact h3
    refine ⟨_, .sl (h.length + 1) 0 (ws.length + 1), ((h ++ [PObj.own 2 [.int .i64 a, .int .i64 b]]).set id .dead ++ [PObj.own 2 (wc ws ++ [.int .i64 a, .int .i64 b])]), hb, Keep.append _ _ _ (Nat.le_refl _), ?_, .inr ⟨h.length + 1, by omega, by simp, ?_⟩, ?_⟩
    · have := wc_length ws
      simp [appendP, twElem, twSize, twSmall, hsrc, h3', hl, this, Nat.mul_comm]
    · rw [List.getElem?_append_right (by simp)]; simp [wc_append, wc]
    · exact ((Keep.append n h _ hn).trans (Keep.set n _ id .dead h1)).trans (Keep.append _ _ _ (by simp; omega))
/-- A wire is read at the same place, whatever came behind. -/
theorem WSl.at2 {h h2 : PHeap} {p : PV} {ws : List (Int × Int)} (s2 : WSl h2 p ws) {i : Nat} (hi : i < ws.length) {id off : Nat} (e : indexAddrP Try.prog 23 p (.int .i64 (i : Int)) = some (.ptr id off)) :
    loadP Try.prog 3 (.ptr id (off + 0)) h2 = some (.int .i64 ws[i].1) ∧ loadP Try.prog 3 (.ptr id (off + 1)) h2 = some (.int .i64 ws[i].2) := by
  obtain ⟨id', off', e', _, l0, l1⟩ := s2.at hi
  rw [e] at e'
  cases e'
  exact ⟨l0, l1⟩

/-! ### what holds -/
def swW (w : Int × Int) : Int × Int := (w.2, w.1)
theorem goodW_sw (nodes : Int) (w : Int × Int) : goodW nodes (swW w) = goodW nodes w := by
  unfold goodW swW
  rw [Bool.eq_iff_iff, decide_eq_true_eq, decide_eq_true_eq]
  constructor <;> (rintro ⟨a, b, c, d, e⟩; exact ⟨c, d, a, b, fun h => e h.symm⟩)
theorem wires_sw (nodes : Int) (ws : List (Int × Int)) : wiresB nodes (ws.map swW) = wiresB nodes ws := by
  unfold wiresB
  rw [List.length_map, List.all_map]
  congr 1
  rw [Bool.eq_iff_iff, List.all_eq_true, List.all_eq_true]
  constructor <;> (intro h w hw; have := h w hw; simpa [goodW_sw] using this)
theorem wires_out {nodes : Int} {ws : List (Int × Int)} (h : nodes < 2 ∨ 5 < nodes) : wiresB nodes ws = false := by
  unfold wiresB
  rw [decide_eq_false (by omega : ¬ (2 ≤ nodes ∧ nodes ≤ 5)), Bool.false_and, Bool.and_false]
theorem wires_nil {nodes : Int} (h1 : 2 ≤ nodes) (h2 : nodes ≤ 5) : wiresB nodes [] = true := by
  unfold wiresB
  rw [decide_eq_true (⟨h1, h2⟩ : 2 ≤ nodes ∧ nodes ≤ 5)]; rfl
variable (g : Nat → PV) (lf n : Nat)

theorem fnWiresOk_calls (hWs : WiresOkOk g lf) {p : PV} {ys : List Int} {h : PHeap} (N : Nat) (hN : 45 ≤ N) (ha : Arg h p ys) (hlf : 1000 < lf) (ht : TabOk g h) :
    ∃ h', CL g lf N fn_laws_FnWiresOk [p] h = some (.bool true, h') := by
  obtain ⟨n, rfl⟩ : ∃ n, N = n + 1 := ⟨N - 1, by omega⟩
  apply W.yes
  rw [laws_FnWiresOk.call_eq]
  unfold laws_FnWiresOk.main
  simp only [env_C, env_lf, env_pick, env_buildSlice, env_bin, env_un, env_extract, env_len]
  have hlenp : lenP Try.prog 22 p = some (.int .i64 ys.length) := (ha.1 h (Keep.refl _ _)).len tyB
  by_cases hbig : (1048576 : Int) < (ys.length : Int)
  · repeat (first | with_reducible refine wT ?_ | with_reducible refine wrB ?_ | with_reducible refine wbd (by assumption) ?_ | with_reducible refine wgtrT (by omega) ?_)
    exact W.ret rfl
  obtain ⟨nodes, q, ws, h1, e1, k1, hq0, hl, hn1, hn6⟩ := drawWiresOk_W g lf n (by omega) ha (by omega)
  have htF := tabF ht k1
  have hw : FixW h1.length h1 q ws := hq0.fix
  have hal : ∀ h2, CL g lf n fn_laws_alive [] h2 = some (.bool true, h2) := fun h2 => alive_calls g lf n (by omega) h2
  obtain ⟨h2, e2, k2⟩ := hWs n (by omega) nodes (htF _ (Keep.refl _ _)) hq0 (by omega) (by omega)
  obtain ⟨h3, e3, k3⟩ := specWiresOk_calls g lf n (by omega) nodes (hw.get k2) (by omega) (by omega)
  have K3 : Keep h1.length h1 h3 := k2.trans (k3.mono k2.1)
  by_cases hno : nodes < 2
  · rw [wires_out (.inl hno)] at e2 e3
    repeat (first | with_reducible refine wT ?_ | with_reducible refine wF ?_ | with_reducible refine wg1 rfl ?_ | with_reducible refine wg0 rfl ?_ | with_reducible refine wpT ?_ | with_reducible refine wnF ?_ | with_reducible refine wsm ?_ | with_reducible refine wrB ?_ | with_reducible refine wx0 ?_ | with_reducible refine wx1 ?_ | with_reducible refine wbd (by assumption) ?_ | (with_reducible refine wneqBB ?_) | (with_reducible refine wbd (hal _) ?_) | with_reducible refine wlssT (by omega) ?_ | with_reducible refine wgtrF (by omega) ?_ | dsimp only)
    exact W.ret rfl
  by_cases hno2 : 5 < nodes
  · rw [wires_out (.inr hno2)] at e2 e3
    repeat (first | with_reducible refine wT ?_ | with_reducible refine wF ?_ | with_reducible refine wg1 rfl ?_ | with_reducible refine wpT ?_ | with_reducible refine wpF ?_ | with_reducible refine wnF ?_ | with_reducible refine wpv ?_ | with_reducible refine wsm ?_ | with_reducible refine wrB ?_ | with_reducible refine wx0 ?_ | with_reducible refine wx1 ?_ | with_reducible refine wbd (by assumption) ?_ | (with_reducible refine wneqBB ?_) | (with_reducible refine wbd (hal _) ?_) | with_reducible refine wlssF (by omega) ?_ | with_reducible refine wgtrT (by omega) ?_ | with_reducible refine wgtrF (by omega) ?_ | dsimp only)
    exact W.ret rfl
  repeat (first | with_reducible refine wF ?_ | with_reducible refine wg1 rfl ?_ | with_reducible refine wpF ?_ | with_reducible refine wpv ?_ | with_reducible refine wsm ?_ | with_reducible refine wx0 ?_ | with_reducible refine wx1 ?_ | with_reducible refine wbd (by assumption) ?_ | (with_reducible refine wneqBB ?_) | with_reducible refine wlssF (by omega) ?_ | with_reducible refine wgtrF (by omega) ?_ | dsimp only)
  refine wemptyW fun q0 h4 o4 k4 => ?_
  have K4 : Keep h1.length h1 h4 := K3.trans (k4.mono K3.1)
  have hlw := (hw.get K4).len
  dsimp only
  refine loopW (fun m st => ∃ (i : Nat) (q2 : PV) (h5 : PHeap), st = laws_FnWiresOk.st0 (.int .i64 nodes) q (.bool (wiresB nodes ws)) q2 (.int .i64 (i : Int)) h5 ∧ i + m = ws.length ∧ OwnW h3.length h5 q2 ((ws.take i).map swW) ∧ Keep h3.length h4 h5) ?_ lf ws.length _ (by omega)
    ⟨0, q0, h4, rfl, by omega, o4, Keep.refl _ _⟩
  rintro n1 m st ⟨i, q2, h5, rfl, him, o5, k5⟩ next
  have K5 : Keep h1.length h1 h5 := K4.trans (k5.mono K3.1)
  have w5 := hw.get K5
  have hl5 := w5.len
  rw [laws_FnWiresOk.body0_eq]
  unfold laws_FnWiresOk.body0
  simp only [env_build, env_buildSlice, env_load, env_bin, env_fieldAddr, env_indexAddr, env_len, env_append]
  by_cases hi : i < ws.length
  · obtain ⟨id, off, ei, la, l0, l1⟩ := w5.at hi
    obtain ⟨v, q6, h6, eb, kb, ea, o6, k6⟩ := o5.two (Nat.le_trans k4.1 k5.1) ws[i].2 ws[i].1 (by rw [List.length_map, List.length_take]; omega)
    have K6 : Keep h1.length h1 h6 := K5.trans (k6.mono K3.1)
    obtain ⟨m0, m1⟩ := WSl.at2 (h := h5) (hw.get (K5.trans (kb.mono K5.1))) hi ei
    obtain ⟨z0, z1⟩ := WSl.at2 (h := h5) (hw.get K6) hi ei
    repeat (first | with_reducible refine wT ?_ | with_reducible refine wck plain_int ?_ | with_reducible refine wbd (by assumption) ?_ | (with_reducible refine wbw ?_) | (with_reducible refine wfa0 ?_) | (with_reducible refine wfa1 ?_) | with_reducible refine wadd1 (by omega) ?_ | with_reducible refine wlssT (by omega) ?_ | dsimp only)
    refine next _ _ (show m - 1 < m by omega) ⟨i + 1, q6, h6, rfl, by omega, ?_, k5.trans k6⟩
    rw [List.take_succ_eq_append_getElem hi, List.map_append]; exact o6
  · have hie : i = ws.length := by omega
    rw [hie, List.take_length] at o5
    repeat (first | with_reducible refine wF ?_ | with_reducible refine wbd (by assumption) ?_ | with_reducible refine wlssF (by omega) ?_ | rw [kLoop_exit] | rw [laws_FnWiresOk.after0_se0_3_4_5_6_7_39] | simp only [env_C, env_Y, env_g, env_lf, env_pick, env_alloc, env_box, env_build, env_buildSlice, env_load, env_store, env_ptr, env_bin, env_un, env_conv, env_make, env_slice, env_fieldAddr, env_field, env_indexAddr, env_index, env_extract, env_len, env_append, env_max, env_min, env_makeMap, env_lookup, env_update, env_clos, env_bstr])
    refine wemptyW fun pe h6 o6 k6 => ?_
    have K6 : Keep h1.length h1 h6 := K5.trans (k6.mono K5.1)
    obtain ⟨h7, e7, k7⟩ := hWs n (by omega) nodes (htF _ K6) o6.sl (by decide) (by rw [List.length_nil]; omega)
    rw [wires_nil (by omega) (by omega)] at e7
    obtain ⟨h8, e8, k8⟩ := hWs n (by omega) nodes (htF _ (K6.trans (k7.mono K6.1))) ((o5.keep k6).keep k7).sl (by rw [List.length_map]; omega) (by rw [List.length_map]; omega)
    rw [wires_sw] at e8
    repeat (first | with_reducible refine wg1 rfl ?_ | with_reducible refine wpT ?_ | with_reducible refine wpv ?_ | with_reducible refine wsm ?_ | with_reducible refine wrB ?_ | with_reducible refine wbd (by assumption) ?_ | (with_reducible refine weqlBB ?_) | (with_reducible refine wbd (hal _) ?_) | dsimp only)
    exact W.ret rfl

/-- Both players exchanged. -/
def swO (x : Int) : Int := if x = 1 ∨ x = 2 then 3 - x else x
theorem content_sw (x : Int) : contentB (swO x) = contentB x := by
  unfold contentB swO
  split
  · rename_i h
    rcases h with rfl | rfl <;> rfl
  · rfl
theorem owners_sw (nodes : Int) (ws : List (Int × Int)) (os : List Int) : ownersB nodes ws (os.map swO) = ownersB nodes ws os := by
  unfold ownersB
  rw [List.length_map, List.all_map]
  congr 1
  rw [Bool.eq_iff_iff, List.all_eq_true, List.all_eq_true]
  constructor <;> (intro h w hw; have := h w hw; simpa [content_sw] using this)
theorem owners_free (nodes : Int) (ws : List (Int × Int)) : ownersB nodes ws (List.replicate ws.length 0) = wiresB nodes ws := by
  unfold ownersB
  rw [List.length_replicate, decide_eq_true rfl, Bool.and_true]
  have : (List.replicate ws.length (0 : Int)).all contentB = true := List.all_eq_true.2 fun x hx => by rw [(List.mem_replicate.1 hx).2]; rfl
  rw [this, Bool.true_and]

theorem fnOwnersOk_calls (hWs : WiresOkOk g lf) (hOw : OwnersOkOk g lf) {p : PV} {ys : List Int} {h : PHeap} (N : Nat) (hN : 45 ≤ N) (ha : Arg h p ys) (hlf : 1000 < lf) (ht : TabOk g h) :
    ∃ h', CL g lf N fn_laws_FnOwnersOk [p] h = some (.bool true, h') := by
  obtain ⟨n, rfl⟩ : ∃ n, N = n + 1 := ⟨N - 1, by omega⟩
  apply W.yes
  rw [laws_FnOwnersOk.call_eq]
  unfold laws_FnOwnersOk.main
  simp only [env_C, env_lf, env_buildSlice, env_bin, env_extract, env_len]
  have hlenp : lenP Try.prog 22 p = some (.int .i64 ys.length) := (ha.1 h (Keep.refl _ _)).len tyB
  by_cases hbig : (1048576 : Int) < (ys.length : Int)
  · repeat (first | with_reducible refine wT ?_ | with_reducible refine wrB ?_ | with_reducible refine wbd (by assumption) ?_ | with_reducible refine wgtrT (by omega) ?_)
    exact W.ret rfl
  obtain ⟨nodes, q, ws, qo, os, h1, e1, k1, hq0, hl, hn1, hn6, ho0, hol⟩ := drawOwnersOk_W g lf n (by omega) ha (by omega)
  have htF := tabF ht k1
  have hw : FixW h1.length h1 q ws := hq0.fix
  have ho : Fix h1.length h1 qo os := ho0.fix
  have hal : ∀ h2, CL g lf n fn_laws_alive [] h2 = some (.bool true, h2) := fun h2 => alive_calls g lf n (by omega) h2
  obtain ⟨h2, e2, k2⟩ := hOw n (by omega) nodes (htF _ (Keep.refl _ _)) hq0 (by omega) (by omega) ho0 (by omega) (by omega)
  obtain ⟨h3, e3, k3⟩ := specOwners_calls g lf n (by omega) nodes (hw.get k2) (by omega) (by omega) (ho _ k2) (by omega) (by omega)
  have K3 : Keep h1.length h1 h3 := k2.trans (k3.mono k2.1)
  repeat (first | with_reducible refine wF ?_ | with_reducible refine wx0 ?_ | with_reducible refine wx1 ?_ | with_reducible refine wx2 ?_ | with_reducible refine wbd (by assumption) ?_ | (with_reducible refine wneqBB ?_) | with_reducible refine wgtrF (by omega) ?_ | dsimp only)
  refine wempty fun q0 h4 o4 k4 => ?_
  have K4 : Keep h1.length h1 h4 := K3.trans (k4.mono K3.1)
  have hlo := (ho _ K4).len'
  dsimp only
  refine loopW (fun m st => ∃ (i : Nat) (q2 : PV) (h5 : PHeap), st = laws_FnOwnersOk.st0 (.int .i64 nodes) q qo (.bool (ownersB nodes ws os)) q2 (.int .i64 (i : Int)) h5 ∧ i + m = os.length ∧ OwnSl h3.length h5 q2 ((os.take i).map swO) ∧ Keep h3.length h4 h5) ?_ lf os.length _ (by omega)
    ⟨0, q0, h4, rfl, by omega, o4, Keep.refl _ _⟩
  rintro n1 m st ⟨i, q2, h5, rfl, him, o5, k5⟩ next
  have K5 : Keep h1.length h1 h5 := K4.trans (k5.mono K3.1)
  have w5 := hw.get K5
  have hl5 := w5.len
  have i5 := ho _ K5
  rw [laws_FnOwnersOk.body0_eq]
  unfold laws_FnOwnersOk.body0
  simp only [env_pick, env_buildSlice, env_load, env_bin, env_indexAddr, env_len, env_append]
  by_cases hi : i < os.length
  · obtain ⟨a, ea, la⟩ := i5.at' hi
    have hstep : (os.take (i + 1)).map swO = (os.take i).map swO ++ [swO os[i]] := by rw [List.take_succ_eq_append_getElem hi, List.map_append]; rfl
    have hlt : ((os.take i).map swO).length + 1 ≤ 2 ^ 36 := by rw [List.length_map, List.length_take]; omega
    obtain ⟨x, hx⟩ : ∃ x, x = os[i] := ⟨_, rfl⟩
    rw [← hx] at la hstep
    by_cases h1x : x = 1
    · subst h1x
      repeat (first | with_reducible refine wT ?_ | with_reducible refine wg0 rfl ?_ | with_reducible refine wpT ?_ | with_reducible refine wsm ?_ | with_reducible refine wbd (by assumption) ?_ | with_reducible refine wlssT (by omega) ?_ | with_reducible refine weqlT (by omega) ?_ | with_reducible refine wsub (by omega) ?_ | dsimp only)
      refine wap o5 (Nat.le_trans k4.1 k5.1) hlt fun q6 h6 o6 k6 => ?_
      repeat (first | with_reducible refine wadd1 (by omega) ?_ | dsimp only)
      exact next _ _ (show m - 1 < m by omega) ⟨i + 1, q6, h6, rfl, by omega, by rw [hstep]; exact o6, k5.trans k6⟩
    · by_cases h2x : x = 2
      · subst h2x
        repeat (first | with_reducible refine wT ?_ | with_reducible refine wg1 rfl ?_ | with_reducible refine wpF ?_ | with_reducible refine wpv ?_ | with_reducible refine wsm ?_ | with_reducible refine wbd (by assumption) ?_ | with_reducible refine wlssT (by omega) ?_ | with_reducible refine weqlT (by omega) ?_ | with_reducible refine weqlF (by omega) ?_ | with_reducible refine wsub (by omega) ?_ | dsimp only)
        refine wap o5 (Nat.le_trans k4.1 k5.1) hlt fun q6 h6 o6 k6 => ?_
        repeat (first | with_reducible refine wadd1 (by omega) ?_ | dsimp only)
        exact next _ _ (show m - 1 < m by omega) ⟨i + 1, q6, h6, rfl, by omega, by rw [hstep]; exact o6, k5.trans k6⟩
      · have hsx : swO x = x := by unfold swO; rw [if_neg (by omega)]
        rw [hsx] at hstep
        repeat (first | with_reducible refine wT ?_ | with_reducible refine wF ?_ | with_reducible refine wg1 rfl ?_ | with_reducible refine wpF ?_ | with_reducible refine wpv ?_ | with_reducible refine wsm ?_ | with_reducible refine wbd (by assumption) ?_ | with_reducible refine wlssT (by omega) ?_ | with_reducible refine weqlF (by omega) ?_ | dsimp only)
        refine wap o5 (Nat.le_trans k4.1 k5.1) hlt fun q6 h6 o6 k6 => ?_
        repeat (first | with_reducible refine wadd1 (by omega) ?_ | dsimp only)
        exact next _ _ (show m - 1 < m by omega) ⟨i + 1, q6, h6, rfl, by omega, by rw [hstep]; exact o6, k5.trans k6⟩
  · have hie : i = os.length := by omega
    rw [hie, List.take_length] at o5
    obtain ⟨h6, e6, k6⟩ := hOw n (by omega) nodes (htF _ K5) w5 (by omega) (by omega) o5.int (by rw [List.length_map]; omega) (by rw [List.length_map]; omega)
    rw [owners_sw] at e6
    have K6 : Keep h1.length h1 h6 := K5.trans (k6.mono K5.1)
    have hl6 := (hw.get K6).len
    repeat (first | with_reducible refine wF ?_ | with_reducible refine wg1 rfl ?_ | with_reducible refine wpv ?_ | with_reducible refine wsm ?_ | with_reducible refine wbd (by assumption) ?_ | (with_reducible refine weqlBB ?_) | with_reducible refine wlssF (by omega) ?_ | rw [kLoop_exit] | rw [laws_FnOwnersOk.after0_se0_3_4_5_6_7_8_33] | dsimp only | simp only [env_C, env_Y, env_g, env_lf, env_pick, env_alloc, env_box, env_build, env_buildSlice, env_load, env_store, env_ptr, env_bin, env_un, env_conv, env_make, env_slice, env_fieldAddr, env_field, env_indexAddr, env_index, env_extract, env_len, env_append, env_max, env_min, env_makeMap, env_lookup, env_update, env_clos, env_bstr])
    refine wmake (m := ws.length) (by omega) fun pm h7 o7 k7 => ?_
    have K7 : Keep h1.length h1 h7 := K6.trans (k7.mono K6.1)
    obtain ⟨h8, e8, k8⟩ := hOw n (by omega) nodes (htF _ K7) (hw.get K7) (by omega) (by omega) o7.int (by rw [List.length_replicate]; omega) (by rw [List.length_replicate]; omega)
    rw [owners_free] at e8
    obtain ⟨h9, e9, k9⟩ := hWs n (by omega) nodes (htF _ (K7.trans (k8.mono K7.1))) (hw.get (K7.trans (k8.mono K7.1))) (by omega) (by omega)
    repeat (first | with_reducible refine wg1 rfl ?_ | with_reducible refine wpT ?_ | with_reducible refine wpv ?_ | with_reducible refine wsm ?_ | with_reducible refine wrB ?_ | with_reducible refine wbd (by assumption) ?_ | (with_reducible refine weqlBB ?_) | (with_reducible refine wbd (hal _) ?_) | dsimp only)
    exact W.ret rfl

end Go.Proofs.Ytihlmjapddjjjaa

/- What the program's functions on nets and owners compute: those that ask no table. -/
set_option maxRecDepth 20000
namespace Go.Proofs.Ytihlmjapddjjjaa
open Go Go.Ip G

variable (g : Nat → PV) (lf n : Nat)

theorem nodeOk_W (N : Nat) (hN : 1 ≤ N) (h : PHeap) (nodes x : Int) : CL g lf N fn_impl_nodeOk [.int .i64 nodes, .int .i64 x] h = some (.bool (decide (0 ≤ x ∧ x < nodes)), h) := by
  obtain ⟨n, rfl⟩ : ∃ n, N = n + 1 := ⟨N - 1, by omega⟩
  have : W (CL g lf (n + 1) fn_impl_nodeOk [.int .i64 nodes, .int .i64 x] h) fun v h' => v = .bool (decide (0 ≤ x ∧ x < nodes)) ∧ h' = h := by
    rw [impl_nodeOk.call_eq]
    unfold impl_nodeOk.main
    simp only [env_pick, env_bin]
    by_cases c1 : 0 ≤ x
    · by_cases c2 : x < nodes
      · repeat (first | with_reducible refine wg1 rfl ?_ | with_reducible refine wpT ?_ | with_reducible refine wpv ?_ | with_reducible refine wsm ?_ | with_reducible refine wrB ?_ | with_reducible refine wlssT (by omega) ?_ | with_reducible refine wgeqT (by omega) ?_ | dsimp only)
        exact W.ret ⟨by rw [decide_eq_true ⟨c1, c2⟩], rfl⟩
      · repeat (first | with_reducible refine wg1 rfl ?_ | with_reducible refine wpT ?_ | with_reducible refine wpv ?_ | with_reducible refine wsm ?_ | with_reducible refine wrB ?_ | with_reducible refine wlssF (by omega) ?_ | with_reducible refine wgeqT (by omega) ?_ | dsimp only)
        exact W.ret ⟨by rw [decide_eq_false (fun hh => c2 hh.2)], rfl⟩
    · repeat (first | with_reducible refine wg0 rfl ?_ | with_reducible refine wpF ?_ | with_reducible refine wsm ?_ | with_reducible refine wrB ?_ | with_reducible refine wgeqF (by omega) ?_ | dsimp only)
      exact W.ret ⟨by rw [decide_eq_false (fun hh => c1 hh.1)], rfl⟩
  obtain ⟨_, _, e, rfl, rfl⟩ := this
  exact e

theorem wiresOk_W {ws : List (Int × Int)} {p : PV} {h : PHeap} (N : Nat) (hN : 3 ≤ N) (nodes : Int) (hp : WSl h p ws) (hl : ws.length ≤ 2 ^ 35) (hf : ws.length < lf) :
    ∃ h', CL g lf N fn_impl_WiresOk [.int .i64 nodes, p] h = some (.bool (wiresB nodes ws), h') ∧ Keep h.length h h' := by
  obtain ⟨n, rfl⟩ : ∃ n, N = n + 1 := ⟨N - 1, by omega⟩
  have hlen0 := hp.len
  have : W (CL g lf (n + 1) fn_impl_WiresOk [.int .i64 nodes, p] h) fun v h' => v = .bool (wiresB nodes ws) ∧ Keep h.length h h' := by
    rw [impl_WiresOk.call_eq]
    unfold impl_WiresOk.main
    simp only [env_lf, env_pick, env_bin, env_len]
    by_cases n1 : nodes < 2
    · repeat (first | with_reducible refine wT ?_ | with_reducible refine wg0 rfl ?_ | with_reducible refine wpT ?_ | with_reducible refine wsm ?_ | with_reducible refine wrB ?_ | with_reducible refine wlssT (by omega) ?_ | dsimp only)
      exact W.ret ⟨by unfold wiresB; rw [decide_eq_false (show ¬ (2 ≤ nodes ∧ nodes ≤ 5) by omega), Bool.false_and, Bool.and_false], Keep.refl _ _⟩
    by_cases n2 : 5 < nodes
    · repeat (first | with_reducible refine wT ?_ | with_reducible refine wg1 rfl ?_ | with_reducible refine wg0 rfl ?_ | with_reducible refine wpT ?_ | with_reducible refine wpF ?_ | with_reducible refine wpv ?_ | with_reducible refine wsm ?_ | with_reducible refine wrB ?_ | with_reducible refine wlssF (by omega) ?_ | with_reducible refine wgtrT (by omega) ?_ | dsimp only)
      exact W.ret ⟨by unfold wiresB; rw [decide_eq_false (show ¬ (2 ≤ nodes ∧ nodes ≤ 5) by omega), Bool.false_and, Bool.and_false], Keep.refl _ _⟩
    by_cases n3 : 8 < ws.length
    · repeat (first | with_reducible refine wT ?_ | with_reducible refine wg1 rfl ?_ | with_reducible refine wpF ?_ | with_reducible refine wpv ?_ | with_reducible refine wsm ?_ | with_reducible refine wrB ?_ | with_reducible refine wbd (by assumption) ?_ | with_reducible refine wlssF (by omega) ?_ | with_reducible refine wgtrT (by omega) ?_ | with_reducible refine wgtrF (by omega) ?_ | dsimp only)
      exact W.ret ⟨by unfold wiresB; rw [decide_eq_false (show ¬ ws.length ≤ 8 by omega), Bool.and_false, Bool.and_false], Keep.refl _ _⟩
    repeat (first | with_reducible refine wF ?_ | with_reducible refine wg1 rfl ?_ | with_reducible refine wpF ?_ | with_reducible refine wpv ?_ | with_reducible refine wsm ?_ | with_reducible refine wbd (by assumption) ?_ | with_reducible refine wlssF (by omega) ?_ | with_reducible refine wgtrF (by omega) ?_ | dsimp only)
    refine loopW (fun m s => ∃ (k : Nat) (h1 : PHeap), s = impl_WiresOk.st0 (.int .i64 nodes) p (.int .i64 (ws.length : Int)) (.int .i64 (k : Int)) h1 ∧ k + m = ws.length ∧ (ws.all (goodW nodes) = (ws.drop k).all (goodW nodes)) ∧ Keep h.length h h1) ?_ lf ws.length _ hf ⟨0, h, rfl, by omega, rfl, Keep.refl _ _⟩
    rintro n1' m s ⟨k, h1, rfl, hkm, hall, k1⟩ next
    have hp1 := hp.keep k1
    rw [impl_WiresOk.body0_eq]
    unfold impl_WiresOk.body0
    simp only [env_C, env_pick, env_alloc, env_load, env_store, env_bin, env_un, env_fieldAddr, env_indexAddr]
    cases m with
    | zero =>
      rw [List.drop_eq_nil_of_le (by omega), List.all_nil] at hall
      repeat (first | with_reducible refine wF ?_ | with_reducible refine wrB ?_ | with_reducible refine wlssF (by omega) ?_ | rw [kLoop_exit] | rw [impl_WiresOk.after0_se0_0_18_19_20_21])
      exact W.ret ⟨by unfold wiresB; rw [hall, decide_eq_true (show 2 ≤ nodes ∧ nodes ≤ 5 by omega), decide_eq_true (show ws.length ≤ 8 by omega)]; rfl, k1⟩
    | succ m =>
      have hk : k < ws.length := by omega
      have hdx : ws.drop k = ws[k] :: ws.drop (k + 1) := List.drop_eq_getElem_cons hk
      obtain ⟨id, off, e0, l0, _, _⟩ := hp1.at hk
      obtain ⟨⟨A, B⟩, hw⟩ : ∃ w, w = ws[k] := ⟨_, rfl⟩
      rw [← hw] at l0 hdx
      rw [hdx, List.all_cons] at hall
      repeat (first | with_reducible refine wT ?_ | with_reducible refine wbd (by assumption) ?_ | (refine walW fun h2 i2 a2 k2 ii2 => ?_) | (refine wstW a2 ii2 fun h3 a3 k3 hl3 => ?_) | with_reducible refine wlssT (by omega) ?_ | dsimp only)
      have l3 := a3.l0
      have l4 := a3.l1
      have K3 : Keep h.length h h3 := k1.trans ((k2.trans k3).mono k1.1)
      have e1 := nodeOk_W g lf n (by omega) h3 nodes A
      have e2 := nodeOk_W g lf n (by omega) h3 nodes B
      by_cases c5 : A = B
      · rw [show goodW nodes (A, B) = false from decide_eq_false (fun hh => hh.2.2.2.2 c5), Bool.false_and] at hall
        repeat (first | with_reducible refine wT ?_ | with_reducible refine wg0 rfl ?_ | with_reducible refine wpT ?_ | with_reducible refine wsm ?_ | with_reducible refine wrB ?_ | with_reducible refine wbd (by assumption) ?_ | (with_reducible refine wfa0 ?_) | (with_reducible refine wfa1 ?_) | with_reducible refine weqlT (by omega) ?_ | rw [kLoop_ret] | rw [impl_WiresOk.K0_ret] | rw [impl_WiresOk.top_sr_4] | dsimp only)
        exact W.ret ⟨by unfold wiresB; rw [hall]; rfl, K3⟩
      · cases d1 : decide (0 ≤ A ∧ A < nodes) with
        | false =>
          rw [d1] at e1
          have d1 := of_decide_eq_false d1
          rw [show goodW nodes (A, B) = false from decide_eq_false (fun hh => d1 ⟨hh.1, hh.2.1⟩), Bool.false_and] at hall
          repeat (first | with_reducible refine wT ?_ | with_reducible refine wg1 rfl ?_ | with_reducible refine wg0 rfl ?_ | with_reducible refine wpT ?_ | with_reducible refine wpF ?_ | with_reducible refine wnF ?_ | with_reducible refine wpv ?_ | with_reducible refine wsm ?_ | with_reducible refine wrB ?_ | with_reducible refine wbd (by assumption) ?_ | (with_reducible refine wfa0 ?_) | (with_reducible refine wfa1 ?_) | with_reducible refine weqlF (by omega) ?_ | rw [kLoop_ret] | rw [impl_WiresOk.K0_ret] | rw [impl_WiresOk.top_sr_4] | dsimp only)
          exact W.ret ⟨by unfold wiresB; rw [hall]; rfl, K3⟩
        | true =>
          rw [d1] at e1
          have d1 := of_decide_eq_true d1
          cases d2 : decide (0 ≤ B ∧ B < nodes) with
          | false =>
            rw [d2] at e2
            have d2 := of_decide_eq_false d2
            rw [show goodW nodes (A, B) = false from decide_eq_false (fun hh => d2 ⟨hh.2.2.1, hh.2.2.2.1⟩), Bool.false_and] at hall
            repeat (first | with_reducible refine wT ?_ | with_reducible refine wg1 rfl ?_ | with_reducible refine wpF ?_ | with_reducible refine wnT ?_ | with_reducible refine wnF ?_ | with_reducible refine wpv ?_ | with_reducible refine wsm ?_ | with_reducible refine wrB ?_ | with_reducible refine wbd (by assumption) ?_ | (with_reducible refine wfa0 ?_) | (with_reducible refine wfa1 ?_) | with_reducible refine weqlF (by omega) ?_ | rw [kLoop_ret] | rw [impl_WiresOk.K0_ret] | rw [impl_WiresOk.top_sr_4] | dsimp only)
            exact W.ret ⟨by unfold wiresB; rw [hall]; rfl, K3⟩
          | true =>
            rw [d2] at e2
            have d2 := of_decide_eq_true d2
            have hg : goodW nodes (A, B) = true := decide_eq_true ⟨d1.1, d1.2, d2.1, d2.2, c5⟩
            repeat (first | with_reducible refine wF ?_ | with_reducible refine wg1 rfl ?_ | with_reducible refine wpF ?_ | with_reducible refine wnT ?_ | with_reducible refine wpv ?_ | with_reducible refine wsm ?_ | with_reducible refine wbd (by assumption) ?_ | (with_reducible refine wfa0 ?_) | (with_reducible refine wfa1 ?_) | with_reducible refine wadd1 (by omega) ?_ | with_reducible refine weqlF (by omega) ?_ | dsimp only)
            exact next _ _ (Nat.lt_succ_self m) ⟨k + 1, h3, rfl, by omega, by rw [hall, hg, Bool.true_and], K3⟩
  obtain ⟨_, h', e, rfl, k⟩ := this
  exact ⟨h', e, k⟩

theorem ownersOk_W {ws : List (Int × Int)} {os : List Int} {p po : PV} {h : PHeap} (N : Nat) (hN : 4 ≤ N) (nodes : Int) (hp : WSl h p ws) (hl : ws.length ≤ 2 ^ 35) (hf : ws.length < lf) (ho : IntSl .i64 h po os) (hol : os.length ≤ 2 ^ 35) (hof : os.length < lf) :
    ∃ h', CL g lf N fn_impl_OwnersOk [.int .i64 nodes, p, po] h = some (.bool (ownersB nodes ws os), h') ∧ Keep h.length h h' := by
  obtain ⟨n, rfl⟩ : ∃ n, N = n + 1 := ⟨N - 1, by omega⟩
  obtain ⟨h1, e1, k1⟩ := wiresOk_W g lf n (by omega) nodes hp hl hf
  have hp1 := (hp.keep k1).len
  have ho1 := ho.keep k1
  have hlo := ho1.len'
  have : W (CL g lf (n + 1) fn_impl_OwnersOk [.int .i64 nodes, p, po] h) fun v h' => v = .bool (ownersB nodes ws os) ∧ Keep h.length h h' := by
    rw [impl_OwnersOk.call_eq]
    unfold impl_OwnersOk.main
    simp only [env_C, env_lf, env_pick, env_bin, env_un, env_len]
    cases hb : wiresB nodes ws with
    | false =>
      rw [hb] at e1
      repeat (first | with_reducible refine wT ?_ | with_reducible refine wg0 rfl ?_ | with_reducible refine wpT ?_ | with_reducible refine wnF ?_ | with_reducible refine wsm ?_ | with_reducible refine wrB ?_ | with_reducible refine wbd (by assumption) ?_ | dsimp only)
      exact W.ret ⟨by unfold ownersB; rw [hb, Bool.false_and, Bool.and_false], k1⟩
    | true =>
      rw [hb] at e1
      by_cases he : os.length = ws.length
      case neg =>
        repeat (first | with_reducible refine wT ?_ | with_reducible refine wg1 rfl ?_ | with_reducible refine wpF ?_ | with_reducible refine wnT ?_ | with_reducible refine wpv ?_ | with_reducible refine wsm ?_ | with_reducible refine wrB ?_ | with_reducible refine wbd (by assumption) ?_ | with_reducible refine wneqT (by omega) ?_ | dsimp only)
        exact W.ret ⟨by unfold ownersB; rw [decide_eq_false he, Bool.and_false, Bool.and_false], k1⟩
      repeat (first | with_reducible refine wF ?_ | with_reducible refine wg1 rfl ?_ | with_reducible refine wpF ?_ | with_reducible refine wnT ?_ | with_reducible refine wpv ?_ | with_reducible refine wsm ?_ | with_reducible refine wbd (by assumption) ?_ | with_reducible refine wneqF (by omega) ?_ | dsimp only)
      refine loopW (fun m s => ∃ k : Nat, s = impl_OwnersOk.st0 po (.int .i64 (os.length : Int)) (.int .i64 (k : Int)) h1 ∧ k + m = os.length ∧ os.all contentB = (os.drop k).all contentB) ?_ lf os.length _ hof ⟨0, rfl, by omega, rfl⟩
      rintro n1 m s ⟨k, rfl, hkm, hall⟩ next
      rw [impl_OwnersOk.body0_eq]
      unfold impl_OwnersOk.body0
      simp only [env_C, env_load, env_bin, env_un, env_indexAddr]
      cases m with
      | zero =>
        rw [List.drop_eq_nil_of_le (by omega), List.all_nil] at hall
        repeat (first | with_reducible refine wF ?_ | with_reducible refine wrB ?_ | with_reducible refine wlssF (by omega) ?_ | rw [kLoop_exit] | rw [impl_OwnersOk.after0_se0_20_21_22_23])
        exact W.ret ⟨by unfold ownersB; rw [hall, hb, decide_eq_true he]; rfl, k1⟩
      | succ m =>
        have hk : k < os.length := by omega
        have hdx : os.drop k = os[k] :: os.drop (k + 1) := List.drop_eq_getElem_cons hk
        rw [hdx, List.all_cons] at hall
        obtain ⟨a, ea, la⟩ := ho1.at' hk
        obtain ⟨m', rfl⟩ : ∃ m', n = m' + 1 := ⟨n - 1, by omega⟩
        have hin := contentOk_calls g lf m' os[k] h1
        cases hc : contentB os[k] with
        | true =>
          rw [hc] at hin hall
          repeat (first | with_reducible refine wT ?_ | with_reducible refine wF ?_ | with_reducible refine wnT ?_ | with_reducible refine wbd (by assumption) ?_ | with_reducible refine wadd1 (by omega) ?_ | with_reducible refine wlssT (by omega) ?_ | dsimp only)
          exact next _ _ (Nat.lt_succ_self m) ⟨k + 1, rfl, by omega, by rw [hall, Bool.true_and]⟩
        | false =>
          rw [hc] at hin hall
          repeat (first | with_reducible refine wT ?_ | with_reducible refine wnF ?_ | with_reducible refine wrB ?_ | with_reducible refine wbd (by assumption) ?_ | with_reducible refine wlssT (by omega) ?_ | rw [kLoop_ret] | rw [impl_OwnersOk.K0_ret] | rw [impl_OwnersOk.top_sr_6] | dsimp only)
          exact W.ret ⟨by unfold ownersB; rw [hall]; rfl, k1⟩
  obtain ⟨_, h', e, rfl, k⟩ := this
  exact ⟨h', e, k⟩

theorem wiresOkOk : WiresOkOk g lf := fun N hN nodes _ _ _ _ hp hl hf => wiresOk_W g lf N (by omega) nodes hp hl hf
theorem ownersOkOk : OwnersOkOk g lf := fun N hN nodes _ _ _ _ _ _ hp hl hf ho hol hof => ownersOk_W g lf N (by omega) nodes hp hl hf ho hol hof

end Go.Proofs.Ytihlmjapddjjjaa

