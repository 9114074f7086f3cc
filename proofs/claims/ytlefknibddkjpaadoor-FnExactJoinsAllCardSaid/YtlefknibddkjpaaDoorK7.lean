/- Texts of this seat, in their order, put together by program. -/
import Derived.Test.YtlefknibddkjpaaDoorK6
import Derived.IntWalk
import Derived.Test.YtlefknibddkjpaaDoorProg
import Derived.KernelRfl
set_option linter.unusedSimpArgs false
set_option linter.unusedVariables false
set_option linter.unusedSectionVars false
/- What the operations come to on values that are written out: rules for the simplifier; and the types of this program. -/
set_option maxRecDepth 20000
namespace Go.Proofs.YtlefknibddkjpaaDoor
open Go Go.Ip

section
variable {P : Program} {t : TypeId} {k : IntKind} {a b : Int} {h : PHeap}

@[simp] theorem bin_add : binP P .add t (.int k a) (.int k b) = some (.int k (k.wrap (a + b))) := by simp [binP, binI]
@[simp] theorem bin_sub : binP P .sub t (.int k a) (.int k b) = some (.int k (k.wrap (a - b))) := by simp [binP, binI]
@[simp] theorem bin_mul : binP P .mul t (.int k a) (.int k b) = some (.int k (k.wrap (a * b))) := by simp [binP, binI]
theorem bin_quo (hb : b ≠ 0) : binP P .quo t (.int k a) (.int k b) = some (.int k (k.wrap (a.tdiv b))) := by simp [binP, binI, hb]
theorem bin_rem (hb : b ≠ 0) : binP P .rem t (.int k a) (.int k b) = some (.int k (a.tmod b)) := by simp [binP, binI, hb]
@[simp] theorem bin_eql : binP P .eql t (.int k a) (.int k b) = some (.bool (a == b)) := by simp [binP, binI]
@[simp] theorem bin_neq : binP P .neq t (.int k a) (.int k b) = some (.bool (a != b)) := by simp [binP, binI]
@[simp] theorem bin_lss : binP P .lss t (.int k a) (.int k b) = some (.bool (decide (a < b))) := by simp [binP, binI]
@[simp] theorem bin_leq : binP P .leq t (.int k a) (.int k b) = some (.bool (decide (a ≤ b))) := by simp [binP, binI]
@[simp] theorem bin_gtr : binP P .gtr t (.int k a) (.int k b) = some (.bool (decide (b < a))) := by simp [binP, binI]
@[simp] theorem bin_geq : binP P .geq t (.int k a) (.int k b) = some (.bool (decide (b ≤ a))) := by simp [binP, binI]
@[simp] theorem un_not {x : Bool} : unP .not (.bool x) = some (.bool (!x)) := rfl
@[simp] theorem un_neg : unP .neg (.int k a) = some (.int k (k.wrap (0 - a))) := rfl
@[simp] theorem pick_bool {x : Bool} {u v : PV} : pickP (.bool x) u v = some (bif x then u else v) := rfl
@[simp] theorem want_bool {x y : Bool} : wantV (.bool x) y = some (x == y) := rfl
@[simp] theorem want_undef {y : Bool} : wantV (.tup []) y = some false := rfl
@[simp] theorem cond_bool {x : Bool} {u v : Res} : condP (.bool x) u v = bif x then u else v := rfl
@[simp] theorem res_int : resV (.int k a) = some (.int k a) := rfl
@[simp] theorem res_bool {x : Bool} : resV (.bool x) = some (.bool x) := rfl
@[simp] theorem res_sl {i o l : Nat} : resV (.sl i o l) = some (.sl i o l) := rfl
@[simp] theorem res_nilsl : resV .nilsl = some .nilsl := rfl
@[simp] theorem res_ptr {i o : Nat} : resV (.ptr i o) = some (.ptr i o) := rfl
@[simp] theorem pv_some' {v : PV} : pv h (some v) = some (v, h) := rfl
@[simp] theorem ptr_ptr {i o : Nat} : ptrP (.ptr i o) = some (.ptr i o) := rfl
@[simp] theorem extract_tup {l : List PV} {i : Nat} : extractP (.tup l) i = l[i]? := rfl
@[simp] theorem fold_nil {f : PV → PV → Option PV} {x : PV} : foldP f x [] = some x := rfl
@[simp] theorem fold_cons {f : PV → PV → Option PV} {x y : PV} {ys : List PV} : foldP f x (y :: ys) = (f x y).bind fun z => foldP f z ys := rfl
@[simp] theorem max2_int {k' : IntKind} : maxP2 (.int k a) (.int k' b) = some (.int k (if b > a then b else a)) := rfl
@[simp] theorem min2_int {k' : IntKind} : minP2 (.int k a) (.int k' b) = some (.int k (if b < a then b else a)) := rfl
theorem wr {x : Int} (hx : -9223372036854775808 ≤ x ∧ x ≤ 9223372036854775807) : IntKind.i64.wrap x = x := by rw [IntKind.wrap_i64]; omega

theorem bin_eqlB {x y : Bool} (ht : isBoolT P t = true) : binP P .eql t (.bool x) (.bool y) = some (.bool (x == y)) := by simp [binP, ht]
theorem bin_neqB {x y : Bool} (ht : isBoolT P t = true) : binP P .neq t (.bool x) (.bool y) = some (.bool (!(x == y))) := by simp [binP, ht]
end

@[simp] theorem ty_bool : isBoolT Tryd.prog 4 = true := by kernel_rfl
@[simp] theorem neqB {x y : Bool} : binP Tryd.prog .neq 4 (.bool x) (.bool y) = some (.bool (!(x == y))) := bin_neqB ty_bool
@[simp] theorem eqlB {x y : Bool} : binP Tryd.prog .eql 4 (.bool x) (.bool y) = some (.bool (x == y)) := bin_eqlB ty_bool

end Go.Proofs.YtlefknibddkjpaaDoor

/- Slices of integers on the interpreter's heap: how they are read, made, written and appended to. -/
set_option maxRecDepth 20000
namespace Go.Proofs.YtlefknibddkjpaaDoor
open Go Go.Ip G

def kLoop (f : St → (PX → St → Res) → Res) (n : Nat) (k : PX → St → Res) : PX → St → Res := fun x s => match x with | .normal => loopK f n s k | x => k x s
theorem loopK_succ (f : St → (PX → St → Res) → Res) (n : Nat) (s : St) (k : PX → St → Res) : loopK f (n + 1) s k = f s (kLoop f n k) := rfl
@[simp] theorem kLoop_normal (f : St → (PX → St → Res) → Res) (n : Nat) (s : St) (k : PX → St → Res) : kLoop f n k .normal s = loopK f n s k := rfl
@[simp] theorem kLoop_exit (f : St → (PX → St → Res) → Res) (n i : Nat) (s : St) (k : PX → St → Res) : kLoop f n k (.exit i) s = k (.exit i) s := rfl
@[simp] theorem kLoop_ret (f : St → (PX → St → Res) → Res) (n : Nat) (s : St) (k : PX → St → Res) : kLoop f n k .ret s = k .ret s := rfl

/-- The first n objects are as they were. -/
def Keep (n : Nat) (h h' : PHeap) : Prop := h.length ≤ h'.length ∧ ∀ i, i < n → h'[i]? = h[i]?

theorem Keep.refl (n : Nat) (h : PHeap) : Keep n h h := ⟨Nat.le_refl _, fun _ _ => rfl⟩
theorem Keep.trans {n : Nat} {a b c : PHeap} (h : Keep n a b) (k : Keep n b c) : Keep n a c := ⟨Nat.le_trans h.1 k.1, fun i hi => (k.2 i hi).trans (h.2 i hi)⟩
theorem Keep.mono {n m : Nat} {a b : PHeap} (h : Keep n a b) (hm : m ≤ n) : Keep m a b := ⟨h.1, fun i hi => h.2 i (by omega)⟩
theorem Keep.append (n : Nat) (h E : PHeap) (hn : n ≤ h.length) : Keep n h (h ++ E) := ⟨by simp, fun i hi => List.getElem?_append_left (by omega)⟩
theorem Keep.set (n : Nat) (h : PHeap) (i : Nat) (o : PObj) (hi : n ≤ i) : Keep n h (h.set i o) := ⟨by simp, fun j hj => List.getElem?_set_ne (by omega)⟩

theorem cellsAt_keep {n : Nat} {h h' : PHeap} (k : Keep n h h') {id : Nat} (hi : id < n) : cellsAt h' id = cellsAt h id := by
  unfold cellsAt; rw [k.2 id hi]

theorem lt_of_cell {h : PHeap} {id j : Nat} {v : PV} (hv : (cellsAt h id)[j]? = some v) : id < h.length := by
  unfold cellsAt at hv
  cases ho : h[id]? with
  | none => rw [ho] at hv; simp at hv
  | some o => exact (List.getElem?_eq_some_iff.1 ho).1

theorem IntSl.keep {k : IntKind} {h h' : PHeap} {p : PV} {xs : List Int} (s : IntSl k h p xs) (hk : Keep h.length h h') : IntSl k h' p xs := by
  rcases s with s | ⟨id, off, hp, hc⟩
  · exact .inl s
  · exact .inr ⟨id, off, hp, fun i x hx => by rw [cellsAt_keep hk (lt_of_cell (hc i x hx))]; exact hc i x hx⟩

theorem IntSl.nil (k : IntKind) (h : PHeap) : IntSl k h .nilsl [] := .inl ⟨rfl, rfl⟩

section
variable {P : Program} {T I : TypeId}

theorem IntSl.len {k : IntKind} {h : PHeap} {p : PV} {xs : List Int} (s : IntSl k h p xs) (hT : P.underlying T = some (.slice I)) : lenP P T p = some (.int .i64 xs.length) := by
  rcases s with ⟨rfl, rfl⟩ | ⟨id, off, rfl, hc⟩ <;> simp [lenP, hT]

theorem IntSl.at {k : IntKind} {h : PHeap} {p : PV} {xs : List Int} (s : IntSl k h p xs) (hT : P.underlying T = some (.slice I)) (hS : sizeT P I = some 1) (hA : isAggT P I = some false) {i : Nat} (hi : i < xs.length) :
    ∃ a, indexAddrP P T p (.int .i64 i) = some a ∧ loadP P I a h = some (.int k xs[i]) := by
  rcases s with ⟨rfl, rfl⟩ | ⟨id, off, rfl, hc⟩
  · simp at hi
  · refine ⟨.ptr id (off + i), ?_, ?_⟩
    · simp [indexAddrP, hT, hS, hi]
    · simp only [loadP, hA]
      exact hc i _ (List.getElem?_eq_getElem hi)
end

/-- A slice of integers that the call itself made, from object n on. -/
def OwnSl (n : Nat) (h : PHeap) (p : PV) (xs : List Int) : Prop :=
  (p = .nilsl ∧ xs = []) ∨ ∃ id, n ≤ id ∧ p = .sl id 0 xs.length ∧ h[id]? = some (.own 1 (xs.map (.int .i64)))

theorem OwnSl.int {n : Nat} {h : PHeap} {p : PV} {xs : List Int} (s : OwnSl n h p xs) : IntSl .i64 h p xs := by
  rcases s with s | ⟨id, _, hp, ho⟩
  · exact .inl s
  · refine .inr ⟨id, 0, hp, fun i x hx => ?_⟩
    simp [cellsAt, ho, PObj.get, hx]

theorem OwnSl.mono {n m : Nat} {h : PHeap} {p : PV} {xs : List Int} (s : OwnSl n h p xs) (hm : m ≤ n) : OwnSl m h p xs := by
  rcases s with s | ⟨id, h1, h2⟩
  · exact .inl s
  · exact .inr ⟨id, by omega, h2⟩

theorem OwnSl.keep {n : Nat} {h h' : PHeap} {p : PV} {xs : List Int} (s : OwnSl n h p xs) (hk : Keep h.length h h') : OwnSl n h' p xs := by
  rcases s with s | ⟨id, h1, h2, h3⟩
  · exact .inl s
  · exact .inr ⟨id, h1, h2, by rw [hk.2 id (List.getElem?_eq_some_iff.1 h3).1]; exact h3⟩

theorem OwnSl.nil (n : Nat) (h : PHeap) : OwnSl n h .nilsl [] := .inl ⟨rfl, rfl⟩

theorem tyS : Tryd.prog.underlying 25 = some (.slice 3) := by kernel_rfl
theorem tySize : sizeT Tryd.prog 3 = some 1 := by kernel_rfl
theorem tyAgg : isAggT Tryd.prog 3 = some false := by kernel_rfl
theorem tyElem : elemT Tryd.prog 25 = some 3 := by kernel_rfl
theorem tyZero : zeroCellsT Tryd.prog 3 = some [.int .i64 0] := by kernel_rfl
theorem tySmall : smallT Tryd.prog 3 = true := by kernel_rfl

theorem IntSl.len' {k : IntKind} {h : PHeap} {p : PV} {xs : List Int} (s : IntSl k h p xs) : lenP Tryd.prog 25 p = some (.int .i64 xs.length) := s.len tyS
theorem IntSl.at' {k : IntKind} {h : PHeap} {p : PV} {xs : List Int} (s : IntSl k h p xs) {i : Nat} (hi : i < xs.length) :
    ∃ a, indexAddrP Tryd.prog 25 p (.int .i64 i) = some a ∧ loadP Tryd.prog 3 a h = some (.int k xs[i]) := s.at tyS tySize tyAgg hi

theorem OwnSl.store {n : Nat} {h : PHeap} {p : PV} {xs : List Int} (s : OwnSl n h p xs) {i : Nat} (hi : i < xs.length) (x : Int) :
    ∃ a h', indexAddrP Tryd.prog 25 p (.int .i64 i) = some a ∧ storeP Tryd.prog 3 a (.int .i64 x) h = some h' ∧ OwnSl n h' p (xs.set i x) ∧ Keep n h h' ∧ h'.length = h.length := by
  rcases s with ⟨rfl, rfl⟩ | ⟨id, h1, rfl, h3⟩
  · simp at hi
  · have hid : id < h.length := (List.getElem?_eq_some_iff.1 h3).1
    refine ⟨.ptr id (0 + i), h.set id (.own 1 ((xs.set i x).map (.int .i64))), by simp [indexAddrP, tySize, hi], ?_, .inr ⟨id, h1, by simp, by rw [List.getElem?_set_self hid]⟩, Keep.set _ _ _ _ h1, by simp⟩
    simp only [storeP, h3, PV.cells, tySize, Nat.zero_add]
    rw [if_pos ⟨rfl, by simp; omega⟩]
    simp [setCells, List.map_set]

/-- What 'make' gives. -/
theorem made {h : PHeap} {m : Nat} (hm : m ≤ 2 ^ 36) : ∃ p h', makeP Tryd.prog 25 (.int .i64 m) (.int .i64 m) h = some (p, h') ∧ OwnSl h.length h' p (List.replicate m 0) ∧ Keep h.length h h' := by
  refine ⟨.sl h.length 0 m, h ++ [.own 1 ((List.replicate m 0).map (.int .i64))], ?_, .inr ⟨h.length, Nat.le_refl _, by simp, by simp⟩, Keep.append _ _ _ (Nat.le_refl _)⟩
  have hrep : ∀ k : Nat, repeatCells [PV.int .i64 0] k = (List.replicate k (0 : Int)).map (.int .i64) := by
    intro k
    induction k with
    | zero => rfl
    | succ k ih => rw [repeatCells, ih, List.replicate_succ]; rfl
  have hm' : (m : Int) ≤ 68719476736 := by omega
  simp [makeP, tyElem, tySize, tyZero, tySmall, hm', hrep]

/-- One element more. -/
theorem OwnSl.append {n : Nat} {h : PHeap} {p : PV} {xs : List Int} (s : OwnSl n h p xs) (hn : n ≤ h.length) (x : Int) (hl : xs.length + 1 ≤ 2 ^ 36) :
    ∃ v p' h', buildSliceP Tryd.prog 25 1 [(0, .int .i64 x)] h = some v ∧ appendP Tryd.prog 25 25 p v.1 v.2 = some (p', h') ∧ OwnSl n h' p' (xs ++ [x]) ∧ Keep n h h' := by
  have hb : buildSliceP Tryd.prog 25 1 [(0, .int .i64 x)] h = some (.sl h.length 0 1, h ++ [.own 1 [.int .i64 x]]) := by
    simp [buildSliceP, tyElem, tySize, tyZero, repeatCells, fillP, PV.cells, setCells]
  have hsrc : srcP (h ++ [.own 1 [.int .i64 x]]) 1 (.sl h.length 0 1) = some (1, [.int .i64 x]) := by
    simp [srcP, cellsAt, PObj.get]
  rcases s with ⟨rfl, rfl⟩ | ⟨id, h1, rfl, h3⟩
  · refine ⟨_, .sl (h.length + 1) 0 1, h ++ [.own 1 [.int .i64 x]] ++ [.own 1 [.int .i64 x]], hb, ?_, .inr ⟨h.length + 1, by omega, rfl, ?_⟩, ?_⟩
    · simp [appendP, tyElem, tySize, tySmall, hsrc]
    · rw [List.getElem?_append_right (by simp)]; simp
    · rw [List.append_assoc]; exact Keep.append _ _ _ hn
  · have hid : id < h.length := (List.getElem?_eq_some_iff.1 h3).1
    have h3' : (h ++ [PObj.own 1 [.int .i64 x]])[id]? = some (.own 1 (xs.map (.int .i64))) := by rw [List.getElem?_append_left hid]; exact h3
    refine ⟨_, .sl (h.length + 1) 0 (xs.length + 1), ((h ++ [PObj.own 1 [.int .i64 x]]).set id .dead ++ [PObj.own 1 (xs.map (.int .i64) ++ [.int .i64 x])]), hb, ?_, .inr ⟨h.length + 1, by omega, by simp, ?_⟩, ?_⟩
    · simp [appendP, tyElem, tySize, tySmall, hsrc, h3', hl]
    · rw [List.getElem?_append_right (by simp)]; simp
    · exact ((Keep.append n h _ hn).trans (Keep.set n _ id .dead h1)).trans (Keep.append _ _ _ (by simp; omega))

/-- An empty literal. -/
theorem empty_lit {h : PHeap} : ∃ p h', buildSliceP Tryd.prog 25 0 [] h = some (p, h') ∧ OwnSl h.length h' p [] ∧ Keep h.length h h' := by
  refine ⟨.sl h.length 0 0, h ++ [.own 1 []], by simp [buildSliceP, tyElem, tySize, tyZero, repeatCells, fillP], .inr ⟨h.length, Nat.le_refl _, rfl, by simp⟩, Keep.append _ _ _ (Nat.le_refl _)⟩

theorem nx {i : Nat} (hi : i < 2 ^ 40) : IntKind.i64.wrap ((i : Int) + 1) = ((i + 1 : Nat) : Int) := by
  rw [wr (by omega)]; rfl

end Go.Proofs.YtlefknibddkjpaaDoor

/- Of each function of this seat's program its plain form over the interpreter, written by program; each equation is the kernel's. -/
set_option linter.unusedVariables false
set_option maxRecDepth 100000
namespace Go.Proofs.YtlefknibddkjpaaDoor.G
open Go Go.Ip Go.Proofs

namespace laws_FnTriangleNear
noncomputable def lp0 : Code := (codeAt (bodyOf Tryd.f3) [1, 1, 1, 1, 1, 0, 1, 0, 0])
def st0 (x3 x4 x5 x6 : PV) (h : PHeap) : St := ⟨[.junk, .junk, .junk, x3, x4, x5, x6, .junk, .junk, .junk, .junk, .junk, .junk, .junk, .junk, .junk, .junk, .junk, .junk, .junk, .junk, .junk, .junk, .junk, .junk, .junk, .junk, .junk, .junk, .junk, .junk, .junk, .junk, .junk, .junk, .junk, .junk, .junk, .junk, .junk, .junk, .junk, .junk, .junk, .junk, .junk, .junk, .junk, .junk, .junk, .junk, .junk, .junk, .junk, .junk, .junk, .junk, .junk, .junk, .junk, .junk, .junk, .junk, .junk, .junk, .junk, .junk, .junk, .junk, .junk, .junk, .junk, .junk, .junk, .junk, .junk, .junk, .junk, .junk, .junk, .junk, .junk, .junk, .junk, .junk, .junk, .junk, .junk, .junk, .junk, .junk, .junk, .junk, .junk, .junk, .junk, .junk, .junk, .junk, .junk, .junk, .junk, .junk, .junk, .junk, .junk, .junk, .junk, .junk, .junk, .junk, .junk, .junk, .junk, .junk, .junk, .junk, .junk, .junk, .junk, .junk], h⟩
def sr_2 (x2 : PV) (h : PHeap) : St := ⟨[.junk, .junk, x2, .junk, .junk, .junk, .junk, .junk, .junk, .junk, .junk, .junk, .junk, .junk, .junk, .junk, .junk, .junk, .junk, .junk, .junk, .junk, .junk, .junk, .junk, .junk, .junk, .junk, .junk, .junk, .junk, .junk, .junk, .junk, .junk, .junk, .junk, .junk, .junk, .junk, .junk, .junk, .junk, .junk, .junk, .junk, .junk, .junk, .junk, .junk, .junk, .junk, .junk, .junk, .junk, .junk, .junk, .junk, .junk, .junk, .junk, .junk, .junk, .junk, .junk, .junk, .junk, .junk, .junk, .junk, .junk, .junk, .junk, .junk, .junk, .junk, .junk, .junk, .junk, .junk, .junk, .junk, .junk, .junk, .junk, .junk, .junk, .junk, .junk, .junk, .junk, .junk, .junk, .junk, .junk, .junk, .junk, .junk, .junk, .junk, .junk, .junk, .junk, .junk, .junk, .junk, .junk, .junk, .junk, .junk, .junk, .junk, .junk, .junk, .junk, .junk, .junk, .junk, .junk, .junk, .junk], h⟩
def se0_3_4_5_6_29 (x3 x4 x5 x6 x29 : PV) (h : PHeap) : St := ⟨[.junk, .junk, .junk, x3, x4, x5, x6, .junk, .junk, .junk, .junk, .junk, .junk, .junk, .junk, .junk, .junk, .junk, .junk, .junk, .junk, .junk, .junk, .junk, .junk, .junk, .junk, .junk, .junk, x29, .junk, .junk, .junk, .junk, .junk, .junk, .junk, .junk, .junk, .junk, .junk, .junk, .junk, .junk, .junk, .junk, .junk, .junk, .junk, .junk, .junk, .junk, .junk, .junk, .junk, .junk, .junk, .junk, .junk, .junk, .junk, .junk, .junk, .junk, .junk, .junk, .junk, .junk, .junk, .junk, .junk, .junk, .junk, .junk, .junk, .junk, .junk, .junk, .junk, .junk, .junk, .junk, .junk, .junk, .junk, .junk, .junk, .junk, .junk, .junk, .junk, .junk, .junk, .junk, .junk, .junk, .junk, .junk, .junk, .junk, .junk, .junk, .junk, .junk, .junk, .junk, .junk, .junk, .junk, .junk, .junk, .junk, .junk, .junk, .junk, .junk, .junk, .junk, .junk, .junk, .junk], h⟩
noncomputable def K0 (E : Env) (K : PX → St → Res) : PX → St → Res := (kBlock 0 (kSeq (ev (E.cx Tryd.prog kl) (codeAt (bodyOf Tryd.f3) [1, 1, 1, 1, 1, 1])) K))
@[simp] theorem K0_ret (E : Env) (K : PX → St → Res) (s : St) : K0 E K .ret s = K .ret s := by kernel_rfl
noncomputable def body0 (E : Env) (K : PX → St → Res) (x3 x4 x5 x6 : PV) (h : PHeap) : Res :=
    (E.p.len 25 x5).bind fun v129 =>
    (E.p.bin .lss 3 x6 v129).bind fun v130 =>
    condP v130
     (
      (E.p.indexAddr 25 x5 x6).bind fun v131 =>
      (E.p.load 3 v131 h).bind fun v132 =>
      (E.C fn_impl_TriangleNear [x3, v132] h).bind fun v133 =>
      (E.C fn_laws_hasInt [v133.1, x4] v133.2).bind fun v134 =>
      (E.p.un .not v134.1).bind fun v135 =>
      (wantV v135 false).bind fun v136 =>
      (bif v136 then some (x5, v134.2) else some (.tup [], v134.2)).bind fun v137 =>
      (wantV v135 false).bind fun v138 =>
      (bif v138 then some (x6, v137.2) else some (.tup [], v137.2)).bind fun v139 =>
      (wantV v135 false).bind fun v140 =>
      (bif v140 then pv v139.2 (E.p.indexAddr 25 v137.1 v139.1) else some (.tup [], v139.2)).bind fun v141 =>
      (wantV v135 false).bind fun v142 =>
      (bif v142 then pv v141.2 (E.p.load 3 v141.1 v141.2) else some (.tup [], v141.2)).bind fun v143 =>
      (wantV v135 false).bind fun v144 =>
      (bif v144 then some (x4, v143.2) else some (.tup [], v143.2)).bind fun v145 =>
      (wantV v135 false).bind fun v146 =>
      (bif v146 then pv v145.2 (E.p.bin .eql 3 v143.1 v145.1) else some (.tup [], v145.2)).bind fun v147 =>
      (E.p.pick v135 (.bool true) v147.1).bind fun v148 =>
      condP v148
       (
        K .ret (sr_2 (.bool false) v147.2))
       (
        (E.p.bin .add 3 x6 (.int .i64 1)).bind fun v149 =>
        K .normal (st0 x3 x4 x5 v149 v147.2)))
     (
      K (.exit 0) (se0_3_4_5_6_29 x3 x4 x5 x6 v130 h))
theorem body0_eq (E : Env) (K : PX → St → Res) (x3 x4 x5 x6 : PV) (h : PHeap) : ev (E.cx Tryd.prog kl) lp0 (st0 x3 x4 x5 x6 h) K = body0 E K x3 x4 x5 x6 h := by kernel_rfl
theorem after0_se0_3_4_5_6_29 (E : Env) (x3 x4 x5 x6 x29 : PV) (h : PHeap) : K0 E (kTop Tryd.prog Tryd.f3) (.exit 0) (se0_3_4_5_6_29 x3 x4 x5 x6 x29 h) =
    (E.p.bin .add 3 x3 (.int .i64 1)).bind fun v33 =>
    (E.p.bin .mul 3 x3 v33).bind fun v34 =>
    (E.p.bin .quo 3 v34 (.int .i64 2)).bind fun v35 =>
    (E.p.bin .lss 3 x3 (.int .i64 1)).bind fun v36 =>
    (wantV v36 false).bind fun v37 =>
    (bif v37 then some (x3, h) else some (.tup [], h)).bind fun v38 =>
    (wantV v36 false).bind fun v39 =>
    (bif v39 then pv v38.2 (E.p.bin .gtr 3 v38.1 (.int .i64 4)) else some (.tup [], v38.2)).bind fun v40 =>
    (E.p.pick v36 (.bool true) v40.1).bind fun v41 =>
    (wantV v41 false).bind fun v42 =>
    (bif v42 then some (x4, v40.2) else some (.tup [], v40.2)).bind fun v43 =>
    (wantV v41 false).bind fun v44 =>
    (bif v44 then pv v43.2 (E.p.bin .lss 3 v43.1 (.int .i64 0)) else some (.tup [], v43.2)).bind fun v45 =>
    (E.p.pick v41 (.bool true) v45.1).bind fun v46 =>
    (wantV v46 false).bind fun v47 =>
    (bif v47 then some (x4, v45.2) else some (.tup [], v45.2)).bind fun v48 =>
    (wantV v46 false).bind fun v49 =>
    (bif v49 then some (v35, v48.2) else some (.tup [], v48.2)).bind fun v50 =>
    (wantV v46 false).bind fun v51 =>
    (bif v51 then pv v50.2 (E.p.bin .geq 3 v48.1 v50.1) else some (.tup [], v50.2)).bind fun v52 =>
    (E.p.pick v46 (.bool true) v52.1).bind fun v53 =>
    condP v53
     (
      (E.p.len 25 x5).bind fun v54 =>
      (E.p.bin .eql 3 v54 (.int .i64 0)).bind fun v55 =>
      (wantV v55 true).bind fun v56 =>
      (bif v56 then E.C fn_laws_alive [] v52.2 else some (.tup [], v52.2)).bind fun v57 =>
      (E.p.pick v55 v57.1 (.bool false)).bind fun v58 =>
      (resV v58).bind fun v59 =>
      some (v59, v57.2))
     (
      (E.p.bin .eql 3 x4 (.int .i64 0)).bind fun v60 =>
      (wantV v60 false).bind fun v61 =>
      (bif v61 then some (x4, v52.2) else some (.tup [], v52.2)).bind fun v62 =>
      (wantV v60 false).bind fun v63 =>
      (bif v63 then some (v35, v62.2) else some (.tup [], v62.2)).bind fun v64 =>
      (wantV v60 false).bind fun v65 =>
      (bif v65 then pv v64.2 (E.p.bin .sub 3 v64.1 (.int .i64 1)) else some (.tup [], v64.2)).bind fun v66 =>
      (wantV v60 false).bind fun v67 =>
      (bif v67 then pv v66.2 (E.p.bin .eql 3 v62.1 v66.1) else some (.tup [], v66.2)).bind fun v68 =>
      (E.p.pick v60 (.bool true) v68.1).bind fun v69 =>
      (wantV v69 false).bind fun v70 =>
      (bif v70 then some (x4, v68.2) else some (.tup [], v68.2)).bind fun v71 =>
      (wantV v69 false).bind fun v72 =>
      (bif v72 then some (v35, v71.2) else some (.tup [], v71.2)).bind fun v73 =>
      (wantV v69 false).bind fun v74 =>
      (bif v74 then some (x3, v73.2) else some (.tup [], v73.2)).bind fun v75 =>
      (wantV v69 false).bind fun v76 =>
      (bif v76 then pv v75.2 (E.p.bin .sub 3 v73.1 v75.1) else some (.tup [], v75.2)).bind fun v77 =>
      (wantV v69 false).bind fun v78 =>
      (bif v78 then pv v77.2 (E.p.bin .eql 3 v71.1 v77.1) else some (.tup [], v77.2)).bind fun v79 =>
      (E.p.pick v69 (.bool true) v79.1).bind fun v80 =>
      (E.C fn_laws_ascend [x5] v79.2).bind fun v81 =>
      (wantV v81.1 true).bind fun v82 =>
      (bif v82 then some (x5, v81.2) else some (.tup [], v81.2)).bind fun v83 =>
      (wantV v81.1 true).bind fun v84 =>
      (bif v84 then pv v83.2 (E.p.len 25 v83.1) else some (.tup [], v83.2)).bind fun v85 =>
      (wantV v81.1 true).bind fun v86 =>
      (bif v86 then pv v85.2 (E.p.bin .leq 3 v85.1 (.int .i64 6)) else some (.tup [], v85.2)).bind fun v87 =>
      (E.p.pick v81.1 v87.1 (.bool false)).bind fun v88 =>
      (wantV v88 true).bind fun v89 =>
      (bif v89 then some (v80, v87.2) else some (.tup [], v87.2)).bind fun v90 =>
      (wantV v88 true).bind fun v91 =>
      (bif v91 then some (v90.1, v90.2) else some (.tup [], v90.2)).bind fun v92 =>
      (wantV v92.1 false).bind fun v93 =>
      (bif v93 then some (x5, v92.2) else some (.tup [], v92.2)).bind fun v94 =>
      (wantV v92.1 false).bind fun v95 =>
      (bif v95 then pv v94.2 (E.p.len 25 v94.1) else some (.tup [], v94.2)).bind fun v96 =>
      (wantV v92.1 false).bind fun v97 =>
      (bif v97 then pv v96.2 (E.p.bin .geq 3 v96.1 (.int .i64 4)) else some (.tup [], v96.2)).bind fun v98 =>
      (wantV v88 true).bind fun v99 =>
      (bif v99 then pv v98.2 (E.p.pick v92.1 (.bool true) v98.1) else some (.tup [], v98.2)).bind fun v100 =>
      (E.p.pick v88 v100.1 (.bool false)).bind fun v101 =>
      (wantV v101 true).bind fun v102 =>
      (bif v102 then some (v80, v100.2) else some (.tup [], v100.2)).bind fun v103 =>
      (wantV v101 true).bind fun v104 =>
      (bif v104 then pv v103.2 (E.p.un .not v103.1) else some (.tup [], v103.2)).bind fun v105 =>
      (wantV v101 true).bind fun v106 =>
      (bif v106 then some (v105.1, v105.2) else some (.tup [], v105.2)).bind fun v107 =>
      (wantV v107.1 false).bind fun v108 =>
      (bif v108 then some (x3, v107.2) else some (.tup [], v107.2)).bind fun v109 =>
      (wantV v107.1 false).bind fun v110 =>
      (bif v110 then pv v109.2 (E.p.bin .eql 3 v109.1 (.int .i64 1)) else some (.tup [], v109.2)).bind fun v111 =>
      (wantV v101 true).bind fun v112 =>
      (bif v112 then pv v111.2 (E.p.pick v107.1 (.bool true) v111.1) else some (.tup [], v111.2)).bind fun v113 =>
      (wantV v101 true).bind fun v114 =>
      (bif v114 then some (v113.1, v113.2) else some (.tup [], v113.2)).bind fun v115 =>
      (wantV v115.1 false).bind fun v116 =>
      (bif v116 then some (x5, v115.2) else some (.tup [], v115.2)).bind fun v117 =>
      (wantV v115.1 false).bind fun v118 =>
      (bif v118 then pv v117.2 (E.p.len 25 v117.1) else some (.tup [], v117.2)).bind fun v119 =>
      (wantV v115.1 false).bind fun v120 =>
      (bif v120 then pv v119.2 (E.p.bin .eql 3 v119.1 (.int .i64 2)) else some (.tup [], v119.2)).bind fun v121 =>
      (wantV v101 true).bind fun v122 =>
      (bif v122 then pv v121.2 (E.p.pick v115.1 (.bool true) v121.1) else some (.tup [], v121.2)).bind fun v123 =>
      (E.p.pick v101 v123.1 (.bool false)).bind fun v124 =>
      (wantV v124 true).bind fun v125 =>
      (bif v125 then E.C fn_laws_alive [] v123.2 else some (.tup [], v123.2)).bind fun v126 =>
      (E.p.pick v124 v126.1 (.bool false)).bind fun v127 =>
      (resV v127).bind fun v128 =>
      some (v128, v126.2)) := by kernel_rfl
theorem top_sr_2 (x2 : PV) (h : PHeap) : kTop Tryd.prog Tryd.f3 .ret (sr_2 x2 h) =
    (resV x2).bind fun v150 =>
    some (v150, h) := by kernel_rfl
noncomputable def main (E : Env) (x0 : PV) (h : PHeap) : Res :=
    (E.p.len 22 x0).bind fun v1 =>
    (E.p.bin .gtr 3 v1 (.int .i64 1048576)).bind fun v2 =>
    condP v2
     (
      (resV (.bool true)).bind fun v3 =>
      some (v3, h))
     (
      (E.C fn_spec_DrawTriangleNear [x0] h).bind fun v4 =>
      (E.p.extract v4.1 0).bind fun v5 =>
      (E.p.extract v4.1 1).bind fun v6 =>
      (E.C fn_impl_TriangleNear [v5, v6] v4.2).bind fun v7 =>
      (E.C fn_spec_TriangleNear [v5, v6] v7.2).bind fun v8 =>
      (E.C fn_laws_sameInts [v7.1, v8.1] v8.2).bind fun v9 =>
      (E.p.un .not v9.1).bind fun v10 =>
      condP v10
       (
        (resV (.bool false)).bind fun v11 =>
        some (v11, v9.2))
       (
        loopK (ev (E.cx Tryd.prog laws_FnTriangleNear.kl) laws_FnTriangleNear.lp0) E.lf (laws_FnTriangleNear.st0 v5 v6 v7.1 (.int .i64 0) v9.2) (laws_FnTriangleNear.K0 E (kTop Tryd.prog Tryd.f3))))
theorem main_eq (E : Env) (x0 : PV) (h : PHeap) : runBody (E.cx Tryd.prog kl) Tryd.f3 [x0] h = main E x0 h := by kernel_rfl
theorem call_eq (g : Nat → PV) (lf n : Nat) (x0 : PV) (h : PHeap) : CL g lf (n + 1) fn_laws_FnTriangleNear [x0] h = main (env g lf n) x0 h := by
  rw [← main_eq]
  show (match Tryd.prog.funcs[3]? with | some fn => if fn.body.isSome then runBody ⟨Tryd.prog, g, call Tryd.prog g KL lf n, KL 3, lf, std Tryd.prog⟩ fn [x0] h else none | none => none) = _
  rw [Tryd.func3]
  kernel_rfl
end laws_FnTriangleNear
namespace laws_FnJoinsAll
noncomputable def main (E : Env) (x0 : PV) (h : PHeap) : Res :=
    (E.p.len 22 x0).bind fun v1 =>
    (E.p.bin .gtr 3 v1 (.int .i64 1048576)).bind fun v2 =>
    condP v2
     (
      (resV (.bool true)).bind fun v3 =>
      some (v3, h))
     (
      (E.C fn_spec_DrawJoinsAll [x0] h).bind fun v4 =>
      (E.p.extract v4.1 0).bind fun v5 =>
      (E.p.extract v4.1 1).bind fun v6 =>
      (E.p.extract v4.1 2).bind fun v7 =>
      (E.C fn_impl_JoinsAll [v5, v6, v7] v4.2).bind fun v8 =>
      (E.C fn_spec_JoinsAll [v5, v6, v7] v8.2).bind fun v9 =>
      (E.p.bin .neq 4 v8.1 v9.1).bind fun v10 =>
      condP v10
       (
        (resV (.bool false)).bind fun v11 =>
        some (v11, v9.2))
       (
        (E.C fn_spec_TriangleOk [v5, v6] v9.2).bind fun v12 =>
        (E.p.un .not v12.1).bind fun v13 =>
        (wantV v13 false).bind fun v14 =>
        (bif v14 then some (v7, v12.2) else some (.tup [], v12.2)).bind fun v15 =>
        (wantV v13 false).bind fun v16 =>
        (bif v16 then pv v15.2 (E.p.bin .gtr 3 v15.1 (.int .i64 2)) else some (.tup [], v15.2)).bind fun v17 =>
        (E.p.pick v13 (.bool true) v17.1).bind fun v18 =>
        condP v18
         (
          (E.p.un .not v8.1).bind fun v19 =>
          (wantV v19 true).bind fun v20 =>
          (bif v20 then E.C fn_laws_alive [] v17.2 else some (.tup [], v17.2)).bind fun v21 =>
          (E.p.pick v19 v21.1 (.bool false)).bind fun v22 =>
          (resV v22).bind fun v23 =>
          some (v23, v21.2))
         (
          (E.p.bin .sub 3 (.int .i64 3) v7).bind fun v24 =>
          (E.C fn_impl_JoinsAll [v5, v6, v24] v17.2).bind fun v25 =>
          (E.p.bin .neq 4 v25.1 v8.1).bind fun v26 =>
          (wantV v26 true).bind fun v27 =>
          (bif v27 then some (v5, v25.2) else some (.tup [], v25.2)).bind fun v28 =>
          (wantV v26 true).bind fun v29 =>
          (bif v29 then some (v5, v28.2) else some (.tup [], v28.2)).bind fun v30 =>
          (wantV v26 true).bind fun v31 =>
          (bif v31 then some (v6, v30.2) else some (.tup [], v30.2)).bind fun v32 =>
          (wantV v26 true).bind fun v33 =>
          (bif v33 then E.C fn_impl_TurnedTriangle [v30.1, v32.1] v32.2 else some (.tup [], v32.2)).bind fun v34 =>
          (wantV v26 true).bind fun v35 =>
          (bif v35 then some (v7, v34.2) else some (.tup [], v34.2)).bind fun v36 =>
          (wantV v26 true).bind fun v37 =>
          (bif v37 then E.C fn_impl_JoinsAll [v28.1, v34.1, v36.1] v36.2 else some (.tup [], v36.2)).bind fun v38 =>
          (wantV v26 true).bind fun v39 =>
          (bif v39 then some (v8.1, v38.2) else some (.tup [], v38.2)).bind fun v40 =>
          (wantV v26 true).bind fun v41 =>
          (bif v41 then pv v40.2 (E.p.bin .eql 4 v38.1 v40.1) else some (.tup [], v40.2)).bind fun v42 =>
          (E.p.pick v26 v42.1 (.bool false)).bind fun v43 =>
          (resV v43).bind fun v44 =>
          some (v44, v42.2))))
theorem main_eq (E : Env) (x0 : PV) (h : PHeap) : runBody (E.cx Tryd.prog kl) Tryd.f4 [x0] h = main E x0 h := by kernel_rfl
theorem call_eq (g : Nat → PV) (lf n : Nat) (x0 : PV) (h : PHeap) : CL g lf (n + 1) fn_laws_FnJoinsAll [x0] h = main (env g lf n) x0 h := by
  rw [← main_eq]
  show (match Tryd.prog.funcs[4]? with | some fn => if fn.body.isSome then runBody ⟨Tryd.prog, g, call Tryd.prog g KL lf n, KL 4, lf, std Tryd.prog⟩ fn [x0] h else none | none => none) = _
  rw [Tryd.func4]
  kernel_rfl
end laws_FnJoinsAll
namespace laws_FnShrunk
noncomputable def lp0 : Code := (codeAt (bodyOf Tryd.f5) [1, 1, 1, 1, 1, 1, 1, 1, 0, 1, 0, 0])
def st0 (x3 x4 x5 x6 x7 x8 : PV) (h : PHeap) : St := ⟨[.junk, .junk, .junk, x3, x4, x5, x6, x7, x8, .junk, .junk, .junk, .junk, .junk, .junk, .junk, .junk, .junk, .junk, .junk, .junk, .junk, .junk, .junk, .junk, .junk, .junk, .junk, .junk, .junk, .junk, .junk, .junk, .junk, .junk, .junk, .junk, .junk, .junk, .junk, .junk, .junk, .junk, .junk, .junk, .junk, .junk, .junk, .junk, .junk, .junk, .junk, .junk, .junk, .junk, .junk, .junk, .junk, .junk, .junk, .junk, .junk, .junk, .junk, .junk, .junk, .junk, .junk, .junk, .junk, .junk, .junk, .junk, .junk, .junk, .junk, .junk, .junk, .junk, .junk, .junk, .junk, .junk, .junk, .junk, .junk, .junk, .junk, .junk, .junk, .junk, .junk], h⟩
noncomputable def lp1 : Code := (codeAt (bodyOf Tryd.f5) [1, 1, 1, 1, 1, 1, 1, 1, 1, 0, 1, 0, 0])
def st1 (x3 x4 x5 x6 x7 x9 : PV) (h : PHeap) : St := ⟨[.junk, .junk, .junk, x3, x4, x5, x6, x7, .junk, x9, .junk, .junk, .junk, .junk, .junk, .junk, .junk, .junk, .junk, .junk, .junk, .junk, .junk, .junk, .junk, .junk, .junk, .junk, .junk, .junk, .junk, .junk, .junk, .junk, .junk, .junk, .junk, .junk, .junk, .junk, .junk, .junk, .junk, .junk, .junk, .junk, .junk, .junk, .junk, .junk, .junk, .junk, .junk, .junk, .junk, .junk, .junk, .junk, .junk, .junk, .junk, .junk, .junk, .junk, .junk, .junk, .junk, .junk, .junk, .junk, .junk, .junk, .junk, .junk, .junk, .junk, .junk, .junk, .junk, .junk, .junk, .junk, .junk, .junk, .junk, .junk, .junk, .junk, .junk, .junk, .junk, .junk], h⟩
def se0_3_4_5_6_7_8_46 (x3 x4 x5 x6 x7 x8 x46 : PV) (h : PHeap) : St := ⟨[.junk, .junk, .junk, x3, x4, x5, x6, x7, x8, .junk, .junk, .junk, .junk, .junk, .junk, .junk, .junk, .junk, .junk, .junk, .junk, .junk, .junk, .junk, .junk, .junk, .junk, .junk, .junk, .junk, .junk, .junk, .junk, .junk, .junk, .junk, .junk, .junk, .junk, .junk, .junk, .junk, .junk, .junk, .junk, .junk, x46, .junk, .junk, .junk, .junk, .junk, .junk, .junk, .junk, .junk, .junk, .junk, .junk, .junk, .junk, .junk, .junk, .junk, .junk, .junk, .junk, .junk, .junk, .junk, .junk, .junk, .junk, .junk, .junk, .junk, .junk, .junk, .junk, .junk, .junk, .junk, .junk, .junk, .junk, .junk, .junk, .junk, .junk, .junk, .junk, .junk], h⟩
def se2_3_4_5_6_7_9_60 (x3 x4 x5 x6 x7 x9 x60 : PV) (h : PHeap) : St := ⟨[.junk, .junk, .junk, x3, x4, x5, x6, x7, .junk, x9, .junk, .junk, .junk, .junk, .junk, .junk, .junk, .junk, .junk, .junk, .junk, .junk, .junk, .junk, .junk, .junk, .junk, .junk, .junk, .junk, .junk, .junk, .junk, .junk, .junk, .junk, .junk, .junk, .junk, .junk, .junk, .junk, .junk, .junk, .junk, .junk, .junk, .junk, .junk, .junk, .junk, .junk, .junk, .junk, .junk, .junk, .junk, .junk, .junk, .junk, x60, .junk, .junk, .junk, .junk, .junk, .junk, .junk, .junk, .junk, .junk, .junk, .junk, .junk, .junk, .junk, .junk, .junk, .junk, .junk, .junk, .junk, .junk, .junk, .junk, .junk, .junk, .junk, .junk, .junk, .junk, .junk], h⟩
noncomputable def K0 (E : Env) (K : PX → St → Res) : PX → St → Res := (kBlock 0 (kSeq (ev (E.cx Tryd.prog kl) (codeAt (bodyOf Tryd.f5) [1, 1, 1, 1, 1, 1, 1, 1, 1])) K))
@[simp] theorem K0_ret (E : Env) (K : PX → St → Res) (s : St) : K0 E K .ret s = K .ret s := by kernel_rfl
noncomputable def K1 (E : Env) (K : PX → St → Res) : PX → St → Res := (kBlock 2 (kSeq (ev (E.cx Tryd.prog kl) (codeAt (bodyOf Tryd.f5) [1, 1, 1, 1, 1, 1, 1, 1, 1, 1])) K))
@[simp] theorem K1_ret (E : Env) (K : PX → St → Res) (s : St) : K1 E K .ret s = K .ret s := by kernel_rfl
noncomputable def body0 (E : Env) (K : PX → St → Res) (x3 x4 x5 x6 x7 x8 : PV) (h : PHeap) : Res :=
    (E.p.len 25 x4).bind fun v74 =>
    (E.p.bin .lss 3 x8 v74).bind fun v75 =>
    condP v75
     (
      (E.p.indexAddr 25 x4 x8).bind fun v76 =>
      (E.p.load 3 v76 h).bind fun v77 =>
      (E.p.bin .sub 3 (.int .i64 3) v77).bind fun v78 =>
      (E.p.buildSlice 25 1 [(0, v78)] h).bind fun v79 =>
      (E.p.append 25 25 x6 v79.1 v79.2).bind fun v80 =>
      (E.p.bin .add 3 x8 (.int .i64 1)).bind fun v81 =>
      K .normal (st0 x3 x4 x5 v80.1 x7 v81 v80.2))
     (
      K (.exit 0) (se0_3_4_5_6_7_8_46 x3 x4 x5 x6 x7 x8 v75 h))
theorem body0_eq (E : Env) (K : PX → St → Res) (x3 x4 x5 x6 x7 x8 : PV) (h : PHeap) : ev (E.cx Tryd.prog kl) lp0 (st0 x3 x4 x5 x6 x7 x8 h) K = body0 E K x3 x4 x5 x6 x7 x8 h := by kernel_rfl
noncomputable def body1 (E : Env) (K : PX → St → Res) (x3 x4 x5 x6 x7 x9 : PV) (h : PHeap) : Res :=
    (E.p.len 25 x5).bind fun v82 =>
    (E.p.bin .lss 3 x9 v82).bind fun v83 =>
    condP v83
     (
      (E.p.indexAddr 25 x5 x9).bind fun v84 =>
      (E.p.load 3 v84 h).bind fun v85 =>
      (E.p.bin .sub 3 (.int .i64 3) v85).bind fun v86 =>
      (E.p.buildSlice 25 1 [(0, v86)] h).bind fun v87 =>
      (E.p.append 25 25 x7 v87.1 v87.2).bind fun v88 =>
      (E.p.bin .add 3 x9 (.int .i64 1)).bind fun v89 =>
      K .normal (st1 x3 x4 x5 x6 v88.1 v89 v88.2))
     (
      K (.exit 2) (se2_3_4_5_6_7_9_60 x3 x4 x5 x6 x7 x9 v83 h))
theorem body1_eq (E : Env) (K : PX → St → Res) (x3 x4 x5 x6 x7 x9 : PV) (h : PHeap) : ev (E.cx Tryd.prog kl) lp1 (st1 x3 x4 x5 x6 x7 x9 h) K = body1 E K x3 x4 x5 x6 x7 x9 h := by kernel_rfl
theorem after0_se0_3_4_5_6_7_8_46 (E : Env) (x3 x4 x5 x6 x7 x8 x46 : PV) (h : PHeap) : K0 E (kTop Tryd.prog Tryd.f5) (.exit 0) (se0_3_4_5_6_7_8_46 x3 x4 x5 x6 x7 x8 x46 h) =
    loopK (ev (E.cx Tryd.prog laws_FnShrunk.kl) laws_FnShrunk.lp1) E.lf (laws_FnShrunk.st1 x3 x4 x5 x6 x7 (.int .i64 0) h) (laws_FnShrunk.K1 E (kTop Tryd.prog Tryd.f5)) := by kernel_rfl
theorem after1_se2_3_4_5_6_7_9_60 (E : Env) (x3 x4 x5 x6 x7 x9 x60 : PV) (h : PHeap) : K1 E (kTop Tryd.prog Tryd.f5) (.exit 2) (se2_3_4_5_6_7_9_60 x3 x4 x5 x6 x7 x9 x60 h) =
    (E.p.bin .sub 3 x3 (.int .i64 1)).bind fun v43 =>
    (E.C fn_impl_TriangleOk [v43, x5] h).bind fun v44 =>
    (wantV v44.1 true).bind fun v45 =>
    (bif v45 then some (x3, v44.2) else some (.tup [], v44.2)).bind fun v46 =>
    (wantV v44.1 true).bind fun v47 =>
    (bif v47 then pv v46.2 (E.p.bin .sub 3 v46.1 (.int .i64 1)) else some (.tup [], v46.2)).bind fun v48 =>
    (wantV v44.1 true).bind fun v49 =>
    (bif v49 then some (x5, v48.2) else some (.tup [], v48.2)).bind fun v50 =>
    (wantV v44.1 true).bind fun v51 =>
    (bif v51 then E.C fn_impl_JoinsAll [v48.1, v50.1, (.int .i64 1)] v50.2 else some (.tup [], v50.2)).bind fun v52 =>
    (wantV v44.1 true).bind fun v53 =>
    (bif v53 then some (x3, v52.2) else some (.tup [], v52.2)).bind fun v54 =>
    (wantV v44.1 true).bind fun v55 =>
    (bif v55 then some (x4, v54.2) else some (.tup [], v54.2)).bind fun v56 =>
    (wantV v44.1 true).bind fun v57 =>
    (bif v57 then E.C fn_impl_JoinsAll [v54.1, v56.1, (.int .i64 1)] v56.2 else some (.tup [], v56.2)).bind fun v58 =>
    (wantV v44.1 true).bind fun v59 =>
    (bif v59 then pv v58.2 (E.p.bin .eql 4 v52.1 v58.1) else some (.tup [], v58.2)).bind fun v60 =>
    (E.p.pick v44.1 v60.1 (.bool false)).bind fun v61 =>
    (wantV v61 true).bind fun v62 =>
    (bif v62 then some (x3, v60.2) else some (.tup [], v60.2)).bind fun v63 =>
    (wantV v61 true).bind fun v64 =>
    (bif v64 then some (x6, v63.2) else some (.tup [], v63.2)).bind fun v65 =>
    (wantV v61 true).bind fun v66 =>
    (bif v66 then E.C fn_impl_Shrunk [v63.1, v65.1] v65.2 else some (.tup [], v65.2)).bind fun v67 =>
    (wantV v61 true).bind fun v68 =>
    (bif v68 then some (x7, v67.2) else some (.tup [], v67.2)).bind fun v69 =>
    (wantV v61 true).bind fun v70 =>
    (bif v70 then E.C fn_laws_sameInts [v67.1, v69.1] v69.2 else some (.tup [], v69.2)).bind fun v71 =>
    (E.p.pick v61 v71.1 (.bool false)).bind fun v72 =>
    (resV v72).bind fun v73 =>
    some (v73, v71.2) := by kernel_rfl
noncomputable def main (E : Env) (x0 : PV) (h : PHeap) : Res :=
    (E.p.len 22 x0).bind fun v1 =>
    (E.p.bin .gtr 3 v1 (.int .i64 1048576)).bind fun v2 =>
    condP v2
     (
      (resV (.bool true)).bind fun v3 =>
      some (v3, h))
     (
      (E.C fn_spec_DrawShrunk [x0] h).bind fun v4 =>
      (E.p.extract v4.1 0).bind fun v5 =>
      (E.p.extract v4.1 1).bind fun v6 =>
      (E.C fn_impl_Shrunk [v5, v6] v4.2).bind fun v7 =>
      (E.C fn_spec_Shrunk [v5, v6] v7.2).bind fun v8 =>
      (E.C fn_laws_sameInts [v7.1, v8.1] v8.2).bind fun v9 =>
      (E.p.un .not v9.1).bind fun v10 =>
      condP v10
       (
        (resV (.bool false)).bind fun v11 =>
        some (v11, v9.2))
       (
        (E.p.len 25 v7.1).bind fun v12 =>
        (E.p.bin .eql 3 v12 (.int .i64 0)).bind fun v13 =>
        condP v13
         (
          (E.C fn_impl_TriangleOk [v5, v6] v9.2).bind fun v14 =>
          (E.p.un .not v14.1).bind fun v15 =>
          (wantV v15 false).bind fun v16 =>
          (bif v16 then some (v5, v14.2) else some (.tup [], v14.2)).bind fun v17 =>
          (wantV v15 false).bind fun v18 =>
          (bif v18 then pv v17.2 (E.p.bin .eql 3 v17.1 (.int .i64 1)) else some (.tup [], v17.2)).bind fun v19 =>
          (E.p.pick v15 (.bool true) v19.1).bind fun v20 =>
          (wantV v20 true).bind fun v21 =>
          (bif v21 then E.C fn_laws_alive [] v19.2 else some (.tup [], v19.2)).bind fun v22 =>
          (E.p.pick v20 v22.1 (.bool false)).bind fun v23 =>
          (resV v23).bind fun v24 =>
          some (v24, v22.2))
         (
          (E.p.buildSlice 25 0 [] v9.2).bind fun v25 =>
          (E.p.buildSlice 25 0 [] v25.2).bind fun v26 =>
          loopK (ev (E.cx Tryd.prog laws_FnShrunk.kl) laws_FnShrunk.lp0) E.lf (laws_FnShrunk.st0 v5 v6 v7.1 v25.1 v26.1 (.int .i64 0) v26.2) (laws_FnShrunk.K0 E (kTop Tryd.prog Tryd.f5)))))
theorem main_eq (E : Env) (x0 : PV) (h : PHeap) : runBody (E.cx Tryd.prog kl) Tryd.f5 [x0] h = main E x0 h := by kernel_rfl
theorem call_eq (g : Nat → PV) (lf n : Nat) (x0 : PV) (h : PHeap) : CL g lf (n + 1) fn_laws_FnShrunk [x0] h = main (env g lf n) x0 h := by
  rw [← main_eq]
  show (match Tryd.prog.funcs[5]? with | some fn => if fn.body.isSome then runBody ⟨Tryd.prog, g, call Tryd.prog g KL lf n, KL 5, lf, std Tryd.prog⟩ fn [x0] h else none | none => none) = _
  rw [Tryd.func5]
  kernel_rfl
end laws_FnShrunk
namespace laws_FnLastCell
noncomputable def lp0 : Code := (codeAt (bodyOf Tryd.f6) [1, 1, 1, 1, 1, 1, 1, 0, 1, 0, 0])
def st0 (x3 x4 x5 x6 x7 : PV) (h : PHeap) : St := ⟨[.junk, .junk, .junk, x3, x4, x5, x6, x7, .junk, .junk, .junk, .junk, .junk, .junk, .junk, .junk, .junk, .junk, .junk, .junk, .junk, .junk, .junk, .junk, .junk, .junk, .junk, .junk, .junk, .junk, .junk, .junk, .junk, .junk, .junk, .junk, .junk, .junk, .junk, .junk, .junk, .junk, .junk, .junk, .junk, .junk, .junk, .junk, .junk, .junk, .junk, .junk, .junk, .junk, .junk, .junk, .junk, .junk, .junk, .junk, .junk, .junk, .junk], h⟩
def se0_3_4_5_6 (x3 x4 x5 x6 : PV) (h : PHeap) : St := ⟨[.junk, .junk, .junk, x3, x4, x5, x6, .junk, .junk, .junk, .junk, .junk, .junk, .junk, .junk, .junk, .junk, .junk, .junk, .junk, .junk, .junk, .junk, .junk, .junk, .junk, .junk, .junk, .junk, .junk, .junk, .junk, .junk, .junk, .junk, .junk, .junk, .junk, .junk, .junk, .junk, .junk, .junk, .junk, .junk, .junk, .junk, .junk, .junk, .junk, .junk, .junk, .junk, .junk, .junk, .junk, .junk, .junk, .junk, .junk, .junk, .junk, .junk], h⟩
def se0_3_4_5_6_7_39 (x3 x4 x5 x6 x7 x39 : PV) (h : PHeap) : St := ⟨[.junk, .junk, .junk, x3, x4, x5, x6, x7, .junk, .junk, .junk, .junk, .junk, .junk, .junk, .junk, .junk, .junk, .junk, .junk, .junk, .junk, .junk, .junk, .junk, .junk, .junk, .junk, .junk, .junk, .junk, .junk, .junk, .junk, .junk, .junk, .junk, .junk, .junk, x39, .junk, .junk, .junk, .junk, .junk, .junk, .junk, .junk, .junk, .junk, .junk, .junk, .junk, .junk, .junk, .junk, .junk, .junk, .junk, .junk, .junk, .junk, .junk], h⟩
noncomputable def K0 (E : Env) (K : PX → St → Res) : PX → St → Res := (kBlock 0 (kSeq (ev (E.cx Tryd.prog kl) (codeAt (bodyOf Tryd.f6) [1, 1, 1, 1, 1, 1, 1, 1])) K))
@[simp] theorem K0_ret (E : Env) (K : PX → St → Res) (s : St) : K0 E K .ret s = K .ret s := by kernel_rfl
noncomputable def body0 (E : Env) (K : PX → St → Res) (x3 x4 x5 x6 x7 : PV) (h : PHeap) : Res :=
    (E.p.len 25 x6).bind fun v54 =>
    (E.p.bin .lss 3 x7 v54).bind fun v55 =>
    condP v55
     (
      (E.p.indexAddr 25 x6 x7).bind fun v56 =>
      (E.p.load 3 v56 h).bind fun v57 =>
      (E.p.bin .neq 3 v57 x5).bind fun v58 =>
      condP v58
       (
        (E.p.indexAddr 25 x6 x7).bind fun v59 =>
        (E.p.store 3 v59 x5 h).bind fun v60 =>
        K (.exit 0) (se0_3_4_5_6 x3 x4 x5 x6 v60))
       (
        (E.p.bin .add 3 x7 (.int .i64 1)).bind fun v61 =>
        K .normal (st0 x3 x4 x5 x6 v61 h)))
     (
      K (.exit 0) (se0_3_4_5_6_7_39 x3 x4 x5 x6 x7 v55 h))
theorem body0_eq (E : Env) (K : PX → St → Res) (x3 x4 x5 x6 x7 : PV) (h : PHeap) : ev (E.cx Tryd.prog kl) lp0 (st0 x3 x4 x5 x6 x7 h) K = body0 E K x3 x4 x5 x6 x7 h := by kernel_rfl
theorem after0_se0_3_4_5_6 (E : Env) (x3 x4 x5 x6 : PV) (h : PHeap) : K0 E (kTop Tryd.prog Tryd.f6) (.exit 0) (se0_3_4_5_6 x3 x4 x5 x6 h) =
    (E.C fn_impl_JoinsAll [x3, x4, x5] h).bind fun v28 =>
    (wantV v28.1 true).bind fun v29 =>
    (bif v29 then some (x3, v28.2) else some (.tup [], v28.2)).bind fun v30 =>
    (wantV v28.1 true).bind fun v31 =>
    (bif v31 then some (x6, v30.2) else some (.tup [], v30.2)).bind fun v32 =>
    (wantV v28.1 true).bind fun v33 =>
    (bif v33 then E.C fn_impl_LastCell [v30.1, v32.1] v32.2 else some (.tup [], v32.2)).bind fun v34 =>
    (wantV v28.1 true).bind fun v35 =>
    (bif v35 then some (x5, v34.2) else some (.tup [], v34.2)).bind fun v36 =>
    (wantV v28.1 true).bind fun v37 =>
    (bif v37 then pv v36.2 (E.p.bin .eql 3 v34.1 v36.1) else some (.tup [], v36.2)).bind fun v38 =>
    (E.p.pick v28.1 v38.1 (.bool false)).bind fun v39 =>
    (resV v39).bind fun v40 =>
    some (v40, v38.2) := by kernel_rfl
theorem after0_se0_3_4_5_6_7_39 (E : Env) (x3 x4 x5 x6 x7 x39 : PV) (h : PHeap) : K0 E (kTop Tryd.prog Tryd.f6) (.exit 0) (se0_3_4_5_6_7_39 x3 x4 x5 x6 x7 x39 h) =
    (E.C fn_impl_JoinsAll [x3, x4, x5] h).bind fun v41 =>
    (wantV v41.1 true).bind fun v42 =>
    (bif v42 then some (x3, v41.2) else some (.tup [], v41.2)).bind fun v43 =>
    (wantV v41.1 true).bind fun v44 =>
    (bif v44 then some (x6, v43.2) else some (.tup [], v43.2)).bind fun v45 =>
    (wantV v41.1 true).bind fun v46 =>
    (bif v46 then E.C fn_impl_LastCell [v43.1, v45.1] v45.2 else some (.tup [], v45.2)).bind fun v47 =>
    (wantV v41.1 true).bind fun v48 =>
    (bif v48 then some (x5, v47.2) else some (.tup [], v47.2)).bind fun v49 =>
    (wantV v41.1 true).bind fun v50 =>
    (bif v50 then pv v49.2 (E.p.bin .eql 3 v47.1 v49.1) else some (.tup [], v49.2)).bind fun v51 =>
    (E.p.pick v41.1 v51.1 (.bool false)).bind fun v52 =>
    (resV v52).bind fun v53 =>
    some (v53, v51.2) := by kernel_rfl
noncomputable def main (E : Env) (x0 : PV) (h : PHeap) : Res :=
    (E.p.len 22 x0).bind fun v1 =>
    (E.p.bin .gtr 3 v1 (.int .i64 1048576)).bind fun v2 =>
    condP v2
     (
      (resV (.bool true)).bind fun v3 =>
      some (v3, h))
     (
      (E.C fn_spec_DrawLastCell [x0] h).bind fun v4 =>
      (E.p.extract v4.1 0).bind fun v5 =>
      (E.p.extract v4.1 1).bind fun v6 =>
      (E.C fn_impl_LastCell [v5, v6] v4.2).bind fun v7 =>
      (E.C fn_spec_LastCell [v5, v6] v7.2).bind fun v8 =>
      (E.p.bin .neq 3 v7.1 v8.1).bind fun v9 =>
      condP v9
       (
        (resV (.bool false)).bind fun v10 =>
        some (v10, v8.2))
       (
        (E.p.bin .eql 3 v7.1 (.int .i64 0)).bind fun v11 =>
        condP v11
         (
          (E.C fn_impl_TriangleOk [v5, v6] v8.2).bind fun v12 =>
          (E.p.un .not v12.1).bind fun v13 =>
          (wantV v13 true).bind fun v14 =>
          (bif v14 then E.C fn_laws_alive [] v12.2 else some (.tup [], v12.2)).bind fun v15 =>
          (E.p.pick v13 v15.1 (.bool false)).bind fun v16 =>
          (resV v16).bind fun v17 =>
          some (v17, v15.2))
         (
          (E.p.buildSlice 25 0 [] v8.2).bind fun v18 =>
          (E.p.append 25 25 v18.1 v6 v18.2).bind fun v19 =>
          loopK (ev (E.cx Tryd.prog laws_FnLastCell.kl) laws_FnLastCell.lp0) E.lf (laws_FnLastCell.st0 v5 v6 v7.1 v19.1 (.int .i64 0) v19.2) (laws_FnLastCell.K0 E (kTop Tryd.prog Tryd.f6)))))
theorem main_eq (E : Env) (x0 : PV) (h : PHeap) : runBody (E.cx Tryd.prog kl) Tryd.f6 [x0] h = main E x0 h := by kernel_rfl
theorem call_eq (g : Nat → PV) (lf n : Nat) (x0 : PV) (h : PHeap) : CL g lf (n + 1) fn_laws_FnLastCell [x0] h = main (env g lf n) x0 h := by
  rw [← main_eq]
  show (match Tryd.prog.funcs[6]? with | some fn => if fn.body.isSome then runBody ⟨Tryd.prog, g, call Tryd.prog g KL lf n, KL 6, lf, std Tryd.prog⟩ fn [x0] h else none | none => none) = _
  rw [Tryd.func6]
  kernel_rfl
end laws_FnLastCell
namespace laws_FnTriangleWins
noncomputable def lp0 : Code := (codeAt (bodyOf Tryd.f7) [1, 1, 1, 1, 1, 1, 1, 1, 0, 1, 0, 0])
def st0 (x3 x4 x5 x6 x7 x8 : PV) (h : PHeap) : St := ⟨[.junk, .junk, .junk, x3, x4, x5, x6, x7, x8, .junk, .junk, .junk, .junk, .junk, .junk, .junk, .junk, .junk, .junk, .junk, .junk, .junk, .junk, .junk, .junk, .junk, .junk, .junk, .junk, .junk, .junk, .junk, .junk, .junk, .junk, .junk, .junk, .junk, .junk, .junk, .junk, .junk, .junk, .junk, .junk, .junk, .junk, .junk, .junk, .junk, .junk, .junk, .junk, .junk, .junk, .junk, .junk, .junk, .junk, .junk, .junk, .junk, .junk, .junk, .junk, .junk, .junk, .junk, .junk], h⟩
def se0_3_4_5_6_7_8_39 (x3 x4 x5 x6 x7 x8 x39 : PV) (h : PHeap) : St := ⟨[.junk, .junk, .junk, x3, x4, x5, x6, x7, x8, .junk, .junk, .junk, .junk, .junk, .junk, .junk, .junk, .junk, .junk, .junk, .junk, .junk, .junk, .junk, .junk, .junk, .junk, .junk, .junk, .junk, .junk, .junk, .junk, .junk, .junk, .junk, .junk, .junk, .junk, x39, .junk, .junk, .junk, .junk, .junk, .junk, .junk, .junk, .junk, .junk, .junk, .junk, .junk, .junk, .junk, .junk, .junk, .junk, .junk, .junk, .junk, .junk, .junk, .junk, .junk, .junk, .junk, .junk, .junk], h⟩
noncomputable def K0 (E : Env) (K : PX → St → Res) : PX → St → Res := (kBlock 0 (kSeq (ev (E.cx Tryd.prog kl) (codeAt (bodyOf Tryd.f7) [1, 1, 1, 1, 1, 1, 1, 1, 1])) K))
@[simp] theorem K0_ret (E : Env) (K : PX → St → Res) (s : St) : K0 E K .ret s = K .ret s := by kernel_rfl
noncomputable def body0 (E : Env) (K : PX → St → Res) (x3 x4 x5 x6 x7 x8 : PV) (h : PHeap) : Res :=
    (E.p.bin .leq 3 x8 x4).bind fun v46 =>
    condP v46
     (
      (E.p.bin .sub 3 x6 x4).bind fun v47 =>
      (E.p.bin .add 3 v47 x8).bind fun v48 =>
      (E.p.bin .mul 3 x7 v48).bind fun v49 =>
      (E.p.bin .quo 3 v49 x8).bind fun v50 =>
      (E.p.bin .add 3 x8 (.int .i64 1)).bind fun v51 =>
      K .normal (st0 x3 x4 x5 x6 v50 v51 h))
     (
      K (.exit 0) (se0_3_4_5_6_7_8_39 x3 x4 x5 x6 x7 x8 v46 h))
theorem body0_eq (E : Env) (K : PX → St → Res) (x3 x4 x5 x6 x7 x8 : PV) (h : PHeap) : ev (E.cx Tryd.prog kl) lp0 (st0 x3 x4 x5 x6 x7 x8 h) K = body0 E K x3 x4 x5 x6 x7 x8 h := by kernel_rfl
theorem after0_se0_3_4_5_6_7_8_39 (E : Env) (x3 x4 x5 x6 x7 x8 x39 : PV) (h : PHeap) : K0 E (kTop Tryd.prog Tryd.f7) (.exit 0) (se0_3_4_5_6_7_8_39 x3 x4 x5 x6 x7 x8 x39 h) =
    (E.p.bin .sub 3 x6 x4).bind fun v26 =>
    (E.C fn_impl_TriangleWins [x3, v26] h).bind fun v27 =>
    (E.p.bin .add 3 x5 v27.1).bind fun v28 =>
    (E.p.bin .eql 3 v28 x7).bind fun v29 =>
    (wantV v29 true).bind fun v30 =>
    (bif v30 then some (x4, v27.2) else some (.tup [], v27.2)).bind fun v31 =>
    (wantV v29 true).bind fun v32 =>
    (bif v32 then some (x3, v31.2) else some (.tup [], v31.2)).bind fun v33 =>
    (wantV v29 true).bind fun v34 =>
    (bif v34 then pv v33.2 (E.p.bin .geq 3 v31.1 v33.1) else some (.tup [], v33.2)).bind fun v35 =>
    (wantV v29 true).bind fun v36 =>
    (bif v36 then some (v35.1, v35.2) else some (.tup [], v35.2)).bind fun v37 =>
    (wantV v37.1 false).bind fun v38 =>
    (bif v38 then some (x5, v37.2) else some (.tup [], v37.2)).bind fun v39 =>
    (wantV v37.1 false).bind fun v40 =>
    (bif v40 then pv v39.2 (E.p.bin .eql 3 v39.1 (.int .i64 0)) else some (.tup [], v39.2)).bind fun v41 =>
    (wantV v29 true).bind fun v42 =>
    (bif v42 then pv v41.2 (E.p.pick v37.1 (.bool true) v41.1) else some (.tup [], v41.2)).bind fun v43 =>
    (E.p.pick v29 v43.1 (.bool false)).bind fun v44 =>
    (resV v44).bind fun v45 =>
    some (v45, v43.2) := by kernel_rfl
noncomputable def main (E : Env) (x0 : PV) (h : PHeap) : Res :=
    (E.p.len 22 x0).bind fun v1 =>
    (E.p.bin .gtr 3 v1 (.int .i64 1048576)).bind fun v2 =>
    condP v2
     (
      (resV (.bool true)).bind fun v3 =>
      some (v3, h))
     (
      (E.C fn_spec_DrawTriangleWins [x0] h).bind fun v4 =>
      (E.p.extract v4.1 0).bind fun v5 =>
      (E.p.extract v4.1 1).bind fun v6 =>
      (E.C fn_impl_TriangleWins [v5, v6] v4.2).bind fun v7 =>
      (E.C fn_spec_TriangleWins [v5, v6] v7.2).bind fun v8 =>
      (E.p.bin .neq 3 v7.1 v8.1).bind fun v9 =>
      condP v9
       (
        (resV (.bool false)).bind fun v10 =>
        some (v10, v8.2))
       (
        (E.p.bin .lss 3 v7.1 (.int .i64 0)).bind fun v11 =>
        condP v11
         (
          (E.p.bin .eql 3 v7.1 (.int .i64 (-1))).bind fun v12 =>
          (wantV v12 true).bind fun v13 =>
          (bif v13 then E.C fn_laws_alive [] v8.2 else some (.tup [], v8.2)).bind fun v14 =>
          (E.p.pick v12 v14.1 (.bool false)).bind fun v15 =>
          (resV v15).bind fun v16 =>
          some (v16, v14.2))
         (
          (E.p.bin .add 3 v5 (.int .i64 1)).bind fun v17 =>
          (E.p.bin .mul 3 v5 v17).bind fun v18 =>
          (E.p.bin .quo 3 v18 (.int .i64 2)).bind fun v19 =>
          loopK (ev (E.cx Tryd.prog laws_FnTriangleWins.kl) laws_FnTriangleWins.lp0) E.lf (laws_FnTriangleWins.st0 v5 v6 v7.1 v19 (.int .i64 1) (.int .i64 1) v8.2) (laws_FnTriangleWins.K0 E (kTop Tryd.prog Tryd.f7)))))
theorem main_eq (E : Env) (x0 : PV) (h : PHeap) : runBody (E.cx Tryd.prog kl) Tryd.f7 [x0] h = main E x0 h := by kernel_rfl
theorem call_eq (g : Nat → PV) (lf n : Nat) (x0 : PV) (h : PHeap) : CL g lf (n + 1) fn_laws_FnTriangleWins [x0] h = main (env g lf n) x0 h := by
  rw [← main_eq]
  show (match Tryd.prog.funcs[7]? with | some fn => if fn.body.isSome then runBody ⟨Tryd.prog, g, call Tryd.prog g KL lf n, KL 7, lf, std Tryd.prog⟩ fn [x0] h else none | none => none) = _
  rw [Tryd.func7]
  kernel_rfl
end laws_FnTriangleWins
namespace laws_FnTriangleHalf
noncomputable def lp0 : Code := (codeAt (bodyOf Tryd.f8) [1, 1, 1, 1, 1, 1, 0, 1, 0, 0])
def st0 (x3 x5 x6 x7 : PV) (h : PHeap) : St := ⟨[.junk, .junk, .junk, x3, .junk, x5, x6, x7, .junk, .junk, .junk, .junk, .junk, .junk, .junk, .junk, .junk, .junk, .junk, .junk, .junk, .junk, .junk, .junk, .junk, .junk, .junk, .junk, .junk, .junk, .junk, .junk, .junk, .junk, .junk, .junk, .junk, .junk, .junk, .junk, .junk, .junk, .junk, .junk, .junk, .junk, .junk, .junk, .junk, .junk, .junk, .junk, .junk, .junk, .junk, .junk, .junk, .junk, .junk, .junk, .junk, .junk], h⟩
def se0_3_5_6_7_35 (x3 x5 x6 x7 x35 : PV) (h : PHeap) : St := ⟨[.junk, .junk, .junk, x3, .junk, x5, x6, x7, .junk, .junk, .junk, .junk, .junk, .junk, .junk, .junk, .junk, .junk, .junk, .junk, .junk, .junk, .junk, .junk, .junk, .junk, .junk, .junk, .junk, .junk, .junk, .junk, .junk, .junk, .junk, x35, .junk, .junk, .junk, .junk, .junk, .junk, .junk, .junk, .junk, .junk, .junk, .junk, .junk, .junk, .junk, .junk, .junk, .junk, .junk, .junk, .junk, .junk, .junk, .junk, .junk, .junk], h⟩
noncomputable def K0 (E : Env) (K : PX → St → Res) : PX → St → Res := (kBlock 0 (kSeq (ev (E.cx Tryd.prog kl) (codeAt (bodyOf Tryd.f8) [1, 1, 1, 1, 1, 1, 1])) K))
@[simp] theorem K0_ret (E : Env) (K : PX → St → Res) (s : St) : K0 E K .ret s = K .ret s := by kernel_rfl
noncomputable def body0 (E : Env) (K : PX → St → Res) (x3 x5 x6 x7 : PV) (h : PHeap) : Res :=
    (E.p.bin .leq 3 x7 x5).bind fun v61 =>
    condP v61
     (
      (E.C fn_impl_TriangleWins [x3, x7] h).bind fun v62 =>
      (E.p.bin .add 3 x6 v62.1).bind fun v63 =>
      (E.p.bin .add 3 x7 (.int .i64 1)).bind fun v64 =>
      K .normal (st0 x3 x5 v63 v64 v62.2))
     (
      K (.exit 0) (se0_3_5_6_7_35 x3 x5 x6 x7 v61 h))
theorem body0_eq (E : Env) (K : PX → St → Res) (x3 x5 x6 x7 : PV) (h : PHeap) : ev (E.cx Tryd.prog kl) lp0 (st0 x3 x5 x6 x7 h) K = body0 E K x3 x5 x6 x7 h := by kernel_rfl
theorem after0_se0_3_5_6_7_35 (E : Env) (x3 x5 x6 x7 x35 : PV) (h : PHeap) : K0 E (kTop Tryd.prog Tryd.f8) (.exit 0) (se0_3_5_6_7_35 x3 x5 x6 x7 x35 h) =
    (E.C fn_laws_alive [] h).bind fun v26 =>
    (wantV v26.1 true).bind fun v27 =>
    (bif v27 then some (x6, v26.2) else some (.tup [], v26.2)).bind fun v28 =>
    (wantV v26.1 true).bind fun v29 =>
    (bif v29 then pv v28.2 (E.p.bin .mul 3 (.int .i64 2) v28.1) else some (.tup [], v28.2)).bind fun v30 =>
    (wantV v26.1 true).bind fun v31 =>
    (bif v31 then some (x5, v30.2) else some (.tup [], v30.2)).bind fun v32 =>
    (wantV v26.1 true).bind fun v33 =>
    (bif v33 then pv v32.2 (E.p.bin .shl 3 (.int .i64 1) v32.1) else some (.tup [], v32.2)).bind fun v34 =>
    (wantV v26.1 true).bind fun v35 =>
    (bif v35 then pv v34.2 (E.p.bin .eql 3 v30.1 v34.1) else some (.tup [], v34.2)).bind fun v36 =>
    (wantV v26.1 true).bind fun v37 =>
    (bif v37 then some (v36.1, v36.2) else some (.tup [], v36.2)).bind fun v38 =>
    (wantV v38.1 true).bind fun v39 =>
    (bif v39 then some (x3, v38.2) else some (.tup [], v38.2)).bind fun v40 =>
    (wantV v38.1 true).bind fun v41 =>
    (bif v41 then some (x5, v40.2) else some (.tup [], v40.2)).bind fun v42 =>
    (wantV v38.1 true).bind fun v43 =>
    (bif v43 then E.C fn_impl_TriangleWins [v40.1, v42.1] v42.2 else some (.tup [], v42.2)).bind fun v44 =>
    (wantV v38.1 true).bind fun v45 =>
    (bif v45 then pv v44.2 (E.p.bin .eql 3 v44.1 (.int .i64 1)) else some (.tup [], v44.2)).bind fun v46 =>
    (wantV v26.1 true).bind fun v47 =>
    (bif v47 then pv v46.2 (E.p.pick v38.1 v46.1 (.bool false)) else some (.tup [], v46.2)).bind fun v48 =>
    (wantV v26.1 true).bind fun v49 =>
    (bif v49 then some (v48.1, v48.2) else some (.tup [], v48.2)).bind fun v50 =>
    (wantV v50.1 true).bind fun v51 =>
    (bif v51 then some (x3, v50.2) else some (.tup [], v50.2)).bind fun v52 =>
    (wantV v50.1 true).bind fun v53 =>
    (bif v53 then E.C fn_impl_TriangleWins [v52.1, (.int .i64 0)] v52.2 else some (.tup [], v52.2)).bind fun v54 =>
    (wantV v50.1 true).bind fun v55 =>
    (bif v55 then pv v54.2 (E.p.bin .eql 3 v54.1 (.int .i64 0)) else some (.tup [], v54.2)).bind fun v56 =>
    (wantV v26.1 true).bind fun v57 =>
    (bif v57 then pv v56.2 (E.p.pick v50.1 v56.1 (.bool false)) else some (.tup [], v56.2)).bind fun v58 =>
    (E.p.pick v26.1 v58.1 (.bool false)).bind fun v59 =>
    (resV v59).bind fun v60 =>
    some (v60, v58.2) := by kernel_rfl
noncomputable def main (E : Env) (x0 : PV) (h : PHeap) : Res :=
    (E.p.len 22 x0).bind fun v1 =>
    (E.p.bin .gtr 3 v1 (.int .i64 1048576)).bind fun v2 =>
    condP v2
     (
      (resV (.bool true)).bind fun v3 =>
      some (v3, h))
     (
      (E.C fn_spec_DrawTriangleWins [x0] h).bind fun v4 =>
      (E.p.extract v4.1 0).bind fun v5 =>
      (E.p.extract v4.1 1).bind fun v6 =>
      (E.p.bin .lss 3 v5 (.int .i64 1)).bind fun v7 =>
      (wantV v7 false).bind fun v8 =>
      (bif v8 then some (v5, v4.2) else some (.tup [], v4.2)).bind fun v9 =>
      (wantV v7 false).bind fun v10 =>
      (bif v10 then pv v9.2 (E.p.bin .gtr 3 v9.1 (.int .i64 4)) else some (.tup [], v9.2)).bind fun v11 =>
      (E.p.pick v7 (.bool true) v11.1).bind fun v12 =>
      condP v12
       (
        (E.C fn_impl_TriangleWins [v5, (.int .i64 0)] v11.2).bind fun v13 =>
        (E.p.bin .eql 3 v13.1 (.int .i64 (-1))).bind fun v14 =>
        (wantV v14 true).bind fun v15 =>
        (bif v15 then E.C fn_laws_alive [] v13.2 else some (.tup [], v13.2)).bind fun v16 =>
        (E.p.pick v14 v16.1 (.bool false)).bind fun v17 =>
        (resV v17).bind fun v18 =>
        some (v18, v16.2))
       (
        (E.p.bin .add 3 v5 (.int .i64 1)).bind fun v19 =>
        (E.p.bin .mul 3 v5 v19).bind fun v20 =>
        (E.p.bin .quo 3 v20 (.int .i64 2)).bind fun v21 =>
        loopK (ev (E.cx Tryd.prog laws_FnTriangleHalf.kl) laws_FnTriangleHalf.lp0) E.lf (laws_FnTriangleHalf.st0 v5 v21 (.int .i64 0) (.int .i64 0) v11.2) (laws_FnTriangleHalf.K0 E (kTop Tryd.prog Tryd.f8))))
theorem main_eq (E : Env) (x0 : PV) (h : PHeap) : runBody (E.cx Tryd.prog kl) Tryd.f8 [x0] h = main E x0 h := by kernel_rfl
theorem call_eq (g : Nat → PV) (lf n : Nat) (x0 : PV) (h : PHeap) : CL g lf (n + 1) fn_laws_FnTriangleHalf [x0] h = main (env g lf n) x0 h := by
  rw [← main_eq]
  show (match Tryd.prog.funcs[8]? with | some fn => if fn.body.isSome then runBody ⟨Tryd.prog, g, call Tryd.prog g KL lf n, KL 8, lf, std Tryd.prog⟩ fn [x0] h else none | none => none) = _
  rw [Tryd.func8]
  kernel_rfl
end laws_FnTriangleHalf
namespace laws_FnJoinsMore
noncomputable def lp0 : Code := (codeAt (bodyOf Tryd.f9) [1, 1, 1, 1, 1, 1, 0, 1, 0, 0])
def st0 (x3 x4 x6 x7 x8 : PV) (h : PHeap) : St := ⟨[.junk, .junk, .junk, x3, x4, .junk, x6, x7, x8, .junk, .junk, .junk, .junk, .junk, .junk, .junk, .junk, .junk, .junk, .junk, .junk, .junk, .junk, .junk, .junk, .junk, .junk, .junk, .junk, .junk, .junk, .junk, .junk, .junk, .junk, .junk, .junk, .junk, .junk, .junk, .junk, .junk, .junk, .junk, .junk, .junk, .junk, .junk, .junk, .junk, .junk, .junk, .junk, .junk, .junk, .junk, .junk, .junk, .junk, .junk, .junk, .junk, .junk, .junk, .junk, .junk, .junk, .junk, .junk, .junk, .junk, .junk, .junk, .junk, .junk, .junk, .junk, .junk, .junk], h⟩
noncomputable def lp1 : Code := (codeAt (bodyOf Tryd.f9) [1, 1, 1, 1, 1, 1, 1, 0, 1, 0, 0])
def st1 (x3 x4 x6 x7 x9 : PV) (h : PHeap) : St := ⟨[.junk, .junk, .junk, x3, x4, .junk, x6, x7, .junk, x9, .junk, .junk, .junk, .junk, .junk, .junk, .junk, .junk, .junk, .junk, .junk, .junk, .junk, .junk, .junk, .junk, .junk, .junk, .junk, .junk, .junk, .junk, .junk, .junk, .junk, .junk, .junk, .junk, .junk, .junk, .junk, .junk, .junk, .junk, .junk, .junk, .junk, .junk, .junk, .junk, .junk, .junk, .junk, .junk, .junk, .junk, .junk, .junk, .junk, .junk, .junk, .junk, .junk, .junk, .junk, .junk, .junk, .junk, .junk, .junk, .junk, .junk, .junk, .junk, .junk, .junk, .junk, .junk, .junk], h⟩
def se0_3_4_6_7 (x3 x4 x6 x7 : PV) (h : PHeap) : St := ⟨[.junk, .junk, .junk, x3, x4, .junk, x6, x7, .junk, .junk, .junk, .junk, .junk, .junk, .junk, .junk, .junk, .junk, .junk, .junk, .junk, .junk, .junk, .junk, .junk, .junk, .junk, .junk, .junk, .junk, .junk, .junk, .junk, .junk, .junk, .junk, .junk, .junk, .junk, .junk, .junk, .junk, .junk, .junk, .junk, .junk, .junk, .junk, .junk, .junk, .junk, .junk, .junk, .junk, .junk, .junk, .junk, .junk, .junk, .junk, .junk, .junk, .junk, .junk, .junk, .junk, .junk, .junk, .junk, .junk, .junk, .junk, .junk, .junk, .junk, .junk, .junk, .junk, .junk], h⟩
def se0_3_4_6_7_8_42 (x3 x4 x6 x7 x8 x42 : PV) (h : PHeap) : St := ⟨[.junk, .junk, .junk, x3, x4, .junk, x6, x7, x8, .junk, .junk, .junk, .junk, .junk, .junk, .junk, .junk, .junk, .junk, .junk, .junk, .junk, .junk, .junk, .junk, .junk, .junk, .junk, .junk, .junk, .junk, .junk, .junk, .junk, .junk, .junk, .junk, .junk, .junk, .junk, .junk, .junk, x42, .junk, .junk, .junk, .junk, .junk, .junk, .junk, .junk, .junk, .junk, .junk, .junk, .junk, .junk, .junk, .junk, .junk, .junk, .junk, .junk, .junk, .junk, .junk, .junk, .junk, .junk, .junk, .junk, .junk, .junk, .junk, .junk, .junk, .junk, .junk, .junk], h⟩
def se2_3_6_7 (x3 x6 x7 : PV) (h : PHeap) : St := ⟨[.junk, .junk, .junk, x3, .junk, .junk, x6, x7, .junk, .junk, .junk, .junk, .junk, .junk, .junk, .junk, .junk, .junk, .junk, .junk, .junk, .junk, .junk, .junk, .junk, .junk, .junk, .junk, .junk, .junk, .junk, .junk, .junk, .junk, .junk, .junk, .junk, .junk, .junk, .junk, .junk, .junk, .junk, .junk, .junk, .junk, .junk, .junk, .junk, .junk, .junk, .junk, .junk, .junk, .junk, .junk, .junk, .junk, .junk, .junk, .junk, .junk, .junk, .junk, .junk, .junk, .junk, .junk, .junk, .junk, .junk, .junk, .junk, .junk, .junk, .junk, .junk, .junk, .junk], h⟩
def se2_3_4_6_7_9_57 (x3 x4 x6 x7 x9 x57 : PV) (h : PHeap) : St := ⟨[.junk, .junk, .junk, x3, x4, .junk, x6, x7, .junk, x9, .junk, .junk, .junk, .junk, .junk, .junk, .junk, .junk, .junk, .junk, .junk, .junk, .junk, .junk, .junk, .junk, .junk, .junk, .junk, .junk, .junk, .junk, .junk, .junk, .junk, .junk, .junk, .junk, .junk, .junk, .junk, .junk, .junk, .junk, .junk, .junk, .junk, .junk, .junk, .junk, .junk, .junk, .junk, .junk, .junk, .junk, .junk, x57, .junk, .junk, .junk, .junk, .junk, .junk, .junk, .junk, .junk, .junk, .junk, .junk, .junk, .junk, .junk, .junk, .junk, .junk, .junk, .junk, .junk], h⟩
noncomputable def K0 (E : Env) (K : PX → St → Res) : PX → St → Res := (kBlock 0 (kSeq (ev (E.cx Tryd.prog kl) (codeAt (bodyOf Tryd.f9) [1, 1, 1, 1, 1, 1, 1])) K))
@[simp] theorem K0_ret (E : Env) (K : PX → St → Res) (s : St) : K0 E K .ret s = K .ret s := by kernel_rfl
noncomputable def K1 (E : Env) (K : PX → St → Res) : PX → St → Res := (kBlock 2 (kSeq (ev (E.cx Tryd.prog kl) (codeAt (bodyOf Tryd.f9) [1, 1, 1, 1, 1, 1, 1, 1])) K))
@[simp] theorem K1_ret (E : Env) (K : PX → St → Res) (s : St) : K1 E K .ret s = K .ret s := by kernel_rfl
noncomputable def body0 (E : Env) (K : PX → St → Res) (x3 x4 x6 x7 x8 : PV) (h : PHeap) : Res :=
    (E.p.len 25 x4).bind fun v78 =>
    (E.p.bin .lss 3 x8 v78).bind fun v79 =>
    condP v79
     (
      (E.p.indexAddr 25 x4 x8).bind fun v80 =>
      (E.p.load 3 v80 h).bind fun v81 =>
      (E.p.bin .eql 3 v81 (.int .i64 2)).bind fun v82 =>
      condP v82
       (
        (E.p.indexAddr 25 x6 x8).bind fun v83 =>
        (E.p.store 3 v83 (.int .i64 1) h).bind fun v84 =>
        K (.exit 0) (se0_3_4_6_7 x3 x4 x6 x7 v84))
       (
        (E.p.bin .add 3 x8 (.int .i64 1)).bind fun v85 =>
        K .normal (st0 x3 x4 x6 x7 v85 h)))
     (
      K (.exit 0) (se0_3_4_6_7_8_42 x3 x4 x6 x7 x8 v79 h))
theorem body0_eq (E : Env) (K : PX → St → Res) (x3 x4 x6 x7 x8 : PV) (h : PHeap) : ev (E.cx Tryd.prog kl) lp0 (st0 x3 x4 x6 x7 x8 h) K = body0 E K x3 x4 x6 x7 x8 h := by kernel_rfl
noncomputable def body1 (E : Env) (K : PX → St → Res) (x3 x4 x6 x7 x9 : PV) (h : PHeap) : Res :=
    (E.p.bin .geq 3 x9 (.int .i64 0)).bind fun v86 =>
    condP v86
     (
      (E.p.indexAddr 25 x4 x9).bind fun v87 =>
      (E.p.load 3 v87 h).bind fun v88 =>
      (E.p.bin .eql 3 v88 (.int .i64 2)).bind fun v89 =>
      condP v89
       (
        (E.p.indexAddr 25 x7 x9).bind fun v90 =>
        (E.p.store 3 v90 (.int .i64 1) h).bind fun v91 =>
        K (.exit 2) (se2_3_6_7 x3 x6 x7 v91))
       (
        (E.p.bin .sub 3 x9 (.int .i64 1)).bind fun v92 =>
        K .normal (st1 x3 x4 x6 x7 v92 h)))
     (
      K (.exit 2) (se2_3_4_6_7_9_57 x3 x4 x6 x7 x9 v86 h))
theorem body1_eq (E : Env) (K : PX → St → Res) (x3 x4 x6 x7 x9 : PV) (h : PHeap) : ev (E.cx Tryd.prog kl) lp1 (st1 x3 x4 x6 x7 x9 h) K = body1 E K x3 x4 x6 x7 x9 h := by kernel_rfl
theorem after0_se0_3_4_6_7 (E : Env) (x3 x4 x6 x7 : PV) (h : PHeap) : K0 E (kTop Tryd.prog Tryd.f9) (.exit 0) (se0_3_4_6_7 x3 x4 x6 x7 h) =
    (E.p.len 25 x4).bind fun v29 =>
    (E.p.bin .sub 3 v29 (.int .i64 1)).bind fun v30 =>
    loopK (ev (E.cx Tryd.prog laws_FnJoinsMore.kl) laws_FnJoinsMore.lp1) E.lf (laws_FnJoinsMore.st1 x3 x4 x6 x7 v30 h) (laws_FnJoinsMore.K1 E (kTop Tryd.prog Tryd.f9)) := by kernel_rfl
theorem after0_se0_3_4_6_7_8_42 (E : Env) (x3 x4 x6 x7 x8 x42 : PV) (h : PHeap) : K0 E (kTop Tryd.prog Tryd.f9) (.exit 0) (se0_3_4_6_7_8_42 x3 x4 x6 x7 x8 x42 h) =
    (E.p.len 25 x4).bind fun v31 =>
    (E.p.bin .sub 3 v31 (.int .i64 1)).bind fun v32 =>
    loopK (ev (E.cx Tryd.prog laws_FnJoinsMore.kl) laws_FnJoinsMore.lp1) E.lf (laws_FnJoinsMore.st1 x3 x4 x6 x7 v32 h) (laws_FnJoinsMore.K1 E (kTop Tryd.prog Tryd.f9)) := by kernel_rfl
theorem after1_se2_3_6_7 (E : Env) (x3 x6 x7 : PV) (h : PHeap) : K1 E (kTop Tryd.prog Tryd.f9) (.exit 2) (se2_3_6_7 x3 x6 x7 h) =
    (E.C fn_laws_alive [] h).bind fun v40 =>
    (wantV v40.1 true).bind fun v41 =>
    (bif v41 then some (x3, v40.2) else some (.tup [], v40.2)).bind fun v42 =>
    (wantV v40.1 true).bind fun v43 =>
    (bif v43 then some (x6, v42.2) else some (.tup [], v42.2)).bind fun v44 =>
    (wantV v40.1 true).bind fun v45 =>
    (bif v45 then E.C fn_impl_JoinsAll [v42.1, v44.1, (.int .i64 1)] v44.2 else some (.tup [], v44.2)).bind fun v46 =>
    (wantV v40.1 true).bind fun v47 =>
    (bif v47 then some (v46.1, v46.2) else some (.tup [], v46.2)).bind fun v48 =>
    (wantV v48.1 true).bind fun v49 =>
    (bif v49 then some (x3, v48.2) else some (.tup [], v48.2)).bind fun v50 =>
    (wantV v48.1 true).bind fun v51 =>
    (bif v51 then some (x7, v50.2) else some (.tup [], v50.2)).bind fun v52 =>
    (wantV v48.1 true).bind fun v53 =>
    (bif v53 then E.C fn_impl_JoinsAll [v50.1, v52.1, (.int .i64 1)] v52.2 else some (.tup [], v52.2)).bind fun v54 =>
    (wantV v40.1 true).bind fun v55 =>
    (bif v55 then pv v54.2 (E.p.pick v48.1 v54.1 (.bool false)) else some (.tup [], v54.2)).bind fun v56 =>
    (E.p.pick v40.1 v56.1 (.bool false)).bind fun v57 =>
    (resV v57).bind fun v58 =>
    some (v58, v56.2) := by kernel_rfl
theorem after1_se2_3_4_6_7_9_57 (E : Env) (x3 x4 x6 x7 x9 x57 : PV) (h : PHeap) : K1 E (kTop Tryd.prog Tryd.f9) (.exit 2) (se2_3_4_6_7_9_57 x3 x4 x6 x7 x9 x57 h) =
    (E.C fn_laws_alive [] h).bind fun v59 =>
    (wantV v59.1 true).bind fun v60 =>
    (bif v60 then some (x3, v59.2) else some (.tup [], v59.2)).bind fun v61 =>
    (wantV v59.1 true).bind fun v62 =>
    (bif v62 then some (x6, v61.2) else some (.tup [], v61.2)).bind fun v63 =>
    (wantV v59.1 true).bind fun v64 =>
    (bif v64 then E.C fn_impl_JoinsAll [v61.1, v63.1, (.int .i64 1)] v63.2 else some (.tup [], v63.2)).bind fun v65 =>
    (wantV v59.1 true).bind fun v66 =>
    (bif v66 then some (v65.1, v65.2) else some (.tup [], v65.2)).bind fun v67 =>
    (wantV v67.1 true).bind fun v68 =>
    (bif v68 then some (x3, v67.2) else some (.tup [], v67.2)).bind fun v69 =>
    (wantV v67.1 true).bind fun v70 =>
    (bif v70 then some (x7, v69.2) else some (.tup [], v69.2)).bind fun v71 =>
    (wantV v67.1 true).bind fun v72 =>
    (bif v72 then E.C fn_impl_JoinsAll [v69.1, v71.1, (.int .i64 1)] v71.2 else some (.tup [], v71.2)).bind fun v73 =>
    (wantV v59.1 true).bind fun v74 =>
    (bif v74 then pv v73.2 (E.p.pick v67.1 v73.1 (.bool false)) else some (.tup [], v73.2)).bind fun v75 =>
    (E.p.pick v59.1 v75.1 (.bool false)).bind fun v76 =>
    (resV v76).bind fun v77 =>
    some (v77, v75.2) := by kernel_rfl
noncomputable def main (E : Env) (x0 : PV) (h : PHeap) : Res :=
    (E.p.len 22 x0).bind fun v1 =>
    (E.p.bin .gtr 3 v1 (.int .i64 1048576)).bind fun v2 =>
    condP v2
     (
      (resV (.bool true)).bind fun v3 =>
      some (v3, h))
     (
      (E.C fn_spec_DrawJoinsAll [x0] h).bind fun v4 =>
      (E.p.extract v4.1 0).bind fun v5 =>
      (E.p.extract v4.1 1).bind fun v6 =>
      (E.p.extract v4.1 2).bind fun v7 =>
      (E.C fn_impl_JoinsAll [v5, v6, (.int .i64 1)] v4.2).bind fun v8 =>
      (E.p.un .not v8.1).bind fun v9 =>
      condP v9
       (
        (E.C fn_spec_JoinsAll [v5, v6, (.int .i64 2)] v8.2).bind fun v10 =>
        (E.C fn_impl_JoinsAll [v5, v6, (.int .i64 2)] v10.2).bind fun v11 =>
        (E.p.bin .eql 4 v10.1 v11.1).bind fun v12 =>
        (wantV v12 true).bind fun v13 =>
        (bif v13 then E.C fn_laws_alive [] v11.2 else some (.tup [], v11.2)).bind fun v14 =>
        (E.p.pick v12 v14.1 (.bool false)).bind fun v15 =>
        (resV v15).bind fun v16 =>
        some (v16, v14.2))
       (
        (E.p.buildSlice 25 0 [] v8.2).bind fun v17 =>
        (E.p.append 25 25 v17.1 v6 v17.2).bind fun v18 =>
        (E.p.buildSlice 25 0 [] v18.2).bind fun v19 =>
        (E.p.append 25 25 v19.1 v6 v19.2).bind fun v20 =>
        loopK (ev (E.cx Tryd.prog laws_FnJoinsMore.kl) laws_FnJoinsMore.lp0) E.lf (laws_FnJoinsMore.st0 v5 v6 v18.1 v20.1 (.int .i64 0) v20.2) (laws_FnJoinsMore.K0 E (kTop Tryd.prog Tryd.f9))))
theorem main_eq (E : Env) (x0 : PV) (h : PHeap) : runBody (E.cx Tryd.prog kl) Tryd.f9 [x0] h = main E x0 h := by kernel_rfl
theorem call_eq (g : Nat → PV) (lf n : Nat) (x0 : PV) (h : PHeap) : CL g lf (n + 1) fn_laws_FnJoinsMore [x0] h = main (env g lf n) x0 h := by
  rw [← main_eq]
  show (match Tryd.prog.funcs[9]? with | some fn => if fn.body.isSome then runBody ⟨Tryd.prog, g, call Tryd.prog g KL lf n, KL 9, lf, std Tryd.prog⟩ fn [x0] h else none | none => none) = _
  rw [Tryd.func9]
  kernel_rfl
end laws_FnJoinsMore
namespace laws_FnExactTriangleNear
noncomputable def main (E : Env) (x0 x1 : PV) (h : PHeap) : Res :=
    (E.C fn_spec_TriangleNear [x0, x1] h).bind fun v1 =>
    (E.C fn_impl_TriangleNear [x0, x1] v1.2).bind fun v2 =>
    (E.C fn_laws_eqIntS [v2.1, v1.1] v2.2).bind fun v3 =>
    (E.p.un .not v3.1).bind fun v4 =>
    condP v4
     (
      (resV (.bool false)).bind fun v5 =>
      some (v5, v3.2))
     (
      (E.C fn_laws_markIntS [v2.1, (.int .i64 1)] v3.2).bind fun v6 =>
      (E.C fn_laws_heldIntS [v2.1, (.int .i64 1)] v6.2).bind fun v7 =>
      (E.p.bin .lss 3 v7.1 (.int .i64 0)).bind fun v8 =>
      condP v8
       (
        (resV (.bool false)).bind fun v9 =>
        some (v9, v7.2))
       (
        (E.p.bin .neq 3 v7.1 v6.1).bind fun v10 =>
        condP v10
         (
          (resV (.bool false)).bind fun v11 =>
          some (v11, v7.2))
         (
          (E.C fn_impl_TriangleNear [x0, x1] v7.2).bind fun v12 =>
          (E.C fn_laws_eqIntS [v12.1, v1.1] v12.2).bind fun v13 =>
          (E.p.un .not v13.1).bind fun v14 =>
          condP v14
           (
            (resV (.bool false)).bind fun v15 =>
            some (v15, v13.2))
           (
            (E.C fn_laws_heldIntS [v2.1, (.int .i64 1)] v13.2).bind fun v16 =>
            (E.p.bin .lss 3 v16.1 (.int .i64 0)).bind fun v17 =>
            condP v17
             (
              (resV (.bool false)).bind fun v18 =>
              some (v18, v16.2))
             (
              (E.p.bin .neq 3 v16.1 v6.1).bind fun v19 =>
              condP v19
               (
                (resV (.bool false)).bind fun v20 =>
                some (v20, v16.2))
               (
                (resV (.bool true)).bind fun v21 =>
                some (v21, v16.2)))))))
theorem main_eq (E : Env) (x0 x1 : PV) (h : PHeap) : runBody (E.cx Tryd.prog kl) Tryd.f10 [x0, x1] h = main E x0 x1 h := by kernel_rfl
theorem call_eq (g : Nat → PV) (lf n : Nat) (x0 x1 : PV) (h : PHeap) : CL g lf (n + 1) fn_laws_FnExactTriangleNear [x0, x1] h = main (env g lf n) x0 x1 h := by
  rw [← main_eq]
  show (match Tryd.prog.funcs[10]? with | some fn => if fn.body.isSome then runBody ⟨Tryd.prog, g, call Tryd.prog g KL lf n, KL 10, lf, std Tryd.prog⟩ fn [x0, x1] h else none | none => none) = _
  rw [Tryd.func10]
  kernel_rfl
end laws_FnExactTriangleNear
namespace laws_FnExactJoinsAll
noncomputable def main (E : Env) (x0 x1 x2 : PV) (h : PHeap) : Res :=
    (E.p.len 25 x1).bind fun v1 =>
    (E.p.bin .gtr 3 v1 (.int .i64 1048576)).bind fun v2 =>
    condP v2
     (
      (resV (.bool true)).bind fun v3 =>
      some (v3, h))
     (
      (E.C fn_laws_toIntS [x1] h).bind fun v4 =>
      (E.C fn_spec_JoinsAll [x0, v4.1, x2] v4.2).bind fun v5 =>
      (E.C fn_laws_toIntS [x1] v5.2).bind fun v6 =>
      (E.C fn_impl_JoinsAll [x0, v6.1, x2] v6.2).bind fun v7 =>
      (E.p.bin .neq 4 v7.1 v5.1).bind fun v8 =>
      condP v8
       (
        (resV (.bool false)).bind fun v9 =>
        some (v9, v7.2))
       (
        (E.C fn_laws_toIntS [x1] v7.2).bind fun v10 =>
        (E.C fn_laws_eqIntS [v6.1, v10.1] v10.2).bind fun v11 =>
        (E.p.un .not v11.1).bind fun v12 =>
        condP v12
         (
          (resV (.bool false)).bind fun v13 =>
          some (v13, v11.2))
         (
          (resV (.bool true)).bind fun v14 =>
          some (v14, v11.2))))
theorem main_eq (E : Env) (x0 x1 x2 : PV) (h : PHeap) : runBody (E.cx Tryd.prog kl) Tryd.f11 [x0, x1, x2] h = main E x0 x1 x2 h := by kernel_rfl
theorem call_eq (g : Nat → PV) (lf n : Nat) (x0 x1 x2 : PV) (h : PHeap) : CL g lf (n + 1) fn_laws_FnExactJoinsAll [x0, x1, x2] h = main (env g lf n) x0 x1 x2 h := by
  rw [← main_eq]
  show (match Tryd.prog.funcs[11]? with | some fn => if fn.body.isSome then runBody ⟨Tryd.prog, g, call Tryd.prog g KL lf n, KL 11, lf, std Tryd.prog⟩ fn [x0, x1, x2] h else none | none => none) = _
  rw [Tryd.func11]
  kernel_rfl
end laws_FnExactJoinsAll
namespace spec_DrawTriangleNear
noncomputable def main (E : Env) (x0 : PV) (h : PHeap) : Res :=
    (E.C fn_spec_l20Open [x0] h).bind fun v1 =>
    (E.C fn_spec_l20Rd_pick [v1.1, (.int .i64 4)] v1.2).bind fun v2 =>
    (E.p.bin .add 3 (.int .i64 1) v2.1).bind fun v3 =>
    (E.C fn_spec_l20Rd_pick [v1.1, (.int .i64 40)] v2.2).bind fun v4 =>
    (E.p.bin .quo 3 v4.1 (.int .i64 39)).bind fun v5 =>
    (E.p.bin .mul 3 v5 (.int .i64 4)).bind fun v6 =>
    (E.p.bin .add 3 v3 v6).bind fun v7 =>
    (E.C fn_spec_l20Rd_pick [v1.1, (.int .i64 11)] v4.2).bind fun v8 =>
    (E.C fn_spec_l20Rd_pick [v1.1, (.int .i64 40)] v8.2).bind fun v9 =>
    (E.p.bin .quo 3 v9.1 (.int .i64 39)).bind fun v10 =>
    (E.p.bin .mul 3 v10 (.int .i64 11)).bind fun v11 =>
    (E.p.bin .sub 3 v8.1 v11).bind fun v12 =>
    (resV v7).bind fun v13 =>
    (resV v12).bind fun v14 =>
    some (.tup [v13, v14], v9.2)
theorem main_eq (E : Env) (x0 : PV) (h : PHeap) : runBody (E.cx Tryd.prog kl) Tryd.f12 [x0] h = main E x0 h := by kernel_rfl
theorem call_eq (g : Nat → PV) (lf n : Nat) (x0 : PV) (h : PHeap) : CL g lf (n + 1) fn_spec_DrawTriangleNear [x0] h = main (env g lf n) x0 h := by
  rw [← main_eq]
  show (match Tryd.prog.funcs[12]? with | some fn => if fn.body.isSome then runBody ⟨Tryd.prog, g, call Tryd.prog g KL lf n, KL 12, lf, std Tryd.prog⟩ fn [x0] h else none | none => none) = _
  rw [Tryd.func12]
  kernel_rfl
end spec_DrawTriangleNear
namespace impl_TriangleNear
noncomputable def lp0 : Code := (codeAt (bodyOf Tryd.f13) [1, 1, 1, 1, 0, 1, 0, 0])
def st0 (x0 x5 x6 x7 x30 x31 : PV) (h : PHeap) : St := ⟨[x0, .junk, .junk, .junk, .junk, x5, x6, x7, .junk, .junk, .junk, .junk, .junk, .junk, .junk, .junk, .junk, .junk, .junk, .junk, .junk, .junk, .junk, .junk, .junk, .junk, .junk, .junk, .junk, .junk, x30, x31, .junk, .junk, .junk, .junk, .junk, .junk, .junk, .junk, .junk, .junk, .junk, .junk, .junk, .junk, .junk, .junk, .junk, .junk, .junk, .junk, .junk, .junk, .junk, .junk, .junk, .junk, .junk, .junk, .junk, .junk], h⟩
def se0_0_5_6_7_30_31_32 (x0 x5 x6 x7 x30 x31 x32 : PV) (h : PHeap) : St := ⟨[x0, .junk, .junk, .junk, .junk, x5, x6, x7, .junk, .junk, .junk, .junk, .junk, .junk, .junk, .junk, .junk, .junk, .junk, .junk, .junk, .junk, .junk, .junk, .junk, .junk, .junk, .junk, .junk, .junk, x30, x31, x32, .junk, .junk, .junk, .junk, .junk, .junk, .junk, .junk, .junk, .junk, .junk, .junk, .junk, .junk, .junk, .junk, .junk, .junk, .junk, .junk, .junk, .junk, .junk, .junk, .junk, .junk, .junk, .junk, .junk], h⟩
noncomputable def K0 (E : Env) (K : PX → St → Res) : PX → St → Res := (kBlock 0 (kSeq (ev (E.cx Tryd.prog kl) (codeAt (bodyOf Tryd.f13) [1, 1, 1, 1, 1])) K))
@[simp] theorem K0_ret (E : Env) (K : PX → St → Res) (s : St) : K0 E K .ret s = K .ret s := by kernel_rfl
noncomputable def body0 (E : Env) (K : PX → St → Res) (x0 x5 x6 x7 x30 x31 : PV) (h : PHeap) : Res :=
    (E.p.bin .lss 3 x31 (.int .i64 6)).bind fun v51 =>
    condP v51
     (
      (E.p.index 50 x30 x31).bind fun v52 =>
      (E.p.alloc 49 h).bind fun v53 =>
      (E.p.store 49 v53.1 v52 v53.2).bind fun v54 =>
      (E.p.indexAddr 49 v53.1 (.int .i64 0)).bind fun v55 =>
      (E.p.load 3 v55 v54).bind fun v56 =>
      (E.p.bin .add 3 x5 v56).bind fun v57 =>
      (E.p.indexAddr 49 v53.1 (.int .i64 1)).bind fun v58 =>
      (E.p.load 3 v58 v54).bind fun v59 =>
      (E.p.bin .add 3 x6 v59).bind fun v60 =>
      (E.p.bin .lss 3 v57 x0).bind fun v61 =>
      (wantV v61 true).bind fun v62 =>
      (bif v62 then some (v60, v54) else some (.tup [], v54)).bind fun v63 =>
      (wantV v61 true).bind fun v64 =>
      (bif v64 then pv v63.2 (E.p.bin .geq 3 v63.1 (.int .i64 0)) else some (.tup [], v63.2)).bind fun v65 =>
      (E.p.pick v61 v65.1 (.bool false)).bind fun v66 =>
      (wantV v66 true).bind fun v67 =>
      (bif v67 then some (v60, v65.2) else some (.tup [], v65.2)).bind fun v68 =>
      (wantV v66 true).bind fun v69 =>
      (bif v69 then some (v57, v68.2) else some (.tup [], v68.2)).bind fun v70 =>
      (wantV v66 true).bind fun v71 =>
      (bif v71 then pv v70.2 (E.p.bin .leq 3 v68.1 v70.1) else some (.tup [], v70.2)).bind fun v72 =>
      (E.p.pick v66 v72.1 (.bool false)).bind fun v73 =>
      condP v73
       (
        (E.C fn_impl_triangleCell [v57, v60] v72.2).bind fun v74 =>
        (E.p.buildSlice 25 1 [(0, v74.1)] v74.2).bind fun v75 =>
        (E.p.append 25 25 x7 v75.1 v75.2).bind fun v76 =>
        (E.p.bin .add 3 x31 (.int .i64 1)).bind fun v77 =>
        K .normal (st0 x0 x5 x6 v76.1 x30 v77 v76.2))
       (
        (E.p.bin .add 3 x31 (.int .i64 1)).bind fun v78 =>
        K .normal (st0 x0 x5 x6 x7 x30 v78 v72.2)))
     (
      K (.exit 0) (se0_0_5_6_7_30_31_32 x0 x5 x6 x7 x30 x31 v51 h))
theorem body0_eq (E : Env) (K : PX → St → Res) (x0 x5 x6 x7 x30 x31 : PV) (h : PHeap) : ev (E.cx Tryd.prog kl) lp0 (st0 x0 x5 x6 x7 x30 x31 h) K = body0 E K x0 x5 x6 x7 x30 x31 h := by kernel_rfl
theorem after0_se0_0_5_6_7_30_31_32 (E : Env) (x0 x5 x6 x7 x30 x31 x32 : PV) (h : PHeap) : K0 E (kTop Tryd.prog Tryd.f13) (.exit 0) (se0_0_5_6_7_30_31_32 x0 x5 x6 x7 x30 x31 x32 h) =
    (resV x7).bind fun v50 =>
    some (v50, h) := by kernel_rfl
noncomputable def main (E : Env) (x0 x1 : PV) (h : PHeap) : Res :=
    (E.C fn_impl_triangleSideOk [x0] h).bind fun v1 =>
    (E.p.un .not v1.1).bind fun v2 =>
    (wantV v2 false).bind fun v3 =>
    (bif v3 then some (x1, v1.2) else some (.tup [], v1.2)).bind fun v4 =>
    (wantV v2 false).bind fun v5 =>
    (bif v5 then pv v4.2 (E.p.bin .lss 3 v4.1 (.int .i64 0)) else some (.tup [], v4.2)).bind fun v6 =>
    (E.p.pick v2 (.bool true) v6.1).bind fun v7 =>
    (wantV v7 false).bind fun v8 =>
    (bif v8 then some (x1, v6.2) else some (.tup [], v6.2)).bind fun v9 =>
    (wantV v7 false).bind fun v10 =>
    (bif v10 then some (x0, v9.2) else some (.tup [], v9.2)).bind fun v11 =>
    (wantV v7 false).bind fun v12 =>
    (bif v12 then E.C fn_impl_triangleSize [v11.1] v11.2 else some (.tup [], v11.2)).bind fun v13 =>
    (wantV v7 false).bind fun v14 =>
    (bif v14 then pv v13.2 (E.p.bin .geq 3 v9.1 v13.1) else some (.tup [], v13.2)).bind fun v15 =>
    (E.p.pick v7 (.bool true) v15.1).bind fun v16 =>
    condP v16
     (
      (resV .nilsl).bind fun v17 =>
      some (v17, v15.2))
     (
      (E.C fn_impl_trianglePlace [x1] v15.2).bind fun v18 =>
      (E.p.extract v18.1 0).bind fun v19 =>
      (E.p.extract v18.1 1).bind fun v20 =>
      (E.p.load 50 (E.g 0) v18.2).bind fun v21 =>
      loopK (ev (E.cx Tryd.prog impl_TriangleNear.kl) impl_TriangleNear.lp0) E.lf (impl_TriangleNear.st0 x0 v19 v20 .nilsl v21 (.int .i64 0) v18.2) (impl_TriangleNear.K0 E (kTop Tryd.prog Tryd.f13)))
theorem main_eq (E : Env) (x0 x1 : PV) (h : PHeap) : runBody (E.cx Tryd.prog kl) Tryd.f13 [x0, x1] h = main E x0 x1 h := by kernel_rfl
theorem call_eq (g : Nat → PV) (lf n : Nat) (x0 x1 : PV) (h : PHeap) : CL g lf (n + 1) fn_impl_TriangleNear [x0, x1] h = main (env g lf n) x0 x1 h := by
  rw [← main_eq]
  show (match Tryd.prog.funcs[13]? with | some fn => if fn.body.isSome then runBody ⟨Tryd.prog, g, call Tryd.prog g KL lf n, KL 13, lf, std Tryd.prog⟩ fn [x0, x1] h else none | none => none) = _
  rw [Tryd.func13]
  kernel_rfl
end impl_TriangleNear
namespace laws_sameInts
noncomputable def lp0 : Code := (codeAt (bodyOf Tryd.f14) [1, 1, 0, 1, 0, 0])
def st0 (x0 x1 x5 : PV) (h : PHeap) : St := ⟨[x0, x1, .junk, .junk, .junk, x5, .junk, .junk, .junk, .junk, .junk, .junk, .junk, .junk, .junk, .junk, .junk, .junk, .junk, .junk, .junk, .junk, .junk, .junk, .junk, .junk], h⟩
def sr_4 (x4 : PV) (h : PHeap) : St := ⟨[.junk, .junk, .junk, .junk, x4, .junk, .junk, .junk, .junk, .junk, .junk, .junk, .junk, .junk, .junk, .junk, .junk, .junk, .junk, .junk, .junk, .junk, .junk, .junk, .junk, .junk], h⟩
def se0_0_1_5_14 (x0 x1 x5 x14 : PV) (h : PHeap) : St := ⟨[x0, x1, .junk, .junk, .junk, x5, .junk, .junk, .junk, .junk, .junk, .junk, .junk, .junk, x14, .junk, .junk, .junk, .junk, .junk, .junk, .junk, .junk, .junk, .junk, .junk], h⟩
noncomputable def K0 (E : Env) (K : PX → St → Res) : PX → St → Res := (kBlock 0 (kSeq (ev (E.cx Tryd.prog kl) (codeAt (bodyOf Tryd.f14) [1, 1, 1])) K))
@[simp] theorem K0_ret (E : Env) (K : PX → St → Res) (s : St) : K0 E K .ret s = K .ret s := by kernel_rfl
noncomputable def body0 (E : Env) (K : PX → St → Res) (x0 x1 x5 : PV) (h : PHeap) : Res :=
    (E.p.len 25 x0).bind fun v14 =>
    (E.p.bin .lss 3 x5 v14).bind fun v15 =>
    condP v15
     (
      (E.p.indexAddr 25 x0 x5).bind fun v16 =>
      (E.p.load 3 v16 h).bind fun v17 =>
      (E.p.indexAddr 25 x1 x5).bind fun v18 =>
      (E.p.load 3 v18 h).bind fun v19 =>
      (E.p.bin .neq 3 v17 v19).bind fun v20 =>
      condP v20
       (
        K .ret (sr_4 (.bool false) h))
       (
        (E.p.bin .add 3 x5 (.int .i64 1)).bind fun v21 =>
        K .normal (st0 x0 x1 v21 h)))
     (
      K (.exit 0) (se0_0_1_5_14 x0 x1 x5 v15 h))
theorem body0_eq (E : Env) (K : PX → St → Res) (x0 x1 x5 : PV) (h : PHeap) : ev (E.cx Tryd.prog kl) lp0 (st0 x0 x1 x5 h) K = body0 E K x0 x1 x5 h := by kernel_rfl
theorem after0_se0_0_1_5_14 (E : Env) (x0 x1 x5 x14 : PV) (h : PHeap) : K0 E (kTop Tryd.prog Tryd.f14) (.exit 0) (se0_0_1_5_14 x0 x1 x5 x14 h) =
    (resV (.bool true)).bind fun v13 =>
    some (v13, h) := by kernel_rfl
theorem top_sr_4 (x4 : PV) (h : PHeap) : kTop Tryd.prog Tryd.f14 .ret (sr_4 x4 h) =
    (resV x4).bind fun v22 =>
    some (v22, h) := by kernel_rfl
noncomputable def main (E : Env) (x0 x1 : PV) (h : PHeap) : Res :=
    (E.p.len 25 x0).bind fun v1 =>
    (E.p.len 25 x1).bind fun v2 =>
    (E.p.bin .neq 3 v1 v2).bind fun v3 =>
    condP v3
     (
      (resV (.bool false)).bind fun v4 =>
      some (v4, h))
     (
      loopK (ev (E.cx Tryd.prog laws_sameInts.kl) laws_sameInts.lp0) E.lf (laws_sameInts.st0 x0 x1 (.int .i64 0) h) (laws_sameInts.K0 E (kTop Tryd.prog Tryd.f14)))
theorem main_eq (E : Env) (x0 x1 : PV) (h : PHeap) : runBody (E.cx Tryd.prog kl) Tryd.f14 [x0, x1] h = main E x0 x1 h := by kernel_rfl
theorem call_eq (g : Nat → PV) (lf n : Nat) (x0 x1 : PV) (h : PHeap) : CL g lf (n + 1) fn_laws_sameInts [x0, x1] h = main (env g lf n) x0 x1 h := by
  rw [← main_eq]
  show (match Tryd.prog.funcs[14]? with | some fn => if fn.body.isSome then runBody ⟨Tryd.prog, g, call Tryd.prog g KL lf n, KL 14, lf, std Tryd.prog⟩ fn [x0, x1] h else none | none => none) = _
  rw [Tryd.func14]
  kernel_rfl
end laws_sameInts
namespace spec_TriangleNear
noncomputable def main (E : Env) (x0 x1 : PV) (h : PHeap) : Res :=
    (E.C fn_spec_l1In [x0, (.int .i64 1), (.int .i64 4)] h).bind fun v1 =>
    (E.p.un .not v1.1).bind fun v2 =>
    (wantV v2 false).bind fun v3 =>
    (bif v3 then some (x1, v1.2) else some (.tup [], v1.2)).bind fun v4 =>
    (wantV v2 false).bind fun v5 =>
    (bif v5 then some (x0, v4.2) else some (.tup [], v4.2)).bind fun v6 =>
    (wantV v2 false).bind fun v7 =>
    (bif v7 then E.C fn_spec_l7Cells [v6.1] v6.2 else some (.tup [], v6.2)).bind fun v8 =>
    (wantV v2 false).bind fun v9 =>
    (bif v9 then pv v8.2 (E.p.bin .sub 3 v8.1 (.int .i64 1)) else some (.tup [], v8.2)).bind fun v10 =>
    (wantV v2 false).bind fun v11 =>
    (bif v11 then E.C fn_spec_l1In [v4.1, (.int .i64 0), v10.1] v10.2 else some (.tup [], v10.2)).bind fun v12 =>
    (wantV v2 false).bind fun v13 =>
    (bif v13 then pv v12.2 (E.p.un .not v12.1) else some (.tup [], v12.2)).bind fun v14 =>
    (E.p.pick v2 (.bool true) v14.1).bind fun v15 =>
    condP v15
     (
      (E.p.buildSlice 25 0 [] v14.2).bind fun v16 =>
      (resV v16.1).bind fun v17 =>
      some (v17, v16.2))
     (
      (E.C fn_spec_l7Near [x0] v14.2).bind fun v18 =>
      (E.p.indexAddr 25 v18.1 x1).bind fun v19 =>
      (E.p.load 3 v19 v18.2).bind fun v20 =>
      (E.C fn_spec_l2List [v20] v18.2).bind fun v21 =>
      (resV v21.1).bind fun v22 =>
      some (v22, v21.2))
theorem main_eq (E : Env) (x0 x1 : PV) (h : PHeap) : runBody (E.cx Tryd.prog kl) Tryd.f15 [x0, x1] h = main E x0 x1 h := by kernel_rfl
theorem call_eq (g : Nat → PV) (lf n : Nat) (x0 x1 : PV) (h : PHeap) : CL g lf (n + 1) fn_spec_TriangleNear [x0, x1] h = main (env g lf n) x0 x1 h := by
  rw [← main_eq]
  show (match Tryd.prog.funcs[15]? with | some fn => if fn.body.isSome then runBody ⟨Tryd.prog, g, call Tryd.prog g KL lf n, KL 15, lf, std Tryd.prog⟩ fn [x0, x1] h else none | none => none) = _
  rw [Tryd.func15]
  kernel_rfl
end spec_TriangleNear
namespace laws_hasInt
noncomputable def lp0 : Code := (codeAt (bodyOf Tryd.f16) [1, 0, 1, 0, 0])
def st0 (x0 x1 x5 : PV) (h : PHeap) : St := ⟨[x0, x1, .junk, .junk, .junk, x5, .junk, .junk, .junk, .junk, .junk, .junk, .junk, .junk, .junk, .junk, .junk, .junk], h⟩
def sr_4 (x4 : PV) (h : PHeap) : St := ⟨[.junk, .junk, .junk, .junk, x4, .junk, .junk, .junk, .junk, .junk, .junk, .junk, .junk, .junk, .junk, .junk, .junk, .junk], h⟩
def se0_0_1_5_9 (x0 x1 x5 x9 : PV) (h : PHeap) : St := ⟨[x0, x1, .junk, .junk, .junk, x5, .junk, .junk, .junk, x9, .junk, .junk, .junk, .junk, .junk, .junk, .junk, .junk], h⟩
noncomputable def K0 (E : Env) (K : PX → St → Res) : PX → St → Res := (kBlock 0 (kSeq (ev (E.cx Tryd.prog kl) (codeAt (bodyOf Tryd.f16) [1, 1])) K))
@[simp] theorem K0_ret (E : Env) (K : PX → St → Res) (s : St) : K0 E K .ret s = K .ret s := by kernel_rfl
noncomputable def body0 (E : Env) (K : PX → St → Res) (x0 x1 x5 : PV) (h : PHeap) : Res :=
    (E.p.len 25 x0).bind fun v8 =>
    (E.p.bin .lss 3 x5 v8).bind fun v9 =>
    condP v9
     (
      (E.p.indexAddr 25 x0 x5).bind fun v10 =>
      (E.p.load 3 v10 h).bind fun v11 =>
      (E.p.bin .eql 3 v11 x1).bind fun v12 =>
      condP v12
       (
        K .ret (sr_4 (.bool true) h))
       (
        (E.p.bin .add 3 x5 (.int .i64 1)).bind fun v13 =>
        K .normal (st0 x0 x1 v13 h)))
     (
      K (.exit 0) (se0_0_1_5_9 x0 x1 x5 v9 h))
theorem body0_eq (E : Env) (K : PX → St → Res) (x0 x1 x5 : PV) (h : PHeap) : ev (E.cx Tryd.prog kl) lp0 (st0 x0 x1 x5 h) K = body0 E K x0 x1 x5 h := by kernel_rfl
theorem after0_se0_0_1_5_9 (E : Env) (x0 x1 x5 x9 : PV) (h : PHeap) : K0 E (kTop Tryd.prog Tryd.f16) (.exit 0) (se0_0_1_5_9 x0 x1 x5 x9 h) =
    (resV (.bool false)).bind fun v7 =>
    some (v7, h) := by kernel_rfl
theorem top_sr_4 (x4 : PV) (h : PHeap) : kTop Tryd.prog Tryd.f16 .ret (sr_4 x4 h) =
    (resV x4).bind fun v14 =>
    some (v14, h) := by kernel_rfl
noncomputable def main (E : Env) (x0 x1 : PV) (h : PHeap) : Res :=
    loopK (ev (E.cx Tryd.prog laws_hasInt.kl) laws_hasInt.lp0) E.lf (laws_hasInt.st0 x0 x1 (.int .i64 0) h) (laws_hasInt.K0 E (kTop Tryd.prog Tryd.f16))
theorem main_eq (E : Env) (x0 x1 : PV) (h : PHeap) : runBody (E.cx Tryd.prog kl) Tryd.f16 [x0, x1] h = main E x0 x1 h := by kernel_rfl
theorem call_eq (g : Nat → PV) (lf n : Nat) (x0 x1 : PV) (h : PHeap) : CL g lf (n + 1) fn_laws_hasInt [x0, x1] h = main (env g lf n) x0 x1 h := by
  rw [← main_eq]
  show (match Tryd.prog.funcs[16]? with | some fn => if fn.body.isSome then runBody ⟨Tryd.prog, g, call Tryd.prog g KL lf n, KL 16, lf, std Tryd.prog⟩ fn [x0, x1] h else none | none => none) = _
  rw [Tryd.func16]
  kernel_rfl
end laws_hasInt
namespace laws_alive
noncomputable def main (E : Env) (h : PHeap) : Res :=
    (E.C fn_impl_BoardOk [(.int .i64 2), (.int .i64 2)] h).bind fun v1 =>
    (wantV v1.1 true).bind fun v2 =>
    (bif v2 then E.C fn_impl_BoardOk [(.int .i64 0), (.int .i64 2)] v1.2 else some (.tup [], v1.2)).bind fun v3 =>
    (wantV v1.1 true).bind fun v4 =>
    (bif v4 then pv v3.2 (E.p.un .not v3.1) else some (.tup [], v3.2)).bind fun v5 =>
    (E.p.pick v1.1 v5.1 (.bool false)).bind fun v6 =>
    (resV v6).bind fun v7 =>
    some (v7, v5.2)
theorem main_eq (E : Env) (h : PHeap) : runBody (E.cx Tryd.prog kl) Tryd.f17 [] h = main E  h := by kernel_rfl
theorem call_eq (g : Nat → PV) (lf n : Nat) (h : PHeap) : CL g lf (n + 1) fn_laws_alive [] h = main (env g lf n)  h := by
  rw [← main_eq]
  show (match Tryd.prog.funcs[17]? with | some fn => if fn.body.isSome then runBody ⟨Tryd.prog, g, call Tryd.prog g KL lf n, KL 17, lf, std Tryd.prog⟩ fn [] h else none | none => none) = _
  rw [Tryd.func17]
  kernel_rfl
end laws_alive
namespace laws_ascend
noncomputable def lp0 : Code := (codeAt (bodyOf Tryd.f18) [1, 0, 1, 0, 0])
def st0 (x0 x3 : PV) (h : PHeap) : St := ⟨[x0, .junk, .junk, x3, .junk, .junk, .junk, .junk, .junk, .junk, .junk, .junk, .junk, .junk, .junk, .junk, .junk, .junk, .junk, .junk], h⟩
def sr_2 (x2 : PV) (h : PHeap) : St := ⟨[.junk, .junk, x2, .junk, .junk, .junk, .junk, .junk, .junk, .junk, .junk, .junk, .junk, .junk, .junk, .junk, .junk, .junk, .junk, .junk], h⟩
def se0_0_3_7 (x0 x3 x7 : PV) (h : PHeap) : St := ⟨[x0, .junk, .junk, x3, .junk, .junk, .junk, x7, .junk, .junk, .junk, .junk, .junk, .junk, .junk, .junk, .junk, .junk, .junk, .junk], h⟩
noncomputable def K0 (E : Env) (K : PX → St → Res) : PX → St → Res := (kBlock 0 (kSeq (ev (E.cx Tryd.prog kl) (codeAt (bodyOf Tryd.f18) [1, 1])) K))
@[simp] theorem K0_ret (E : Env) (K : PX → St → Res) (s : St) : K0 E K .ret s = K .ret s := by kernel_rfl
noncomputable def body0 (E : Env) (K : PX → St → Res) (x0 x3 : PV) (h : PHeap) : Res :=
    (E.p.len 25 x0).bind fun v11 =>
    (E.p.bin .lss 3 x3 v11).bind fun v12 =>
    condP v12
     (
      (E.p.bin .sub 3 x3 (.int .i64 1)).bind fun v13 =>
      (E.p.indexAddr 25 x0 v13).bind fun v14 =>
      (E.p.load 3 v14 h).bind fun v15 =>
      (E.p.indexAddr 25 x0 x3).bind fun v16 =>
      (E.p.load 3 v16 h).bind fun v17 =>
      (E.p.bin .geq 3 v15 v17).bind fun v18 =>
      condP v18
       (
        K .ret (sr_2 (.bool false) h))
       (
        (E.p.bin .add 3 x3 (.int .i64 1)).bind fun v19 =>
        K .normal (st0 x0 v19 h)))
     (
      K (.exit 0) (se0_0_3_7 x0 x3 v12 h))
theorem body0_eq (E : Env) (K : PX → St → Res) (x0 x3 : PV) (h : PHeap) : ev (E.cx Tryd.prog kl) lp0 (st0 x0 x3 h) K = body0 E K x0 x3 h := by kernel_rfl
theorem after0_se0_0_3_7 (E : Env) (x0 x3 x7 : PV) (h : PHeap) : K0 E (kTop Tryd.prog Tryd.f18) (.exit 0) (se0_0_3_7 x0 x3 x7 h) =
    (resV (.bool true)).bind fun v10 =>
    some (v10, h) := by kernel_rfl
theorem top_sr_2 (x2 : PV) (h : PHeap) : kTop Tryd.prog Tryd.f18 .ret (sr_2 x2 h) =
    (resV x2).bind fun v20 =>
    some (v20, h) := by kernel_rfl
noncomputable def main (E : Env) (x0 : PV) (h : PHeap) : Res :=
    loopK (ev (E.cx Tryd.prog laws_ascend.kl) laws_ascend.lp0) E.lf (laws_ascend.st0 x0 (.int .i64 1) h) (laws_ascend.K0 E (kTop Tryd.prog Tryd.f18))
theorem main_eq (E : Env) (x0 : PV) (h : PHeap) : runBody (E.cx Tryd.prog kl) Tryd.f18 [x0] h = main E x0 h := by kernel_rfl
theorem call_eq (g : Nat → PV) (lf n : Nat) (x0 : PV) (h : PHeap) : CL g lf (n + 1) fn_laws_ascend [x0] h = main (env g lf n) x0 h := by
  rw [← main_eq]
  show (match Tryd.prog.funcs[18]? with | some fn => if fn.body.isSome then runBody ⟨Tryd.prog, g, call Tryd.prog g KL lf n, KL 18, lf, std Tryd.prog⟩ fn [x0] h else none | none => none) = _
  rw [Tryd.func18]
  kernel_rfl
end laws_ascend
namespace spec_DrawJoinsAll
noncomputable def main (E : Env) (x0 : PV) (h : PHeap) : Res :=
    (E.C fn_spec_l20Open [x0] h).bind fun v1 =>
    (E.C fn_spec_l20Triangle [v1.1, (.int .i64 12)] v1.2).bind fun v2 =>
    (E.p.extract v2.1 0).bind fun v3 =>
    (E.p.extract v2.1 1).bind fun v4 =>
    (E.C fn_spec_l20Rd_pick [v1.1, (.int .i64 2)] v2.2).bind fun v5 =>
    (E.p.bin .add 3 (.int .i64 1) v5.1).bind fun v6 =>
    (E.C fn_spec_l20Rd_pick [v1.1, (.int .i64 40)] v5.2).bind fun v7 =>
    (E.p.bin .quo 3 v7.1 (.int .i64 39)).bind fun v8 =>
    (E.p.bin .mul 3 v8 (.int .i64 2)).bind fun v9 =>
    (E.p.bin .add 3 v6 v9).bind fun v10 =>
    (resV v3).bind fun v11 =>
    (resV v4).bind fun v12 =>
    (resV v10).bind fun v13 =>
    some (.tup [v11, v12, v13], v7.2)
theorem main_eq (E : Env) (x0 : PV) (h : PHeap) : runBody (E.cx Tryd.prog kl) Tryd.f19 [x0] h = main E x0 h := by kernel_rfl
theorem call_eq (g : Nat → PV) (lf n : Nat) (x0 : PV) (h : PHeap) : CL g lf (n + 1) fn_spec_DrawJoinsAll [x0] h = main (env g lf n) x0 h := by
  rw [← main_eq]
  show (match Tryd.prog.funcs[19]? with | some fn => if fn.body.isSome then runBody ⟨Tryd.prog, g, call Tryd.prog g KL lf n, KL 19, lf, std Tryd.prog⟩ fn [x0] h else none | none => none) = _
  rw [Tryd.func19]
  kernel_rfl
end spec_DrawJoinsAll
namespace impl_JoinsAll
noncomputable def main (E : Env) (x0 x1 x2 : PV) (h : PHeap) : Res :=
    (E.C fn_impl_TriangleOk [x0, x1] h).bind fun v1 =>
    (wantV v1.1 true).bind fun v2 =>
    (bif v2 then some (x2, v1.2) else some (.tup [], v1.2)).bind fun v3 =>
    (wantV v1.1 true).bind fun v4 =>
    (bif v4 then E.C fn_impl_playerOk [v3.1] v3.2 else some (.tup [], v3.2)).bind fun v5 =>
    (E.p.pick v1.1 v5.1 (.bool false)).bind fun v6 =>
    (wantV v6 true).bind fun v7 =>
    (bif v7 then some (x0, v5.2) else some (.tup [], v5.2)).bind fun v8 =>
    (wantV v6 true).bind fun v9 =>
    (bif v9 then some (x1, v8.2) else some (.tup [], v8.2)).bind fun v10 =>
    (wantV v6 true).bind fun v11 =>
    (bif v11 then some (x2, v10.2) else some (.tup [], v10.2)).bind fun v12 =>
    (wantV v6 true).bind fun v13 =>
    (bif v13 then E.C fn_impl_setOf [v10.1, v12.1] v12.2 else some (.tup [], v12.2)).bind fun v14 =>
    (wantV v6 true).bind fun v15 =>
    (bif v15 then E.C fn_impl_touchesAll [v8.1, v14.1] v14.2 else some (.tup [], v14.2)).bind fun v16 =>
    (E.p.pick v6 v16.1 (.bool false)).bind fun v17 =>
    (resV v17).bind fun v18 =>
    some (v18, v16.2)
theorem main_eq (E : Env) (x0 x1 x2 : PV) (h : PHeap) : runBody (E.cx Tryd.prog kl) Tryd.f20 [x0, x1, x2] h = main E x0 x1 x2 h := by kernel_rfl
theorem call_eq (g : Nat → PV) (lf n : Nat) (x0 x1 x2 : PV) (h : PHeap) : CL g lf (n + 1) fn_impl_JoinsAll [x0, x1, x2] h = main (env g lf n) x0 x1 x2 h := by
  rw [← main_eq]
  show (match Tryd.prog.funcs[20]? with | some fn => if fn.body.isSome then runBody ⟨Tryd.prog, g, call Tryd.prog g KL lf n, KL 20, lf, std Tryd.prog⟩ fn [x0, x1, x2] h else none | none => none) = _
  rw [Tryd.func20]
  kernel_rfl
end impl_JoinsAll
namespace spec_JoinsAll
noncomputable def lp0 : Code := (codeAt (bodyOf Tryd.f21) [1, 1, 1, 1, 0, 1, 0, 0])
def st0 (x0 x1 x7 x8 x9 : PV) (h : PHeap) : St := ⟨[x0, x1, .junk, .junk, .junk, .junk, .junk, x7, x8, x9, .junk, .junk, .junk, .junk, .junk, .junk, .junk, .junk, .junk, .junk, .junk, .junk, .junk, .junk, .junk, .junk, .junk, .junk, .junk, .junk, .junk, .junk, .junk, .junk, .junk, .junk, .junk, .junk, .junk, .junk, .junk, .junk, .junk, .junk, .junk, .junk, .junk, .junk, .junk, .junk, .junk, .junk, .junk, .junk, .junk, .junk, .junk, .junk, .junk, .junk, .junk, .junk, .junk, .junk, .junk, .junk, .junk, .junk, .junk, .junk, .junk, .junk, .junk, .junk, .junk, .junk, .junk, .junk, .junk, .junk, .junk, .junk, .junk, .junk, .junk, .junk, .junk, .junk, .junk, .junk, .junk, .junk, .junk, .junk, .junk], h⟩
noncomputable def lp1 : Code := (codeAt (bodyOf Tryd.f21) [1, 1, 1, 1, 0, 1, 0, 0, 1, 0, 0, 1, 1, 1, 1, 0, 1, 0, 0])
def st1 (x0 x1 x7 x8 x9 x10 x11 x12 x13 x14 : PV) (h : PHeap) : St := ⟨[x0, x1, .junk, .junk, .junk, .junk, .junk, x7, x8, x9, x10, x11, x12, x13, x14, .junk, .junk, .junk, .junk, .junk, .junk, .junk, .junk, .junk, .junk, .junk, .junk, .junk, .junk, .junk, .junk, .junk, .junk, .junk, .junk, .junk, .junk, .junk, .junk, .junk, .junk, .junk, .junk, .junk, .junk, .junk, .junk, .junk, .junk, .junk, .junk, .junk, .junk, .junk, .junk, .junk, .junk, .junk, .junk, .junk, .junk, .junk, .junk, .junk, .junk, .junk, .junk, .junk, .junk, .junk, .junk, .junk, .junk, .junk, .junk, .junk, .junk, .junk, .junk, .junk, .junk, .junk, .junk, .junk, .junk, .junk, .junk, .junk, .junk, .junk, .junk, .junk, .junk, .junk, .junk], h⟩
def se0_0_1_7_8_9_35 (x0 x1 x7 x8 x9 x35 : PV) (h : PHeap) : St := ⟨[x0, x1, .junk, .junk, .junk, .junk, .junk, x7, x8, x9, .junk, .junk, .junk, .junk, .junk, .junk, .junk, .junk, .junk, .junk, .junk, .junk, .junk, .junk, .junk, .junk, .junk, .junk, .junk, .junk, .junk, .junk, .junk, .junk, .junk, x35, .junk, .junk, .junk, .junk, .junk, .junk, .junk, .junk, .junk, .junk, .junk, .junk, .junk, .junk, .junk, .junk, .junk, .junk, .junk, .junk, .junk, .junk, .junk, .junk, .junk, .junk, .junk, .junk, .junk, .junk, .junk, .junk, .junk, .junk, .junk, .junk, .junk, .junk, .junk, .junk, .junk, .junk, .junk, .junk, .junk, .junk, .junk, .junk, .junk, .junk, .junk, .junk, .junk, .junk, .junk, .junk, .junk, .junk, .junk], h⟩
def se2_0_1_7_8_9_10_11_12_13_14_48 (x0 x1 x7 x8 x9 x10 x11 x12 x13 x14 x48 : PV) (h : PHeap) : St := ⟨[x0, x1, .junk, .junk, .junk, .junk, .junk, x7, x8, x9, x10, x11, x12, x13, x14, .junk, .junk, .junk, .junk, .junk, .junk, .junk, .junk, .junk, .junk, .junk, .junk, .junk, .junk, .junk, .junk, .junk, .junk, .junk, .junk, .junk, .junk, .junk, .junk, .junk, .junk, .junk, .junk, .junk, .junk, .junk, .junk, .junk, x48, .junk, .junk, .junk, .junk, .junk, .junk, .junk, .junk, .junk, .junk, .junk, .junk, .junk, .junk, .junk, .junk, .junk, .junk, .junk, .junk, .junk, .junk, .junk, .junk, .junk, .junk, .junk, .junk, .junk, .junk, .junk, .junk, .junk, .junk, .junk, .junk, .junk, .junk, .junk, .junk, .junk, .junk, .junk, .junk, .junk, .junk], h⟩
def sr_6 (x6 : PV) (h : PHeap) : St := ⟨[.junk, .junk, .junk, .junk, .junk, .junk, x6, .junk, .junk, .junk, .junk, .junk, .junk, .junk, .junk, .junk, .junk, .junk, .junk, .junk, .junk, .junk, .junk, .junk, .junk, .junk, .junk, .junk, .junk, .junk, .junk, .junk, .junk, .junk, .junk, .junk, .junk, .junk, .junk, .junk, .junk, .junk, .junk, .junk, .junk, .junk, .junk, .junk, .junk, .junk, .junk, .junk, .junk, .junk, .junk, .junk, .junk, .junk, .junk, .junk, .junk, .junk, .junk, .junk, .junk, .junk, .junk, .junk, .junk, .junk, .junk, .junk, .junk, .junk, .junk, .junk, .junk, .junk, .junk, .junk, .junk, .junk, .junk, .junk, .junk, .junk, .junk, .junk, .junk, .junk, .junk, .junk, .junk, .junk, .junk], h⟩
noncomputable def K0 (E : Env) (K : PX → St → Res) : PX → St → Res := (kBlock 0 (kSeq (ev (E.cx Tryd.prog kl) (codeAt (bodyOf Tryd.f21) [1, 1, 1, 1, 1])) K))
@[simp] theorem K0_ret (E : Env) (K : PX → St → Res) (s : St) : K0 E K .ret s = K .ret s := by kernel_rfl
noncomputable def K1 (E : Env) (K : PX → St → Res) : PX → St → Res := (kBlock 2 (kSeq (ev (E.cx Tryd.prog kl) (codeAt (bodyOf Tryd.f21) [1, 1, 1, 1, 0, 1, 0, 0, 1, 0, 0, 1, 1, 1, 1, 1])) (kBlock 1 (kSeq (ev (E.cx Tryd.prog kl) (codeAt (bodyOf Tryd.f21) [1, 1, 1, 1, 0, 1, 0, 0, 1, 1])) K))))
@[simp] theorem K1_ret (E : Env) (K : PX → St → Res) (s : St) : K1 E K .ret s = K .ret s := by kernel_rfl
noncomputable def body0 (E : Env) (K : PX → St → Res) (x0 x1 x7 x8 x9 : PV) (h : PHeap) : Res :=
    (E.p.len 25 x1).bind fun v74 =>
    (E.p.bin .lss 3 x9 v74).bind fun v75 =>
    condP v75
     (
      (E.p.bin .shl 3 (.int .i64 1) x9).bind fun v76 =>
      (E.p.bin .and 3 v76 x8).bind fun v77 =>
      (E.C fn_spec_l2Grow [x7, x8, v77] h).bind fun v78 =>
      loopK (ev (E.cx Tryd.prog spec_JoinsAll.kl) spec_JoinsAll.lp1) E.lf (spec_JoinsAll.st1 x0 x1 x7 x8 x9 v78.1 (.bool false) (.bool false) (.bool false) (.int .i64 0) v78.2) (spec_JoinsAll.K1 E K))
     (
      K (.exit 0) (se0_0_1_7_8_9_35 x0 x1 x7 x8 x9 v75 h))
theorem body0_eq (E : Env) (K : PX → St → Res) (x0 x1 x7 x8 x9 : PV) (h : PHeap) : ev (E.cx Tryd.prog kl) lp0 (st0 x0 x1 x7 x8 x9 h) K = body0 E K x0 x1 x7 x8 x9 h := by kernel_rfl
noncomputable def body1 (E : Env) (K : PX → St → Res) (x0 x1 x7 x8 x9 x10 x11 x12 x13 x14 : PV) (h : PHeap) : Res :=
    (E.p.len 25 x1).bind fun v79 =>
    (E.p.bin .lss 3 x14 v79).bind fun v80 =>
    condP v80
     (
      (E.C fn_spec_l7Place [x14] h).bind fun v81 =>
      (E.p.extract v81.1 0).bind fun v82 =>
      (E.p.extract v81.1 1).bind fun v83 =>
      (E.p.bin .shr 3 x10 x14).bind fun v84 =>
      (E.p.bin .rem 3 v84 (.int .i64 2)).bind fun v85 =>
      (E.p.bin .eql 3 v85 (.int .i64 1)).bind fun v86 =>
      (wantV x11 false).bind fun v87 =>
      (bif v87 then some (v86, v81.2) else some (.tup [], v81.2)).bind fun v88 =>
      (wantV x11 false).bind fun v89 =>
      (bif v89 then some (v88.1, v88.2) else some (.tup [], v88.2)).bind fun v90 =>
      (wantV v90.1 true).bind fun v91 =>
      (bif v91 then some (v83, v90.2) else some (.tup [], v90.2)).bind fun v92 =>
      (wantV v90.1 true).bind fun v93 =>
      (bif v93 then pv v92.2 (E.p.bin .eql 3 v92.1 (.int .i64 0)) else some (.tup [], v92.2)).bind fun v94 =>
      (wantV x11 false).bind fun v95 =>
      (bif v95 then pv v94.2 (E.p.pick v90.1 v94.1 (.bool false)) else some (.tup [], v94.2)).bind fun v96 =>
      (E.p.pick x11 (.bool true) v96.1).bind fun v97 =>
      (wantV x12 false).bind fun v98 =>
      (bif v98 then some (v86, v96.2) else some (.tup [], v96.2)).bind fun v99 =>
      (wantV x12 false).bind fun v100 =>
      (bif v100 then some (v99.1, v99.2) else some (.tup [], v99.2)).bind fun v101 =>
      (wantV v101.1 true).bind fun v102 =>
      (bif v102 then some (v83, v101.2) else some (.tup [], v101.2)).bind fun v103 =>
      (wantV v101.1 true).bind fun v104 =>
      (bif v104 then some (v82, v103.2) else some (.tup [], v103.2)).bind fun v105 =>
      (wantV v101.1 true).bind fun v106 =>
      (bif v106 then pv v105.2 (E.p.bin .eql 3 v103.1 v105.1) else some (.tup [], v105.2)).bind fun v107 =>
      (wantV x12 false).bind fun v108 =>
      (bif v108 then pv v107.2 (E.p.pick v101.1 v107.1 (.bool false)) else some (.tup [], v107.2)).bind fun v109 =>
      (E.p.pick x12 (.bool true) v109.1).bind fun v110 =>
      (wantV x13 false).bind fun v111 =>
      (bif v111 then some (v86, v109.2) else some (.tup [], v109.2)).bind fun v112 =>
      (wantV x13 false).bind fun v113 =>
      (bif v113 then some (v112.1, v112.2) else some (.tup [], v112.2)).bind fun v114 =>
      (wantV v114.1 true).bind fun v115 =>
      (bif v115 then some (v82, v114.2) else some (.tup [], v114.2)).bind fun v116 =>
      (wantV v114.1 true).bind fun v117 =>
      (bif v117 then some (x0, v116.2) else some (.tup [], v116.2)).bind fun v118 =>
      (wantV v114.1 true).bind fun v119 =>
      (bif v119 then pv v118.2 (E.p.bin .sub 3 v118.1 (.int .i64 1)) else some (.tup [], v118.2)).bind fun v120 =>
      (wantV v114.1 true).bind fun v121 =>
      (bif v121 then pv v120.2 (E.p.bin .eql 3 v116.1 v120.1) else some (.tup [], v120.2)).bind fun v122 =>
      (wantV x13 false).bind fun v123 =>
      (bif v123 then pv v122.2 (E.p.pick v114.1 v122.1 (.bool false)) else some (.tup [], v122.2)).bind fun v124 =>
      (E.p.pick x13 (.bool true) v124.1).bind fun v125 =>
      (E.p.bin .add 3 x14 (.int .i64 1)).bind fun v126 =>
      K .normal (st1 x0 x1 x7 x8 x9 x10 v97 v110 v125 v126 v124.2))
     (
      K (.exit 2) (se2_0_1_7_8_9_10_11_12_13_14_48 x0 x1 x7 x8 x9 x10 x11 x12 x13 x14 v80 h))
theorem body1_eq (E : Env) (K : PX → St → Res) (x0 x1 x7 x8 x9 x10 x11 x12 x13 x14 : PV) (h : PHeap) : ev (E.cx Tryd.prog kl) lp1 (st1 x0 x1 x7 x8 x9 x10 x11 x12 x13 x14 h) K = body1 E K x0 x1 x7 x8 x9 x10 x11 x12 x13 x14 h := by kernel_rfl
theorem after0_se0_0_1_7_8_9_35 (E : Env) (x0 x1 x7 x8 x9 x35 : PV) (h : PHeap) : K0 E (kTop Tryd.prog Tryd.f21) (.exit 0) (se0_0_1_7_8_9_35 x0 x1 x7 x8 x9 x35 h) =
    (resV (.bool false)).bind fun v66 =>
    some (v66, h) := by kernel_rfl
theorem after1_se2_0_1_7_8_9_10_11_12_13_14_48 (E : Env) (K : PX → St → Res) (x0 x1 x7 x8 x9 x10 x11 x12 x13 x14 x48 : PV) (h : PHeap) : K1 E K (.exit 2) (se2_0_1_7_8_9_10_11_12_13_14_48 x0 x1 x7 x8 x9 x10 x11 x12 x13 x14 x48 h) =
    (wantV x11 true).bind fun v67 =>
    (bif v67 then some (x12, h) else some (.tup [], h)).bind fun v68 =>
    (E.p.pick x11 v68.1 (.bool false)).bind fun v69 =>
    (wantV v69 true).bind fun v70 =>
    (bif v70 then some (x13, v68.2) else some (.tup [], v68.2)).bind fun v71 =>
    (E.p.pick v69 v71.1 (.bool false)).bind fun v72 =>
    condP v72
     (
      K .ret (sr_6 (.bool true) v71.2))
     (
      (E.p.bin .add 3 x9 (.int .i64 1)).bind fun v73 =>
      K .normal (st0 x0 x1 x7 x8 v73 v71.2)) := by kernel_rfl
theorem top_sr_6 (x6 : PV) (h : PHeap) : kTop Tryd.prog Tryd.f21 .ret (sr_6 x6 h) =
    (resV x6).bind fun v127 =>
    some (v127, h) := by kernel_rfl
noncomputable def main (E : Env) (x0 x1 x2 : PV) (h : PHeap) : Res :=
    (E.C fn_spec_TriangleOk [x0, x1] h).bind fun v1 =>
    (E.p.un .not v1.1).bind fun v2 =>
    (wantV v2 false).bind fun v3 =>
    (bif v3 then some (x2, v1.2) else some (.tup [], v1.2)).bind fun v4 =>
    (wantV v2 false).bind fun v5 =>
    (bif v5 then E.C fn_spec_l1In [v4.1, (.int .i64 1), (.int .i64 2)] v4.2 else some (.tup [], v4.2)).bind fun v6 =>
    (wantV v2 false).bind fun v7 =>
    (bif v7 then pv v6.2 (E.p.un .not v6.1) else some (.tup [], v6.2)).bind fun v8 =>
    (E.p.pick v2 (.bool true) v8.1).bind fun v9 =>
    condP v9
     (
      (resV (.bool false)).bind fun v10 =>
      some (v10, v8.2))
     (
      (E.C fn_spec_l7Near [x0] v8.2).bind fun v11 =>
      (E.C fn_spec_l2Set [x1, x2] v11.2).bind fun v12 =>
      loopK (ev (E.cx Tryd.prog spec_JoinsAll.kl) spec_JoinsAll.lp0) E.lf (spec_JoinsAll.st0 x0 x1 v11.1 v12.1 (.int .i64 0) v12.2) (spec_JoinsAll.K0 E (kTop Tryd.prog Tryd.f21)))
theorem main_eq (E : Env) (x0 x1 x2 : PV) (h : PHeap) : runBody (E.cx Tryd.prog kl) Tryd.f21 [x0, x1, x2] h = main E x0 x1 x2 h := by kernel_rfl
theorem call_eq (g : Nat → PV) (lf n : Nat) (x0 x1 x2 : PV) (h : PHeap) : CL g lf (n + 1) fn_spec_JoinsAll [x0, x1, x2] h = main (env g lf n) x0 x1 x2 h := by
  rw [← main_eq]
  show (match Tryd.prog.funcs[21]? with | some fn => if fn.body.isSome then runBody ⟨Tryd.prog, g, call Tryd.prog g KL lf n, KL 21, lf, std Tryd.prog⟩ fn [x0, x1, x2] h else none | none => none) = _
  rw [Tryd.func21]
  kernel_rfl
end spec_JoinsAll
namespace spec_TriangleOk
noncomputable def lp0 : Code := (codeAt (bodyOf Tryd.f22) [1, 0, 1, 0, 0])
def st0 (x0 x1 x5 : PV) (h : PHeap) : St := ⟨[x0, x1, .junk, .junk, .junk, x5, .junk, .junk, .junk, .junk, .junk, .junk, .junk, .junk, .junk, .junk, .junk, .junk, .junk, .junk, .junk, .junk, .junk, .junk, .junk, .junk, .junk], h⟩
def sr_4 (x4 : PV) (h : PHeap) : St := ⟨[.junk, .junk, .junk, .junk, x4, .junk, .junk, .junk, .junk, .junk, .junk, .junk, .junk, .junk, .junk, .junk, .junk, .junk, .junk, .junk, .junk, .junk, .junk, .junk, .junk, .junk, .junk], h⟩
def se0_0_1_5_9 (x0 x1 x5 x9 : PV) (h : PHeap) : St := ⟨[x0, x1, .junk, .junk, .junk, x5, .junk, .junk, .junk, x9, .junk, .junk, .junk, .junk, .junk, .junk, .junk, .junk, .junk, .junk, .junk, .junk, .junk, .junk, .junk, .junk, .junk], h⟩
noncomputable def K0 (E : Env) (K : PX → St → Res) : PX → St → Res := (kBlock 0 (kSeq (ev (E.cx Tryd.prog kl) (codeAt (bodyOf Tryd.f22) [1, 1])) K))
@[simp] theorem K0_ret (E : Env) (K : PX → St → Res) (s : St) : K0 E K .ret s = K .ret s := by kernel_rfl
noncomputable def body0 (E : Env) (K : PX → St → Res) (x0 x1 x5 : PV) (h : PHeap) : Res :=
    (E.p.len 25 x1).bind fun v21 =>
    (E.p.bin .lss 3 x5 v21).bind fun v22 =>
    condP v22
     (
      (E.p.indexAddr 25 x1 x5).bind fun v23 =>
      (E.p.load 3 v23 h).bind fun v24 =>
      (E.C fn_spec_l1In [v24, (.int .i64 1), (.int .i64 2)] h).bind fun v25 =>
      (E.p.un .not v25.1).bind fun v26 =>
      condP v26
       (
        K .ret (sr_4 (.bool false) v25.2))
       (
        (E.p.bin .add 3 x5 (.int .i64 1)).bind fun v27 =>
        K .normal (st0 x0 x1 v27 v25.2)))
     (
      K (.exit 0) (se0_0_1_5_9 x0 x1 x5 v22 h))
theorem body0_eq (E : Env) (K : PX → St → Res) (x0 x1 x5 : PV) (h : PHeap) : ev (E.cx Tryd.prog kl) lp0 (st0 x0 x1 x5 h) K = body0 E K x0 x1 x5 h := by kernel_rfl
theorem after0_se0_0_1_5_9 (E : Env) (x0 x1 x5 x9 : PV) (h : PHeap) : K0 E (kTop Tryd.prog Tryd.f22) (.exit 0) (se0_0_1_5_9 x0 x1 x5 x9 h) =
    (E.C fn_spec_l1In [x0, (.int .i64 1), (.int .i64 4)] h).bind fun v8 =>
    (wantV v8.1 true).bind fun v9 =>
    (bif v9 then some (x1, v8.2) else some (.tup [], v8.2)).bind fun v10 =>
    (wantV v8.1 true).bind fun v11 =>
    (bif v11 then pv v10.2 (E.p.len 25 v10.1) else some (.tup [], v10.2)).bind fun v12 =>
    (wantV v8.1 true).bind fun v13 =>
    (bif v13 then some (x0, v12.2) else some (.tup [], v12.2)).bind fun v14 =>
    (wantV v8.1 true).bind fun v15 =>
    (bif v15 then E.C fn_spec_l7Cells [v14.1] v14.2 else some (.tup [], v14.2)).bind fun v16 =>
    (wantV v8.1 true).bind fun v17 =>
    (bif v17 then pv v16.2 (E.p.bin .eql 3 v12.1 v16.1) else some (.tup [], v16.2)).bind fun v18 =>
    (E.p.pick v8.1 v18.1 (.bool false)).bind fun v19 =>
    (resV v19).bind fun v20 =>
    some (v20, v18.2) := by kernel_rfl
theorem top_sr_4 (x4 : PV) (h : PHeap) : kTop Tryd.prog Tryd.f22 .ret (sr_4 x4 h) =
    (resV x4).bind fun v28 =>
    some (v28, h) := by kernel_rfl
noncomputable def main (E : Env) (x0 x1 : PV) (h : PHeap) : Res :=
    loopK (ev (E.cx Tryd.prog spec_TriangleOk.kl) spec_TriangleOk.lp0) E.lf (spec_TriangleOk.st0 x0 x1 (.int .i64 0) h) (spec_TriangleOk.K0 E (kTop Tryd.prog Tryd.f22))
theorem main_eq (E : Env) (x0 x1 : PV) (h : PHeap) : runBody (E.cx Tryd.prog kl) Tryd.f22 [x0, x1] h = main E x0 x1 h := by kernel_rfl
theorem call_eq (g : Nat → PV) (lf n : Nat) (x0 x1 : PV) (h : PHeap) : CL g lf (n + 1) fn_spec_TriangleOk [x0, x1] h = main (env g lf n) x0 x1 h := by
  rw [← main_eq]
  show (match Tryd.prog.funcs[22]? with | some fn => if fn.body.isSome then runBody ⟨Tryd.prog, g, call Tryd.prog g KL lf n, KL 22, lf, std Tryd.prog⟩ fn [x0, x1] h else none | none => none) = _
  rw [Tryd.func22]
  kernel_rfl
end spec_TriangleOk
namespace impl_TurnedTriangle
noncomputable def lp0 : Code := (codeAt (bodyOf Tryd.f23) [1, 1, 1, 0, 1, 0, 0])
def st0 (x0 x1 x5 x17 x18 : PV) (h : PHeap) : St := ⟨[x0, x1, .junk, .junk, .junk, x5, .junk, .junk, .junk, .junk, .junk, .junk, .junk, .junk, .junk, .junk, .junk, x17, x18, .junk, .junk, .junk, .junk, .junk, .junk, .junk, .junk, .junk, .junk, .junk, .junk, .junk, .junk, .junk, .junk, .junk, .junk, .junk, .junk, .junk, .junk, .junk], h⟩
def se0_0_1_5_17_18_19 (x0 x1 x5 x17 x18 x19 : PV) (h : PHeap) : St := ⟨[x0, x1, .junk, .junk, .junk, x5, .junk, .junk, .junk, .junk, .junk, .junk, .junk, .junk, .junk, .junk, .junk, x17, x18, x19, .junk, .junk, .junk, .junk, .junk, .junk, .junk, .junk, .junk, .junk, .junk, .junk, .junk, .junk, .junk, .junk, .junk, .junk, .junk, .junk, .junk, .junk], h⟩
noncomputable def K0 (E : Env) (K : PX → St → Res) : PX → St → Res := (kBlock 0 (kSeq (ev (E.cx Tryd.prog kl) (codeAt (bodyOf Tryd.f23) [1, 1, 1, 1])) K))
@[simp] theorem K0_ret (E : Env) (K : PX → St → Res) (s : St) : K0 E K .ret s = K .ret s := by kernel_rfl
noncomputable def body0 (E : Env) (K : PX → St → Res) (x0 x1 x5 x17 x18 : PV) (h : PHeap) : Res :=
    (E.p.bin .lss 3 x18 x17).bind fun v21 =>
    condP v21
     (
      (E.C fn_impl_trianglePlace [x18] h).bind fun v22 =>
      (E.p.extract v22.1 0).bind fun v23 =>
      (E.p.extract v22.1 1).bind fun v24 =>
      (E.p.bin .sub 3 x0 (.int .i64 1)).bind fun v25 =>
      (E.p.bin .sub 3 v25 v24).bind fun v26 =>
      (E.p.bin .sub 3 v23 v24).bind fun v27 =>
      (E.C fn_impl_triangleCell [v26, v27] v22.2).bind fun v28 =>
      (E.p.indexAddr 25 x1 v28.1).bind fun v29 =>
      (E.p.load 3 v29 v28.2).bind fun v30 =>
      (E.p.indexAddr 25 x5 x18).bind fun v31 =>
      (E.p.store 3 v31 v30 v28.2).bind fun v32 =>
      (E.p.bin .add 3 x18 (.int .i64 1)).bind fun v33 =>
      K .normal (st0 x0 x1 x5 x17 v33 v32))
     (
      K (.exit 0) (se0_0_1_5_17_18_19 x0 x1 x5 x17 x18 v21 h))
theorem body0_eq (E : Env) (K : PX → St → Res) (x0 x1 x5 x17 x18 : PV) (h : PHeap) : ev (E.cx Tryd.prog kl) lp0 (st0 x0 x1 x5 x17 x18 h) K = body0 E K x0 x1 x5 x17 x18 h := by kernel_rfl
theorem after0_se0_0_1_5_17_18_19 (E : Env) (x0 x1 x5 x17 x18 x19 : PV) (h : PHeap) : K0 E (kTop Tryd.prog Tryd.f23) (.exit 0) (se0_0_1_5_17_18_19 x0 x1 x5 x17 x18 x19 h) =
    (resV x5).bind fun v20 =>
    some (v20, h) := by kernel_rfl
noncomputable def main (E : Env) (x0 x1 : PV) (h : PHeap) : Res :=
    (E.C fn_impl_TriangleOk [x0, x1] h).bind fun v1 =>
    (E.p.un .not v1.1).bind fun v2 =>
    condP v2
     (
      (resV .nilsl).bind fun v3 =>
      some (v3, v1.2))
     (
      (E.p.len 25 x1).bind fun v4 =>
      (E.p.make 25 v4 v4 v1.2).bind fun v5 =>
      (E.p.len 25 v5.1).bind fun v6 =>
      loopK (ev (E.cx Tryd.prog impl_TurnedTriangle.kl) impl_TurnedTriangle.lp0) E.lf (impl_TurnedTriangle.st0 x0 x1 v5.1 v6 (.int .i64 0) v5.2) (impl_TurnedTriangle.K0 E (kTop Tryd.prog Tryd.f23)))
theorem main_eq (E : Env) (x0 x1 : PV) (h : PHeap) : runBody (E.cx Tryd.prog kl) Tryd.f23 [x0, x1] h = main E x0 x1 h := by kernel_rfl
theorem call_eq (g : Nat → PV) (lf n : Nat) (x0 x1 : PV) (h : PHeap) : CL g lf (n + 1) fn_impl_TurnedTriangle [x0, x1] h = main (env g lf n) x0 x1 h := by
  rw [← main_eq]
  show (match Tryd.prog.funcs[23]? with | some fn => if fn.body.isSome then runBody ⟨Tryd.prog, g, call Tryd.prog g KL lf n, KL 23, lf, std Tryd.prog⟩ fn [x0, x1] h else none | none => none) = _
  rw [Tryd.func23]
  kernel_rfl
end impl_TurnedTriangle
namespace spec_DrawShrunk
noncomputable def main (E : Env) (x0 : PV) (h : PHeap) : Res :=
    (E.C fn_spec_l20Open [x0] h).bind fun v1 =>
    (E.C fn_spec_l20Triangle [v1.1, (.int .i64 9)] v1.2).bind fun v2 =>
    (E.p.extract v2.1 0).bind fun v3 =>
    (E.p.extract v2.1 1).bind fun v4 =>
    (resV v3).bind fun v5 =>
    (resV v4).bind fun v6 =>
    some (.tup [v5, v6], v2.2)
theorem main_eq (E : Env) (x0 : PV) (h : PHeap) : runBody (E.cx Tryd.prog kl) Tryd.f24 [x0] h = main E x0 h := by kernel_rfl
theorem call_eq (g : Nat → PV) (lf n : Nat) (x0 : PV) (h : PHeap) : CL g lf (n + 1) fn_spec_DrawShrunk [x0] h = main (env g lf n) x0 h := by
  rw [← main_eq]
  show (match Tryd.prog.funcs[24]? with | some fn => if fn.body.isSome then runBody ⟨Tryd.prog, g, call Tryd.prog g KL lf n, KL 24, lf, std Tryd.prog⟩ fn [x0] h else none | none => none) = _
  rw [Tryd.func24]
  kernel_rfl
end spec_DrawShrunk
namespace impl_Shrunk
noncomputable def lp0 : Code := (codeAt (bodyOf Tryd.f25) [1, 1, 1, 0, 1, 0, 0])
def st0 (x1 x5 x23 x24 : PV) (h : PHeap) : St := ⟨[.junk, x1, .junk, .junk, .junk, x5, .junk, .junk, .junk, .junk, .junk, .junk, .junk, .junk, .junk, .junk, .junk, .junk, .junk, .junk, .junk, .junk, .junk, x23, x24, .junk, .junk, .junk, .junk, .junk, .junk, .junk, .junk, .junk, .junk, .junk, .junk, .junk, .junk, .junk, .junk, .junk, .junk, .junk, .junk, .junk, .junk, .junk, .junk, .junk, .junk, .junk, .junk, .junk, .junk], h⟩
def se0_1_5_23_24_25 (x1 x5 x23 x24 x25 : PV) (h : PHeap) : St := ⟨[.junk, x1, .junk, .junk, .junk, x5, .junk, .junk, .junk, .junk, .junk, .junk, .junk, .junk, .junk, .junk, .junk, .junk, .junk, .junk, .junk, .junk, .junk, x23, x24, x25, .junk, .junk, .junk, .junk, .junk, .junk, .junk, .junk, .junk, .junk, .junk, .junk, .junk, .junk, .junk, .junk, .junk, .junk, .junk, .junk, .junk, .junk, .junk, .junk, .junk, .junk, .junk, .junk, .junk], h⟩
noncomputable def K0 (E : Env) (K : PX → St → Res) : PX → St → Res := (kBlock 0 (kSeq (ev (E.cx Tryd.prog kl) (codeAt (bodyOf Tryd.f25) [1, 1, 1, 1])) K))
@[simp] theorem K0_ret (E : Env) (K : PX → St → Res) (s : St) : K0 E K .ret s = K .ret s := by kernel_rfl
noncomputable def body0 (E : Env) (K : PX → St → Res) (x1 x5 x23 x24 : PV) (h : PHeap) : Res :=
    (E.p.bin .lss 3 x24 x23).bind fun v31 =>
    condP v31
     (
      (E.C fn_impl_trianglePlace [x24] h).bind fun v32 =>
      (E.p.extract v32.1 0).bind fun v33 =>
      (E.p.extract v32.1 1).bind fun v34 =>
      (E.p.bin .add 3 v33 (.int .i64 1)).bind fun v35 =>
      (E.C fn_impl_triangleCell [v35, v34] v32.2).bind fun v36 =>
      (E.p.indexAddr 25 x1 x24).bind fun v37 =>
      (E.p.indexAddr 25 x1 v36.1).bind fun v38 =>
      (E.p.bin .add 3 v36.1 (.int .i64 1)).bind fun v39 =>
      (E.p.indexAddr 25 x1 v39).bind fun v40 =>
      (E.p.load 3 v37 v36.2).bind fun v41 =>
      (E.p.load 3 v38 v36.2).bind fun v42 =>
      (E.p.load 3 v40 v36.2).bind fun v43 =>
      (E.C fn_impl_mostOf [v41, v42, v43] v36.2).bind fun v44 =>
      (E.p.indexAddr 25 x5 x24).bind fun v45 =>
      (E.p.store 3 v45 v44.1 v44.2).bind fun v46 =>
      (E.p.bin .add 3 x24 (.int .i64 1)).bind fun v47 =>
      K .normal (st0 x1 x5 x23 v47 v46))
     (
      K (.exit 0) (se0_1_5_23_24_25 x1 x5 x23 x24 v31 h))
theorem body0_eq (E : Env) (K : PX → St → Res) (x1 x5 x23 x24 : PV) (h : PHeap) : ev (E.cx Tryd.prog kl) lp0 (st0 x1 x5 x23 x24 h) K = body0 E K x1 x5 x23 x24 h := by kernel_rfl
theorem after0_se0_1_5_23_24_25 (E : Env) (x1 x5 x23 x24 x25 : PV) (h : PHeap) : K0 E (kTop Tryd.prog Tryd.f25) (.exit 0) (se0_1_5_23_24_25 x1 x5 x23 x24 x25 h) =
    (resV x5).bind fun v30 =>
    some (v30, h) := by kernel_rfl
noncomputable def main (E : Env) (x0 x1 : PV) (h : PHeap) : Res :=
    (E.C fn_impl_TriangleOk [x0, x1] h).bind fun v1 =>
    (E.p.un .not v1.1).bind fun v2 =>
    (wantV v2 false).bind fun v3 =>
    (bif v3 then some (x0, v1.2) else some (.tup [], v1.2)).bind fun v4 =>
    (wantV v2 false).bind fun v5 =>
    (bif v5 then pv v4.2 (E.p.bin .eql 3 v4.1 (.int .i64 1)) else some (.tup [], v4.2)).bind fun v6 =>
    (E.p.pick v2 (.bool true) v6.1).bind fun v7 =>
    condP v7
     (
      (resV .nilsl).bind fun v8 =>
      some (v8, v6.2))
     (
      (E.p.bin .sub 3 x0 (.int .i64 1)).bind fun v9 =>
      (E.C fn_impl_triangleSize [v9] v6.2).bind fun v10 =>
      (E.p.make 25 v10.1 v10.1 v10.2).bind fun v11 =>
      (E.p.len 25 v11.1).bind fun v12 =>
      loopK (ev (E.cx Tryd.prog impl_Shrunk.kl) impl_Shrunk.lp0) E.lf (impl_Shrunk.st0 x1 v11.1 v12 (.int .i64 0) v11.2) (impl_Shrunk.K0 E (kTop Tryd.prog Tryd.f25)))
theorem main_eq (E : Env) (x0 x1 : PV) (h : PHeap) : runBody (E.cx Tryd.prog kl) Tryd.f25 [x0, x1] h = main E x0 x1 h := by kernel_rfl
theorem call_eq (g : Nat → PV) (lf n : Nat) (x0 x1 : PV) (h : PHeap) : CL g lf (n + 1) fn_impl_Shrunk [x0, x1] h = main (env g lf n) x0 x1 h := by
  rw [← main_eq]
  show (match Tryd.prog.funcs[25]? with | some fn => if fn.body.isSome then runBody ⟨Tryd.prog, g, call Tryd.prog g KL lf n, KL 25, lf, std Tryd.prog⟩ fn [x0, x1] h else none | none => none) = _
  rw [Tryd.func25]
  kernel_rfl
end impl_Shrunk
namespace spec_Shrunk
noncomputable def lp0 : Code := (codeAt (bodyOf Tryd.f26) [1, 1, 1, 0, 1, 0, 0])
def st0 (x0 x1 x5 x6 : PV) (h : PHeap) : St := ⟨[x0, x1, .junk, .junk, .junk, x5, x6, .junk, .junk, .junk, .junk, .junk, .junk, .junk, .junk, .junk, .junk, .junk, .junk, .junk, .junk, .junk, .junk, .junk, .junk, .junk, .junk, .junk, .junk, .junk, .junk, .junk, .junk, .junk, .junk, .junk, .junk, .junk, .junk, .junk, .junk, .junk, .junk, .junk, .junk, .junk, .junk, .junk, .junk, .junk, .junk, .junk, .junk, .junk, .junk, .junk, .junk, .junk, .junk, .junk, .junk, .junk], h⟩
def se0_0_1_5_6_25 (x0 x1 x5 x6 x25 : PV) (h : PHeap) : St := ⟨[x0, x1, .junk, .junk, .junk, x5, x6, .junk, .junk, .junk, .junk, .junk, .junk, .junk, .junk, .junk, .junk, .junk, .junk, .junk, .junk, .junk, .junk, .junk, .junk, x25, .junk, .junk, .junk, .junk, .junk, .junk, .junk, .junk, .junk, .junk, .junk, .junk, .junk, .junk, .junk, .junk, .junk, .junk, .junk, .junk, .junk, .junk, .junk, .junk, .junk, .junk, .junk, .junk, .junk, .junk, .junk, .junk, .junk, .junk, .junk, .junk], h⟩
noncomputable def K0 (E : Env) (K : PX → St → Res) : PX → St → Res := (kBlock 0 (kSeq (ev (E.cx Tryd.prog kl) (codeAt (bodyOf Tryd.f26) [1, 1, 1, 1])) K))
@[simp] theorem K0_ret (E : Env) (K : PX → St → Res) (s : St) : K0 E K .ret s = K .ret s := by kernel_rfl
noncomputable def body0 (E : Env) (K : PX → St → Res) (x0 x1 x5 x6 : PV) (h : PHeap) : Res :=
    (E.p.bin .sub 3 x0 (.int .i64 1)).bind fun v36 =>
    (E.C fn_spec_l7Cells [v36] h).bind fun v37 =>
    (E.p.bin .lss 3 x6 v37.1).bind fun v38 =>
    condP v38
     (
      (E.C fn_spec_l7Place [x6] v37.2).bind fun v39 =>
      (E.p.extract v39.1 0).bind fun v40 =>
      (E.p.extract v39.1 1).bind fun v41 =>
      (E.p.bin .add 3 v40 (.int .i64 1)).bind fun v42 =>
      (E.C fn_spec_l7Cells [v42] v39.2).bind fun v43 =>
      (E.p.bin .add 3 v43.1 v41).bind fun v44 =>
      (E.p.indexAddr 25 x1 x6).bind fun v45 =>
      (E.p.load 3 v45 v43.2).bind fun v46 =>
      (E.p.indexAddr 25 x1 v44).bind fun v47 =>
      (E.p.load 3 v47 v43.2).bind fun v48 =>
      (E.p.bin .add 3 v46 v48).bind fun v49 =>
      (E.p.bin .add 3 v44 (.int .i64 1)).bind fun v50 =>
      (E.p.indexAddr 25 x1 v50).bind fun v51 =>
      (E.p.load 3 v51 v43.2).bind fun v52 =>
      (E.p.bin .add 3 v49 v52).bind fun v53 =>
      (E.p.bin .leq 3 v53 (.int .i64 4)).bind fun v54 =>
      condP v54
       (
        (E.p.buildSlice 25 1 [(0, (.int .i64 1))] v43.2).bind fun v55 =>
        (E.p.append 25 25 x5 v55.1 v55.2).bind fun v56 =>
        (E.p.bin .add 3 x6 (.int .i64 1)).bind fun v57 =>
        K .normal (st0 x0 x1 v56.1 v57 v56.2))
       (
        (E.p.buildSlice 25 1 [(0, (.int .i64 2))] v43.2).bind fun v58 =>
        (E.p.append 25 25 x5 v58.1 v58.2).bind fun v59 =>
        (E.p.bin .add 3 x6 (.int .i64 1)).bind fun v60 =>
        K .normal (st0 x0 x1 v59.1 v60 v59.2)))
     (
      K (.exit 0) (se0_0_1_5_6_25 x0 x1 x5 x6 v38 v37.2))
theorem body0_eq (E : Env) (K : PX → St → Res) (x0 x1 x5 x6 : PV) (h : PHeap) : ev (E.cx Tryd.prog kl) lp0 (st0 x0 x1 x5 x6 h) K = body0 E K x0 x1 x5 x6 h := by kernel_rfl
theorem after0_se0_0_1_5_6_25 (E : Env) (x0 x1 x5 x6 x25 : PV) (h : PHeap) : K0 E (kTop Tryd.prog Tryd.f26) (.exit 0) (se0_0_1_5_6_25 x0 x1 x5 x6 x25 h) =
    (resV x5).bind fun v35 =>
    some (v35, h) := by kernel_rfl
noncomputable def main (E : Env) (x0 x1 : PV) (h : PHeap) : Res :=
    (E.p.buildSlice 25 0 [] h).bind fun v1 =>
    (E.C fn_spec_TriangleOk [x0, x1] v1.2).bind fun v2 =>
    (E.p.un .not v2.1).bind fun v3 =>
    (wantV v3 false).bind fun v4 =>
    (bif v4 then some (x0, v2.2) else some (.tup [], v2.2)).bind fun v5 =>
    (wantV v3 false).bind fun v6 =>
    (bif v6 then pv v5.2 (E.p.bin .lss 3 v5.1 (.int .i64 2)) else some (.tup [], v5.2)).bind fun v7 =>
    (E.p.pick v3 (.bool true) v7.1).bind fun v8 =>
    condP v8
     (
      (resV v1.1).bind fun v9 =>
      some (v9, v7.2))
     (
      loopK (ev (E.cx Tryd.prog spec_Shrunk.kl) spec_Shrunk.lp0) E.lf (spec_Shrunk.st0 x0 x1 v1.1 (.int .i64 0) v7.2) (spec_Shrunk.K0 E (kTop Tryd.prog Tryd.f26)))
theorem main_eq (E : Env) (x0 x1 : PV) (h : PHeap) : runBody (E.cx Tryd.prog kl) Tryd.f26 [x0, x1] h = main E x0 x1 h := by kernel_rfl
theorem call_eq (g : Nat → PV) (lf n : Nat) (x0 x1 : PV) (h : PHeap) : CL g lf (n + 1) fn_spec_Shrunk [x0, x1] h = main (env g lf n) x0 x1 h := by
  rw [← main_eq]
  show (match Tryd.prog.funcs[26]? with | some fn => if fn.body.isSome then runBody ⟨Tryd.prog, g, call Tryd.prog g KL lf n, KL 26, lf, std Tryd.prog⟩ fn [x0, x1] h else none | none => none) = _
  rw [Tryd.func26]
  kernel_rfl
end spec_Shrunk
namespace impl_TriangleOk
noncomputable def lp0 : Code := (codeAt (bodyOf Tryd.f27) [1, 1, 0, 1, 0, 0])
def st0 (x17 x18 x19 : PV) (h : PHeap) : St := ⟨[.junk, .junk, .junk, .junk, .junk, .junk, .junk, .junk, .junk, .junk, .junk, .junk, .junk, .junk, .junk, .junk, .junk, x17, x18, x19, .junk, .junk, .junk, .junk, .junk, .junk, .junk], h⟩
def sr_4 (x4 : PV) (h : PHeap) : St := ⟨[.junk, .junk, .junk, .junk, x4, .junk, .junk, .junk, .junk, .junk, .junk, .junk, .junk, .junk, .junk, .junk, .junk, .junk, .junk, .junk, .junk, .junk, .junk, .junk, .junk, .junk, .junk], h⟩
def se0_17_18_19_20 (x17 x18 x19 x20 : PV) (h : PHeap) : St := ⟨[.junk, .junk, .junk, .junk, .junk, .junk, .junk, .junk, .junk, .junk, .junk, .junk, .junk, .junk, .junk, .junk, .junk, x17, x18, x19, x20, .junk, .junk, .junk, .junk, .junk, .junk], h⟩
noncomputable def K0 (E : Env) (K : PX → St → Res) : PX → St → Res := (kBlock 0 (kSeq (ev (E.cx Tryd.prog kl) (codeAt (bodyOf Tryd.f27) [1, 1, 1])) K))
@[simp] theorem K0_ret (E : Env) (K : PX → St → Res) (s : St) : K0 E K .ret s = K .ret s := by kernel_rfl
noncomputable def body0 (E : Env) (K : PX → St → Res) (x17 x18 x19 : PV) (h : PHeap) : Res :=
    (E.p.bin .lss 3 x19 x18).bind fun v23 =>
    condP v23
     (
      (E.p.indexAddr 25 x17 x19).bind fun v24 =>
      (E.p.load 3 v24 h).bind fun v25 =>
      (E.C fn_impl_playerOk [v25] h).bind fun v26 =>
      (E.p.un .not v26.1).bind fun v27 =>
      condP v27
       (
        K .ret (sr_4 (.bool false) v26.2))
       (
        (E.p.bin .add 3 x19 (.int .i64 1)).bind fun v28 =>
        K .normal (st0 x17 x18 v28 v26.2)))
     (
      K (.exit 0) (se0_17_18_19_20 x17 x18 x19 v23 h))
theorem body0_eq (E : Env) (K : PX → St → Res) (x17 x18 x19 : PV) (h : PHeap) : ev (E.cx Tryd.prog kl) lp0 (st0 x17 x18 x19 h) K = body0 E K x17 x18 x19 h := by kernel_rfl
theorem after0_se0_17_18_19_20 (E : Env) (x17 x18 x19 x20 : PV) (h : PHeap) : K0 E (kTop Tryd.prog Tryd.f27) (.exit 0) (se0_17_18_19_20 x17 x18 x19 x20 h) =
    (resV (.bool true)).bind fun v22 =>
    some (v22, h) := by kernel_rfl
theorem top_sr_4 (x4 : PV) (h : PHeap) : kTop Tryd.prog Tryd.f27 .ret (sr_4 x4 h) =
    (resV x4).bind fun v29 =>
    some (v29, h) := by kernel_rfl
noncomputable def main (E : Env) (x0 x1 : PV) (h : PHeap) : Res :=
    (E.C fn_impl_triangleSideOk [x0] h).bind fun v1 =>
    (E.p.un .not v1.1).bind fun v2 =>
    (wantV v2 false).bind fun v3 =>
    (bif v3 then some (x1, v1.2) else some (.tup [], v1.2)).bind fun v4 =>
    (wantV v2 false).bind fun v5 =>
    (bif v5 then pv v4.2 (E.p.len 25 v4.1) else some (.tup [], v4.2)).bind fun v6 =>
    (wantV v2 false).bind fun v7 =>
    (bif v7 then some (x0, v6.2) else some (.tup [], v6.2)).bind fun v8 =>
    (wantV v2 false).bind fun v9 =>
    (bif v9 then E.C fn_impl_triangleSize [v8.1] v8.2 else some (.tup [], v8.2)).bind fun v10 =>
    (wantV v2 false).bind fun v11 =>
    (bif v11 then pv v10.2 (E.p.bin .neq 3 v6.1 v10.1) else some (.tup [], v10.2)).bind fun v12 =>
    (E.p.pick v2 (.bool true) v12.1).bind fun v13 =>
    condP v13
     (
      (resV (.bool false)).bind fun v14 =>
      some (v14, v12.2))
     (
      (E.p.len 25 x1).bind fun v15 =>
      loopK (ev (E.cx Tryd.prog impl_TriangleOk.kl) impl_TriangleOk.lp0) E.lf (impl_TriangleOk.st0 x1 v15 (.int .i64 0) v12.2) (impl_TriangleOk.K0 E (kTop Tryd.prog Tryd.f27)))
theorem main_eq (E : Env) (x0 x1 : PV) (h : PHeap) : runBody (E.cx Tryd.prog kl) Tryd.f27 [x0, x1] h = main E x0 x1 h := by kernel_rfl
theorem call_eq (g : Nat → PV) (lf n : Nat) (x0 x1 : PV) (h : PHeap) : CL g lf (n + 1) fn_impl_TriangleOk [x0, x1] h = main (env g lf n) x0 x1 h := by
  rw [← main_eq]
  show (match Tryd.prog.funcs[27]? with | some fn => if fn.body.isSome then runBody ⟨Tryd.prog, g, call Tryd.prog g KL lf n, KL 27, lf, std Tryd.prog⟩ fn [x0, x1] h else none | none => none) = _
  rw [Tryd.func27]
  kernel_rfl
end impl_TriangleOk
namespace spec_DrawLastCell
noncomputable def main (E : Env) (x0 : PV) (h : PHeap) : Res :=
    (E.C fn_spec_l20Open [x0] h).bind fun v1 =>
    (E.C fn_spec_l20Triangle [v1.1, (.int .i64 9)] v1.2).bind fun v2 =>
    (E.p.extract v2.1 0).bind fun v3 =>
    (E.p.extract v2.1 1).bind fun v4 =>
    (resV v3).bind fun v5 =>
    (resV v4).bind fun v6 =>
    some (.tup [v5, v6], v2.2)
theorem main_eq (E : Env) (x0 : PV) (h : PHeap) : runBody (E.cx Tryd.prog kl) Tryd.f28 [x0] h = main E x0 h := by kernel_rfl
theorem call_eq (g : Nat → PV) (lf n : Nat) (x0 : PV) (h : PHeap) : CL g lf (n + 1) fn_spec_DrawLastCell [x0] h = main (env g lf n) x0 h := by
  rw [← main_eq]
  show (match Tryd.prog.funcs[28]? with | some fn => if fn.body.isSome then runBody ⟨Tryd.prog, g, call Tryd.prog g KL lf n, KL 28, lf, std Tryd.prog⟩ fn [x0] h else none | none => none) = _
  rw [Tryd.func28]
  kernel_rfl
end spec_DrawLastCell
namespace impl_LastCell
noncomputable def lp0 : Code := (codeAt (bodyOf Tryd.f29) [1, 1, 0, 0, 0])
def st0 (x0 x1 : PV) (h : PHeap) : St := ⟨[x0, x1, .junk, .junk, .junk, .junk, .junk, .junk, .junk, .junk, .junk, .junk, .junk, .junk, .junk, .junk, .junk, .junk, .junk], h⟩
def se0_0_1_10 (x0 x1 x10 : PV) (h : PHeap) : St := ⟨[x0, x1, .junk, .junk, .junk, .junk, .junk, .junk, .junk, .junk, x10, .junk, .junk, .junk, .junk, .junk, .junk, .junk, .junk], h⟩
noncomputable def K0 (E : Env) (K : PX → St → Res) : PX → St → Res := (kBlock 0 (kSeq (ev (E.cx Tryd.prog kl) (codeAt (bodyOf Tryd.f29) [1, 1, 1])) K))
@[simp] theorem K0_ret (E : Env) (K : PX → St → Res) (s : St) : K0 E K .ret s = K .ret s := by kernel_rfl
noncomputable def body0 (E : Env) (K : PX → St → Res) (x0 x1 : PV) (h : PHeap) : Res :=
    (E.p.bin .gtr 3 x0 (.int .i64 1)).bind fun v10 =>
    condP v10
     (
      (E.C fn_impl_Shrunk [x0, x1] h).bind fun v11 =>
      (E.p.bin .sub 3 x0 (.int .i64 1)).bind fun v12 =>
      K .normal (st0 v12 v11.1 v11.2))
     (
      K (.exit 0) (se0_0_1_10 x0 x1 v10 h))
theorem body0_eq (E : Env) (K : PX → St → Res) (x0 x1 : PV) (h : PHeap) : ev (E.cx Tryd.prog kl) lp0 (st0 x0 x1 h) K = body0 E K x0 x1 h := by kernel_rfl
theorem after0_se0_0_1_10 (E : Env) (x0 x1 x10 : PV) (h : PHeap) : K0 E (kTop Tryd.prog Tryd.f29) (.exit 0) (se0_0_1_10 x0 x1 x10 h) =
    (E.p.indexAddr 25 x1 (.int .i64 0)).bind fun v7 =>
    (E.p.load 3 v7 h).bind fun v8 =>
    (resV v8).bind fun v9 =>
    some (v9, h) := by kernel_rfl
noncomputable def main (E : Env) (x0 x1 : PV) (h : PHeap) : Res :=
    (E.C fn_impl_TriangleOk [x0, x1] h).bind fun v1 =>
    (E.p.un .not v1.1).bind fun v2 =>
    condP v2
     (
      (resV (.int .i64 0)).bind fun v3 =>
      some (v3, v1.2))
     (
      loopK (ev (E.cx Tryd.prog impl_LastCell.kl) impl_LastCell.lp0) E.lf (impl_LastCell.st0 x0 x1 v1.2) (impl_LastCell.K0 E (kTop Tryd.prog Tryd.f29)))
theorem main_eq (E : Env) (x0 x1 : PV) (h : PHeap) : runBody (E.cx Tryd.prog kl) Tryd.f29 [x0, x1] h = main E x0 x1 h := by kernel_rfl
theorem call_eq (g : Nat → PV) (lf n : Nat) (x0 x1 : PV) (h : PHeap) : CL g lf (n + 1) fn_impl_LastCell [x0, x1] h = main (env g lf n) x0 x1 h := by
  rw [← main_eq]
  show (match Tryd.prog.funcs[29]? with | some fn => if fn.body.isSome then runBody ⟨Tryd.prog, g, call Tryd.prog g KL lf n, KL 29, lf, std Tryd.prog⟩ fn [x0, x1] h else none | none => none) = _
  rw [Tryd.func29]
  kernel_rfl
end impl_LastCell
namespace spec_LastCell
noncomputable def lp0 : Code := (codeAt (bodyOf Tryd.f30) [1, 1, 1, 0, 1, 0, 0])
def st0 (x5 x6 : PV) (h : PHeap) : St := ⟨[.junk, .junk, .junk, .junk, .junk, x5, x6, .junk, .junk, .junk, .junk, .junk, .junk, .junk, .junk, .junk, .junk, .junk, .junk, .junk, .junk, .junk, .junk, .junk, .junk], h⟩
def se0_5_6_16 (x5 x6 x16 : PV) (h : PHeap) : St := ⟨[.junk, .junk, .junk, .junk, .junk, x5, x6, .junk, .junk, .junk, .junk, .junk, .junk, .junk, .junk, .junk, x16, .junk, .junk, .junk, .junk, .junk, .junk, .junk, .junk], h⟩
noncomputable def K0 (E : Env) (K : PX → St → Res) : PX → St → Res := (kBlock 0 (kSeq (ev (E.cx Tryd.prog kl) (codeAt (bodyOf Tryd.f30) [1, 1, 1, 1])) K))
@[simp] theorem K0_ret (E : Env) (K : PX → St → Res) (s : St) : K0 E K .ret s = K .ret s := by kernel_rfl
noncomputable def body0 (E : Env) (K : PX → St → Res) (x5 x6 : PV) (h : PHeap) : Res :=
    (E.p.bin .gtr 3 x6 (.int .i64 1)).bind fun v12 =>
    condP v12
     (
      (E.C fn_spec_Shrunk [x6, x5] h).bind fun v13 =>
      (E.p.bin .sub 3 x6 (.int .i64 1)).bind fun v14 =>
      K .normal (st0 v13.1 v14 v13.2))
     (
      K (.exit 0) (se0_5_6_16 x5 x6 v12 h))
theorem body0_eq (E : Env) (K : PX → St → Res) (x5 x6 : PV) (h : PHeap) : ev (E.cx Tryd.prog kl) lp0 (st0 x5 x6 h) K = body0 E K x5 x6 h := by kernel_rfl
theorem after0_se0_5_6_16 (E : Env) (x5 x6 x16 : PV) (h : PHeap) : K0 E (kTop Tryd.prog Tryd.f30) (.exit 0) (se0_5_6_16 x5 x6 x16 h) =
    (E.p.indexAddr 25 x5 (.int .i64 0)).bind fun v9 =>
    (E.p.load 3 v9 h).bind fun v10 =>
    (resV v10).bind fun v11 =>
    some (v11, h) := by kernel_rfl
noncomputable def main (E : Env) (x0 x1 : PV) (h : PHeap) : Res :=
    (E.C fn_spec_TriangleOk [x0, x1] h).bind fun v1 =>
    (E.p.un .not v1.1).bind fun v2 =>
    condP v2
     (
      (resV (.int .i64 0)).bind fun v3 =>
      some (v3, v1.2))
     (
      (E.p.buildSlice 25 0 [] v1.2).bind fun v4 =>
      (E.p.append 25 25 v4.1 x1 v4.2).bind fun v5 =>
      loopK (ev (E.cx Tryd.prog spec_LastCell.kl) spec_LastCell.lp0) E.lf (spec_LastCell.st0 v5.1 x0 v5.2) (spec_LastCell.K0 E (kTop Tryd.prog Tryd.f30)))
theorem main_eq (E : Env) (x0 x1 : PV) (h : PHeap) : runBody (E.cx Tryd.prog kl) Tryd.f30 [x0, x1] h = main E x0 x1 h := by kernel_rfl
theorem call_eq (g : Nat → PV) (lf n : Nat) (x0 x1 : PV) (h : PHeap) : CL g lf (n + 1) fn_spec_LastCell [x0, x1] h = main (env g lf n) x0 x1 h := by
  rw [← main_eq]
  show (match Tryd.prog.funcs[30]? with | some fn => if fn.body.isSome then runBody ⟨Tryd.prog, g, call Tryd.prog g KL lf n, KL 30, lf, std Tryd.prog⟩ fn [x0, x1] h else none | none => none) = _
  rw [Tryd.func30]
  kernel_rfl
end spec_LastCell
namespace spec_DrawTriangleWins
noncomputable def main (E : Env) (x0 : PV) (h : PHeap) : Res :=
    (E.C fn_spec_l20Open [x0] h).bind fun v1 =>
    (E.C fn_spec_l20Rd_pick [v1.1, (.int .i64 3)] v1.2).bind fun v2 =>
    (E.p.bin .add 3 (.int .i64 1) v2.1).bind fun v3 =>
    (E.C fn_spec_l20Rd_pick [v1.1, (.int .i64 30)] v2.2).bind fun v4 =>
    (E.p.bin .quo 3 v4.1 (.int .i64 29)).bind fun v5 =>
    (E.p.bin .add 3 v3 v5).bind fun v6 =>
    (E.C fn_spec_l20Rd_pick [v1.1, (.int .i64 40)] v4.2).bind fun v7 =>
    (E.p.bin .quo 3 v7.1 (.int .i64 39)).bind fun v8 =>
    (E.p.bin .mul 3 v8 (.int .i64 4)).bind fun v9 =>
    (E.p.bin .add 3 v6 v9).bind fun v10 =>
    (E.C fn_spec_l7Cells [v6] v7.2).bind fun v11 =>
    (E.p.bin .add 3 v11.1 (.int .i64 1)).bind fun v12 =>
    (E.C fn_spec_l20Rd_pick [v1.1, v12] v11.2).bind fun v13 =>
    (E.C fn_spec_l20Rd_pick [v1.1, (.int .i64 40)] v13.2).bind fun v14 =>
    (E.p.bin .quo 3 v14.1 (.int .i64 39)).bind fun v15 =>
    (E.p.bin .mul 3 v15 (.int .i64 11)).bind fun v16 =>
    (E.p.bin .sub 3 v13.1 v16).bind fun v17 =>
    (resV v10).bind fun v18 =>
    (resV v17).bind fun v19 =>
    some (.tup [v18, v19], v14.2)
theorem main_eq (E : Env) (x0 : PV) (h : PHeap) : runBody (E.cx Tryd.prog kl) Tryd.f31 [x0] h = main E x0 h := by kernel_rfl
theorem call_eq (g : Nat → PV) (lf n : Nat) (x0 : PV) (h : PHeap) : CL g lf (n + 1) fn_spec_DrawTriangleWins [x0] h = main (env g lf n) x0 h := by
  rw [← main_eq]
  show (match Tryd.prog.funcs[31]? with | some fn => if fn.body.isSome then runBody ⟨Tryd.prog, g, call Tryd.prog g KL lf n, KL 31, lf, std Tryd.prog⟩ fn [x0] h else none | none => none) = _
  rw [Tryd.func31]
  kernel_rfl
end spec_DrawTriangleWins
namespace impl_TriangleWins
noncomputable def lp0 : Code := (codeAt (bodyOf Tryd.f32) [1, 1, 1, 0, 1, 0, 0])
def st0 (x0 x1 x5 x22 x23 : PV) (h : PHeap) : St := ⟨[x0, x1, .junk, .junk, .junk, x5, .junk, .junk, .junk, .junk, .junk, .junk, .junk, .junk, .junk, .junk, .junk, .junk, .junk, .junk, .junk, .junk, x22, x23, .junk, .junk, .junk, .junk, .junk, .junk, .junk, .junk, .junk, .junk, .junk, .junk, .junk, .junk, .junk], h⟩
def se0_0_1_5_22_23_24 (x0 x1 x5 x22 x23 x24 : PV) (h : PHeap) : St := ⟨[x0, x1, .junk, .junk, .junk, x5, .junk, .junk, .junk, .junk, .junk, .junk, .junk, .junk, .junk, .junk, .junk, .junk, .junk, .junk, .junk, .junk, x22, x23, x24, .junk, .junk, .junk, .junk, .junk, .junk, .junk, .junk, .junk, .junk, .junk, .junk, .junk, .junk], h⟩
noncomputable def K0 (E : Env) (K : PX → St → Res) : PX → St → Res := (kBlock 0 (kSeq (ev (E.cx Tryd.prog kl) (codeAt (bodyOf Tryd.f32) [1, 1, 1, 1])) K))
@[simp] theorem K0_ret (E : Env) (K : PX → St → Res) (s : St) : K0 E K .ret s = K .ret s := by kernel_rfl
noncomputable def body0 (E : Env) (K : PX → St → Res) (x0 x1 x5 x22 x23 : PV) (h : PHeap) : Res :=
    (E.p.bin .lss 3 x23 x22).bind fun v34 =>
    condP v34
     (
      (E.C fn_impl_countIn [x23] h).bind fun v35 =>
      (E.p.bin .eql 3 v35.1 x1).bind fun v36 =>
      (wantV v36 true).bind fun v37 =>
      (bif v37 then some (x0, v35.2) else some (.tup [], v35.2)).bind fun v38 =>
      (wantV v36 true).bind fun v39 =>
      (bif v39 then some (x23, v38.2) else some (.tup [], v38.2)).bind fun v40 =>
      (wantV v36 true).bind fun v41 =>
      (bif v41 then E.C fn_impl_touchesAll [v38.1, v40.1] v40.2 else some (.tup [], v40.2)).bind fun v42 =>
      (E.p.pick v36 v42.1 (.bool false)).bind fun v43 =>
      condP v43
       (
        (E.p.bin .add 3 x5 (.int .i64 1)).bind fun v44 =>
        (E.p.bin .add 3 x23 (.int .i64 1)).bind fun v45 =>
        K .normal (st0 x0 x1 v44 x22 v45 v42.2))
       (
        (E.p.bin .add 3 x23 (.int .i64 1)).bind fun v46 =>
        K .normal (st0 x0 x1 x5 x22 v46 v42.2)))
     (
      K (.exit 0) (se0_0_1_5_22_23_24 x0 x1 x5 x22 x23 v34 h))
theorem body0_eq (E : Env) (K : PX → St → Res) (x0 x1 x5 x22 x23 : PV) (h : PHeap) : ev (E.cx Tryd.prog kl) lp0 (st0 x0 x1 x5 x22 x23 h) K = body0 E K x0 x1 x5 x22 x23 h := by kernel_rfl
theorem after0_se0_0_1_5_22_23_24 (E : Env) (x0 x1 x5 x22 x23 x24 : PV) (h : PHeap) : K0 E (kTop Tryd.prog Tryd.f32) (.exit 0) (se0_0_1_5_22_23_24 x0 x1 x5 x22 x23 x24 h) =
    (resV x5).bind fun v33 =>
    some (v33, h) := by kernel_rfl
noncomputable def main (E : Env) (x0 x1 : PV) (h : PHeap) : Res :=
    (E.C fn_impl_triangleSideOk [x0] h).bind fun v1 =>
    (E.p.un .not v1.1).bind fun v2 =>
    (wantV v2 false).bind fun v3 =>
    (bif v3 then some (x1, v1.2) else some (.tup [], v1.2)).bind fun v4 =>
    (wantV v2 false).bind fun v5 =>
    (bif v5 then pv v4.2 (E.p.bin .lss 3 v4.1 (.int .i64 0)) else some (.tup [], v4.2)).bind fun v6 =>
    (E.p.pick v2 (.bool true) v6.1).bind fun v7 =>
    (wantV v7 false).bind fun v8 =>
    (bif v8 then some (x1, v6.2) else some (.tup [], v6.2)).bind fun v9 =>
    (wantV v7 false).bind fun v10 =>
    (bif v10 then some (x0, v9.2) else some (.tup [], v9.2)).bind fun v11 =>
    (wantV v7 false).bind fun v12 =>
    (bif v12 then E.C fn_impl_triangleSize [v11.1] v11.2 else some (.tup [], v11.2)).bind fun v13 =>
    (wantV v7 false).bind fun v14 =>
    (bif v14 then pv v13.2 (E.p.bin .gtr 3 v9.1 v13.1) else some (.tup [], v13.2)).bind fun v15 =>
    (E.p.pick v7 (.bool true) v15.1).bind fun v16 =>
    condP v16
     (
      (resV (.int .i64 (-1))).bind fun v17 =>
      some (v17, v15.2))
     (
      (E.C fn_impl_triangleSize [x0] v15.2).bind fun v18 =>
      (E.p.bin .shl 3 (.int .i64 1) v18.1).bind fun v19 =>
      loopK (ev (E.cx Tryd.prog impl_TriangleWins.kl) impl_TriangleWins.lp0) E.lf (impl_TriangleWins.st0 x0 x1 (.int .i64 0) v19 (.int .i64 0) v18.2) (impl_TriangleWins.K0 E (kTop Tryd.prog Tryd.f32)))
theorem main_eq (E : Env) (x0 x1 : PV) (h : PHeap) : runBody (E.cx Tryd.prog kl) Tryd.f32 [x0, x1] h = main E x0 x1 h := by kernel_rfl
theorem call_eq (g : Nat → PV) (lf n : Nat) (x0 x1 : PV) (h : PHeap) : CL g lf (n + 1) fn_impl_TriangleWins [x0, x1] h = main (env g lf n) x0 x1 h := by
  rw [← main_eq]
  show (match Tryd.prog.funcs[32]? with | some fn => if fn.body.isSome then runBody ⟨Tryd.prog, g, call Tryd.prog g KL lf n, KL 32, lf, std Tryd.prog⟩ fn [x0, x1] h else none | none => none) = _
  rw [Tryd.func32]
  kernel_rfl
end impl_TriangleWins
namespace spec_TriangleWins
noncomputable def lp0 : Code := (codeAt (bodyOf Tryd.f33) [1, 1, 1, 0, 1, 0, 0])
def st0 (x0 x1 x5 x6 : PV) (h : PHeap) : St := ⟨[x0, x1, .junk, .junk, .junk, x5, x6, .junk, .junk, .junk, .junk, .junk, .junk, .junk, .junk, .junk, .junk, .junk, .junk, .junk, .junk, .junk, .junk, .junk, .junk, .junk, .junk, .junk, .junk, .junk, .junk, .junk, .junk, .junk, .junk, .junk, .junk, .junk, .junk, .junk, .junk, .junk, .junk, .junk, .junk, .junk, .junk, .junk, .junk, .junk, .junk, .junk], h⟩
noncomputable def lp1 : Code := (codeAt (bodyOf Tryd.f33) [1, 1, 1, 0, 1, 0, 0, 1, 0, 0, 1, 1, 0, 1, 0, 0])
def st1 (x0 x1 x5 x6 x7 x8 : PV) (h : PHeap) : St := ⟨[x0, x1, .junk, .junk, .junk, x5, x6, x7, x8, .junk, .junk, .junk, .junk, .junk, .junk, .junk, .junk, .junk, .junk, .junk, .junk, .junk, .junk, .junk, .junk, .junk, .junk, .junk, .junk, .junk, .junk, .junk, .junk, .junk, .junk, .junk, .junk, .junk, .junk, .junk, .junk, .junk, .junk, .junk, .junk, .junk, .junk, .junk, .junk, .junk, .junk, .junk], h⟩
def se0_0_1_5_6_23 (x0 x1 x5 x6 x23 : PV) (h : PHeap) : St := ⟨[x0, x1, .junk, .junk, .junk, x5, x6, .junk, .junk, .junk, .junk, .junk, .junk, .junk, .junk, .junk, .junk, .junk, .junk, .junk, .junk, .junk, .junk, x23, .junk, .junk, .junk, .junk, .junk, .junk, .junk, .junk, .junk, .junk, .junk, .junk, .junk, .junk, .junk, .junk, .junk, .junk, .junk, .junk, .junk, .junk, .junk, .junk, .junk, .junk, .junk, .junk], h⟩
def se2_0_1_5_6_7_8_34 (x0 x1 x5 x6 x7 x8 x34 : PV) (h : PHeap) : St := ⟨[x0, x1, .junk, .junk, .junk, x5, x6, x7, x8, .junk, .junk, .junk, .junk, .junk, .junk, .junk, .junk, .junk, .junk, .junk, .junk, .junk, .junk, .junk, .junk, .junk, .junk, .junk, .junk, .junk, .junk, .junk, .junk, .junk, x34, .junk, .junk, .junk, .junk, .junk, .junk, .junk, .junk, .junk, .junk, .junk, .junk, .junk, .junk, .junk, .junk, .junk], h⟩
noncomputable def K0 (E : Env) (K : PX → St → Res) : PX → St → Res := (kBlock 0 (kSeq (ev (E.cx Tryd.prog kl) (codeAt (bodyOf Tryd.f33) [1, 1, 1, 1])) K))
@[simp] theorem K0_ret (E : Env) (K : PX → St → Res) (s : St) : K0 E K .ret s = K .ret s := by kernel_rfl
noncomputable def K1 (E : Env) (K : PX → St → Res) : PX → St → Res := (kBlock 2 (kSeq (ev (E.cx Tryd.prog kl) (codeAt (bodyOf Tryd.f33) [1, 1, 1, 0, 1, 0, 0, 1, 0, 0, 1, 1, 1])) (kBlock 1 (kSeq (ev (E.cx Tryd.prog kl) (codeAt (bodyOf Tryd.f33) [1, 1, 1, 0, 1, 0, 0, 1, 1])) K))))
@[simp] theorem K1_ret (E : Env) (K : PX → St → Res) (s : St) : K1 E K .ret s = K .ret s := by kernel_rfl
noncomputable def body0 (E : Env) (K : PX → St → Res) (x0 x1 x5 x6 : PV) (h : PHeap) : Res :=
    (E.C fn_spec_l7Cells [x0] h).bind fun v36 =>
    (E.p.bin .shl 3 (.int .i64 1) v36.1).bind fun v37 =>
    (E.p.bin .lss 3 x6 v37).bind fun v38 =>
    condP v38
     (
      (E.C fn_spec_l6Size [x6] v36.2).bind fun v39 =>
      (E.p.bin .neq 3 v39.1 x1).bind fun v40 =>
      condP v40
       (
        (E.p.bin .add 3 x6 (.int .i64 1)).bind fun v41 =>
        K .normal (st0 x0 x1 x5 v41 v39.2))
       (
        (E.p.buildSlice 25 0 [] v39.2).bind fun v42 =>
        loopK (ev (E.cx Tryd.prog spec_TriangleWins.kl) spec_TriangleWins.lp1) E.lf (spec_TriangleWins.st1 x0 x1 x5 x6 v42.1 (.int .i64 0) v42.2) (spec_TriangleWins.K1 E K)))
     (
      K (.exit 0) (se0_0_1_5_6_23 x0 x1 x5 x6 v38 v36.2))
theorem body0_eq (E : Env) (K : PX → St → Res) (x0 x1 x5 x6 : PV) (h : PHeap) : ev (E.cx Tryd.prog kl) lp0 (st0 x0 x1 x5 x6 h) K = body0 E K x0 x1 x5 x6 h := by kernel_rfl
noncomputable def body1 (E : Env) (K : PX → St → Res) (x0 x1 x5 x6 x7 x8 : PV) (h : PHeap) : Res :=
    (E.C fn_spec_l7Cells [x0] h).bind fun v43 =>
    (E.p.bin .lss 3 x8 v43.1).bind fun v44 =>
    condP v44
     (
      (E.p.bin .shr 3 x6 x8).bind fun v45 =>
      (E.p.bin .rem 3 v45 (.int .i64 2)).bind fun v46 =>
      (E.p.bin .sub 3 (.int .i64 2) v46).bind fun v47 =>
      (E.p.buildSlice 25 1 [(0, v47)] v43.2).bind fun v48 =>
      (E.p.append 25 25 x7 v48.1 v48.2).bind fun v49 =>
      (E.p.bin .add 3 x8 (.int .i64 1)).bind fun v50 =>
      K .normal (st1 x0 x1 x5 x6 v49.1 v50 v49.2))
     (
      K (.exit 2) (se2_0_1_5_6_7_8_34 x0 x1 x5 x6 x7 x8 v44 v43.2))
theorem body1_eq (E : Env) (K : PX → St → Res) (x0 x1 x5 x6 x7 x8 : PV) (h : PHeap) : ev (E.cx Tryd.prog kl) lp1 (st1 x0 x1 x5 x6 x7 x8 h) K = body1 E K x0 x1 x5 x6 x7 x8 h := by kernel_rfl
theorem after0_se0_0_1_5_6_23 (E : Env) (x0 x1 x5 x6 x23 : PV) (h : PHeap) : K0 E (kTop Tryd.prog Tryd.f33) (.exit 0) (se0_0_1_5_6_23 x0 x1 x5 x6 x23 h) =
    (resV x5).bind fun v30 =>
    some (v30, h) := by kernel_rfl
theorem after1_se2_0_1_5_6_7_8_34 (E : Env) (K : PX → St → Res) (x0 x1 x5 x6 x7 x8 x34 : PV) (h : PHeap) : K1 E K (.exit 2) (se2_0_1_5_6_7_8_34 x0 x1 x5 x6 x7 x8 x34 h) =
    (E.C fn_spec_LastCell [x0, x7] h).bind fun v31 =>
    (E.p.bin .eql 3 v31.1 (.int .i64 1)).bind fun v32 =>
    condP v32
     (
      (E.p.bin .add 3 x5 (.int .i64 1)).bind fun v33 =>
      (E.p.bin .add 3 x6 (.int .i64 1)).bind fun v34 =>
      K .normal (st0 x0 x1 v33 v34 v31.2))
     (
      (E.p.bin .add 3 x6 (.int .i64 1)).bind fun v35 =>
      K .normal (st0 x0 x1 x5 v35 v31.2)) := by kernel_rfl
noncomputable def main (E : Env) (x0 x1 : PV) (h : PHeap) : Res :=
    (E.C fn_spec_l1In [x0, (.int .i64 1), (.int .i64 4)] h).bind fun v1 =>
    (E.p.un .not v1.1).bind fun v2 =>
    (wantV v2 false).bind fun v3 =>
    (bif v3 then some (x1, v1.2) else some (.tup [], v1.2)).bind fun v4 =>
    (wantV v2 false).bind fun v5 =>
    (bif v5 then some (x0, v4.2) else some (.tup [], v4.2)).bind fun v6 =>
    (wantV v2 false).bind fun v7 =>
    (bif v7 then E.C fn_spec_l7Cells [v6.1] v6.2 else some (.tup [], v6.2)).bind fun v8 =>
    (wantV v2 false).bind fun v9 =>
    (bif v9 then E.C fn_spec_l1In [v4.1, (.int .i64 0), v8.1] v8.2 else some (.tup [], v8.2)).bind fun v10 =>
    (wantV v2 false).bind fun v11 =>
    (bif v11 then pv v10.2 (E.p.un .not v10.1) else some (.tup [], v10.2)).bind fun v12 =>
    (E.p.pick v2 (.bool true) v12.1).bind fun v13 =>
    condP v13
     (
      (resV (.int .i64 (-1))).bind fun v14 =>
      some (v14, v12.2))
     (
      loopK (ev (E.cx Tryd.prog spec_TriangleWins.kl) spec_TriangleWins.lp0) E.lf (spec_TriangleWins.st0 x0 x1 (.int .i64 0) (.int .i64 0) v12.2) (spec_TriangleWins.K0 E (kTop Tryd.prog Tryd.f33)))
theorem main_eq (E : Env) (x0 x1 : PV) (h : PHeap) : runBody (E.cx Tryd.prog kl) Tryd.f33 [x0, x1] h = main E x0 x1 h := by kernel_rfl
theorem call_eq (g : Nat → PV) (lf n : Nat) (x0 x1 : PV) (h : PHeap) : CL g lf (n + 1) fn_spec_TriangleWins [x0, x1] h = main (env g lf n) x0 x1 h := by
  rw [← main_eq]
  show (match Tryd.prog.funcs[33]? with | some fn => if fn.body.isSome then runBody ⟨Tryd.prog, g, call Tryd.prog g KL lf n, KL 33, lf, std Tryd.prog⟩ fn [x0, x1] h else none | none => none) = _
  rw [Tryd.func33]
  kernel_rfl
end spec_TriangleWins
namespace laws_eqIntS
noncomputable def lp0 : Code := (codeAt (bodyOf Tryd.f34) [1, 1, 0, 1, 0, 0])
def st0 (x0 x1 x5 : PV) (h : PHeap) : St := ⟨[x0, x1, .junk, .junk, .junk, x5, .junk, .junk, .junk, .junk, .junk, .junk, .junk, .junk, .junk, .junk, .junk, .junk, .junk, .junk, .junk, .junk, .junk, .junk, .junk, .junk], h⟩
def sr_4 (x4 : PV) (h : PHeap) : St := ⟨[.junk, .junk, .junk, .junk, x4, .junk, .junk, .junk, .junk, .junk, .junk, .junk, .junk, .junk, .junk, .junk, .junk, .junk, .junk, .junk, .junk, .junk, .junk, .junk, .junk, .junk], h⟩
def se0_0_1_5_14 (x0 x1 x5 x14 : PV) (h : PHeap) : St := ⟨[x0, x1, .junk, .junk, .junk, x5, .junk, .junk, .junk, .junk, .junk, .junk, .junk, .junk, x14, .junk, .junk, .junk, .junk, .junk, .junk, .junk, .junk, .junk, .junk, .junk], h⟩
noncomputable def K0 (E : Env) (K : PX → St → Res) : PX → St → Res := (kBlock 0 (kSeq (ev (E.cx Tryd.prog kl) (codeAt (bodyOf Tryd.f34) [1, 1, 1])) K))
@[simp] theorem K0_ret (E : Env) (K : PX → St → Res) (s : St) : K0 E K .ret s = K .ret s := by kernel_rfl
noncomputable def body0 (E : Env) (K : PX → St → Res) (x0 x1 x5 : PV) (h : PHeap) : Res :=
    (E.p.len 25 x0).bind fun v14 =>
    (E.p.bin .lss 3 x5 v14).bind fun v15 =>
    condP v15
     (
      (E.p.indexAddr 25 x0 x5).bind fun v16 =>
      (E.p.load 3 v16 h).bind fun v17 =>
      (E.p.indexAddr 25 x1 x5).bind fun v18 =>
      (E.p.load 3 v18 h).bind fun v19 =>
      (E.p.bin .neq 3 v17 v19).bind fun v20 =>
      condP v20
       (
        K .ret (sr_4 (.bool false) h))
       (
        (E.p.bin .add 3 x5 (.int .i64 1)).bind fun v21 =>
        K .normal (st0 x0 x1 v21 h)))
     (
      K (.exit 0) (se0_0_1_5_14 x0 x1 x5 v15 h))
theorem body0_eq (E : Env) (K : PX → St → Res) (x0 x1 x5 : PV) (h : PHeap) : ev (E.cx Tryd.prog kl) lp0 (st0 x0 x1 x5 h) K = body0 E K x0 x1 x5 h := by kernel_rfl
theorem after0_se0_0_1_5_14 (E : Env) (x0 x1 x5 x14 : PV) (h : PHeap) : K0 E (kTop Tryd.prog Tryd.f34) (.exit 0) (se0_0_1_5_14 x0 x1 x5 x14 h) =
    (resV (.bool true)).bind fun v13 =>
    some (v13, h) := by kernel_rfl
theorem top_sr_4 (x4 : PV) (h : PHeap) : kTop Tryd.prog Tryd.f34 .ret (sr_4 x4 h) =
    (resV x4).bind fun v22 =>
    some (v22, h) := by kernel_rfl
noncomputable def main (E : Env) (x0 x1 : PV) (h : PHeap) : Res :=
    (E.p.len 25 x0).bind fun v1 =>
    (E.p.len 25 x1).bind fun v2 =>
    (E.p.bin .neq 3 v1 v2).bind fun v3 =>
    condP v3
     (
      (resV (.bool false)).bind fun v4 =>
      some (v4, h))
     (
      loopK (ev (E.cx Tryd.prog laws_eqIntS.kl) laws_eqIntS.lp0) E.lf (laws_eqIntS.st0 x0 x1 (.int .i64 0) h) (laws_eqIntS.K0 E (kTop Tryd.prog Tryd.f34)))
theorem main_eq (E : Env) (x0 x1 : PV) (h : PHeap) : runBody (E.cx Tryd.prog kl) Tryd.f34 [x0, x1] h = main E x0 x1 h := by kernel_rfl
theorem call_eq (g : Nat → PV) (lf n : Nat) (x0 x1 : PV) (h : PHeap) : CL g lf (n + 1) fn_laws_eqIntS [x0, x1] h = main (env g lf n) x0 x1 h := by
  rw [← main_eq]
  show (match Tryd.prog.funcs[34]? with | some fn => if fn.body.isSome then runBody ⟨Tryd.prog, g, call Tryd.prog g KL lf n, KL 34, lf, std Tryd.prog⟩ fn [x0, x1] h else none | none => none) = _
  rw [Tryd.func34]
  kernel_rfl
end laws_eqIntS
namespace laws_markIntS
noncomputable def lp0 : Code := (codeAt (bodyOf Tryd.f35) [1, 0, 1, 0, 0])
def st0 (x0 x1 x5 : PV) (h : PHeap) : St := ⟨[x0, x1, .junk, .junk, .junk, x5, .junk, .junk, .junk, .junk, .junk, .junk, .junk, .junk, .junk, .junk, .junk, .junk, .junk], h⟩
def se0_0_1_5_9 (x0 x1 x5 x9 : PV) (h : PHeap) : St := ⟨[x0, x1, .junk, .junk, .junk, x5, .junk, .junk, .junk, x9, .junk, .junk, .junk, .junk, .junk, .junk, .junk, .junk, .junk], h⟩
noncomputable def K0 (E : Env) (K : PX → St → Res) : PX → St → Res := (kBlock 0 (kSeq (ev (E.cx Tryd.prog kl) (codeAt (bodyOf Tryd.f35) [1, 1])) K))
@[simp] theorem K0_ret (E : Env) (K : PX → St → Res) (s : St) : K0 E K .ret s = K .ret s := by kernel_rfl
noncomputable def body0 (E : Env) (K : PX → St → Res) (x0 x1 x5 : PV) (h : PHeap) : Res :=
    (E.p.len 25 x0).bind fun v8 =>
    (E.p.bin .lss 3 x5 v8).bind fun v9 =>
    condP v9
     (
      (E.p.indexAddr 25 x0 x5).bind fun v10 =>
      (E.p.store 3 v10 x1 h).bind fun v11 =>
      (E.p.bin .add 3 x1 (.int .i64 1)).bind fun v12 =>
      (E.p.bin .add 3 x5 (.int .i64 1)).bind fun v13 =>
      K .normal (st0 x0 v12 v13 v11))
     (
      K (.exit 0) (se0_0_1_5_9 x0 x1 x5 v9 h))
theorem body0_eq (E : Env) (K : PX → St → Res) (x0 x1 x5 : PV) (h : PHeap) : ev (E.cx Tryd.prog kl) lp0 (st0 x0 x1 x5 h) K = body0 E K x0 x1 x5 h := by kernel_rfl
theorem after0_se0_0_1_5_9 (E : Env) (x0 x1 x5 x9 : PV) (h : PHeap) : K0 E (kTop Tryd.prog Tryd.f35) (.exit 0) (se0_0_1_5_9 x0 x1 x5 x9 h) =
    (resV x1).bind fun v7 =>
    some (v7, h) := by kernel_rfl
noncomputable def main (E : Env) (x0 x1 : PV) (h : PHeap) : Res :=
    loopK (ev (E.cx Tryd.prog laws_markIntS.kl) laws_markIntS.lp0) E.lf (laws_markIntS.st0 x0 x1 (.int .i64 0) h) (laws_markIntS.K0 E (kTop Tryd.prog Tryd.f35))
theorem main_eq (E : Env) (x0 x1 : PV) (h : PHeap) : runBody (E.cx Tryd.prog kl) Tryd.f35 [x0, x1] h = main E x0 x1 h := by kernel_rfl
theorem call_eq (g : Nat → PV) (lf n : Nat) (x0 x1 : PV) (h : PHeap) : CL g lf (n + 1) fn_laws_markIntS [x0, x1] h = main (env g lf n) x0 x1 h := by
  rw [← main_eq]
  show (match Tryd.prog.funcs[35]? with | some fn => if fn.body.isSome then runBody ⟨Tryd.prog, g, call Tryd.prog g KL lf n, KL 35, lf, std Tryd.prog⟩ fn [x0, x1] h else none | none => none) = _
  rw [Tryd.func35]
  kernel_rfl
end laws_markIntS
namespace laws_heldIntS
noncomputable def lp0 : Code := (codeAt (bodyOf Tryd.f36) [1, 0, 1, 0, 0])
def st0 (x0 x1 x5 : PV) (h : PHeap) : St := ⟨[x0, x1, .junk, .junk, .junk, x5, .junk, .junk, .junk, .junk, .junk, .junk, .junk, .junk, .junk, .junk, .junk, .junk, .junk, .junk, .junk], h⟩
def sr_4 (x4 : PV) (h : PHeap) : St := ⟨[.junk, .junk, .junk, .junk, x4, .junk, .junk, .junk, .junk, .junk, .junk, .junk, .junk, .junk, .junk, .junk, .junk, .junk, .junk, .junk, .junk], h⟩
def se0_0_1_5_9 (x0 x1 x5 x9 : PV) (h : PHeap) : St := ⟨[x0, x1, .junk, .junk, .junk, x5, .junk, .junk, .junk, x9, .junk, .junk, .junk, .junk, .junk, .junk, .junk, .junk, .junk, .junk, .junk], h⟩
noncomputable def K0 (E : Env) (K : PX → St → Res) : PX → St → Res := (kBlock 0 (kSeq (ev (E.cx Tryd.prog kl) (codeAt (bodyOf Tryd.f36) [1, 1])) K))
@[simp] theorem K0_ret (E : Env) (K : PX → St → Res) (s : St) : K0 E K .ret s = K .ret s := by kernel_rfl
noncomputable def body0 (E : Env) (K : PX → St → Res) (x0 x1 x5 : PV) (h : PHeap) : Res :=
    (E.p.len 25 x0).bind fun v9 =>
    (E.p.bin .lss 3 x5 v9).bind fun v10 =>
    condP v10
     (
      (E.p.indexAddr 25 x0 x5).bind fun v11 =>
      (E.p.load 3 v11 h).bind fun v12 =>
      (E.p.bin .neq 3 v12 x1).bind fun v13 =>
      condP v13
       (
        K .ret (sr_4 (.int .i64 (-1)) h))
       (
        (E.p.bin .add 3 x1 (.int .i64 1)).bind fun v14 =>
        (E.p.bin .add 3 x5 (.int .i64 1)).bind fun v15 =>
        K .normal (st0 x0 v14 v15 h)))
     (
      K (.exit 0) (se0_0_1_5_9 x0 x1 x5 v10 h))
theorem body0_eq (E : Env) (K : PX → St → Res) (x0 x1 x5 : PV) (h : PHeap) : ev (E.cx Tryd.prog kl) lp0 (st0 x0 x1 x5 h) K = body0 E K x0 x1 x5 h := by kernel_rfl
theorem after0_se0_0_1_5_9 (E : Env) (x0 x1 x5 x9 : PV) (h : PHeap) : K0 E (kTop Tryd.prog Tryd.f36) (.exit 0) (se0_0_1_5_9 x0 x1 x5 x9 h) =
    (resV x1).bind fun v8 =>
    some (v8, h) := by kernel_rfl
theorem top_sr_4 (x4 : PV) (h : PHeap) : kTop Tryd.prog Tryd.f36 .ret (sr_4 x4 h) =
    (resV x4).bind fun v16 =>
    some (v16, h) := by kernel_rfl
noncomputable def main (E : Env) (x0 x1 : PV) (h : PHeap) : Res :=
    loopK (ev (E.cx Tryd.prog laws_heldIntS.kl) laws_heldIntS.lp0) E.lf (laws_heldIntS.st0 x0 x1 (.int .i64 0) h) (laws_heldIntS.K0 E (kTop Tryd.prog Tryd.f36))
theorem main_eq (E : Env) (x0 x1 : PV) (h : PHeap) : runBody (E.cx Tryd.prog kl) Tryd.f36 [x0, x1] h = main E x0 x1 h := by kernel_rfl
theorem call_eq (g : Nat → PV) (lf n : Nat) (x0 x1 : PV) (h : PHeap) : CL g lf (n + 1) fn_laws_heldIntS [x0, x1] h = main (env g lf n) x0 x1 h := by
  rw [← main_eq]
  show (match Tryd.prog.funcs[36]? with | some fn => if fn.body.isSome then runBody ⟨Tryd.prog, g, call Tryd.prog g KL lf n, KL 36, lf, std Tryd.prog⟩ fn [x0, x1] h else none | none => none) = _
  rw [Tryd.func36]
  kernel_rfl
end laws_heldIntS
namespace laws_toIntS
noncomputable def lp0 : Code := (codeAt (bodyOf Tryd.f37) [1, 1, 0, 1, 0, 0])
def st0 (x0 x3 x4 : PV) (h : PHeap) : St := ⟨[x0, .junk, .junk, x3, x4, .junk, .junk, .junk, .junk, .junk, .junk, .junk, .junk, .junk, .junk, .junk, .junk, .junk, .junk, .junk, .junk, .junk], h⟩
def se0_0_3_4_11 (x0 x3 x4 x11 : PV) (h : PHeap) : St := ⟨[x0, .junk, .junk, x3, x4, .junk, .junk, .junk, .junk, .junk, .junk, x11, .junk, .junk, .junk, .junk, .junk, .junk, .junk, .junk, .junk, .junk], h⟩
noncomputable def K0 (E : Env) (K : PX → St → Res) : PX → St → Res := (kBlock 0 (kSeq (ev (E.cx Tryd.prog kl) (codeAt (bodyOf Tryd.f37) [1, 1, 1])) K))
@[simp] theorem K0_ret (E : Env) (K : PX → St → Res) (s : St) : K0 E K .ret s = K .ret s := by kernel_rfl
noncomputable def body0 (E : Env) (K : PX → St → Res) (x0 x3 x4 : PV) (h : PHeap) : Res :=
    (E.p.len 25 x0).bind fun v11 =>
    (E.p.bin .lss 3 x4 v11).bind fun v12 =>
    condP v12
     (
      (E.p.indexAddr 25 x0 x4).bind fun v13 =>
      (E.p.load 3 v13 h).bind fun v14 =>
      (E.p.indexAddr 25 x3 x4).bind fun v15 =>
      (E.p.store 3 v15 v14 h).bind fun v16 =>
      (E.p.bin .add 3 x4 (.int .i64 1)).bind fun v17 =>
      K .normal (st0 x0 x3 v17 v16))
     (
      K (.exit 0) (se0_0_3_4_11 x0 x3 x4 v12 h))
theorem body0_eq (E : Env) (K : PX → St → Res) (x0 x3 x4 : PV) (h : PHeap) : ev (E.cx Tryd.prog kl) lp0 (st0 x0 x3 x4 h) K = body0 E K x0 x3 x4 h := by kernel_rfl
theorem after0_se0_0_3_4_11 (E : Env) (x0 x3 x4 x11 : PV) (h : PHeap) : K0 E (kTop Tryd.prog Tryd.f37) (.exit 0) (se0_0_3_4_11 x0 x3 x4 x11 h) =
    (resV x3).bind fun v10 =>
    some (v10, h) := by kernel_rfl
noncomputable def main (E : Env) (x0 : PV) (h : PHeap) : Res :=
    (E.p.len 25 x0).bind fun v1 =>
    (E.p.make 25 v1 v1 h).bind fun v2 =>
    loopK (ev (E.cx Tryd.prog laws_toIntS.kl) laws_toIntS.lp0) E.lf (laws_toIntS.st0 x0 v2.1 (.int .i64 0) v2.2) (laws_toIntS.K0 E (kTop Tryd.prog Tryd.f37))
theorem main_eq (E : Env) (x0 : PV) (h : PHeap) : runBody (E.cx Tryd.prog kl) Tryd.f37 [x0] h = main E x0 h := by kernel_rfl
theorem call_eq (g : Nat → PV) (lf n : Nat) (x0 : PV) (h : PHeap) : CL g lf (n + 1) fn_laws_toIntS [x0] h = main (env g lf n) x0 h := by
  rw [← main_eq]
  show (match Tryd.prog.funcs[37]? with | some fn => if fn.body.isSome then runBody ⟨Tryd.prog, g, call Tryd.prog g KL lf n, KL 37, lf, std Tryd.prog⟩ fn [x0] h else none | none => none) = _
  rw [Tryd.func37]
  kernel_rfl
end laws_toIntS
namespace spec_l20Open
noncomputable def main (E : Env) (x0 : PV) (h : PHeap) : Res :=
    (E.p.len 22 x0).bind fun v1 =>
    (E.p.bin .gtr 3 v1 (.int .i64 2000)).bind fun v2 =>
    condP v2
     (
      (E.p.slice 22 x0 none (some (.int .i64 2000)) h).bind fun v3 =>
      (E.p.build 57 [(0, v3)]).bind fun v4 =>
      (E.p.box v4 h).bind fun v5 =>
      (resV v5.1).bind fun v6 =>
      some (v6, v5.2))
     (
      (E.p.build 57 [(0, x0)]).bind fun v7 =>
      (E.p.box v7 h).bind fun v8 =>
      (resV v8.1).bind fun v9 =>
      some (v9, v8.2))
theorem main_eq (E : Env) (x0 : PV) (h : PHeap) : runBody (E.cx Tryd.prog kl) Tryd.f38 [x0] h = main E x0 h := by kernel_rfl
theorem call_eq (g : Nat → PV) (lf n : Nat) (x0 : PV) (h : PHeap) : CL g lf (n + 1) fn_spec_l20Open [x0] h = main (env g lf n) x0 h := by
  rw [← main_eq]
  show (match Tryd.prog.funcs[38]? with | some fn => if fn.body.isSome then runBody ⟨Tryd.prog, g, call Tryd.prog g KL lf n, KL 38, lf, std Tryd.prog⟩ fn [x0] h else none | none => none) = _
  rw [Tryd.func38]
  kernel_rfl
end spec_l20Open
namespace spec_l20Rd_pick
noncomputable def main (E : Env) (x0 x1 : PV) (h : PHeap) : Res :=
    (E.p.ptr x0).bind fun v1 =>
    (E.p.fieldAddr 57 v1 1).bind fun v2 =>
    (E.p.load 3 v2 h).bind fun v3 =>
    (E.p.bin .add 3 v3 (.int .i64 1)).bind fun v4 =>
    (E.p.ptr x0).bind fun v5 =>
    (E.p.fieldAddr 57 v5 1).bind fun v6 =>
    (E.p.store 3 v6 v4 h).bind fun v7 =>
    (E.p.bin .lss 3 x1 (.int .i64 1)).bind fun v8 =>
    (wantV v8 false).bind fun v9 =>
    (bif v9 then some (x0, v7) else some (.tup [], v7)).bind fun v10 =>
    (wantV v8 false).bind fun v11 =>
    (bif v11 then pv v10.2 (E.p.ptr v10.1) else some (.tup [], v10.2)).bind fun v12 =>
    (wantV v8 false).bind fun v13 =>
    (bif v13 then pv v12.2 (E.p.fieldAddr 57 v12.1 0) else some (.tup [], v12.2)).bind fun v14 =>
    (wantV v8 false).bind fun v15 =>
    (bif v15 then pv v14.2 (E.p.load 22 v14.1 v14.2) else some (.tup [], v14.2)).bind fun v16 =>
    (wantV v8 false).bind fun v17 =>
    (bif v17 then pv v16.2 (E.p.len 22 v16.1) else some (.tup [], v16.2)).bind fun v18 =>
    (wantV v8 false).bind fun v19 =>
    (bif v19 then pv v18.2 (E.p.bin .eql 3 v18.1 (.int .i64 0)) else some (.tup [], v18.2)).bind fun v20 =>
    (E.p.pick v8 (.bool true) v20.1).bind fun v21 =>
    condP v21
     (
      (resV (.int .i64 0)).bind fun v22 =>
      some (v22, v20.2))
     (
      (E.p.ptr x0).bind fun v23 =>
      (E.p.fieldAddr 57 v23 1).bind fun v24 =>
      (E.p.load 3 v24 v20.2).bind fun v25 =>
      (E.p.bin .sub 3 v25 (.int .i64 1)).bind fun v26 =>
      (E.p.ptr x0).bind fun v27 =>
      (E.p.fieldAddr 57 v27 0).bind fun v28 =>
      (E.p.load 22 v28 v20.2).bind fun v29 =>
      (E.p.len 22 v29).bind fun v30 =>
      (E.p.bin .lss 3 v26 v30).bind fun v31 =>
      condP v31
       (
        (E.p.ptr x0).bind fun v32 =>
        (E.p.fieldAddr 57 v32 0).bind fun v33 =>
        (E.p.load 22 v33 v20.2).bind fun v34 =>
        (E.p.indexAddr 22 v34 v26).bind fun v35 =>
        (E.p.load 5 v35 v20.2).bind fun v36 =>
        (E.p.conv 5 3 v36).bind fun v37 =>
        (E.p.bin .rem 3 v37 x1).bind fun v38 =>
        (resV v38).bind fun v39 =>
        some (v39, v20.2))
       (
        (E.p.ptr x0).bind fun v40 =>
        (E.p.fieldAddr 57 v40 0).bind fun v41 =>
        (E.p.load 22 v41 v20.2).bind fun v42 =>
        (E.p.ptr x0).bind fun v43 =>
        (E.p.fieldAddr 57 v43 0).bind fun v44 =>
        (E.p.load 22 v44 v20.2).bind fun v45 =>
        (E.p.len 22 v45).bind fun v46 =>
        (E.p.bin .rem 3 v26 v46).bind fun v47 =>
        (E.p.indexAddr 22 v42 v47).bind fun v48 =>
        (E.p.load 5 v48 v20.2).bind fun v49 =>
        (E.p.conv 5 3 v49).bind fun v50 =>
        (E.p.bin .mul 3 v50 (.int .i64 131)).bind fun v51 =>
        (E.p.ptr x0).bind fun v52 =>
        (E.p.fieldAddr 57 v52 0).bind fun v53 =>
        (E.p.load 22 v53 v20.2).bind fun v54 =>
        (E.p.bin .mul 3 v26 (.int .i64 7)).bind fun v55 =>
        (E.p.bin .add 3 v55 (.int .i64 3)).bind fun v56 =>
        (E.p.ptr x0).bind fun v57 =>
        (E.p.fieldAddr 57 v57 0).bind fun v58 =>
        (E.p.load 22 v58 v20.2).bind fun v59 =>
        (E.p.len 22 v59).bind fun v60 =>
        (E.p.bin .rem 3 v56 v60).bind fun v61 =>
        (E.p.indexAddr 22 v54 v61).bind fun v62 =>
        (E.p.load 5 v62 v20.2).bind fun v63 =>
        (E.p.conv 5 3 v63).bind fun v64 =>
        (E.p.bin .mul 3 v64 (.int .i64 1117)).bind fun v65 =>
        (E.p.bin .add 3 v51 v65).bind fun v66 =>
        (E.p.bin .mul 3 v26 (.int .i64 29)).bind fun v67 =>
        (E.p.bin .add 3 v66 v67).bind fun v68 =>
        (E.p.ptr x0).bind fun v69 =>
        (E.p.fieldAddr 57 v69 0).bind fun v70 =>
        (E.p.load 22 v70 v20.2).bind fun v71 =>
        (E.p.len 22 v71).bind fun v72 =>
        (E.p.bin .quo 3 v26 v72).bind fun v73 =>
        (E.p.bin .mul 3 v73 (.int .i64 53)).bind fun v74 =>
        (E.p.bin .add 3 v68 v74).bind fun v75 =>
        (E.p.bin .quo 3 v75 (.int .i64 64)).bind fun v76 =>
        (E.p.bin .xor 3 v75 v76).bind fun v77 =>
        (E.p.bin .rem 3 v77 x1).bind fun v78 =>
        (resV v78).bind fun v79 =>
        some (v79, v20.2)))
theorem main_eq (E : Env) (x0 x1 : PV) (h : PHeap) : runBody (E.cx Tryd.prog kl) Tryd.f39 [x0, x1] h = main E x0 x1 h := by kernel_rfl
theorem call_eq (g : Nat → PV) (lf n : Nat) (x0 x1 : PV) (h : PHeap) : CL g lf (n + 1) fn_spec_l20Rd_pick [x0, x1] h = main (env g lf n) x0 x1 h := by
  rw [← main_eq]
  show (match Tryd.prog.funcs[39]? with | some fn => if fn.body.isSome then runBody ⟨Tryd.prog, g, call Tryd.prog g KL lf n, KL 39, lf, std Tryd.prog⟩ fn [x0, x1] h else none | none => none) = _
  rw [Tryd.func39]
  kernel_rfl
end spec_l20Rd_pick
namespace impl_triangleSideOk
noncomputable def main (E : Env) (x0 : PV) (h : PHeap) : Res :=
    (E.p.bin .geq 3 x0 (.int .i64 1)).bind fun v1 =>
    (wantV v1 true).bind fun v2 =>
    (bif v2 then some (x0, h) else some (.tup [], h)).bind fun v3 =>
    (wantV v1 true).bind fun v4 =>
    (bif v4 then pv v3.2 (E.p.bin .leq 3 v3.1 (.int .i64 4)) else some (.tup [], v3.2)).bind fun v5 =>
    (E.p.pick v1 v5.1 (.bool false)).bind fun v6 =>
    (resV v6).bind fun v7 =>
    some (v7, v5.2)
theorem main_eq (E : Env) (x0 : PV) (h : PHeap) : runBody (E.cx Tryd.prog kl) Tryd.f40 [x0] h = main E x0 h := by kernel_rfl
theorem call_eq (g : Nat → PV) (lf n : Nat) (x0 : PV) (h : PHeap) : CL g lf (n + 1) fn_impl_triangleSideOk [x0] h = main (env g lf n) x0 h := by
  rw [← main_eq]
  show (match Tryd.prog.funcs[40]? with | some fn => if fn.body.isSome then runBody ⟨Tryd.prog, g, call Tryd.prog g KL lf n, KL 40, lf, std Tryd.prog⟩ fn [x0] h else none | none => none) = _
  rw [Tryd.func40]
  kernel_rfl
end impl_triangleSideOk
namespace impl_triangleSize
noncomputable def main (E : Env) (x0 : PV) (h : PHeap) : Res :=
    (E.C fn_impl_triangleCell [x0, (.int .i64 0)] h).bind fun v1 =>
    (resV v1.1).bind fun v2 =>
    some (v2, v1.2)
theorem main_eq (E : Env) (x0 : PV) (h : PHeap) : runBody (E.cx Tryd.prog kl) Tryd.f41 [x0] h = main E x0 h := by kernel_rfl
theorem call_eq (g : Nat → PV) (lf n : Nat) (x0 : PV) (h : PHeap) : CL g lf (n + 1) fn_impl_triangleSize [x0] h = main (env g lf n) x0 h := by
  rw [← main_eq]
  show (match Tryd.prog.funcs[41]? with | some fn => if fn.body.isSome then runBody ⟨Tryd.prog, g, call Tryd.prog g KL lf n, KL 41, lf, std Tryd.prog⟩ fn [x0] h else none | none => none) = _
  rw [Tryd.func41]
  kernel_rfl
end impl_triangleSize
namespace impl_trianglePlace
noncomputable def lp0 : Code := (codeAt (bodyOf Tryd.f42) [1, 1, 0, 0, 0])
def st0 (x0 x4 : PV) (h : PHeap) : St := ⟨[x0, .junk, .junk, .junk, x4, .junk, .junk, .junk, .junk, .junk, .junk, .junk, .junk, .junk, .junk, .junk, .junk], h⟩
def se0_0_4_9 (x0 x4 x9 : PV) (h : PHeap) : St := ⟨[x0, .junk, .junk, .junk, x4, .junk, .junk, .junk, .junk, x9, .junk, .junk, .junk, .junk, .junk, .junk, .junk], h⟩
noncomputable def K0 (E : Env) (K : PX → St → Res) : PX → St → Res := (kBlock 0 (kSeq (ev (E.cx Tryd.prog kl) (codeAt (bodyOf Tryd.f42) [1, 1, 1])) K))
@[simp] theorem K0_ret (E : Env) (K : PX → St → Res) (s : St) : K0 E K .ret s = K .ret s := by kernel_rfl
noncomputable def body0 (E : Env) (K : PX → St → Res) (x0 x4 : PV) (h : PHeap) : Res :=
    (E.p.bin .add 3 x4 (.int .i64 1)).bind fun v9 =>
    (E.C fn_impl_triangleSize [v9] h).bind fun v10 =>
    (E.p.bin .leq 3 v10.1 x0).bind fun v11 =>
    condP v11
     (
      (E.p.bin .add 3 x4 (.int .i64 1)).bind fun v12 =>
      K .normal (st0 x0 v12 v10.2))
     (
      K (.exit 0) (se0_0_4_9 x0 x4 v11 v10.2))
theorem body0_eq (E : Env) (K : PX → St → Res) (x0 x4 : PV) (h : PHeap) : ev (E.cx Tryd.prog kl) lp0 (st0 x0 x4 h) K = body0 E K x0 x4 h := by kernel_rfl
theorem after0_se0_0_4_9 (E : Env) (x0 x4 x9 : PV) (h : PHeap) : K0 E (kTop Tryd.prog Tryd.f42) (.exit 0) (se0_0_4_9 x0 x4 x9 h) =
    (E.C fn_impl_triangleSize [x4] h).bind fun v5 =>
    (E.p.bin .sub 3 x0 v5.1).bind fun v6 =>
    (resV x4).bind fun v7 =>
    (resV v6).bind fun v8 =>
    some (.tup [v7, v8], v5.2) := by kernel_rfl
noncomputable def main (E : Env) (x0 : PV) (h : PHeap) : Res :=
    loopK (ev (E.cx Tryd.prog impl_trianglePlace.kl) impl_trianglePlace.lp0) E.lf (impl_trianglePlace.st0 x0 (.int .i64 0) h) (impl_trianglePlace.K0 E (kTop Tryd.prog Tryd.f42))
theorem main_eq (E : Env) (x0 : PV) (h : PHeap) : runBody (E.cx Tryd.prog kl) Tryd.f42 [x0] h = main E x0 h := by kernel_rfl
theorem call_eq (g : Nat → PV) (lf n : Nat) (x0 : PV) (h : PHeap) : CL g lf (n + 1) fn_impl_trianglePlace [x0] h = main (env g lf n) x0 h := by
  rw [← main_eq]
  show (match Tryd.prog.funcs[42]? with | some fn => if fn.body.isSome then runBody ⟨Tryd.prog, g, call Tryd.prog g KL lf n, KL 42, lf, std Tryd.prog⟩ fn [x0] h else none | none => none) = _
  rw [Tryd.func42]
  kernel_rfl
end impl_trianglePlace
namespace impl_triangleCell
noncomputable def main (E : Env) (x0 x1 : PV) (h : PHeap) : Res :=
    (E.p.bin .add 3 x0 (.int .i64 1)).bind fun v1 =>
    (E.p.bin .mul 3 x0 v1).bind fun v2 =>
    (E.p.bin .quo 3 v2 (.int .i64 2)).bind fun v3 =>
    (E.p.bin .add 3 v3 x1).bind fun v4 =>
    (resV v4).bind fun v5 =>
    some (v5, h)
theorem main_eq (E : Env) (x0 x1 : PV) (h : PHeap) : runBody (E.cx Tryd.prog kl) Tryd.f43 [x0, x1] h = main E x0 x1 h := by kernel_rfl
theorem call_eq (g : Nat → PV) (lf n : Nat) (x0 x1 : PV) (h : PHeap) : CL g lf (n + 1) fn_impl_triangleCell [x0, x1] h = main (env g lf n) x0 x1 h := by
  rw [← main_eq]
  show (match Tryd.prog.funcs[43]? with | some fn => if fn.body.isSome then runBody ⟨Tryd.prog, g, call Tryd.prog g KL lf n, KL 43, lf, std Tryd.prog⟩ fn [x0, x1] h else none | none => none) = _
  rw [Tryd.func43]
  kernel_rfl
end impl_triangleCell
namespace spec_l1In
noncomputable def main (E : Env) (x0 x1 x2 : PV) (h : PHeap) : Res :=
    (E.p.bin .geq 3 x0 x1).bind fun v1 =>
    (wantV v1 true).bind fun v2 =>
    (bif v2 then some (x0, h) else some (.tup [], h)).bind fun v3 =>
    (wantV v1 true).bind fun v4 =>
    (bif v4 then some (x2, v3.2) else some (.tup [], v3.2)).bind fun v5 =>
    (wantV v1 true).bind fun v6 =>
    (bif v6 then pv v5.2 (E.p.bin .leq 3 v3.1 v5.1) else some (.tup [], v5.2)).bind fun v7 =>
    (E.p.pick v1 v7.1 (.bool false)).bind fun v8 =>
    (resV v8).bind fun v9 =>
    some (v9, v7.2)
theorem main_eq (E : Env) (x0 x1 x2 : PV) (h : PHeap) : runBody (E.cx Tryd.prog kl) Tryd.f44 [x0, x1, x2] h = main E x0 x1 x2 h := by kernel_rfl
theorem call_eq (g : Nat → PV) (lf n : Nat) (x0 x1 x2 : PV) (h : PHeap) : CL g lf (n + 1) fn_spec_l1In [x0, x1, x2] h = main (env g lf n) x0 x1 x2 h := by
  rw [← main_eq]
  show (match Tryd.prog.funcs[44]? with | some fn => if fn.body.isSome then runBody ⟨Tryd.prog, g, call Tryd.prog g KL lf n, KL 44, lf, std Tryd.prog⟩ fn [x0, x1, x2] h else none | none => none) = _
  rw [Tryd.func44]
  kernel_rfl
end spec_l1In
namespace spec_l7Cells
noncomputable def main (E : Env) (x0 : PV) (h : PHeap) : Res :=
    (E.p.bin .add 3 x0 (.int .i64 1)).bind fun v1 =>
    (E.p.bin .mul 3 x0 v1).bind fun v2 =>
    (E.p.bin .quo 3 v2 (.int .i64 2)).bind fun v3 =>
    (resV v3).bind fun v4 =>
    some (v4, h)
theorem main_eq (E : Env) (x0 : PV) (h : PHeap) : runBody (E.cx Tryd.prog kl) Tryd.f45 [x0] h = main E x0 h := by kernel_rfl
theorem call_eq (g : Nat → PV) (lf n : Nat) (x0 : PV) (h : PHeap) : CL g lf (n + 1) fn_spec_l7Cells [x0] h = main (env g lf n) x0 h := by
  rw [← main_eq]
  show (match Tryd.prog.funcs[45]? with | some fn => if fn.body.isSome then runBody ⟨Tryd.prog, g, call Tryd.prog g KL lf n, KL 45, lf, std Tryd.prog⟩ fn [x0] h else none | none => none) = _
  rw [Tryd.func45]
  kernel_rfl
end spec_l7Cells
namespace spec_l2List
noncomputable def lp0 : Code := (codeAt (bodyOf Tryd.f46) [1, 1, 0, 1, 0, 0])
def st0 (x0 x3 x4 : PV) (h : PHeap) : St := ⟨[x0, .junk, .junk, x3, x4, .junk, .junk, .junk, .junk, .junk, .junk, .junk, .junk, .junk, .junk, .junk, .junk, .junk, .junk, .junk, .junk, .junk], h⟩
def se0_0_3_4_9 (x0 x3 x4 x9 : PV) (h : PHeap) : St := ⟨[x0, .junk, .junk, x3, x4, .junk, .junk, .junk, .junk, x9, .junk, .junk, .junk, .junk, .junk, .junk, .junk, .junk, .junk, .junk, .junk, .junk], h⟩
noncomputable def K0 (E : Env) (K : PX → St → Res) : PX → St → Res := (kBlock 0 (kSeq (ev (E.cx Tryd.prog kl) (codeAt (bodyOf Tryd.f46) [1, 1, 1])) K))
@[simp] theorem K0_ret (E : Env) (K : PX → St → Res) (s : St) : K0 E K .ret s = K .ret s := by kernel_rfl
noncomputable def body0 (E : Env) (K : PX → St → Res) (x0 x3 x4 : PV) (h : PHeap) : Res :=
    (E.p.bin .shr 3 x0 x4).bind fun v12 =>
    (E.p.bin .gtr 3 v12 (.int .i64 0)).bind fun v13 =>
    condP v13
     (
      (E.p.bin .shr 3 x0 x4).bind fun v14 =>
      (E.p.bin .rem 3 v14 (.int .i64 2)).bind fun v15 =>
      (E.p.bin .eql 3 v15 (.int .i64 1)).bind fun v16 =>
      condP v16
       (
        (E.p.buildSlice 25 1 [(0, x4)] h).bind fun v17 =>
        (E.p.append 25 25 x3 v17.1 v17.2).bind fun v18 =>
        (E.p.bin .add 3 x4 (.int .i64 1)).bind fun v19 =>
        K .normal (st0 x0 v18.1 v19 v18.2))
       (
        (E.p.bin .add 3 x4 (.int .i64 1)).bind fun v20 =>
        K .normal (st0 x0 x3 v20 h)))
     (
      K (.exit 0) (se0_0_3_4_9 x0 x3 x4 v13 h))
theorem body0_eq (E : Env) (K : PX → St → Res) (x0 x3 x4 : PV) (h : PHeap) : ev (E.cx Tryd.prog kl) lp0 (st0 x0 x3 x4 h) K = body0 E K x0 x3 x4 h := by kernel_rfl
theorem after0_se0_0_3_4_9 (E : Env) (x0 x3 x4 x9 : PV) (h : PHeap) : K0 E (kTop Tryd.prog Tryd.f46) (.exit 0) (se0_0_3_4_9 x0 x3 x4 x9 h) =
    (resV x3).bind fun v11 =>
    some (v11, h) := by kernel_rfl
noncomputable def main (E : Env) (x0 : PV) (h : PHeap) : Res :=
    (E.p.buildSlice 25 0 [] h).bind fun v1 =>
    loopK (ev (E.cx Tryd.prog spec_l2List.kl) spec_l2List.lp0) E.lf (spec_l2List.st0 x0 v1.1 (.int .i64 0) v1.2) (spec_l2List.K0 E (kTop Tryd.prog Tryd.f46))
theorem main_eq (E : Env) (x0 : PV) (h : PHeap) : runBody (E.cx Tryd.prog kl) Tryd.f46 [x0] h = main E x0 h := by kernel_rfl
theorem call_eq (g : Nat → PV) (lf n : Nat) (x0 : PV) (h : PHeap) : CL g lf (n + 1) fn_spec_l2List [x0] h = main (env g lf n) x0 h := by
  rw [← main_eq]
  show (match Tryd.prog.funcs[46]? with | some fn => if fn.body.isSome then runBody ⟨Tryd.prog, g, call Tryd.prog g KL lf n, KL 46, lf, std Tryd.prog⟩ fn [x0] h else none | none => none) = _
  rw [Tryd.func46]
  kernel_rfl
end spec_l2List
namespace spec_l7Near
noncomputable def lp0 : Code := (codeAt (bodyOf Tryd.f47) [1, 1, 0, 1, 0, 0])
def st0 (x0 x3 x4 : PV) (h : PHeap) : St := ⟨[x0, .junk, .junk, x3, x4, .junk, .junk, .junk, .junk, .junk, .junk, .junk, .junk, .junk, .junk, .junk, .junk, .junk, .junk, .junk, .junk, .junk, .junk, .junk, .junk, .junk, .junk, .junk, .junk, .junk, .junk, .junk, .junk, .junk, .junk, .junk, .junk, .junk, .junk, .junk, .junk, .junk, .junk, .junk, .junk, .junk, .junk, .junk, .junk, .junk, .junk, .junk, .junk, .junk, .junk, .junk, .junk, .junk, .junk, .junk, .junk, .junk, .junk, .junk, .junk, .junk, .junk, .junk, .junk, .junk, .junk, .junk, .junk, .junk, .junk, .junk, .junk, .junk, .junk, .junk, .junk, .junk, .junk, .junk, .junk, .junk, .junk, .junk, .junk, .junk, .junk, .junk, .junk, .junk, .junk, .junk, .junk, .junk], h⟩
noncomputable def lp1 : Code := (codeAt (bodyOf Tryd.f47) [1, 1, 0, 1, 0, 0, 1, 0, 0, 1, 1, 0, 1, 0, 0])
def st1 (x0 x3 x4 x5 x6 x7 x8 : PV) (h : PHeap) : St := ⟨[x0, .junk, .junk, x3, x4, x5, x6, x7, x8, .junk, .junk, .junk, .junk, .junk, .junk, .junk, .junk, .junk, .junk, .junk, .junk, .junk, .junk, .junk, .junk, .junk, .junk, .junk, .junk, .junk, .junk, .junk, .junk, .junk, .junk, .junk, .junk, .junk, .junk, .junk, .junk, .junk, .junk, .junk, .junk, .junk, .junk, .junk, .junk, .junk, .junk, .junk, .junk, .junk, .junk, .junk, .junk, .junk, .junk, .junk, .junk, .junk, .junk, .junk, .junk, .junk, .junk, .junk, .junk, .junk, .junk, .junk, .junk, .junk, .junk, .junk, .junk, .junk, .junk, .junk, .junk, .junk, .junk, .junk, .junk, .junk, .junk, .junk, .junk, .junk, .junk, .junk, .junk, .junk, .junk, .junk, .junk, .junk], h⟩
def se0_0_3_4_18 (x0 x3 x4 x18 : PV) (h : PHeap) : St := ⟨[x0, .junk, .junk, x3, x4, .junk, .junk, .junk, .junk, .junk, .junk, .junk, .junk, .junk, .junk, .junk, .junk, .junk, x18, .junk, .junk, .junk, .junk, .junk, .junk, .junk, .junk, .junk, .junk, .junk, .junk, .junk, .junk, .junk, .junk, .junk, .junk, .junk, .junk, .junk, .junk, .junk, .junk, .junk, .junk, .junk, .junk, .junk, .junk, .junk, .junk, .junk, .junk, .junk, .junk, .junk, .junk, .junk, .junk, .junk, .junk, .junk, .junk, .junk, .junk, .junk, .junk, .junk, .junk, .junk, .junk, .junk, .junk, .junk, .junk, .junk, .junk, .junk, .junk, .junk, .junk, .junk, .junk, .junk, .junk, .junk, .junk, .junk, .junk, .junk, .junk, .junk, .junk, .junk, .junk, .junk, .junk, .junk], h⟩
def se2_0_3_4_5_6_7_8_29 (x0 x3 x4 x5 x6 x7 x8 x29 : PV) (h : PHeap) : St := ⟨[x0, .junk, .junk, x3, x4, x5, x6, x7, x8, .junk, .junk, .junk, .junk, .junk, .junk, .junk, .junk, .junk, .junk, .junk, .junk, .junk, .junk, .junk, .junk, .junk, .junk, .junk, .junk, x29, .junk, .junk, .junk, .junk, .junk, .junk, .junk, .junk, .junk, .junk, .junk, .junk, .junk, .junk, .junk, .junk, .junk, .junk, .junk, .junk, .junk, .junk, .junk, .junk, .junk, .junk, .junk, .junk, .junk, .junk, .junk, .junk, .junk, .junk, .junk, .junk, .junk, .junk, .junk, .junk, .junk, .junk, .junk, .junk, .junk, .junk, .junk, .junk, .junk, .junk, .junk, .junk, .junk, .junk, .junk, .junk, .junk, .junk, .junk, .junk, .junk, .junk, .junk, .junk, .junk, .junk, .junk, .junk], h⟩
noncomputable def K0 (E : Env) (K : PX → St → Res) : PX → St → Res := (kBlock 0 (kSeq (ev (E.cx Tryd.prog kl) (codeAt (bodyOf Tryd.f47) [1, 1, 1])) K))
@[simp] theorem K0_ret (E : Env) (K : PX → St → Res) (s : St) : K0 E K .ret s = K .ret s := by kernel_rfl
noncomputable def K1 (E : Env) (K : PX → St → Res) : PX → St → Res := (kBlock 2 (kSeq (ev (E.cx Tryd.prog kl) (codeAt (bodyOf Tryd.f47) [1, 1, 0, 1, 0, 0, 1, 0, 0, 1, 1, 1])) (kBlock 1 (kSeq (ev (E.cx Tryd.prog kl) (codeAt (bodyOf Tryd.f47) [1, 1, 0, 1, 0, 0, 1, 1])) K))))
@[simp] theorem K1_ret (E : Env) (K : PX → St → Res) (s : St) : K1 E K .ret s = K .ret s := by kernel_rfl
noncomputable def body0 (E : Env) (K : PX → St → Res) (x0 x3 x4 : PV) (h : PHeap) : Res :=
    (E.C fn_spec_l7Cells [x0] h).bind fun v90 =>
    (E.p.bin .lss 3 x4 v90.1).bind fun v91 =>
    condP v91
     (
      (E.C fn_spec_l7Place [x4] v90.2).bind fun v92 =>
      (E.p.extract v92.1 0).bind fun v93 =>
      (E.p.extract v92.1 1).bind fun v94 =>
      loopK (ev (E.cx Tryd.prog spec_l7Near.kl) spec_l7Near.lp1) E.lf (spec_l7Near.st1 x0 x3 x4 (.int .i64 0) v93 v94 (.int .i64 0) v92.2) (spec_l7Near.K1 E K))
     (
      K (.exit 0) (se0_0_3_4_18 x0 x3 x4 v91 v90.2))
theorem body0_eq (E : Env) (K : PX → St → Res) (x0 x3 x4 : PV) (h : PHeap) : ev (E.cx Tryd.prog kl) lp0 (st0 x0 x3 x4 h) K = body0 E K x0 x3 x4 h := by kernel_rfl
noncomputable def body1 (E : Env) (K : PX → St → Res) (x0 x3 x4 x5 x6 x7 x8 : PV) (h : PHeap) : Res :=
    (E.C fn_spec_l7Cells [x0] h).bind fun v95 =>
    (E.p.bin .lss 3 x8 v95.1).bind fun v96 =>
    condP v96
     (
      (E.C fn_spec_l7Place [x8] v95.2).bind fun v97 =>
      (E.p.extract v97.1 0).bind fun v98 =>
      (E.p.extract v97.1 1).bind fun v99 =>
      (E.p.bin .eql 3 v98 x6).bind fun v100 =>
      (wantV v100 true).bind fun v101 =>
      (bif v101 then some (v99, v97.2) else some (.tup [], v97.2)).bind fun v102 =>
      (wantV v100 true).bind fun v103 =>
      (bif v103 then some (x7, v102.2) else some (.tup [], v102.2)).bind fun v104 =>
      (wantV v100 true).bind fun v105 =>
      (bif v105 then pv v104.2 (E.p.bin .sub 3 v104.1 (.int .i64 1)) else some (.tup [], v104.2)).bind fun v106 =>
      (wantV v100 true).bind fun v107 =>
      (bif v107 then pv v106.2 (E.p.bin .eql 3 v102.1 v106.1) else some (.tup [], v106.2)).bind fun v108 =>
      (wantV v100 true).bind fun v109 =>
      (bif v109 then some (v108.1, v108.2) else some (.tup [], v108.2)).bind fun v110 =>
      (wantV v110.1 false).bind fun v111 =>
      (bif v111 then some (v99, v110.2) else some (.tup [], v110.2)).bind fun v112 =>
      (wantV v110.1 false).bind fun v113 =>
      (bif v113 then some (x7, v112.2) else some (.tup [], v112.2)).bind fun v114 =>
      (wantV v110.1 false).bind fun v115 =>
      (bif v115 then pv v114.2 (E.p.bin .add 3 v114.1 (.int .i64 1)) else some (.tup [], v114.2)).bind fun v116 =>
      (wantV v110.1 false).bind fun v117 =>
      (bif v117 then pv v116.2 (E.p.bin .eql 3 v112.1 v116.1) else some (.tup [], v116.2)).bind fun v118 =>
      (wantV v100 true).bind fun v119 =>
      (bif v119 then pv v118.2 (E.p.pick v110.1 (.bool true) v118.1) else some (.tup [], v118.2)).bind fun v120 =>
      (E.p.pick v100 v120.1 (.bool false)).bind fun v121 =>
      (E.p.bin .sub 3 x6 (.int .i64 1)).bind fun v122 =>
      (E.p.bin .eql 3 v98 v122).bind fun v123 =>
      (wantV v123 true).bind fun v124 =>
      (bif v124 then some (v99, v120.2) else some (.tup [], v120.2)).bind fun v125 =>
      (wantV v123 true).bind fun v126 =>
      (bif v126 then some (x7, v125.2) else some (.tup [], v125.2)).bind fun v127 =>
      (wantV v123 true).bind fun v128 =>
      (bif v128 then pv v127.2 (E.p.bin .sub 3 v127.1 (.int .i64 1)) else some (.tup [], v127.2)).bind fun v129 =>
      (wantV v123 true).bind fun v130 =>
      (bif v130 then pv v129.2 (E.p.bin .eql 3 v125.1 v129.1) else some (.tup [], v129.2)).bind fun v131 =>
      (wantV v123 true).bind fun v132 =>
      (bif v132 then some (v131.1, v131.2) else some (.tup [], v131.2)).bind fun v133 =>
      (wantV v133.1 false).bind fun v134 =>
      (bif v134 then some (v99, v133.2) else some (.tup [], v133.2)).bind fun v135 =>
      (wantV v133.1 false).bind fun v136 =>
      (bif v136 then some (x7, v135.2) else some (.tup [], v135.2)).bind fun v137 =>
      (wantV v133.1 false).bind fun v138 =>
      (bif v138 then pv v137.2 (E.p.bin .eql 3 v135.1 v137.1) else some (.tup [], v137.2)).bind fun v139 =>
      (wantV v123 true).bind fun v140 =>
      (bif v140 then pv v139.2 (E.p.pick v133.1 (.bool true) v139.1) else some (.tup [], v139.2)).bind fun v141 =>
      (E.p.pick v123 v141.1 (.bool false)).bind fun v142 =>
      (E.p.bin .add 3 x6 (.int .i64 1)).bind fun v143 =>
      (E.p.bin .eql 3 v98 v143).bind fun v144 =>
      (wantV v144 true).bind fun v145 =>
      (bif v145 then some (v99, v141.2) else some (.tup [], v141.2)).bind fun v146 =>
      (wantV v144 true).bind fun v147 =>
      (bif v147 then some (x7, v146.2) else some (.tup [], v146.2)).bind fun v148 =>
      (wantV v144 true).bind fun v149 =>
      (bif v149 then pv v148.2 (E.p.bin .eql 3 v146.1 v148.1) else some (.tup [], v148.2)).bind fun v150 =>
      (wantV v144 true).bind fun v151 =>
      (bif v151 then some (v150.1, v150.2) else some (.tup [], v150.2)).bind fun v152 =>
      (wantV v152.1 false).bind fun v153 =>
      (bif v153 then some (v99, v152.2) else some (.tup [], v152.2)).bind fun v154 =>
      (wantV v152.1 false).bind fun v155 =>
      (bif v155 then some (x7, v154.2) else some (.tup [], v154.2)).bind fun v156 =>
      (wantV v152.1 false).bind fun v157 =>
      (bif v157 then pv v156.2 (E.p.bin .add 3 v156.1 (.int .i64 1)) else some (.tup [], v156.2)).bind fun v158 =>
      (wantV v152.1 false).bind fun v159 =>
      (bif v159 then pv v158.2 (E.p.bin .eql 3 v154.1 v158.1) else some (.tup [], v158.2)).bind fun v160 =>
      (wantV v144 true).bind fun v161 =>
      (bif v161 then pv v160.2 (E.p.pick v152.1 (.bool true) v160.1) else some (.tup [], v160.2)).bind fun v162 =>
      (E.p.pick v144 v162.1 (.bool false)).bind fun v163 =>
      (wantV v121 false).bind fun v164 =>
      (bif v164 then some (v142, v162.2) else some (.tup [], v162.2)).bind fun v165 =>
      (E.p.pick v121 (.bool true) v165.1).bind fun v166 =>
      (wantV v166 false).bind fun v167 =>
      (bif v167 then some (v163, v165.2) else some (.tup [], v165.2)).bind fun v168 =>
      (E.p.pick v166 (.bool true) v168.1).bind fun v169 =>
      condP v169
       (
        (E.p.bin .shl 3 (.int .i64 1) x8).bind fun v170 =>
        (E.p.bin .or 3 x5 v170).bind fun v171 =>
        (E.p.bin .add 3 x8 (.int .i64 1)).bind fun v172 =>
        K .normal (st1 x0 x3 x4 v171 x6 x7 v172 v168.2))
       (
        (E.p.bin .add 3 x8 (.int .i64 1)).bind fun v173 =>
        K .normal (st1 x0 x3 x4 x5 x6 x7 v173 v168.2)))
     (
      K (.exit 2) (se2_0_3_4_5_6_7_8_29 x0 x3 x4 x5 x6 x7 x8 v96 v95.2))
theorem body1_eq (E : Env) (K : PX → St → Res) (x0 x3 x4 x5 x6 x7 x8 : PV) (h : PHeap) : ev (E.cx Tryd.prog kl) lp1 (st1 x0 x3 x4 x5 x6 x7 x8 h) K = body1 E K x0 x3 x4 x5 x6 x7 x8 h := by kernel_rfl
theorem after0_se0_0_3_4_18 (E : Env) (x0 x3 x4 x18 : PV) (h : PHeap) : K0 E (kTop Tryd.prog Tryd.f47) (.exit 0) (se0_0_3_4_18 x0 x3 x4 x18 h) =
    (resV x3).bind fun v86 =>
    some (v86, h) := by kernel_rfl
theorem after1_se2_0_3_4_5_6_7_8_29 (E : Env) (K : PX → St → Res) (x0 x3 x4 x5 x6 x7 x8 x29 : PV) (h : PHeap) : K1 E K (.exit 2) (se2_0_3_4_5_6_7_8_29 x0 x3 x4 x5 x6 x7 x8 x29 h) =
    (E.p.buildSlice 25 1 [(0, x5)] h).bind fun v87 =>
    (E.p.append 25 25 x3 v87.1 v87.2).bind fun v88 =>
    (E.p.bin .add 3 x4 (.int .i64 1)).bind fun v89 =>
    K .normal (st0 x0 v88.1 v89 v88.2) := by kernel_rfl
noncomputable def main (E : Env) (x0 : PV) (h : PHeap) : Res :=
    (E.p.buildSlice 25 0 [] h).bind fun v1 =>
    loopK (ev (E.cx Tryd.prog spec_l7Near.kl) spec_l7Near.lp0) E.lf (spec_l7Near.st0 x0 v1.1 (.int .i64 0) v1.2) (spec_l7Near.K0 E (kTop Tryd.prog Tryd.f47))
theorem main_eq (E : Env) (x0 : PV) (h : PHeap) : runBody (E.cx Tryd.prog kl) Tryd.f47 [x0] h = main E x0 h := by kernel_rfl
theorem call_eq (g : Nat → PV) (lf n : Nat) (x0 : PV) (h : PHeap) : CL g lf (n + 1) fn_spec_l7Near [x0] h = main (env g lf n) x0 h := by
  rw [← main_eq]
  show (match Tryd.prog.funcs[47]? with | some fn => if fn.body.isSome then runBody ⟨Tryd.prog, g, call Tryd.prog g KL lf n, KL 47, lf, std Tryd.prog⟩ fn [x0] h else none | none => none) = _
  rw [Tryd.func47]
  kernel_rfl
end spec_l7Near
namespace impl_BoardOk
noncomputable def main (E : Env) (x0 x1 : PV) (h : PHeap) : Res :=
    (E.C fn_impl_sizeOk [x0] h).bind fun v1 =>
    (wantV v1.1 true).bind fun v2 =>
    (bif v2 then some (x1, v1.2) else some (.tup [], v1.2)).bind fun v3 =>
    (wantV v1.1 true).bind fun v4 =>
    (bif v4 then E.C fn_impl_sizeOk [v3.1] v3.2 else some (.tup [], v3.2)).bind fun v5 =>
    (E.p.pick v1.1 v5.1 (.bool false)).bind fun v6 =>
    (wantV v6 true).bind fun v7 =>
    (bif v7 then some (x0, v5.2) else some (.tup [], v5.2)).bind fun v8 =>
    (wantV v6 true).bind fun v9 =>
    (bif v9 then some (x1, v8.2) else some (.tup [], v8.2)).bind fun v10 =>
    (wantV v6 true).bind fun v11 =>
    (bif v11 then pv v10.2 (E.p.bin .mul 3 v8.1 v10.1) else some (.tup [], v10.2)).bind fun v12 =>
    (wantV v6 true).bind fun v13 =>
    (bif v13 then pv v12.2 (E.p.bin .leq 3 v12.1 (.int .i64 9)) else some (.tup [], v12.2)).bind fun v14 =>
    (E.p.pick v6 v14.1 (.bool false)).bind fun v15 =>
    (resV v15).bind fun v16 =>
    some (v16, v14.2)
theorem main_eq (E : Env) (x0 x1 : PV) (h : PHeap) : runBody (E.cx Tryd.prog kl) Tryd.f48 [x0, x1] h = main E x0 x1 h := by kernel_rfl
theorem call_eq (g : Nat → PV) (lf n : Nat) (x0 x1 : PV) (h : PHeap) : CL g lf (n + 1) fn_impl_BoardOk [x0, x1] h = main (env g lf n) x0 x1 h := by
  rw [← main_eq]
  show (match Tryd.prog.funcs[48]? with | some fn => if fn.body.isSome then runBody ⟨Tryd.prog, g, call Tryd.prog g KL lf n, KL 48, lf, std Tryd.prog⟩ fn [x0, x1] h else none | none => none) = _
  rw [Tryd.func48]
  kernel_rfl
end impl_BoardOk
namespace spec_l20Triangle
noncomputable def lp0 : Code := (codeAt (bodyOf Tryd.f49) [1, 1, 1, 0, 1, 0, 0])
def st0 (x0 x1 x6 x7 x8 : PV) (h : PHeap) : St := ⟨[x0, x1, .junk, .junk, .junk, .junk, x6, x7, x8, .junk, .junk, .junk, .junk, .junk, .junk, .junk, .junk, .junk, .junk, .junk, .junk, .junk, .junk, .junk, .junk, .junk, .junk, .junk, .junk, .junk, .junk, .junk, .junk, .junk, .junk, .junk, .junk, .junk, .junk, .junk, .junk, .junk, .junk, .junk, .junk, .junk, .junk, .junk], h⟩
def se0_0_1_6_7_8_16 (x0 x1 x6 x7 x8 x16 : PV) (h : PHeap) : St := ⟨[x0, x1, .junk, .junk, .junk, .junk, x6, x7, x8, .junk, .junk, .junk, .junk, .junk, .junk, .junk, x16, .junk, .junk, .junk, .junk, .junk, .junk, .junk, .junk, .junk, .junk, .junk, .junk, .junk, .junk, .junk, .junk, .junk, .junk, .junk, .junk, .junk, .junk, .junk, .junk, .junk, .junk, .junk, .junk, .junk, .junk, .junk], h⟩
noncomputable def K0 (E : Env) (K : PX → St → Res) : PX → St → Res := (kBlock 0 (kSeq (ev (E.cx Tryd.prog kl) (codeAt (bodyOf Tryd.f49) [1, 1, 1, 1])) K))
@[simp] theorem K0_ret (E : Env) (K : PX → St → Res) (s : St) : K0 E K .ret s = K .ret s := by kernel_rfl
noncomputable def body0 (E : Env) (K : PX → St → Res) (x0 x1 x6 x7 x8 : PV) (h : PHeap) : Res :=
    (E.C fn_spec_l7Cells [x6] h).bind fun v31 =>
    (E.p.bin .lss 3 x8 v31.1).bind fun v32 =>
    condP v32
     (
      (E.C fn_spec_l20Rd_pick [x0, (.int .i64 2)] v31.2).bind fun v33 =>
      (E.p.bin .add 3 (.int .i64 1) v33.1).bind fun v34 =>
      (E.p.buildSlice 25 1 [(0, v34)] v33.2).bind fun v35 =>
      (E.p.append 25 25 x7 v35.1 v35.2).bind fun v36 =>
      (E.p.bin .add 3 x8 (.int .i64 1)).bind fun v37 =>
      K .normal (st0 x0 x1 x6 v36.1 v37 v36.2))
     (
      K (.exit 0) (se0_0_1_6_7_8_16 x0 x1 x6 x7 x8 v32 v31.2))
theorem body0_eq (E : Env) (K : PX → St → Res) (x0 x1 x6 x7 x8 : PV) (h : PHeap) : ev (E.cx Tryd.prog kl) lp0 (st0 x0 x1 x6 x7 x8 h) K = body0 E K x0 x1 x6 x7 x8 h := by kernel_rfl
theorem after0_se0_0_1_6_7_8_16 (E : Env) (x0 x1 x6 x7 x8 x16 : PV) (h : PHeap) : K0 E (kTop Tryd.prog Tryd.f49) (.exit 0) (se0_0_1_6_7_8_16 x0 x1 x6 x7 x8 x16 h) =
    (E.C fn_spec_l20Rd_odd [x0, x1] h).bind fun v11 =>
    condP v11.1
     (
      (E.C fn_spec_l20Rd_pick [x0, (.int .i64 3)] v11.2).bind fun v12 =>
      (E.p.bin .eql 3 v12.1 (.int .i64 0)).bind fun v13 =>
      condP v13
       (
        (resV (.int .i64 5)).bind fun v14 =>
        (resV x7).bind fun v15 =>
        some (.tup [v14, v15], v12.2))
       (
        (E.p.bin .eql 3 v12.1 (.int .i64 1)).bind fun v16 =>
        condP v16
         (
          (E.p.buildSlice 25 2 [(0, (.int .i64 0)), (1, (.int .i64 3))] v12.2).bind fun v17 =>
          (E.C fn_spec_l20Rd_pick [x0, (.int .i64 2)] v17.2).bind fun v18 =>
          (E.p.indexAddr 25 v17.1 v18.1).bind fun v19 =>
          (E.p.load 3 v19 v18.2).bind fun v20 =>
          (E.p.indexAddr 25 x7 (.int .i64 0)).bind fun v21 =>
          (E.p.store 3 v21 v20 v18.2).bind fun v22 =>
          (resV x6).bind fun v23 =>
          (resV x7).bind fun v24 =>
          some (.tup [v23, v24], v22))
         (
          (E.p.buildSlice 25 1 [(0, (.int .i64 1))] v12.2).bind fun v25 =>
          (E.p.append 25 25 x7 v25.1 v25.2).bind fun v26 =>
          (resV x6).bind fun v27 =>
          (resV v26.1).bind fun v28 =>
          some (.tup [v27, v28], v26.2))))
     (
      (resV x6).bind fun v29 =>
      (resV x7).bind fun v30 =>
      some (.tup [v29, v30], v11.2)) := by kernel_rfl
noncomputable def main (E : Env) (x0 x1 : PV) (h : PHeap) : Res :=
    (E.C fn_spec_l20Rd_pick [x0, (.int .i64 4)] h).bind fun v1 =>
    (E.p.bin .add 3 (.int .i64 1) v1.1).bind fun v2 =>
    (E.p.buildSlice 25 0 [] v1.2).bind fun v3 =>
    loopK (ev (E.cx Tryd.prog spec_l20Triangle.kl) spec_l20Triangle.lp0) E.lf (spec_l20Triangle.st0 x0 x1 v2 v3.1 (.int .i64 0) v3.2) (spec_l20Triangle.K0 E (kTop Tryd.prog Tryd.f49))
theorem main_eq (E : Env) (x0 x1 : PV) (h : PHeap) : runBody (E.cx Tryd.prog kl) Tryd.f49 [x0, x1] h = main E x0 x1 h := by kernel_rfl
theorem call_eq (g : Nat → PV) (lf n : Nat) (x0 x1 : PV) (h : PHeap) : CL g lf (n + 1) fn_spec_l20Triangle [x0, x1] h = main (env g lf n) x0 x1 h := by
  rw [← main_eq]
  show (match Tryd.prog.funcs[49]? with | some fn => if fn.body.isSome then runBody ⟨Tryd.prog, g, call Tryd.prog g KL lf n, KL 49, lf, std Tryd.prog⟩ fn [x0, x1] h else none | none => none) = _
  rw [Tryd.func49]
  kernel_rfl
end spec_l20Triangle
namespace impl_playerOk
noncomputable def main (E : Env) (x0 : PV) (h : PHeap) : Res :=
    (E.p.bin .eql 3 x0 (.int .i64 1)).bind fun v1 =>
    (wantV v1 false).bind fun v2 =>
    (bif v2 then some (x0, h) else some (.tup [], h)).bind fun v3 =>
    (wantV v1 false).bind fun v4 =>
    (bif v4 then pv v3.2 (E.p.bin .eql 3 v3.1 (.int .i64 2)) else some (.tup [], v3.2)).bind fun v5 =>
    (E.p.pick v1 (.bool true) v5.1).bind fun v6 =>
    (resV v6).bind fun v7 =>
    some (v7, v5.2)
theorem main_eq (E : Env) (x0 : PV) (h : PHeap) : runBody (E.cx Tryd.prog kl) Tryd.f50 [x0] h = main E x0 h := by kernel_rfl
theorem call_eq (g : Nat → PV) (lf n : Nat) (x0 : PV) (h : PHeap) : CL g lf (n + 1) fn_impl_playerOk [x0] h = main (env g lf n) x0 h := by
  rw [← main_eq]
  show (match Tryd.prog.funcs[50]? with | some fn => if fn.body.isSome then runBody ⟨Tryd.prog, g, call Tryd.prog g KL lf n, KL 50, lf, std Tryd.prog⟩ fn [x0] h else none | none => none) = _
  rw [Tryd.func50]
  kernel_rfl
end impl_playerOk
namespace impl_touchesAll
noncomputable def lp0 : Code := (codeAt (bodyOf Tryd.f51) [1, 1, 0, 1, 0, 0])
def st0 (x0 x5 x10 x11 : PV) (h : PHeap) : St := ⟨[x0, .junk, .junk, .junk, .junk, x5, .junk, .junk, .junk, .junk, x10, x11, .junk, .junk, .junk, .junk, .junk, .junk, .junk, .junk, .junk, .junk, .junk], h⟩
def se0_0_5_10_11_12 (x0 x5 x10 x11 x12 : PV) (h : PHeap) : St := ⟨[x0, .junk, .junk, .junk, .junk, x5, .junk, .junk, .junk, .junk, x10, x11, x12, .junk, .junk, .junk, .junk, .junk, .junk, .junk, .junk, .junk, .junk], h⟩
noncomputable def K0 (E : Env) (K : PX → St → Res) : PX → St → Res := (kBlock 0 (kSeq (ev (E.cx Tryd.prog kl) (codeAt (bodyOf Tryd.f51) [1, 1, 1])) K))
@[simp] theorem K0_ret (E : Env) (K : PX → St → Res) (s : St) : K0 E K .ret s = K .ret s := by kernel_rfl
noncomputable def body0 (E : Env) (K : PX → St → Res) (x0 x5 x10 x11 : PV) (h : PHeap) : Res :=
    (E.p.bin .lss 3 x11 (.int .i64 3)).bind fun v9 =>
    condP v9
     (
      (E.p.index 58 x10 x11).bind fun v10 =>
      (E.p.bin .and 3 v10 x5).bind fun v11 =>
      (E.C fn_impl_triangleWave [x0, v11, x5] h).bind fun v12 =>
      (E.p.bin .add 3 x11 (.int .i64 1)).bind fun v13 =>
      K .normal (st0 x0 v12.1 x10 v13 v12.2))
     (
      K (.exit 0) (se0_0_5_10_11_12 x0 x5 x10 x11 v9 h))
theorem body0_eq (E : Env) (K : PX → St → Res) (x0 x5 x10 x11 : PV) (h : PHeap) : ev (E.cx Tryd.prog kl) lp0 (st0 x0 x5 x10 x11 h) K = body0 E K x0 x5 x10 x11 h := by kernel_rfl
theorem after0_se0_0_5_10_11_12 (E : Env) (x0 x5 x10 x11 x12 : PV) (h : PHeap) : K0 E (kTop Tryd.prog Tryd.f51) (.exit 0) (se0_0_5_10_11_12 x0 x5 x10 x11 x12 h) =
    (E.p.bin .neq 3 x5 (.int .i64 0)).bind fun v7 =>
    (resV v7).bind fun v8 =>
    some (v8, h) := by kernel_rfl
noncomputable def main (E : Env) (x0 x1 : PV) (h : PHeap) : Res :=
    (E.C fn_impl_triangleEdges [x0] h).bind fun v1 =>
    loopK (ev (E.cx Tryd.prog impl_touchesAll.kl) impl_touchesAll.lp0) E.lf (impl_touchesAll.st0 x0 x1 v1.1 (.int .i64 0) v1.2) (impl_touchesAll.K0 E (kTop Tryd.prog Tryd.f51))
theorem main_eq (E : Env) (x0 x1 : PV) (h : PHeap) : runBody (E.cx Tryd.prog kl) Tryd.f51 [x0, x1] h = main E x0 x1 h := by kernel_rfl
theorem call_eq (g : Nat → PV) (lf n : Nat) (x0 x1 : PV) (h : PHeap) : CL g lf (n + 1) fn_impl_touchesAll [x0, x1] h = main (env g lf n) x0 x1 h := by
  rw [← main_eq]
  show (match Tryd.prog.funcs[51]? with | some fn => if fn.body.isSome then runBody ⟨Tryd.prog, g, call Tryd.prog g KL lf n, KL 51, lf, std Tryd.prog⟩ fn [x0, x1] h else none | none => none) = _
  rw [Tryd.func51]
  kernel_rfl
end impl_touchesAll
namespace impl_setOf
noncomputable def lp0 : Code := (codeAt (bodyOf Tryd.f52) [1, 1, 0, 1, 0, 0])
def st0 (x1 x5 x8 x9 x10 : PV) (h : PHeap) : St := ⟨[.junk, x1, .junk, .junk, .junk, x5, .junk, .junk, x8, x9, x10, .junk, .junk, .junk, .junk, .junk, .junk, .junk, .junk, .junk, .junk, .junk, .junk, .junk], h⟩
def se0_1_5_8_9_10_11 (x1 x5 x8 x9 x10 x11 : PV) (h : PHeap) : St := ⟨[.junk, x1, .junk, .junk, .junk, x5, .junk, .junk, x8, x9, x10, x11, .junk, .junk, .junk, .junk, .junk, .junk, .junk, .junk, .junk, .junk, .junk, .junk], h⟩
noncomputable def K0 (E : Env) (K : PX → St → Res) : PX → St → Res := (kBlock 0 (kSeq (ev (E.cx Tryd.prog kl) (codeAt (bodyOf Tryd.f52) [1, 1, 1])) K))
@[simp] theorem K0_ret (E : Env) (K : PX → St → Res) (s : St) : K0 E K .ret s = K .ret s := by kernel_rfl
noncomputable def body0 (E : Env) (K : PX → St → Res) (x1 x5 x8 x9 x10 : PV) (h : PHeap) : Res :=
    (E.p.bin .lss 3 x10 x9).bind fun v11 =>
    condP v11
     (
      (E.p.indexAddr 25 x8 x10).bind fun v12 =>
      (E.p.load 3 v12 h).bind fun v13 =>
      (E.p.bin .eql 3 v13 x1).bind fun v14 =>
      condP v14
       (
        (E.p.bin .shl 3 (.int .i64 1) x10).bind fun v15 =>
        (E.p.bin .or 3 x5 v15).bind fun v16 =>
        (E.p.bin .add 3 x10 (.int .i64 1)).bind fun v17 =>
        K .normal (st0 x1 v16 x8 x9 v17 h))
       (
        (E.p.bin .add 3 x10 (.int .i64 1)).bind fun v18 =>
        K .normal (st0 x1 x5 x8 x9 v18 h)))
     (
      K (.exit 0) (se0_1_5_8_9_10_11 x1 x5 x8 x9 x10 v11 h))
theorem body0_eq (E : Env) (K : PX → St → Res) (x1 x5 x8 x9 x10 : PV) (h : PHeap) : ev (E.cx Tryd.prog kl) lp0 (st0 x1 x5 x8 x9 x10 h) K = body0 E K x1 x5 x8 x9 x10 h := by kernel_rfl
theorem after0_se0_1_5_8_9_10_11 (E : Env) (x1 x5 x8 x9 x10 x11 : PV) (h : PHeap) : K0 E (kTop Tryd.prog Tryd.f52) (.exit 0) (se0_1_5_8_9_10_11 x1 x5 x8 x9 x10 x11 h) =
    (resV x5).bind fun v10 =>
    some (v10, h) := by kernel_rfl
noncomputable def main (E : Env) (x0 x1 : PV) (h : PHeap) : Res :=
    (E.p.len 25 x0).bind fun v1 =>
    loopK (ev (E.cx Tryd.prog impl_setOf.kl) impl_setOf.lp0) E.lf (impl_setOf.st0 x1 (.int .i64 0) x0 v1 (.int .i64 0) h) (impl_setOf.K0 E (kTop Tryd.prog Tryd.f52))
theorem main_eq (E : Env) (x0 x1 : PV) (h : PHeap) : runBody (E.cx Tryd.prog kl) Tryd.f52 [x0, x1] h = main E x0 x1 h := by kernel_rfl
theorem call_eq (g : Nat → PV) (lf n : Nat) (x0 x1 : PV) (h : PHeap) : CL g lf (n + 1) fn_impl_setOf [x0, x1] h = main (env g lf n) x0 x1 h := by
  rw [← main_eq]
  show (match Tryd.prog.funcs[52]? with | some fn => if fn.body.isSome then runBody ⟨Tryd.prog, g, call Tryd.prog g KL lf n, KL 52, lf, std Tryd.prog⟩ fn [x0, x1] h else none | none => none) = _
  rw [Tryd.func52]
  kernel_rfl
end impl_setOf
namespace spec_l2Set
noncomputable def lp0 : Code := (codeAt (bodyOf Tryd.f53) [1, 1, 0, 1, 0, 0])
def st0 (x0 x1 x5 x6 : PV) (h : PHeap) : St := ⟨[x0, x1, .junk, .junk, .junk, x5, x6, .junk, .junk, .junk, .junk, .junk, .junk, .junk, .junk, .junk, .junk, .junk, .junk, .junk, .junk, .junk, .junk, .junk], h⟩
def se0_0_1_5_6_10 (x0 x1 x5 x6 x10 : PV) (h : PHeap) : St := ⟨[x0, x1, .junk, .junk, .junk, x5, x6, .junk, .junk, .junk, x10, .junk, .junk, .junk, .junk, .junk, .junk, .junk, .junk, .junk, .junk, .junk, .junk, .junk], h⟩
noncomputable def K0 (E : Env) (K : PX → St → Res) : PX → St → Res := (kBlock 0 (kSeq (ev (E.cx Tryd.prog kl) (codeAt (bodyOf Tryd.f53) [1, 1, 1])) K))
@[simp] theorem K0_ret (E : Env) (K : PX → St → Res) (s : St) : K0 E K .ret s = K .ret s := by kernel_rfl
noncomputable def body0 (E : Env) (K : PX → St → Res) (x0 x1 x5 x6 : PV) (h : PHeap) : Res :=
    (E.p.len 25 x0).bind fun v11 =>
    (E.p.bin .lss 3 x6 v11).bind fun v12 =>
    condP v12
     (
      (E.p.indexAddr 25 x0 x6).bind fun v13 =>
      (E.p.load 3 v13 h).bind fun v14 =>
      (E.p.bin .eql 3 v14 x1).bind fun v15 =>
      condP v15
       (
        (E.p.bin .shl 3 (.int .i64 1) x6).bind fun v16 =>
        (E.p.bin .or 3 x5 v16).bind fun v17 =>
        (E.p.bin .add 3 x6 (.int .i64 1)).bind fun v18 =>
        K .normal (st0 x0 x1 v17 v18 h))
       (
        (E.p.bin .add 3 x6 (.int .i64 1)).bind fun v19 =>
        K .normal (st0 x0 x1 x5 v19 h)))
     (
      K (.exit 0) (se0_0_1_5_6_10 x0 x1 x5 x6 v12 h))
theorem body0_eq (E : Env) (K : PX → St → Res) (x0 x1 x5 x6 : PV) (h : PHeap) : ev (E.cx Tryd.prog kl) lp0 (st0 x0 x1 x5 x6 h) K = body0 E K x0 x1 x5 x6 h := by kernel_rfl
theorem after0_se0_0_1_5_6_10 (E : Env) (x0 x1 x5 x6 x10 : PV) (h : PHeap) : K0 E (kTop Tryd.prog Tryd.f53) (.exit 0) (se0_0_1_5_6_10 x0 x1 x5 x6 x10 h) =
    (resV x5).bind fun v10 =>
    some (v10, h) := by kernel_rfl
noncomputable def main (E : Env) (x0 x1 : PV) (h : PHeap) : Res :=
    loopK (ev (E.cx Tryd.prog spec_l2Set.kl) spec_l2Set.lp0) E.lf (spec_l2Set.st0 x0 x1 (.int .i64 0) (.int .i64 0) h) (spec_l2Set.K0 E (kTop Tryd.prog Tryd.f53))
theorem main_eq (E : Env) (x0 x1 : PV) (h : PHeap) : runBody (E.cx Tryd.prog kl) Tryd.f53 [x0, x1] h = main E x0 x1 h := by kernel_rfl
theorem call_eq (g : Nat → PV) (lf n : Nat) (x0 x1 : PV) (h : PHeap) : CL g lf (n + 1) fn_spec_l2Set [x0, x1] h = main (env g lf n) x0 x1 h := by
  rw [← main_eq]
  show (match Tryd.prog.funcs[53]? with | some fn => if fn.body.isSome then runBody ⟨Tryd.prog, g, call Tryd.prog g KL lf n, KL 53, lf, std Tryd.prog⟩ fn [x0, x1] h else none | none => none) = _
  rw [Tryd.func53]
  kernel_rfl
end spec_l2Set
namespace spec_l2Grow
noncomputable def lp0 : Code := (codeAt (bodyOf Tryd.f54) [1, 1, 0, 1, 0, 0])
def st0 (x0 x1 x7 x8 : PV) (h : PHeap) : St := ⟨[x0, x1, .junk, .junk, .junk, .junk, .junk, x7, x8, .junk, .junk, .junk, .junk, .junk, .junk, .junk, .junk, .junk, .junk, .junk, .junk, .junk, .junk, .junk, .junk, .junk, .junk, .junk, .junk, .junk, .junk, .junk, .junk, .junk, .junk, .junk, .junk, .junk, .junk, .junk], h⟩
noncomputable def lp1 : Code := (codeAt (bodyOf Tryd.f54) [1, 1, 0, 1, 0, 0, 1, 0, 1, 0, 1, 0, 0])
def st1 (x0 x1 x7 x9 x10 : PV) (h : PHeap) : St := ⟨[x0, x1, .junk, .junk, .junk, .junk, .junk, x7, .junk, x9, x10, .junk, .junk, .junk, .junk, .junk, .junk, .junk, .junk, .junk, .junk, .junk, .junk, .junk, .junk, .junk, .junk, .junk, .junk, .junk, .junk, .junk, .junk, .junk, .junk, .junk, .junk, .junk, .junk, .junk], h⟩
def se0_0_1_7_14 (x0 x1 x7 x14 : PV) (h : PHeap) : St := ⟨[x0, x1, .junk, .junk, .junk, .junk, .junk, x7, .junk, .junk, .junk, .junk, .junk, .junk, x14, .junk, .junk, .junk, .junk, .junk, .junk, .junk, .junk, .junk, .junk, .junk, .junk, .junk, .junk, .junk, .junk, .junk, .junk, .junk, .junk, .junk, .junk, .junk, .junk, .junk], h⟩
def se2_0_1_7_9_10_19 (x0 x1 x7 x9 x10 x19 : PV) (h : PHeap) : St := ⟨[x0, x1, .junk, .junk, .junk, .junk, .junk, x7, .junk, x9, x10, .junk, .junk, .junk, .junk, .junk, .junk, .junk, .junk, x19, .junk, .junk, .junk, .junk, .junk, .junk, .junk, .junk, .junk, .junk, .junk, .junk, .junk, .junk, .junk, .junk, .junk, .junk, .junk, .junk], h⟩
noncomputable def K0 (E : Env) (K : PX → St → Res) : PX → St → Res := (kBlock 0 (kSeq (ev (E.cx Tryd.prog kl) (codeAt (bodyOf Tryd.f54) [1, 1, 1])) K))
@[simp] theorem K0_ret (E : Env) (K : PX → St → Res) (s : St) : K0 E K .ret s = K .ret s := by kernel_rfl
noncomputable def K1 (E : Env) (K : PX → St → Res) : PX → St → Res := (kBlock 2 (kSeq (ev (E.cx Tryd.prog kl) (codeAt (bodyOf Tryd.f54) [1, 1, 0, 1, 0, 0, 1, 0, 1, 1])) (kBlock 1 K)))
@[simp] theorem K1_ret (E : Env) (K : PX → St → Res) (s : St) : K1 E K .ret s = K .ret s := by kernel_rfl
noncomputable def body0 (E : Env) (K : PX → St → Res) (x0 x1 x7 x8 : PV) (h : PHeap) : Res :=
    condP x8
     (
      loopK (ev (E.cx Tryd.prog spec_l2Grow.kl) spec_l2Grow.lp1) E.lf (spec_l2Grow.st1 x0 x1 x7 x7 (.int .i64 0) h) (spec_l2Grow.K1 E K))
     (
      K (.exit 0) (se0_0_1_7_14 x0 x1 x7 x8 h))
theorem body0_eq (E : Env) (K : PX → St → Res) (x0 x1 x7 x8 : PV) (h : PHeap) : ev (E.cx Tryd.prog kl) lp0 (st0 x0 x1 x7 x8 h) K = body0 E K x0 x1 x7 x8 h := by kernel_rfl
noncomputable def body1 (E : Env) (K : PX → St → Res) (x0 x1 x7 x9 x10 : PV) (h : PHeap) : Res :=
    (E.p.len 25 x0).bind fun v15 =>
    (E.p.bin .lss 3 x10 v15).bind fun v16 =>
    condP v16
     (
      (E.p.bin .shr 3 x7 x10).bind fun v17 =>
      (E.p.bin .rem 3 v17 (.int .i64 2)).bind fun v18 =>
      (E.p.bin .eql 3 v18 (.int .i64 1)).bind fun v19 =>
      condP v19
       (
        (E.p.indexAddr 25 x0 x10).bind fun v20 =>
        (E.p.load 3 v20 h).bind fun v21 =>
        (E.p.bin .and 3 v21 x1).bind fun v22 =>
        (E.p.bin .or 3 x9 v22).bind fun v23 =>
        (E.p.bin .add 3 x10 (.int .i64 1)).bind fun v24 =>
        K .normal (st1 x0 x1 x7 v23 v24 h))
       (
        (E.p.bin .add 3 x10 (.int .i64 1)).bind fun v25 =>
        K .normal (st1 x0 x1 x7 x9 v25 h)))
     (
      K (.exit 2) (se2_0_1_7_9_10_19 x0 x1 x7 x9 x10 v16 h))
theorem body1_eq (E : Env) (K : PX → St → Res) (x0 x1 x7 x9 x10 : PV) (h : PHeap) : ev (E.cx Tryd.prog kl) lp1 (st1 x0 x1 x7 x9 x10 h) K = body1 E K x0 x1 x7 x9 x10 h := by kernel_rfl
theorem after0_se0_0_1_7_14 (E : Env) (x0 x1 x7 x14 : PV) (h : PHeap) : K0 E (kTop Tryd.prog Tryd.f54) (.exit 0) (se0_0_1_7_14 x0 x1 x7 x14 h) =
    (resV x7).bind fun v13 =>
    some (v13, h) := by kernel_rfl
theorem after1_se2_0_1_7_9_10_19 (E : Env) (K : PX → St → Res) (x0 x1 x7 x9 x10 x19 : PV) (h : PHeap) : K1 E K (.exit 2) (se2_0_1_7_9_10_19 x0 x1 x7 x9 x10 x19 h) =
    (E.p.bin .neq 3 x9 x7).bind fun v14 =>
    K .normal (st0 x0 x1 x9 v14 h) := by kernel_rfl
noncomputable def main (E : Env) (x0 x1 x2 : PV) (h : PHeap) : Res :=
    (E.p.bin .and 3 x2 x1).bind fun v1 =>
    loopK (ev (E.cx Tryd.prog spec_l2Grow.kl) spec_l2Grow.lp0) E.lf (spec_l2Grow.st0 x0 x1 v1 (.bool true) h) (spec_l2Grow.K0 E (kTop Tryd.prog Tryd.f54))
theorem main_eq (E : Env) (x0 x1 x2 : PV) (h : PHeap) : runBody (E.cx Tryd.prog kl) Tryd.f54 [x0, x1, x2] h = main E x0 x1 x2 h := by kernel_rfl
theorem call_eq (g : Nat → PV) (lf n : Nat) (x0 x1 x2 : PV) (h : PHeap) : CL g lf (n + 1) fn_spec_l2Grow [x0, x1, x2] h = main (env g lf n) x0 x1 x2 h := by
  rw [← main_eq]
  show (match Tryd.prog.funcs[54]? with | some fn => if fn.body.isSome then runBody ⟨Tryd.prog, g, call Tryd.prog g KL lf n, KL 54, lf, std Tryd.prog⟩ fn [x0, x1, x2] h else none | none => none) = _
  rw [Tryd.func54]
  kernel_rfl
end spec_l2Grow
namespace spec_l7Place
noncomputable def lp0 : Code := (codeAt (bodyOf Tryd.f55) [1, 1, 0, 0, 0])
def st0 (x0 x4 : PV) (h : PHeap) : St := ⟨[x0, .junk, .junk, .junk, x4, .junk, .junk, .junk, .junk, .junk, .junk, .junk, .junk, .junk, .junk, .junk], h⟩
def se0_0_4_7 (x0 x4 x7 : PV) (h : PHeap) : St := ⟨[x0, .junk, .junk, .junk, x4, .junk, .junk, x7, .junk, .junk, .junk, .junk, .junk, .junk, .junk, .junk], h⟩
noncomputable def K0 (E : Env) (K : PX → St → Res) : PX → St → Res := (kBlock 0 (kSeq (ev (E.cx Tryd.prog kl) (codeAt (bodyOf Tryd.f55) [1, 1, 1])) K))
@[simp] theorem K0_ret (E : Env) (K : PX → St → Res) (s : St) : K0 E K .ret s = K .ret s := by kernel_rfl
noncomputable def body0 (E : Env) (K : PX → St → Res) (x0 x4 : PV) (h : PHeap) : Res :=
    (E.p.bin .gtr 3 x0 x4).bind fun v7 =>
    condP v7
     (
      (E.p.bin .sub 3 x0 x4).bind fun v8 =>
      (E.p.bin .sub 3 v8 (.int .i64 1)).bind fun v9 =>
      (E.p.bin .add 3 x4 (.int .i64 1)).bind fun v10 =>
      K .normal (st0 v9 v10 h))
     (
      K (.exit 0) (se0_0_4_7 x0 x4 v7 h))
theorem body0_eq (E : Env) (K : PX → St → Res) (x0 x4 : PV) (h : PHeap) : ev (E.cx Tryd.prog kl) lp0 (st0 x0 x4 h) K = body0 E K x0 x4 h := by kernel_rfl
theorem after0_se0_0_4_7 (E : Env) (x0 x4 x7 : PV) (h : PHeap) : K0 E (kTop Tryd.prog Tryd.f55) (.exit 0) (se0_0_4_7 x0 x4 x7 h) =
    (resV x4).bind fun v5 =>
    (resV x0).bind fun v6 =>
    some (.tup [v5, v6], h) := by kernel_rfl
noncomputable def main (E : Env) (x0 : PV) (h : PHeap) : Res :=
    loopK (ev (E.cx Tryd.prog spec_l7Place.kl) spec_l7Place.lp0) E.lf (spec_l7Place.st0 x0 (.int .i64 0) h) (spec_l7Place.K0 E (kTop Tryd.prog Tryd.f55))
theorem main_eq (E : Env) (x0 : PV) (h : PHeap) : runBody (E.cx Tryd.prog kl) Tryd.f55 [x0] h = main E x0 h := by kernel_rfl
theorem call_eq (g : Nat → PV) (lf n : Nat) (x0 : PV) (h : PHeap) : CL g lf (n + 1) fn_spec_l7Place [x0] h = main (env g lf n) x0 h := by
  rw [← main_eq]
  show (match Tryd.prog.funcs[55]? with | some fn => if fn.body.isSome then runBody ⟨Tryd.prog, g, call Tryd.prog g KL lf n, KL 55, lf, std Tryd.prog⟩ fn [x0] h else none | none => none) = _
  rw [Tryd.func55]
  kernel_rfl
end spec_l7Place
namespace impl_mostOf
noncomputable def main (E : Env) (x0 x1 x2 : PV) (h : PHeap) : Res :=
    (E.p.bin .eql 3 x1 x2).bind fun v1 =>
    condP v1
     (
      (resV x1).bind fun v2 =>
      some (v2, h))
     (
      (resV x0).bind fun v3 =>
      some (v3, h))
theorem main_eq (E : Env) (x0 x1 x2 : PV) (h : PHeap) : runBody (E.cx Tryd.prog kl) Tryd.f56 [x0, x1, x2] h = main E x0 x1 x2 h := by kernel_rfl
theorem call_eq (g : Nat → PV) (lf n : Nat) (x0 x1 x2 : PV) (h : PHeap) : CL g lf (n + 1) fn_impl_mostOf [x0, x1, x2] h = main (env g lf n) x0 x1 x2 h := by
  rw [← main_eq]
  show (match Tryd.prog.funcs[56]? with | some fn => if fn.body.isSome then runBody ⟨Tryd.prog, g, call Tryd.prog g KL lf n, KL 56, lf, std Tryd.prog⟩ fn [x0, x1, x2] h else none | none => none) = _
  rw [Tryd.func56]
  kernel_rfl
end impl_mostOf
namespace impl_countIn
noncomputable def main (E : Env) (x0 : PV) (h : PHeap) : Res :=
    (E.p.conv 3 61 x0).bind fun v1 =>
    (E.C fn_bits_OnesCount [v1] h).bind fun v2 =>
    (resV v2.1).bind fun v3 =>
    some (v3, v2.2)
theorem main_eq (E : Env) (x0 : PV) (h : PHeap) : runBody (E.cx Tryd.prog kl) Tryd.f57 [x0] h = main E x0 h := by kernel_rfl
theorem call_eq (g : Nat → PV) (lf n : Nat) (x0 : PV) (h : PHeap) : CL g lf (n + 1) fn_impl_countIn [x0] h = main (env g lf n) x0 h := by
  rw [← main_eq]
  show (match Tryd.prog.funcs[57]? with | some fn => if fn.body.isSome then runBody ⟨Tryd.prog, g, call Tryd.prog g KL lf n, KL 57, lf, std Tryd.prog⟩ fn [x0] h else none | none => none) = _
  rw [Tryd.func57]
  kernel_rfl
end impl_countIn
namespace spec_l6Size
noncomputable def main (E : Env) (x0 : PV) (h : PHeap) : Res :=
    (E.C fn_spec_l2List [x0] h).bind fun v1 =>
    (E.p.len 25 v1.1).bind fun v2 =>
    (resV v2).bind fun v3 =>
    some (v3, v1.2)
theorem main_eq (E : Env) (x0 : PV) (h : PHeap) : runBody (E.cx Tryd.prog kl) Tryd.f58 [x0] h = main E x0 h := by kernel_rfl
theorem call_eq (g : Nat → PV) (lf n : Nat) (x0 : PV) (h : PHeap) : CL g lf (n + 1) fn_spec_l6Size [x0] h = main (env g lf n) x0 h := by
  rw [← main_eq]
  show (match Tryd.prog.funcs[58]? with | some fn => if fn.body.isSome then runBody ⟨Tryd.prog, g, call Tryd.prog g KL lf n, KL 58, lf, std Tryd.prog⟩ fn [x0] h else none | none => none) = _
  rw [Tryd.func58]
  kernel_rfl
end spec_l6Size
namespace impl_sizeOk
noncomputable def main (E : Env) (x0 : PV) (h : PHeap) : Res :=
    (E.p.bin .geq 3 x0 (.int .i64 1)).bind fun v1 =>
    (wantV v1 true).bind fun v2 =>
    (bif v2 then some (x0, h) else some (.tup [], h)).bind fun v3 =>
    (wantV v1 true).bind fun v4 =>
    (bif v4 then pv v3.2 (E.p.bin .leq 3 v3.1 (.int .i64 4)) else some (.tup [], v3.2)).bind fun v5 =>
    (E.p.pick v1 v5.1 (.bool false)).bind fun v6 =>
    (resV v6).bind fun v7 =>
    some (v7, v5.2)
theorem main_eq (E : Env) (x0 : PV) (h : PHeap) : runBody (E.cx Tryd.prog kl) Tryd.f59 [x0] h = main E x0 h := by kernel_rfl
theorem call_eq (g : Nat → PV) (lf n : Nat) (x0 : PV) (h : PHeap) : CL g lf (n + 1) fn_impl_sizeOk [x0] h = main (env g lf n) x0 h := by
  rw [← main_eq]
  show (match Tryd.prog.funcs[59]? with | some fn => if fn.body.isSome then runBody ⟨Tryd.prog, g, call Tryd.prog g KL lf n, KL 59, lf, std Tryd.prog⟩ fn [x0] h else none | none => none) = _
  rw [Tryd.func59]
  kernel_rfl
end impl_sizeOk
namespace spec_l20Rd_odd
noncomputable def main (E : Env) (x0 x1 : PV) (h : PHeap) : Res :=
    (E.p.bin .gtr 3 x1 (.int .i64 0)).bind fun v1 =>
    (wantV v1 true).bind fun v2 =>
    (bif v2 then some (x0, h) else some (.tup [], h)).bind fun v3 =>
    (wantV v1 true).bind fun v4 =>
    (bif v4 then some (x1, v3.2) else some (.tup [], v3.2)).bind fun v5 =>
    (wantV v1 true).bind fun v6 =>
    (bif v6 then E.C fn_spec_l20Rd_pick [v3.1, v5.1] v5.2 else some (.tup [], v5.2)).bind fun v7 =>
    (wantV v1 true).bind fun v8 =>
    (bif v8 then some (x1, v7.2) else some (.tup [], v7.2)).bind fun v9 =>
    (wantV v1 true).bind fun v10 =>
    (bif v10 then pv v9.2 (E.p.bin .sub 3 v9.1 (.int .i64 1)) else some (.tup [], v9.2)).bind fun v11 =>
    (wantV v1 true).bind fun v12 =>
    (bif v12 then pv v11.2 (E.p.bin .eql 3 v7.1 v11.1) else some (.tup [], v11.2)).bind fun v13 =>
    (E.p.pick v1 v13.1 (.bool false)).bind fun v14 =>
    (resV v14).bind fun v15 =>
    some (v15, v13.2)
theorem main_eq (E : Env) (x0 x1 : PV) (h : PHeap) : runBody (E.cx Tryd.prog kl) Tryd.f60 [x0, x1] h = main E x0 x1 h := by kernel_rfl
theorem call_eq (g : Nat → PV) (lf n : Nat) (x0 x1 : PV) (h : PHeap) : CL g lf (n + 1) fn_spec_l20Rd_odd [x0, x1] h = main (env g lf n) x0 x1 h := by
  rw [← main_eq]
  show (match Tryd.prog.funcs[60]? with | some fn => if fn.body.isSome then runBody ⟨Tryd.prog, g, call Tryd.prog g KL lf n, KL 60, lf, std Tryd.prog⟩ fn [x0, x1] h else none | none => none) = _
  rw [Tryd.func60]
  kernel_rfl
end spec_l20Rd_odd
namespace impl_triangleEdges
noncomputable def lp0 : Code := (codeAt (bodyOf Tryd.f61) [1, 1, 0, 1, 0, 0])
def st0 (x0 x2 x3 x5 x6 : PV) (h : PHeap) : St := ⟨[x0, .junk, x2, x3, .junk, x5, x6, .junk, .junk, .junk, .junk, .junk, .junk, .junk, .junk, .junk, .junk, .junk, .junk, .junk, .junk, .junk, .junk, .junk, .junk, .junk, .junk, .junk, .junk, .junk, .junk, .junk, .junk, .junk, .junk], h⟩
def se0_0_2_3_5_6_7 (x0 x2 x3 x5 x6 x7 : PV) (h : PHeap) : St := ⟨[x0, .junk, x2, x3, .junk, x5, x6, x7, .junk, .junk, .junk, .junk, .junk, .junk, .junk, .junk, .junk, .junk, .junk, .junk, .junk, .junk, .junk, .junk, .junk, .junk, .junk, .junk, .junk, .junk, .junk, .junk, .junk, .junk, .junk], h⟩
noncomputable def K0 (E : Env) (K : PX → St → Res) : PX → St → Res := (kBlock 0 (kSeq (ev (E.cx Tryd.prog kl) (codeAt (bodyOf Tryd.f61) [1, 1, 1])) K))
@[simp] theorem K0_ret (E : Env) (K : PX → St → Res) (s : St) : K0 E K .ret s = K .ret s := by kernel_rfl
noncomputable def body0 (E : Env) (K : PX → St → Res) (x0 x2 x3 x5 x6 : PV) (h : PHeap) : Res :=
    (E.p.bin .lss 3 x6 x5).bind fun v33 =>
    condP v33
     (
      (E.p.indexAddr 58 x3 (.int .i64 0)).bind fun v34 =>
      (E.p.load 3 v34 h).bind fun v35 =>
      (E.C fn_impl_triangleCell [x6, (.int .i64 0)] h).bind fun v36 =>
      (E.p.load 3 v34 v36.2).bind fun v37 =>
      ckP (plainEq v35 v37) (
      (E.p.bin .shl 3 (.int .i64 1) v36.1).bind fun v38 =>
      (E.p.bin .or 3 v35 v38).bind fun v39 =>
      (E.p.indexAddr 58 x3 (.int .i64 0)).bind fun v40 =>
      (E.p.store 3 v40 v39 v36.2).bind fun v41 =>
      (E.p.indexAddr 58 x3 (.int .i64 1)).bind fun v42 =>
      (E.p.load 3 v42 v41).bind fun v43 =>
      (E.C fn_impl_triangleCell [x6, x6] v41).bind fun v44 =>
      (E.p.load 3 v42 v44.2).bind fun v45 =>
      ckP (plainEq v43 v45) (
      (E.p.bin .shl 3 (.int .i64 1) v44.1).bind fun v46 =>
      (E.p.bin .or 3 v43 v46).bind fun v47 =>
      (E.p.indexAddr 58 x3 (.int .i64 1)).bind fun v48 =>
      (E.p.store 3 v48 v47 v44.2).bind fun v49 =>
      (E.p.indexAddr 58 x3 (.int .i64 2)).bind fun v50 =>
      (E.p.bin .sub 3 x0 (.int .i64 1)).bind fun v51 =>
      (E.p.load 3 v50 v49).bind fun v52 =>
      (E.C fn_impl_triangleCell [v51, x6] v49).bind fun v53 =>
      (E.p.load 3 v50 v53.2).bind fun v54 =>
      ckP (plainEq v52 v54) (
      (E.p.bin .shl 3 (.int .i64 1) v53.1).bind fun v55 =>
      (E.p.bin .or 3 v52 v55).bind fun v56 =>
      (E.p.indexAddr 58 x3 (.int .i64 2)).bind fun v57 =>
      (E.p.store 3 v57 v56 v53.2).bind fun v58 =>
      (E.p.bin .add 3 x6 (.int .i64 1)).bind fun v59 =>
      K .normal (st0 x0 x2 x3 x5 v59 v58)))))
     (
      K (.exit 0) (se0_0_2_3_5_6_7 x0 x2 x3 x5 x6 v33 h))
theorem body0_eq (E : Env) (K : PX → St → Res) (x0 x2 x3 x5 x6 : PV) (h : PHeap) : ev (E.cx Tryd.prog kl) lp0 (st0 x0 x2 x3 x5 x6 h) K = body0 E K x0 x2 x3 x5 x6 h := by kernel_rfl
theorem after0_se0_0_2_3_5_6_7 (E : Env) (x0 x2 x3 x5 x6 x7 : PV) (h : PHeap) : K0 E (kTop Tryd.prog Tryd.f61) (.exit 0) (se0_0_2_3_5_6_7 x0 x2 x3 x5 x6 x7 h) =
    (E.p.load 58 x3 h).bind fun v30 =>
    (E.p.store 58 x2 v30 h).bind fun v31 =>
    (loadP Tryd.prog 58 x2 v31).bind fun v32 =>
    some (v32, v31) := by kernel_rfl
noncomputable def main (E : Env) (x0 : PV) (h : PHeap) : Res :=
    (E.p.alloc 58 h).bind fun v1 =>
    (E.p.alloc 58 v1.2).bind fun v2 =>
    loopK (ev (E.cx Tryd.prog impl_triangleEdges.kl) impl_triangleEdges.lp0) E.lf (impl_triangleEdges.st0 x0 v1.1 v2.1 x0 (.int .i64 0) v2.2) (impl_triangleEdges.K0 E (kTop Tryd.prog Tryd.f61))
theorem main_eq (E : Env) (x0 : PV) (h : PHeap) : runBody (E.cx Tryd.prog kl) Tryd.f61 [x0] h = main E x0 h := by kernel_rfl
theorem call_eq (g : Nat → PV) (lf n : Nat) (x0 : PV) (h : PHeap) : CL g lf (n + 1) fn_impl_triangleEdges [x0] h = main (env g lf n) x0 h := by
  rw [← main_eq]
  show (match Tryd.prog.funcs[61]? with | some fn => if fn.body.isSome then runBody ⟨Tryd.prog, g, call Tryd.prog g KL lf n, KL 61, lf, std Tryd.prog⟩ fn [x0] h else none | none => none) = _
  rw [Tryd.func61]
  kernel_rfl
end impl_triangleEdges
namespace impl_triangleWave
noncomputable def lp0 : Code := (codeAt (bodyOf Tryd.f62) [1, 0, 1, 0, 0])
def st0 (x0 x1 x2 x7 : PV) (h : PHeap) : St := ⟨[x0, x1, x2, .junk, .junk, .junk, .junk, x7, .junk, .junk, .junk, .junk, .junk, .junk, .junk, .junk, .junk, .junk, .junk, .junk, .junk, .junk], h⟩
def se0_0_1_2_7_10 (x0 x1 x2 x7 x10 : PV) (h : PHeap) : St := ⟨[x0, x1, x2, .junk, .junk, .junk, .junk, x7, .junk, .junk, x10, .junk, .junk, .junk, .junk, .junk, .junk, .junk, .junk, .junk, .junk, .junk], h⟩
noncomputable def K0 (E : Env) (K : PX → St → Res) : PX → St → Res := (kBlock 0 (kSeq (ev (E.cx Tryd.prog kl) (codeAt (bodyOf Tryd.f62) [1, 1])) K))
@[simp] theorem K0_ret (E : Env) (K : PX → St → Res) (s : St) : K0 E K .ret s = K .ret s := by kernel_rfl
noncomputable def body0 (E : Env) (K : PX → St → Res) (x0 x1 x2 x7 : PV) (h : PHeap) : Res :=
    (E.p.bin .neq 3 x7 (.int .i64 0)).bind fun v7 =>
    condP v7
     (
      (E.C fn_impl_triangleAround [x0, x7] h).bind fun v8 =>
      (E.p.bin .and 3 v8.1 x2).bind fun v9 =>
      (E.p.bin .andNot 3 v9 x1).bind fun v10 =>
      (E.p.bin .or 3 x1 v10).bind fun v11 =>
      K .normal (st0 x0 v11 x2 v10 v8.2))
     (
      K (.exit 0) (se0_0_1_2_7_10 x0 x1 x2 x7 v7 h))
theorem body0_eq (E : Env) (K : PX → St → Res) (x0 x1 x2 x7 : PV) (h : PHeap) : ev (E.cx Tryd.prog kl) lp0 (st0 x0 x1 x2 x7 h) K = body0 E K x0 x1 x2 x7 h := by kernel_rfl
theorem after0_se0_0_1_2_7_10 (E : Env) (x0 x1 x2 x7 x10 : PV) (h : PHeap) : K0 E (kTop Tryd.prog Tryd.f62) (.exit 0) (se0_0_1_2_7_10 x0 x1 x2 x7 x10 h) =
    (resV x1).bind fun v6 =>
    some (v6, h) := by kernel_rfl
noncomputable def main (E : Env) (x0 x1 x2 : PV) (h : PHeap) : Res :=
    loopK (ev (E.cx Tryd.prog impl_triangleWave.kl) impl_triangleWave.lp0) E.lf (impl_triangleWave.st0 x0 x1 x2 x1 h) (impl_triangleWave.K0 E (kTop Tryd.prog Tryd.f62))
theorem main_eq (E : Env) (x0 x1 x2 : PV) (h : PHeap) : runBody (E.cx Tryd.prog kl) Tryd.f62 [x0, x1, x2] h = main E x0 x1 x2 h := by kernel_rfl
theorem call_eq (g : Nat → PV) (lf n : Nat) (x0 x1 x2 : PV) (h : PHeap) : CL g lf (n + 1) fn_impl_triangleWave [x0, x1, x2] h = main (env g lf n) x0 x1 x2 h := by
  rw [← main_eq]
  show (match Tryd.prog.funcs[62]? with | some fn => if fn.body.isSome then runBody ⟨Tryd.prog, g, call Tryd.prog g KL lf n, KL 62, lf, std Tryd.prog⟩ fn [x0, x1, x2] h else none | none => none) = _
  rw [Tryd.func62]
  kernel_rfl
end impl_triangleWave
namespace bits_OnesCount
noncomputable def main (E : Env) (x0 : PV) (h : PHeap) : Res :=
    condP (.bool false)
     (
      (E.p.conv 61 63 x0).bind fun v1 =>
      (E.C 65 [v1] h).bind fun v2 =>
      (resV v2.1).bind fun v3 =>
      some (v3, v2.2))
     (
      (E.C fn_bits_OnesCount64 [x0] h).bind fun v4 =>
      (resV v4.1).bind fun v5 =>
      some (v5, v4.2))
theorem main_eq (E : Env) (x0 : PV) (h : PHeap) : runBody (E.cx Tryd.prog kl) Tryd.f63 [x0] h = main E x0 h := by kernel_rfl
theorem call_eq (g : Nat → PV) (lf n : Nat) (x0 : PV) (h : PHeap) : CL g lf (n + 1) fn_bits_OnesCount [x0] h = main (env g lf n) x0 h := by
  rw [← main_eq]
  show (match Tryd.prog.funcs[63]? with | some fn => if fn.body.isSome then runBody ⟨Tryd.prog, g, call Tryd.prog g KL lf n, KL 63, lf, std Tryd.prog⟩ fn [x0] h else none | none => none) = _
  rw [Tryd.func63]
  kernel_rfl
end bits_OnesCount
namespace impl_triangleAround
noncomputable def lp0 : Code := (codeAt (bodyOf Tryd.f64) [1, 1, 0, 1, 0, 0])
def st0 (x0 x5 x6 : PV) (h : PHeap) : St := ⟨[x0, .junk, .junk, .junk, .junk, x5, x6, .junk, .junk, .junk, .junk, .junk, .junk, .junk, .junk, .junk, .junk, .junk, .junk, .junk, .junk, .junk, .junk, .junk, .junk, .junk, .junk, .junk, .junk, .junk, .junk], h⟩
noncomputable def lp1 : Code := (codeAt (bodyOf Tryd.f64) [1, 1, 0, 1, 0, 0, 1, 0, 0, 1, 0, 0])
def st1 (x0 x5 x6 x19 x20 x21 : PV) (h : PHeap) : St := ⟨[x0, .junk, .junk, .junk, .junk, x5, x6, .junk, .junk, .junk, .junk, .junk, .junk, .junk, .junk, .junk, .junk, .junk, .junk, x19, x20, x21, .junk, .junk, .junk, .junk, .junk, .junk, .junk, .junk, .junk], h⟩
def se0_0_5_6_11 (x0 x5 x6 x11 : PV) (h : PHeap) : St := ⟨[x0, .junk, .junk, .junk, .junk, x5, x6, .junk, .junk, .junk, .junk, x11, .junk, .junk, .junk, .junk, .junk, .junk, .junk, .junk, .junk, .junk, .junk, .junk, .junk, .junk, .junk, .junk, .junk, .junk, .junk], h⟩
def se2_0_5_6_19_20_21_22 (x0 x5 x6 x19 x20 x21 x22 : PV) (h : PHeap) : St := ⟨[x0, .junk, .junk, .junk, .junk, x5, x6, .junk, .junk, .junk, .junk, .junk, .junk, .junk, .junk, .junk, .junk, .junk, .junk, x19, x20, x21, x22, .junk, .junk, .junk, .junk, .junk, .junk, .junk, .junk], h⟩
noncomputable def K0 (E : Env) (K : PX → St → Res) : PX → St → Res := (kBlock 0 (kSeq (ev (E.cx Tryd.prog kl) (codeAt (bodyOf Tryd.f64) [1, 1, 1])) K))
@[simp] theorem K0_ret (E : Env) (K : PX → St → Res) (s : St) : K0 E K .ret s = K .ret s := by kernel_rfl
noncomputable def K1 (E : Env) (K : PX → St → Res) : PX → St → Res := (kBlock 2 (kBlock 1 (kSeq (ev (E.cx Tryd.prog kl) (codeAt (bodyOf Tryd.f64) [1, 1, 0, 1, 0, 0, 1, 1])) K)))
@[simp] theorem K1_ret (E : Env) (K : PX → St → Res) (s : St) : K1 E K .ret s = K .ret s := by kernel_rfl
noncomputable def body0 (E : Env) (K : PX → St → Res) (x0 x5 x6 : PV) (h : PHeap) : Res :=
    (E.p.bin .neq 3 x6 (.int .i64 0)).bind fun v14 =>
    condP v14
     (
      (E.C fn_impl_leastIn [x6] h).bind fun v15 =>
      (E.C fn_impl_TriangleNear [x0, v15.1] v15.2).bind fun v16 =>
      (E.p.len 25 v16.1).bind fun v17 =>
      loopK (ev (E.cx Tryd.prog impl_triangleAround.kl) impl_triangleAround.lp1) E.lf (impl_triangleAround.st1 x0 x5 x6 v16.1 v17 (.int .i64 0) v16.2) (impl_triangleAround.K1 E K))
     (
      K (.exit 0) (se0_0_5_6_11 x0 x5 x6 v14 h))
theorem body0_eq (E : Env) (K : PX → St → Res) (x0 x5 x6 : PV) (h : PHeap) : ev (E.cx Tryd.prog kl) lp0 (st0 x0 x5 x6 h) K = body0 E K x0 x5 x6 h := by kernel_rfl
noncomputable def body1 (E : Env) (K : PX → St → Res) (x0 x5 x6 x19 x20 x21 : PV) (h : PHeap) : Res :=
    (E.p.bin .lss 3 x21 x20).bind fun v18 =>
    condP v18
     (
      (E.p.indexAddr 25 x19 x21).bind fun v19 =>
      (E.p.load 3 v19 h).bind fun v20 =>
      (E.p.bin .shl 3 (.int .i64 1) v20).bind fun v21 =>
      (E.p.bin .or 3 x5 v21).bind fun v22 =>
      (E.p.bin .add 3 x21 (.int .i64 1)).bind fun v23 =>
      K .normal (st1 x0 v22 x6 x19 x20 v23 h))
     (
      K (.exit 2) (se2_0_5_6_19_20_21_22 x0 x5 x6 x19 x20 x21 v18 h))
theorem body1_eq (E : Env) (K : PX → St → Res) (x0 x5 x6 x19 x20 x21 : PV) (h : PHeap) : ev (E.cx Tryd.prog kl) lp1 (st1 x0 x5 x6 x19 x20 x21 h) K = body1 E K x0 x5 x6 x19 x20 x21 h := by kernel_rfl
theorem after0_se0_0_5_6_11 (E : Env) (x0 x5 x6 x11 : PV) (h : PHeap) : K0 E (kTop Tryd.prog Tryd.f64) (.exit 0) (se0_0_5_6_11 x0 x5 x6 x11 h) =
    (resV x5).bind fun v11 =>
    some (v11, h) := by kernel_rfl
theorem after1_se2_0_5_6_19_20_21_22 (E : Env) (K : PX → St → Res) (x0 x5 x6 x19 x20 x21 x22 : PV) (h : PHeap) : K1 E K (.exit 2) (se2_0_5_6_19_20_21_22 x0 x5 x6 x19 x20 x21 x22 h) =
    (E.p.bin .sub 3 x6 (.int .i64 1)).bind fun v12 =>
    (E.p.bin .and 3 x6 v12).bind fun v13 =>
    K .normal (st0 x0 x5 v13 h) := by kernel_rfl
noncomputable def main (E : Env) (x0 x1 : PV) (h : PHeap) : Res :=
    loopK (ev (E.cx Tryd.prog impl_triangleAround.kl) impl_triangleAround.lp0) E.lf (impl_triangleAround.st0 x0 (.int .i64 0) x1 h) (impl_triangleAround.K0 E (kTop Tryd.prog Tryd.f64))
theorem main_eq (E : Env) (x0 x1 : PV) (h : PHeap) : runBody (E.cx Tryd.prog kl) Tryd.f64 [x0, x1] h = main E x0 x1 h := by kernel_rfl
theorem call_eq (g : Nat → PV) (lf n : Nat) (x0 x1 : PV) (h : PHeap) : CL g lf (n + 1) fn_impl_triangleAround [x0, x1] h = main (env g lf n) x0 x1 h := by
  rw [← main_eq]
  show (match Tryd.prog.funcs[64]? with | some fn => if fn.body.isSome then runBody ⟨Tryd.prog, g, call Tryd.prog g KL lf n, KL 64, lf, std Tryd.prog⟩ fn [x0, x1] h else none | none => none) = _
  rw [Tryd.func64]
  kernel_rfl
end impl_triangleAround
namespace bits_OnesCount64
noncomputable def main (E : Env) (x0 : PV) (h : PHeap) : Res :=
    (E.p.bin .shr 65 x0 (.int .u64 1)).bind fun v1 =>
    (E.p.bin .and 65 v1 (.int .u64 6148914691236517205)).bind fun v2 =>
    (E.p.bin .and 65 x0 (.int .u64 6148914691236517205)).bind fun v3 =>
    (E.p.bin .add 65 v2 v3).bind fun v4 =>
    (E.p.bin .shr 65 v4 (.int .u64 2)).bind fun v5 =>
    (E.p.bin .and 65 v5 (.int .u64 3689348814741910323)).bind fun v6 =>
    (E.p.bin .and 65 v4 (.int .u64 3689348814741910323)).bind fun v7 =>
    (E.p.bin .add 65 v6 v7).bind fun v8 =>
    (E.p.bin .shr 65 v8 (.int .u64 4)).bind fun v9 =>
    (E.p.bin .add 65 v9 v8).bind fun v10 =>
    (E.p.bin .and 65 v10 (.int .u64 1085102592571150095)).bind fun v11 =>
    (E.p.bin .shr 65 v11 (.int .u64 8)).bind fun v12 =>
    (E.p.bin .add 65 v11 v12).bind fun v13 =>
    (E.p.bin .shr 65 v13 (.int .u64 16)).bind fun v14 =>
    (E.p.bin .add 65 v13 v14).bind fun v15 =>
    (E.p.bin .shr 65 v15 (.int .u64 32)).bind fun v16 =>
    (E.p.bin .add 65 v15 v16).bind fun v17 =>
    (E.p.conv 65 3 v17).bind fun v18 =>
    (E.p.bin .and 3 v18 (.int .i64 127)).bind fun v19 =>
    (resV v19).bind fun v20 =>
    some (v20, h)
theorem main_eq (E : Env) (x0 : PV) (h : PHeap) : runBody (E.cx Tryd.prog kl) Tryd.f66 [x0] h = main E x0 h := by kernel_rfl
theorem call_eq (g : Nat → PV) (lf n : Nat) (x0 : PV) (h : PHeap) : CL g lf (n + 1) fn_bits_OnesCount64 [x0] h = main (env g lf n) x0 h := by
  rw [← main_eq]
  show (match Tryd.prog.funcs[66]? with | some fn => if fn.body.isSome then runBody ⟨Tryd.prog, g, call Tryd.prog g KL lf n, KL 66, lf, std Tryd.prog⟩ fn [x0] h else none | none => none) = _
  rw [Tryd.func66]
  kernel_rfl
end bits_OnesCount64
namespace impl_leastIn
noncomputable def main (E : Env) (x0 : PV) (h : PHeap) : Res :=
    (E.p.conv 3 61 x0).bind fun v1 =>
    (E.C fn_bits_TrailingZeros [v1] h).bind fun v2 =>
    (resV v2.1).bind fun v3 =>
    some (v3, v2.2)
theorem main_eq (E : Env) (x0 : PV) (h : PHeap) : runBody (E.cx Tryd.prog kl) Tryd.f67 [x0] h = main E x0 h := by kernel_rfl
theorem call_eq (g : Nat → PV) (lf n : Nat) (x0 : PV) (h : PHeap) : CL g lf (n + 1) fn_impl_leastIn [x0] h = main (env g lf n) x0 h := by
  rw [← main_eq]
  show (match Tryd.prog.funcs[67]? with | some fn => if fn.body.isSome then runBody ⟨Tryd.prog, g, call Tryd.prog g KL lf n, KL 67, lf, std Tryd.prog⟩ fn [x0] h else none | none => none) = _
  rw [Tryd.func67]
  kernel_rfl
end impl_leastIn
namespace bits_TrailingZeros
noncomputable def main (E : Env) (x0 : PV) (h : PHeap) : Res :=
    condP (.bool false)
     (
      (E.p.conv 61 63 x0).bind fun v1 =>
      (E.C fn_bits_TrailingZeros32 [v1] h).bind fun v2 =>
      (resV v2.1).bind fun v3 =>
      some (v3, v2.2))
     (
      (E.C fn_bits_TrailingZeros64 [x0] h).bind fun v4 =>
      (resV v4.1).bind fun v5 =>
      some (v5, v4.2))
theorem main_eq (E : Env) (x0 : PV) (h : PHeap) : runBody (E.cx Tryd.prog kl) Tryd.f68 [x0] h = main E x0 h := by kernel_rfl
theorem call_eq (g : Nat → PV) (lf n : Nat) (x0 : PV) (h : PHeap) : CL g lf (n + 1) fn_bits_TrailingZeros [x0] h = main (env g lf n) x0 h := by
  rw [← main_eq]
  show (match Tryd.prog.funcs[68]? with | some fn => if fn.body.isSome then runBody ⟨Tryd.prog, g, call Tryd.prog g KL lf n, KL 68, lf, std Tryd.prog⟩ fn [x0] h else none | none => none) = _
  rw [Tryd.func68]
  kernel_rfl
end bits_TrailingZeros
namespace bits_TrailingZeros32
noncomputable def main (E : Env) (x0 : PV) (h : PHeap) : Res :=
    (E.p.bin .eql 63 x0 (.int .u32 0)).bind fun v1 =>
    condP v1
     (
      (resV (.int .i64 32)).bind fun v2 =>
      some (v2, h))
     (
      (E.p.un .neg x0).bind fun v3 =>
      (E.p.bin .and 63 x0 v3).bind fun v4 =>
      (E.p.bin .mul 63 v4 (.int .u32 125613361)).bind fun v5 =>
      (E.p.bin .shr 63 v5 (.int .u64 27)).bind fun v6 =>
      (E.p.indexAddr 66 (E.g 1) v6).bind fun v7 =>
      (E.p.load 5 v7 h).bind fun v8 =>
      (E.p.conv 5 3 v8).bind fun v9 =>
      (resV v9).bind fun v10 =>
      some (v10, h))
theorem main_eq (E : Env) (x0 : PV) (h : PHeap) : runBody (E.cx Tryd.prog kl) Tryd.f69 [x0] h = main E x0 h := by kernel_rfl
theorem call_eq (g : Nat → PV) (lf n : Nat) (x0 : PV) (h : PHeap) : CL g lf (n + 1) fn_bits_TrailingZeros32 [x0] h = main (env g lf n) x0 h := by
  rw [← main_eq]
  show (match Tryd.prog.funcs[69]? with | some fn => if fn.body.isSome then runBody ⟨Tryd.prog, g, call Tryd.prog g KL lf n, KL 69, lf, std Tryd.prog⟩ fn [x0] h else none | none => none) = _
  rw [Tryd.func69]
  kernel_rfl
end bits_TrailingZeros32
namespace bits_TrailingZeros64
noncomputable def main (E : Env) (x0 : PV) (h : PHeap) : Res :=
    (E.p.bin .eql 65 x0 (.int .u64 0)).bind fun v1 =>
    condP v1
     (
      (resV (.int .i64 64)).bind fun v2 =>
      some (v2, h))
     (
      (E.p.un .neg x0).bind fun v3 =>
      (E.p.bin .and 65 x0 v3).bind fun v4 =>
      (E.p.bin .mul 65 v4 (.int .u64 285870213051353865)).bind fun v5 =>
      (E.p.bin .shr 65 v5 (.int .u64 58)).bind fun v6 =>
      (E.p.indexAddr 67 (E.g 2) v6).bind fun v7 =>
      (E.p.load 5 v7 h).bind fun v8 =>
      (E.p.conv 5 3 v8).bind fun v9 =>
      (resV v9).bind fun v10 =>
      some (v10, h))
theorem main_eq (E : Env) (x0 : PV) (h : PHeap) : runBody (E.cx Tryd.prog kl) Tryd.f70 [x0] h = main E x0 h := by kernel_rfl
theorem call_eq (g : Nat → PV) (lf n : Nat) (x0 : PV) (h : PHeap) : CL g lf (n + 1) fn_bits_TrailingZeros64 [x0] h = main (env g lf n) x0 h := by
  rw [← main_eq]
  show (match Tryd.prog.funcs[70]? with | some fn => if fn.body.isSome then runBody ⟨Tryd.prog, g, call Tryd.prog g KL lf n, KL 70, lf, std Tryd.prog⟩ fn [x0] h else none | none => none) = _
  rw [Tryd.func70]
  kernel_rfl
end bits_TrailingZeros64
end Go.Proofs.YtlefknibddkjpaaDoor.G

/- Which boards there are: what the program's and the model's functions on a board's sides compute. -/
set_option maxRecDepth 20000
namespace Go.Proofs.YtlefknibddkjpaaDoor
open Go Go.Ip G

def boardB (r c : Int) : Bool := decide (1 ≤ r ∧ r ≤ 4 ∧ 1 ≤ c ∧ c ≤ 4 ∧ r * c ≤ 9)

theorem mul_small {r c : Int} (h1 : 1 ≤ r) (h2 : r ≤ 4) (h3 : 1 ≤ c) (h4 : c ≤ 4) : IntKind.i64.wrap (r * c) = r * c := by
  have : r = 1 ∨ r = 2 ∨ r = 3 ∨ r = 4 := by omega
  rcases this with rfl | rfl | rfl | rfl <;> exact wr (by omega)

variable (g : Nat → PV) (lf n : Nat) (h : PHeap)

theorem sizeOk_calls (a : Int) : CL g lf (n + 1) fn_impl_sizeOk [.int .i64 a] h = some (.bool (decide (1 ≤ a ∧ a ≤ 4)), h) := by
  rw [impl_sizeOk.call_eq]
  by_cases h1 : 1 ≤ a <;> simp [impl_sizeOk.main, h1]

theorem boardOk_calls (r c : Int) : CL g lf (n + 2) fn_impl_BoardOk [.int .i64 r, .int .i64 c] h = some (.bool (boardB r c), h) := by
  rw [impl_BoardOk.call_eq]
  by_cases h1 : 1 ≤ r ∧ r ≤ 4
  · by_cases h2 : 1 ≤ c ∧ c ≤ 4
    · simp [impl_BoardOk.main, sizeOk_calls, h1, h2, boardB, mul_small h1.1 h1.2 h2.1 h2.2]
    · have hb : boardB r c = false := by unfold boardB; simp; omega
      simp [impl_BoardOk.main, sizeOk_calls, h1, h2, hb]
  · have hb : boardB r c = false := by unfold boardB; simp; omega
    simp [impl_BoardOk.main, sizeOk_calls, h1, hb]

theorem l1In_calls (a lo hi : Int) : CL g lf (n + 1) fn_spec_l1In [.int .i64 a, .int .i64 lo, .int .i64 hi] h = some (.bool (decide (lo ≤ a ∧ a ≤ hi)), h) := by
  rw [spec_l1In.call_eq]
  by_cases h1 : lo ≤ a <;> simp [spec_l1In.main, h1]

end Go.Proofs.YtlefknibddkjpaaDoor

/- What the laws' helpers on slices of integers, and both functions that check a position, compute. -/
set_option maxRecDepth 20000
namespace Go.Proofs.YtlefknibddkjpaaDoor
open Go Go.Ip G

variable (g : Nat → PV) (lf n : Nat)

/-! ### toIntS: a copy -/
theorem toIntS_loop (k0 : PX → St → Res) {xs : List Int} {p : PV} : ∀ (m i fuel : Nat) (q : PV) (ys : List Int) (h : PHeap) (b : Nat), i + m = xs.length → m < fuel → ys.length = xs.length → xs.length ≤ 2 ^ 36 →
    OwnSl b h q ys → b ≤ h.length → (∀ h', Keep b h h' → IntSl .i64 h' p xs) →
    ∃ h' zs, loopK (ev ((env g lf n).cx Tryd.prog laws_toIntS.kl) laws_toIntS.lp0) fuel (laws_toIntS.st0 p q (.int .i64 i) h) (laws_toIntS.K0 (env g lf n) (kTop Tryd.prog Tryd.f37)) = some (q, h') ∧
      OwnSl b h' q zs ∧ zs = ys.take i ++ xs.drop i ∧ Keep b h h'
  | 0, i, fuel, q, ys, h, b, him, hf, hly, hlx, ho, hb, hp => by
    obtain ⟨f, rfl⟩ : ∃ f, fuel = f + 1 := ⟨fuel - 1, by omega⟩
    have hq : resV q = some q := by
      rcases ho with ⟨rfl, _⟩ | ⟨id, _, rfl, _⟩ <;> rfl
    refine ⟨h, ys, ?_, ho, ?_, Keep.refl _ _⟩
    · rw [loopK_succ, laws_toIntS.body0_eq]
      have hlt : ¬ ((i : Int) < (xs.length : Int)) := by omega
      simp [laws_toIntS.body0, (hp h (Keep.refl _ _)).len', hlt, laws_toIntS.after0_se0_0_3_4_11, hq]
    · have : i = xs.length := by omega
      rw [this, List.drop_length, List.append_nil, ← hly, List.take_length]
  | m + 1, i, fuel, q, ys, h, b, him, hf, hly, hlx, ho, hb, hp => by
    obtain ⟨f, rfl⟩ : ∃ f, fuel = f + 1 := ⟨fuel - 1, by omega⟩
    have hi : i < xs.length := by omega
    have hi' : i < ys.length := by omega
    obtain ⟨a, ha, hl⟩ := (hp h (Keep.refl _ _)).at' hi
    obtain ⟨a2, h2, ha2, hs2, ho2, hk2, hlen2⟩ := ho.store hi' xs[i]
    obtain ⟨h', zs, hr, ho', hz, hk'⟩ := toIntS_loop k0 m (i + 1) f q (ys.set i xs[i]) h2 b (by omega) (by omega) (by simpa using hly) hlx ho2 (by omega) (fun h3 hk3 => hp h3 (hk2.trans hk3))
    refine ⟨h', zs, ?_, ho', ?_, hk2.trans hk'⟩
    · rw [loopK_succ, laws_toIntS.body0_eq]
      have hlt : (i : Int) < (xs.length : Int) := by omega
      simp only [laws_toIntS.body0, env_len, env_bin, env_indexAddr, env_load, env_store, (hp h (Keep.refl _ _)).len', bin_lss, hlt, decide_true, Option.bind_some, cond_bool, cond_true, ha, hl, ha2, hs2, bin_add, nx (show i < 2 ^ 40 by omega), kLoop_normal]
      exact hr
    · rw [hz]
      apply List.ext_getElem?
      intro j
      by_cases hj : j < i
      · rw [List.getElem?_append_left (by simp; omega), List.getElem?_append_left (by simp; omega)]
        simp [hj, show j < i + 1 by omega, List.getElem?_set_ne (show i ≠ j by omega)]
      · by_cases hji : j = i
        · subst hji
          rw [List.getElem?_append_left (by simp; omega), List.getElem?_append_right (by simp; omega)]
          simp [List.getElem?_set_self hi', Nat.min_eq_left (show j ≤ ys.length by omega)]
        · rw [List.getElem?_append_right (by simp; omega), List.getElem?_append_right (by simp; omega)]
          simp only [List.length_take, List.length_set, List.getElem?_drop]
          congr 1
          omega

theorem toIntS_calls {xs : List Int} {p : PV} {h : PHeap} (N : Nat) (hN : 1 ≤ N) (hp : IntSl .i64 h p xs) (hl : xs.length ≤ 2 ^ 36) (hf : xs.length < lf) :
    ∃ q h', CL g lf N fn_laws_toIntS [p] h = some (q, h') ∧ OwnSl h.length h' q xs ∧ Keep h.length h h' := by
  obtain ⟨n, rfl⟩ : ∃ n, N = n + 1 := ⟨N - 1, by omega⟩
  rw [laws_toIntS.call_eq]
  obtain ⟨q, h1, hm, ho, hk⟩ := made (h := h) hl
  obtain ⟨h', zs, hr, ho', hz, hk'⟩ := toIntS_loop g lf n (fun _ _ => none) xs.length 0 lf q (List.replicate xs.length 0) h1 h.length (by omega) hf (by simp) hl ho hk.1 (fun h' hk' => hp.keep (hk.trans hk'))
  refine ⟨q, h', ?_, ?_, hk.trans hk'⟩
  · simp only [laws_toIntS.main, env_len, env_make, env_lf, hp.len', Option.bind_some, hm]
    exact hr
  · simp at hz; rw [hz] at ho'; exact ho'

/-! ### eqIntS: are two lists equal? -/
theorem eqIntS_loop {xs ys : List Int} {p q : PV} {h : PHeap} (hp : IntSl .i64 h p xs) (hq : IntSl .i64 h q ys) (hxy : xs.length = ys.length) (hl : xs.length ≤ 2 ^ 36) : ∀ (m i fuel : Nat), i + m = xs.length → m < fuel →
    loopK (ev ((env g lf n).cx Tryd.prog laws_eqIntS.kl) laws_eqIntS.lp0) fuel (laws_eqIntS.st0 p q (.int .i64 i) h) (laws_eqIntS.K0 (env g lf n) (kTop Tryd.prog Tryd.f34)) = some (.bool (decide (xs.drop i = ys.drop i)), h)
  | 0, i, fuel, him, hf => by
    obtain ⟨f, rfl⟩ : ∃ f, fuel = f + 1 := ⟨fuel - 1, by omega⟩
    rw [loopK_succ, laws_eqIntS.body0_eq]
    have hlt : ¬ ((i : Int) < (xs.length : Int)) := by omega
    have hd : xs.drop i = ys.drop i := by rw [List.drop_eq_nil_of_le (by omega), List.drop_eq_nil_of_le (by omega)]
    simp [laws_eqIntS.body0, hp.len', hlt, laws_eqIntS.after0_se0_0_1_5_14, hd]
  | m + 1, i, fuel, him, hf => by
    obtain ⟨f, rfl⟩ : ∃ f, fuel = f + 1 := ⟨fuel - 1, by omega⟩
    have hi : i < xs.length := by omega
    have hi' : i < ys.length := by omega
    obtain ⟨a, ha, hla⟩ := hp.at' hi
    obtain ⟨b, hb, hlb⟩ := hq.at' hi'
    have ih := eqIntS_loop hp hq hxy hl m (i + 1) f (by omega) (by omega)
    have hlt : (i : Int) < (xs.length : Int) := by omega
    rw [loopK_succ, laws_eqIntS.body0_eq]
    have hdx : xs.drop i = xs[i] :: xs.drop (i + 1) := List.drop_eq_getElem_cons hi
    have hdy : ys.drop i = ys[i] :: ys.drop (i + 1) := List.drop_eq_getElem_cons hi'
    by_cases he : xs[i] = ys[i]
    · have hne : (xs[i] != ys[i]) = false := by simp [he]
      simp only [laws_eqIntS.body0, env_len, env_bin, env_indexAddr, env_load, hp.len', bin_lss, hlt, decide_true, Option.bind_some, cond_bool, cond_true, ha, hla, hb, hlb, bin_neq, hne, cond_false, bin_add, nx (show i < 2 ^ 40 by omega), kLoop_normal, ih]
      rw [hdx, hdy, he]
      simp only [List.cons.injEq, true_and]
    · have hne : (xs[i] != ys[i]) = true := by simp [he]
      simp only [laws_eqIntS.body0, env_len, env_bin, env_indexAddr, env_load, hp.len', bin_lss, hlt, decide_true, Option.bind_some, cond_bool, cond_true, ha, hla, hb, hlb, bin_neq, hne, kLoop_ret, laws_eqIntS.K0_ret, laws_eqIntS.top_sr_4, res_bool, Option.bind_some]
      rw [hdx, hdy]
      simp only [List.cons.injEq, he, false_and, decide_false]

theorem eqIntS_calls {xs ys : List Int} {p q : PV} {h : PHeap} (hp : IntSl .i64 h p xs) (hq : IntSl .i64 h q ys) (hl : xs.length ≤ 2 ^ 36) (hf : xs.length < lf) :
    CL g lf (n + 1) fn_laws_eqIntS [p, q] h = some (.bool (decide (xs = ys)), h) := by
  rw [laws_eqIntS.call_eq]
  by_cases hxy : xs.length = ys.length
  · have := eqIntS_loop g lf n hp hq hxy hl xs.length 0 lf (by omega) hf
    simp only [laws_eqIntS.main, env_len, env_bin, env_lf, hp.len', hq.len', Option.bind_some, bin_neq, hxy, bne_self_eq_false, cond_bool, cond_false]
    simpa using this
  · have hne : ((xs.length : Int) != (ys.length : Int)) = true := by simp; omega
    have hd : ¬ xs = ys := fun e => hxy (by rw [e])
    simp [laws_eqIntS.main, hp.len', hq.len', hne, hd]

/-! ### positions -/
def contentB (x : Int) : Bool := decide (0 ≤ x ∧ x ≤ 2)
def posB (r c : Int) (xs : List Int) : Bool := boardB r c && decide ((xs.length : Int) = r * c) && xs.all contentB

end Go.Proofs.YtlefknibddkjpaaDoor

/- The exact law on positions. -/
set_option maxRecDepth 20000
namespace Go.Proofs.YtlefknibddkjpaaDoor
open Go Go.Ip G

variable (g : Nat → PV) (lf n : Nat)

end Go.Proofs.YtlefknibddkjpaaDoor

/- The marks that the exact laws lay and look for, and the lists that both programs make of a position. -/
set_option maxRecDepth 20000
namespace Go.Proofs.YtlefknibddkjpaaDoor
open Go Go.Ip G

/-- A slice of the call's own, among the objects from n up to m. -/
def OwnB (n m : Nat) (h : PHeap) (p : PV) (xs : List Int) : Prop :=
  (p = .nilsl ∧ xs = []) ∨ ∃ id, n ≤ id ∧ id < m ∧ p = .sl id 0 xs.length ∧ h[id]? = some (.own 1 (xs.map (.int .i64)))

theorem OwnSl.b {n : Nat} {h : PHeap} {p : PV} {xs : List Int} (s : OwnSl n h p xs) : OwnB n h.length h p xs := by
  rcases s with s | ⟨id, h1, h2, h3⟩
  · exact .inl s
  · exact .inr ⟨id, h1, (List.getElem?_eq_some_iff.1 h3).1, h2, h3⟩

theorem OwnB.sl {n m : Nat} {h : PHeap} {p : PV} {xs : List Int} (s : OwnB n m h p xs) : OwnSl n h p xs := by
  rcases s with s | ⟨id, h1, _, h2, h3⟩
  · exact .inl s
  · exact .inr ⟨id, h1, h2, h3⟩

theorem OwnB.int {n m : Nat} {h : PHeap} {p : PV} {xs : List Int} (s : OwnB n m h p xs) : IntSl .i64 h p xs := s.sl.int

/-- Only the objects from n up to m may have been written to. -/
def Only (n m : Nat) (h h' : PHeap) : Prop := h'.length = h.length ∧ ∀ i, (i < n ∨ m ≤ i) → h'[i]? = h[i]?

theorem Only.refl (n m : Nat) (h : PHeap) : Only n m h h := ⟨rfl, fun _ _ => rfl⟩
theorem Only.trans {n m : Nat} {a b c : PHeap} (h : Only n m a b) (k : Only n m b c) : Only n m a c := ⟨k.1.trans h.1, fun i hi => (k.2 i hi).trans (h.2 i hi)⟩
theorem Only.keep {n m : Nat} {a b : PHeap} (h : Only n m a b) : Keep n a b := ⟨by rw [h.1]; exact Nat.le_refl _, fun i hi => h.2 i (.inl hi)⟩

theorem OwnB.keep {n m : Nat} {h h' : PHeap} {p : PV} {xs : List Int} (s : OwnB n m h p xs) (k : Keep m h h') : OwnB n m h' p xs := by
  rcases s with s | ⟨id, h1, h2, h3, h4⟩
  · exact .inl s
  · exact .inr ⟨id, h1, h2, h3, by rw [k.2 id h2]; exact h4⟩

theorem OwnB.only {n m n' m' : Nat} {h h' : PHeap} {p : PV} {xs : List Int} (s : OwnB n m h p xs) (k : Only n' m' h h') (hd : m ≤ n' ∨ m' ≤ n) : OwnB n m h' p xs := by
  rcases s with s | ⟨id, h1, h2, h3, h4⟩
  · exact .inl s
  · exact .inr ⟨id, h1, h2, h3, by rw [k.2 id (by omega)]; exact h4⟩

theorem OwnB.store {n m : Nat} {h : PHeap} {p : PV} {xs : List Int} (s : OwnB n m h p xs) {i : Nat} (hi : i < xs.length) (x : Int) :
    ∃ a h', indexAddrP Tryd.prog 25 p (.int .i64 i) = some a ∧ storeP Tryd.prog 3 a (.int .i64 x) h = some h' ∧ OwnB n m h' p (xs.set i x) ∧ Only n m h h' := by
  rcases s with ⟨rfl, rfl⟩ | ⟨id, h1, h2, rfl, h3⟩
  · simp at hi
  · have hid : id < h.length := (List.getElem?_eq_some_iff.1 h3).1
    refine ⟨.ptr id (0 + i), h.set id (.own 1 ((xs.set i x).map (.int .i64))), by simp [indexAddrP, tySize, hi], ?_, .inr ⟨id, h1, h2, by simp, by rw [List.getElem?_set_self hid]⟩, ⟨by simp, fun j hj => List.getElem?_set_ne (by omega)⟩⟩
    simp only [storeP, h3, PV.cells, tySize, Nat.zero_add]
    rw [if_pos ⟨rfl, by simp; omega⟩]
    simp [setCells, List.map_set]

/-- k, k + 1, k + 2 .. -/
def marks (k : Int) : Nat → List Int
  | 0 => []
  | n + 1 => k :: marks (k + 1) n

theorem marks_length : ∀ (n : Nat) (k : Int), (marks k n).length = n
  | 0, _ => rfl
  | n + 1, k => by rw [marks, List.length_cons, marks_length n]

theorem marks_get : ∀ (n : Nat) (k : Int) (i : Nat), i < n → (marks k n)[i]? = some (k + i)
  | 0, _, _, h => by omega
  | n + 1, k, 0, _ => by simp [marks]
  | n + 1, k, i + 1, h => by rw [marks, List.getElem?_cons_succ, marks_get n (k + 1) i (by omega)]; congr 1; push_cast; omega

variable (g : Nat → PV) (lf n : Nat)

theorem nk {k : Int} (h0 : 0 ≤ k) (h1 : k < 2 ^ 41) : IntKind.i64.wrap (k + 1) = k + 1 := wr (by omega)

theorem mark_loop {a b : Nat} {p : PV} : ∀ (m i fuel : Nat) (k : Int) (xs : List Int) (h : PHeap), OwnB a b h p xs → i + m = xs.length → m < fuel → xs.length ≤ 2 ^ 36 → 0 ≤ k → k ≤ 2 ^ 40 + i →
    ∃ h' zs, loopK (ev ((env g lf n).cx Tryd.prog laws_markIntS.kl) laws_markIntS.lp0) fuel (laws_markIntS.st0 p (.int .i64 k) (.int .i64 i) h) (laws_markIntS.K0 (env g lf n) (kTop Tryd.prog Tryd.f35)) = some (.int .i64 (k + m), h') ∧
      OwnB a b h' p zs ∧ zs = xs.take i ++ marks k m ∧ Only a b h h'
  | 0, i, fuel, k, xs, h, hp, him, hf, hl, h0, hk => by
    obtain ⟨f, rfl⟩ : ∃ f, fuel = f + 1 := ⟨fuel - 1, by omega⟩
    refine ⟨h, xs, ?_, hp, ?_, Only.refl _ _ _⟩
    · rw [loopK_succ, laws_markIntS.body0_eq]
      have hlt : ¬ ((i : Int) < (xs.length : Int)) := by omega
      simp [laws_markIntS.body0, hp.int.len', hlt, laws_markIntS.after0_se0_0_1_5_9]
    · rw [marks, List.append_nil, List.take_of_length_le (by omega)]
  | m + 1, i, fuel, k, xs, h, hp, him, hf, hl, h0, hk => by
    obtain ⟨f, rfl⟩ : ∃ f, fuel = f + 1 := ⟨fuel - 1, by omega⟩
    have hi : i < xs.length := by omega
    obtain ⟨ad, h2, ha, hs, hp2, ho⟩ := hp.store hi k
    obtain ⟨h', zs, hr, hp', hz, ho'⟩ := mark_loop m (i + 1) f (k + 1) (xs.set i k) h2 hp2 (by simp; omega) (by omega) (by simpa using hl) (by omega) (by push_cast; omega)
    refine ⟨h', zs, ?_, hp', ?_, ho.trans ho'⟩
    · rw [loopK_succ, laws_markIntS.body0_eq]
      have hlt : (i : Int) < (xs.length : Int) := by omega
      simp only [laws_markIntS.body0, env_len, env_bin, env_indexAddr, env_store, hp.int.len', bin_lss, hlt, decide_true, Option.bind_some, cond_bool, cond_true, ha, hs, bin_add, nx (show i < 2 ^ 40 by omega), nk h0 (by omega), kLoop_normal]
      rw [hr]
      congr 3
      push_cast
      omega
    · rw [hz, marks]
      apply List.ext_getElem?
      intro j
      by_cases hj : j < i
      · rw [List.getElem?_append_left (by simp; omega), List.getElem?_append_left (by simp; omega)]
        simp [hj, show j < i + 1 by omega, List.getElem?_set_ne (show i ≠ j by omega)]
      · by_cases hji : j = i
        · subst hji
          rw [List.getElem?_append_left (by simp; omega), List.getElem?_append_right (by simp; omega)]
          simp [List.getElem?_set_self hi, Nat.min_eq_left (show j ≤ xs.length by omega)]
        · rw [List.getElem?_append_right (by simp; omega), List.getElem?_append_right (by simp; omega)]
          simp only [List.length_take, List.length_set]
          rw [show j - min i xs.length = (j - min (i + 1) xs.length) + 1 by omega, List.getElem?_cons_succ]

theorem markIntS_calls {a b : Nat} {p : PV} {xs : List Int} {h : PHeap} (N : Nat) (hN : 1 ≤ N) (hp : OwnB a b h p xs) (hl : xs.length ≤ 2 ^ 36) (hf : xs.length < lf) :
    ∃ h', CL g lf N fn_laws_markIntS [p, .int .i64 1] h = some (.int .i64 (1 + xs.length), h') ∧ OwnB a b h' p (marks 1 xs.length) ∧ Only a b h h' := by
  obtain ⟨n, rfl⟩ : ∃ n, N = n + 1 := ⟨N - 1, by omega⟩
  rw [laws_markIntS.call_eq]
  obtain ⟨h', zs, hr, hp', hz, ho⟩ := mark_loop g lf n xs.length 0 lf 1 xs h hp (by omega) hf hl (by omega) (by omega)
  refine ⟨h', ?_, by simp at hz; rw [hz] at hp'; exact hp', ho⟩
  simp only [laws_markIntS.main, env_lf]
  exact hr

theorem held_loop {p : PV} {h : PHeap} {xs : List Int} (hp : IntSl .i64 h p xs) (hl : xs.length ≤ 2 ^ 36) : ∀ (m i fuel : Nat) (k : Int), i + m = xs.length → m < fuel → 0 ≤ k → k ≤ 2 ^ 40 + i → (∀ j : Nat, i ≤ j → j < xs.length → xs[j]? = some (k + (j - i))) →
    loopK (ev ((env g lf n).cx Tryd.prog laws_heldIntS.kl) laws_heldIntS.lp0) fuel (laws_heldIntS.st0 p (.int .i64 k) (.int .i64 i) h) (laws_heldIntS.K0 (env g lf n) (kTop Tryd.prog Tryd.f36)) = some (.int .i64 (k + m), h)
  | 0, i, fuel, k, him, hf, h0, hk, hx => by
    obtain ⟨f, rfl⟩ : ∃ f, fuel = f + 1 := ⟨fuel - 1, by omega⟩
    rw [loopK_succ, laws_heldIntS.body0_eq]
    have hlt : ¬ ((i : Int) < (xs.length : Int)) := by omega
    simp [laws_heldIntS.body0, hp.len', hlt, laws_heldIntS.after0_se0_0_1_5_9]
  | m + 1, i, fuel, k, him, hf, h0, hk, hx => by
    obtain ⟨f, rfl⟩ : ∃ f, fuel = f + 1 := ⟨fuel - 1, by omega⟩
    have hi : i < xs.length := by omega
    obtain ⟨ad, ha, hla⟩ := hp.at' hi
    have hxi : xs[i] = k := by
      have := hx i (Nat.le_refl _) hi
      rw [List.getElem?_eq_getElem hi] at this
      have := Option.some.inj this
      omega
    have ih := held_loop hp hl m (i + 1) f (k + 1) (by omega) (by omega) (by omega) (by push_cast; omega) (fun j h1 h2 => by rw [hx j (by omega) h2]; congr 1; push_cast; omega)
    have hlt : (i : Int) < (xs.length : Int) := by omega
    have hne : (xs[i] != k) = false := by simp [hxi]
    rw [loopK_succ, laws_heldIntS.body0_eq]
    simp only [laws_heldIntS.body0, env_len, env_bin, env_indexAddr, env_load, hp.len', bin_lss, hlt, decide_true, Option.bind_some, cond_bool, cond_true, ha, hla, bin_neq, hne, cond_false, bin_add, nx (show i < 2 ^ 40 by omega), nk h0 (by omega), kLoop_normal, ih]
    congr 3
    push_cast
    omega

theorem heldIntS_calls {p : PV} {m : Nat} {h : PHeap} (N : Nat) (hN : 1 ≤ N) (hp : IntSl .i64 h p (marks 1 m)) (hl : m ≤ 2 ^ 36) (hf : m < lf) :
    CL g lf N fn_laws_heldIntS [p, .int .i64 1] h = some (.int .i64 (1 + m), h) := by
  obtain ⟨n, rfl⟩ : ∃ n, N = n + 1 := ⟨N - 1, by omega⟩
  rw [laws_heldIntS.call_eq]
  have hm := marks_length m 1
  have := held_loop g lf n hp (by omega) m 0 lf 1 (by omega) hf (by omega) (by omega) (fun j _ h2 => by rw [marks_get m 1 j (by omega)]; congr 1)
  simp only [laws_heldIntS.main, env_lf]
  exact this

end Go.Proofs.YtlefknibddkjpaaDoor

/- The cells of one kind, and a position turned by half a turn: both programs, and their exact laws. -/
set_option maxRecDepth 20000
namespace Go.Proofs.YtlefknibddkjpaaDoor
open Go Go.Ip G

variable (g : Nat → PV) (lf n : Nat)

theorem OwnSl.res {n : Nat} {h : PHeap} {p : PV} {xs : List Int} (s : OwnSl n h p xs) : resV p = some p := by
  rcases s with ⟨rfl, _⟩ | ⟨id, _, rfl, _⟩ <;> rfl

end Go.Proofs.YtlefknibddkjpaaDoor

/- A position turned by half a turn: both programs, and the exact law. -/
set_option maxRecDepth 20000
namespace Go.Proofs.YtlefknibddkjpaaDoor
open Go Go.Ip G

variable (g : Nat → PV) (lf n : Nat)

end Go.Proofs.YtlefknibddkjpaaDoor

/- The reader from which the model draws: what a pick may come to. -/
set_option maxRecDepth 20000
namespace Go.Proofs.YtlefknibddkjpaaDoor
open Go Go.Ip Go.RowKit G

/-- A slice of bytes that came in, as the interpreter's heap holds it: the first object. -/
def Arg (h : PHeap) (p : PV) (xs : List Int) : Prop :=
  (∀ h', Keep 1 h h' → IntSl .u8 h' p xs) ∧ 1 ≤ h.length ∧ (∀ id off len, p = .sl id off len → 0 < len → id = 0 ∧ eszAt h id = 1) ∧ ∀ b ∈ xs, 0 ≤ b ∧ b ≤ 255

theorem arg_of {w : World} {a : Option Addr} {len cap : Nat} {zs : List Int}
    (h : (a = none ∧ len = 0 ∧ cap = 0 ∧ zs = []) ∨ ∃ x, a = some x ∧ len ≤ cap ∧ cap ≤ maxLen ∧ zs.length = cap ∧ (∀ i, i < zs.length → w.cell? (x.add i) = some (.int .u8 (zs.getD i 0))) ∧ ∀ n ∈ zs, (Lit.int .u8 n).wf = true) :
    ∃ μ o p, Sim w.heap.size w μ [o] w ∧ rep μ p (.slice a len cap) ∧ Arg [o] p (zs.take len) := by
  obtain ⟨μ, o, p, sim, hr, hs, hlen, hmax, hwf, hobj⟩ := row_arg h
  have hb : ∀ b ∈ zs.take len, 0 ≤ b ∧ b ≤ 255 := by
    intro b hb
    have := hwf b hb
    simp only [Lit.wf, IntKind.has, IntKind.min, IntKind.max, IntKind.signed, IntKind.bits] at this
    simp at this
    omega
  by_cases h0 : len = 0
  · refine ⟨μ, o, p, sim, hr, ?_, Nat.le_refl _, ?_, hb⟩
    · intro h' _
      rcases hs with hs | ⟨id, off, hp, hc⟩
      · exact .inl hs
      · exact .inr ⟨id, off, hp, fun i x hx => by simp [h0] at hx⟩
    · intro id off l hp hl
      subst hp
      obtain ⟨_, _, _, _, e, _⟩ := rep_sl hr
      cases e
      omega
  · rcases hs with ⟨_, hs⟩ | ⟨id, off, hp, hc⟩
    · rw [hs] at hlen; simp at hlen; omega
    · have hlt : 0 < (zs.take len).length := by omega
      have hid : id = 0 := by
        have := lt_of_cell (hc 0 _ (List.getElem?_eq_getElem hlt))
        simp at this
        exact this
      subst hid
      refine ⟨μ, o, p, sim, hr, ?_, Nat.le_refl _, ?_, hb⟩
      · intro h' hk
        exact .inr ⟨0, off, hp, fun i x hx => by rw [cellsAt_keep hk (by omega)]; exact hc i x hx⟩
      · intro id' off' l hp' hl
        rw [hp] at hp'
        cases hp'
        refine ⟨rfl, ?_⟩
        rcases hobj with rfl | ⟨c, rfl⟩
        · have := hc 0 _ (List.getElem?_eq_getElem hlt)
          simp [cellsAt, PObj.get] at this
        · rfl

theorem fa0 (id off : Nat) : fieldAddrP Tryd.prog 57 (.ptr id off) 0 = some (.ptr id (off + 0)) := by kernel_rfl
theorem fa1 (id off : Nat) : fieldAddrP Tryd.prog 57 (.ptr id off) 1 = some (.ptr id (off + 1)) := by kernel_rfl
theorem tyB : Tryd.prog.underlying 22 = some (.slice 5) := by kernel_rfl
theorem tyBSize : sizeT Tryd.prog 5 = some 1 := by kernel_rfl
theorem tyBAgg : isAggT Tryd.prog 5 = some false := by kernel_rfl
theorem tyBsAgg : isAggT Tryd.prog 22 = some false := by kernel_rfl
theorem tyBElem : elemT Tryd.prog 22 = some 5 := by kernel_rfl
theorem conv_byte (k : IntKind) (x : Int) : convP Tryd.prog 5 3 (.int k x) = some (.int .i64 (IntKind.i64.wrap x)) := by kernel_rfl
theorem build_sl (a b c : Nat) : buildP Tryd.prog 57 [(0, .sl a b c)] = some (.agg [.sl a b c, .int .i64 0]) := by kernel_rfl
theorem build_nil : buildP Tryd.prog 57 [(0, .nilsl)] = some (.agg [.nilsl, .int .i64 0]) := by kernel_rfl

/-- The reader: object id, over a code of at most 2000 bytes, at most m picks behind. -/
def Rd (h : PHeap) (id m : Nat) : Prop :=
  ∃ bp bs pos, h[id]? = some (.own 1 [bp, .int .i64 pos]) ∧ (∀ h', Keep id h h' → IntSl .u8 h' bp bs) ∧ (∀ b ∈ bs, (0 : Int) ≤ b ∧ b ≤ 255) ∧ bs.length ≤ 2000 ∧ 0 ≤ pos ∧ pos ≤ (m : Int)

theorem Rd.keep {h h' : PHeap} {id m n : Nat} (r : Rd h id m) (hk : Keep n h h') (hn : id < n) : Rd h' id m := by
  obtain ⟨bp, bs, pos, h1, h2, rest⟩ := r
  exact ⟨bp, bs, pos, by rw [hk.2 id hn]; exact h1, fun h3 hk3 => h2 h3 ((hk.mono (by omega)).trans hk3), rest⟩

theorem Rd.lt {h : PHeap} {id m : Nat} (r : Rd h id m) : id < h.length := by
  obtain ⟨bp, bs, pos, h1, _⟩ := r
  exact (List.getElem?_eq_some_iff.1 h1).1

theorem xor_small {a b : Int} (ha : 0 ≤ a) (ha' : a < 4611686018427387904) (hb : 0 ≤ b) (hb' : b < 4611686018427387904) :
    0 ≤ IntKind.i64.wrap ((BitVec.ofInt IntKind.i64.bits a ^^^ BitVec.ofInt IntKind.i64.bits b).toNat : Int) := by
  obtain ⟨x, rfl⟩ := Int.eq_ofNat_of_zero_le ha
  obtain ⟨y, rfl⟩ := Int.eq_ofNat_of_zero_le hb
  have hx : x < 2 ^ 62 := by omega
  have hy : y < 2 ^ 62 := by omega
  have hz : x ^^^ y < 2 ^ 62 := Nat.xor_lt_two_pow hx hy
  have e : (BitVec.ofInt IntKind.i64.bits (x : Int) ^^^ BitVec.ofInt IntKind.i64.bits (y : Int)).toNat = x ^^^ y := by
    have hbits : IntKind.i64.bits = 64 := rfl
    rw [BitVec.toNat_xor, BitVec.toNat_ofInt, BitVec.toNat_ofInt, hbits]
    congr 1 <;> omega
  rw [e, wr (by omega)]
  omega

variable (g : Nat → PV) (lf n : Nat)

theorem open_calls {p : PV} {xs : List Int} {h : PHeap} (N : Nat) (hN : 1 ≤ N) (ha : Arg h p xs) :
    ∃ h', CL g lf N fn_spec_l20Open [p] h = some (.ptr h.length 0, h') ∧ Rd h' h.length 0 ∧ Keep h.length h h' := by
  obtain ⟨n, rfl⟩ : ∃ n, N = n + 1 := ⟨N - 1, by omega⟩
  rw [spec_l20Open.call_eq]
  obtain ⟨hs, hlen, hesz, hb⟩ := ha
  have hs0 := hs h (Keep.refl _ _)
  have hlenp : lenP Tryd.prog 22 p = some (.int .i64 xs.length) := hs0.len tyB
  by_cases hbig : (2000 : Int) < (xs.length : Int)
  · rcases hs0 with ⟨_, rfl⟩ | ⟨id, off, rfl, hc⟩
    · simp at hbig
    · obtain ⟨rfl, he⟩ := hesz id off xs.length rfl (by omega)
      have hsl : sliceP Tryd.prog 22 (.sl 0 off xs.length) none (some (.int .i64 2000)) h = some (.sl 0 off 2000) := by
        have : (2000 : Int) ≤ (xs.length : Int) := by omega
        simp [sliceP, tyBElem, tyBSize, he, boundP, this]
      refine ⟨h ++ [.own 1 [.sl 0 off 2000, .int .i64 0]], ?_, ?_, Keep.append _ _ _ (Nat.le_refl _)⟩
      · simp [spec_l20Open.main, hlenp, hbig, hsl, build_sl, boxP, PV.cells, PV.oneCell]
      · refine ⟨.sl 0 off 2000, xs.take 2000, 0, by simp, fun h' hk => ?_, fun b hb' => hb b (List.mem_of_mem_take hb'), by simp; omega, by omega, by omega⟩
        have hk' : Keep 1 h h' := ((Keep.append h.length h _ (Nat.le_refl _)).mono hlen).trans (hk.mono hlen)
        rcases hs h' hk' with ⟨hx, _⟩ | ⟨id', off', hx, hc'⟩
        · cases hx
        · cases hx
          refine .inr ⟨0, off, by simp; omega, fun i x hi => ?_⟩
          rw [List.getElem?_take] at hi
          split at hi
          · exact hc' i x hi
          · cases hi
  · refine ⟨h ++ [.own 1 [p, .int .i64 0]], ?_, ?_, Keep.append _ _ _ (Nat.le_refl _)⟩
    · rcases hs0 with ⟨rfl, rfl⟩ | ⟨id, off, rfl, hc⟩
      · simp [spec_l20Open.main, hlenp, build_nil, boxP, PV.cells, PV.oneCell]
      · simp [spec_l20Open.main, hlenp, hbig, build_sl, boxP, PV.cells, PV.oneCell]
    · exact ⟨p, xs, 0, by simp, fun h' hk => hs h' (((Keep.append h.length h _ (Nat.le_refl _)).mono hlen).trans (hk.mono hlen)), hb, by omega, by omega, by omega⟩

end Go.Proofs.YtlefknibddkjpaaDoor

