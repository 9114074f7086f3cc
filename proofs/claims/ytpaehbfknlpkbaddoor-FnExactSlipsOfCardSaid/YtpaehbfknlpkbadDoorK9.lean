/- Texts of this seat, in their order, put together by program. -/
import Derived.Test.YtpaehbfknlpkbadDoorK8
import Derived.IntWalk
set_option linter.unusedSimpArgs false
set_option linter.unusedVariables false
set_option linter.unusedSectionVars false
/- What the operations come to on values that are written out: rules for the simplifier; and the types of this program. -/
set_option maxRecDepth 20000
namespace Go.Proofs.YtpaehbfknlpkbadDoor
open Go Go.Ip

section
variable {P : Program} {t : TypeId} {k : IntKind} {a b : Int} {h : PHeap}

@[simp] theorem bin_add : binP P .add t (.int k a) (.int k b) = some (.int k (k.wrap (a + b))) := by simp [binP, binI]
@[simp] theorem bin_sub : binP P .sub t (.int k a) (.int k b) = some (.int k (k.wrap (a - b))) := by simp [binP, binI]
@[simp] theorem bin_mul : binP P .mul t (.int k a) (.int k b) = some (.int k (k.wrap (a * b))) := by simp [binP, binI]
theorem bin_quo (hb : b ≠ 0) : binP P .quo t (.int k a) (.int k b) = some (.int k (k.wrap (a.tdiv b))) := by simp [binP, binI, hb]
theorem bin_rem (hb : b ≠ 0) : binP P .rem t (.int k a) (.int k b) = some (.int k (a.tmod b)) := by simp [binP, binI, hb]
@[simp] theorem bin_eql : binP P .eql t (.int k a) (.int k b) = some (.bool (a == b)) := by simp [binP, binI]
@[simp] theorem bin_neq : binP P .neq t (.int k a) (.int k b) = some (.bool (a != b)) := by simp [binP, binI]
@[simp] theorem bin_lss : binP P .lss t (.int k a) (.int k b) = some (.bool (decide (a < b))) := by simp [binP, binI]
@[simp] theorem bin_leq : binP P .leq t (.int k a) (.int k b) = some (.bool (decide (a ≤ b))) := by simp [binP, binI]
@[simp] theorem bin_gtr : binP P .gtr t (.int k a) (.int k b) = some (.bool (decide (b < a))) := by simp [binP, binI]
@[simp] theorem bin_geq : binP P .geq t (.int k a) (.int k b) = some (.bool (decide (b ≤ a))) := by simp [binP, binI]
@[simp] theorem un_not {x : Bool} : unP .not (.bool x) = some (.bool (!x)) := rfl
@[simp] theorem un_neg : unP .neg (.int k a) = some (.int k (k.wrap (0 - a))) := rfl
@[simp] theorem pick_bool {x : Bool} {u v : PV} : pickP (.bool x) u v = some (bif x then u else v) := rfl
@[simp] theorem want_bool {x y : Bool} : wantV (.bool x) y = some (x == y) := rfl
@[simp] theorem want_undef {y : Bool} : wantV (.tup []) y = some false := rfl
@[simp] theorem cond_bool {x : Bool} {u v : Res} : condP (.bool x) u v = bif x then u else v := rfl
@[simp] theorem res_int : resV (.int k a) = some (.int k a) := rfl
@[simp] theorem res_bool {x : Bool} : resV (.bool x) = some (.bool x) := rfl
@[simp] theorem res_sl {i o l : Nat} : resV (.sl i o l) = some (.sl i o l) := rfl
@[simp] theorem res_nilsl : resV .nilsl = some .nilsl := rfl
@[simp] theorem res_ptr {i o : Nat} : resV (.ptr i o) = some (.ptr i o) := rfl
@[simp] theorem pv_some' {v : PV} : pv h (some v) = some (v, h) := rfl
@[simp] theorem ptr_ptr {i o : Nat} : ptrP (.ptr i o) = some (.ptr i o) := rfl
@[simp] theorem extract_tup {l : List PV} {i : Nat} : extractP (.tup l) i = l[i]? := rfl
@[simp] theorem fold_nil {f : PV → PV → Option PV} {x : PV} : foldP f x [] = some x := rfl
@[simp] theorem fold_cons {f : PV → PV → Option PV} {x y : PV} {ys : List PV} : foldP f x (y :: ys) = (f x y).bind fun z => foldP f z ys := rfl
@[simp] theorem max2_int {k' : IntKind} : maxP2 (.int k a) (.int k' b) = some (.int k (if b > a then b else a)) := rfl
@[simp] theorem min2_int {k' : IntKind} : minP2 (.int k a) (.int k' b) = some (.int k (if b < a then b else a)) := rfl
theorem wr {x : Int} (hx : -9223372036854775808 ≤ x ∧ x ≤ 9223372036854775807) : IntKind.i64.wrap x = x := by rw [IntKind.wrap_i64]; omega

theorem bin_eqlB {x y : Bool} (ht : isBoolT P t = true) : binP P .eql t (.bool x) (.bool y) = some (.bool (x == y)) := by simp [binP, ht]
theorem bin_neqB {x y : Bool} (ht : isBoolT P t = true) : binP P .neq t (.bool x) (.bool y) = some (.bool (!(x == y))) := by simp [binP, ht]
end

@[simp] theorem ty_bool : isBoolT Tryd.prog 4 = true := by kernel_rfl
@[simp] theorem neqB {x y : Bool} : binP Tryd.prog .neq 4 (.bool x) (.bool y) = some (.bool (!(x == y))) := bin_neqB ty_bool
@[simp] theorem eqlB {x y : Bool} : binP Tryd.prog .eql 4 (.bool x) (.bool y) = some (.bool (x == y)) := bin_eqlB ty_bool

end Go.Proofs.YtpaehbfknlpkbadDoor

/- Slices of integers on the interpreter's heap: how they are read, made, written and appended to. -/
set_option maxRecDepth 20000
namespace Go.Proofs.YtpaehbfknlpkbadDoor
open Go Go.Ip G

def kLoop (f : St → (PX → St → Res) → Res) (n : Nat) (k : PX → St → Res) : PX → St → Res := fun x s => match x with | .normal => loopK f n s k | x => k x s
theorem loopK_succ (f : St → (PX → St → Res) → Res) (n : Nat) (s : St) (k : PX → St → Res) : loopK f (n + 1) s k = f s (kLoop f n k) := rfl
@[simp] theorem kLoop_normal (f : St → (PX → St → Res) → Res) (n : Nat) (s : St) (k : PX → St → Res) : kLoop f n k .normal s = loopK f n s k := rfl
@[simp] theorem kLoop_exit (f : St → (PX → St → Res) → Res) (n i : Nat) (s : St) (k : PX → St → Res) : kLoop f n k (.exit i) s = k (.exit i) s := rfl
@[simp] theorem kLoop_ret (f : St → (PX → St → Res) → Res) (n : Nat) (s : St) (k : PX → St → Res) : kLoop f n k .ret s = k .ret s := rfl

/-- The first n objects are as they were. -/
def Keep (n : Nat) (h h' : PHeap) : Prop := h.length ≤ h'.length ∧ ∀ i, i < n → h'[i]? = h[i]?

theorem Keep.refl (n : Nat) (h : PHeap) : Keep n h h := ⟨Nat.le_refl _, fun _ _ => rfl⟩
theorem Keep.trans {n : Nat} {a b c : PHeap} (h : Keep n a b) (k : Keep n b c) : Keep n a c := ⟨Nat.le_trans h.1 k.1, fun i hi => (k.2 i hi).trans (h.2 i hi)⟩
theorem Keep.mono {n m : Nat} {a b : PHeap} (h : Keep n a b) (hm : m ≤ n) : Keep m a b := ⟨h.1, fun i hi => h.2 i (by omega)⟩
theorem Keep.append (n : Nat) (h E : PHeap) (hn : n ≤ h.length) : Keep n h (h ++ E) := ⟨by simp, fun i hi => List.getElem?_append_left (by omega)⟩
theorem Keep.set (n : Nat) (h : PHeap) (i : Nat) (o : PObj) (hi : n ≤ i) : Keep n h (h.set i o) := ⟨by simp, fun j hj => List.getElem?_set_ne (by omega)⟩

theorem cellsAt_keep {n : Nat} {h h' : PHeap} (k : Keep n h h') {id : Nat} (hi : id < n) : cellsAt h' id = cellsAt h id := by
  unfold cellsAt; rw [k.2 id hi]

theorem lt_of_cell {h : PHeap} {id j : Nat} {v : PV} (hv : (cellsAt h id)[j]? = some v) : id < h.length := by
  unfold cellsAt at hv
  cases ho : h[id]? with
  | none => rw [ho] at hv; simp at hv
  | some o => exact (List.getElem?_eq_some_iff.1 ho).1

theorem IntSl.keep {k : IntKind} {h h' : PHeap} {p : PV} {xs : List Int} (s : IntSl k h p xs) (hk : Keep h.length h h') : IntSl k h' p xs := by
  rcases s with s | ⟨id, off, hp, hc⟩
  · exact .inl s
  · exact .inr ⟨id, off, hp, fun i x hx => by rw [cellsAt_keep hk (lt_of_cell (hc i x hx))]; exact hc i x hx⟩

theorem IntSl.nil (k : IntKind) (h : PHeap) : IntSl k h .nilsl [] := .inl ⟨rfl, rfl⟩

section
variable {P : Program} {T I : TypeId}

theorem IntSl.len {k : IntKind} {h : PHeap} {p : PV} {xs : List Int} (s : IntSl k h p xs) (hT : P.underlying T = some (.slice I)) : lenP P T p = some (.int .i64 xs.length) := by
  rcases s with ⟨rfl, rfl⟩ | ⟨id, off, rfl, hc⟩ <;> simp [lenP, hT]

theorem IntSl.at {k : IntKind} {h : PHeap} {p : PV} {xs : List Int} (s : IntSl k h p xs) (hT : P.underlying T = some (.slice I)) (hS : sizeT P I = some 1) (hA : isAggT P I = some false) {i : Nat} (hi : i < xs.length) :
    ∃ a, indexAddrP P T p (.int .i64 i) = some a ∧ loadP P I a h = some (.int k xs[i]) := by
  rcases s with ⟨rfl, rfl⟩ | ⟨id, off, rfl, hc⟩
  · simp at hi
  · refine ⟨.ptr id (off + i), ?_, ?_⟩
    · simp [indexAddrP, hT, hS, hi]
    · simp only [loadP, hA]
      exact hc i _ (List.getElem?_eq_getElem hi)
end

/-- A slice of integers that the call itself made, from object n on. -/
def OwnSl (n : Nat) (h : PHeap) (p : PV) (xs : List Int) : Prop :=
  (p = .nilsl ∧ xs = []) ∨ ∃ id, n ≤ id ∧ p = .sl id 0 xs.length ∧ h[id]? = some (.own 1 (xs.map (.int .i64)))

theorem OwnSl.int {n : Nat} {h : PHeap} {p : PV} {xs : List Int} (s : OwnSl n h p xs) : IntSl .i64 h p xs := by
  rcases s with s | ⟨id, _, hp, ho⟩
  · exact .inl s
  · refine .inr ⟨id, 0, hp, fun i x hx => ?_⟩
    simp [cellsAt, ho, PObj.get, hx]

theorem OwnSl.mono {n m : Nat} {h : PHeap} {p : PV} {xs : List Int} (s : OwnSl n h p xs) (hm : m ≤ n) : OwnSl m h p xs := by
  rcases s with s | ⟨id, h1, h2⟩
  · exact .inl s
  · exact .inr ⟨id, by omega, h2⟩

theorem OwnSl.keep {n : Nat} {h h' : PHeap} {p : PV} {xs : List Int} (s : OwnSl n h p xs) (hk : Keep h.length h h') : OwnSl n h' p xs := by
  rcases s with s | ⟨id, h1, h2, h3⟩
  · exact .inl s
  · exact .inr ⟨id, h1, h2, by rw [hk.2 id (List.getElem?_eq_some_iff.1 h3).1]; exact h3⟩

theorem OwnSl.nil (n : Nat) (h : PHeap) : OwnSl n h .nilsl [] := .inl ⟨rfl, rfl⟩

theorem tyS : Tryd.prog.underlying 22 = some (.slice 3) := by kernel_rfl
theorem tySize : sizeT Tryd.prog 3 = some 1 := by kernel_rfl
theorem tyAgg : isAggT Tryd.prog 3 = some false := by kernel_rfl
theorem tyElem : elemT Tryd.prog 22 = some 3 := by kernel_rfl
theorem tyZero : zeroCellsT Tryd.prog 3 = some [.int .i64 0] := by kernel_rfl
theorem tySmall : smallT Tryd.prog 3 = true := by kernel_rfl

theorem IntSl.len' {k : IntKind} {h : PHeap} {p : PV} {xs : List Int} (s : IntSl k h p xs) : lenP Tryd.prog 22 p = some (.int .i64 xs.length) := s.len tyS
theorem IntSl.at' {k : IntKind} {h : PHeap} {p : PV} {xs : List Int} (s : IntSl k h p xs) {i : Nat} (hi : i < xs.length) :
    ∃ a, indexAddrP Tryd.prog 22 p (.int .i64 i) = some a ∧ loadP Tryd.prog 3 a h = some (.int k xs[i]) := s.at tyS tySize tyAgg hi

theorem OwnSl.store {n : Nat} {h : PHeap} {p : PV} {xs : List Int} (s : OwnSl n h p xs) {i : Nat} (hi : i < xs.length) (x : Int) :
    ∃ a h', indexAddrP Tryd.prog 22 p (.int .i64 i) = some a ∧ storeP Tryd.prog 3 a (.int .i64 x) h = some h' ∧ OwnSl n h' p (xs.set i x) ∧ Keep n h h' ∧ h'.length = h.length := by
  rcases s with ⟨rfl, rfl⟩ | ⟨id, h1, rfl, h3⟩
  · simp at hi
  · have hid : id < h.length := (List.getElem?_eq_some_iff.1 h3).1
    refine ⟨.ptr id (0 + i), h.set id (.own 1 ((xs.set i x).map (.int .i64))), by simp [indexAddrP, tySize, hi], ?_, .inr ⟨id, h1, by simp, by rw [List.getElem?_set_self hid]⟩, Keep.set _ _ _ _ h1, by simp⟩
    simp only [storeP, h3, PV.cells, tySize, Nat.zero_add]
    rw [if_pos ⟨rfl, by simp; omega⟩]
    simp [setCells, List.map_set]

/-- What 'make' gives. -/
theorem made {h : PHeap} {m : Nat} (hm : m ≤ 2 ^ 36) : ∃ p h', makeP Tryd.prog 22 (.int .i64 m) (.int .i64 m) h = some (p, h') ∧ OwnSl h.length h' p (List.replicate m 0) ∧ Keep h.length h h' := by
  refine ⟨.sl h.length 0 m, h ++ [.own 1 ((List.replicate m 0).map (.int .i64))], ?_, .inr ⟨h.length, Nat.le_refl _, by simp, by simp⟩, Keep.append _ _ _ (Nat.le_refl _)⟩
  have hrep : ∀ k : Nat, repeatCells [PV.int .i64 0] k = (List.replicate k (0 : Int)).map (.int .i64) := by
    intro k
    induction k with
    | zero => rfl
    | succ k ih => rw [repeatCells, ih, List.replicate_succ]; rfl
  have hm' : (m : Int) ≤ 68719476736 := by omega
  simp [makeP, tyElem, tySize, tyZero, tySmall, hm', hrep]

/-- One element more. -/
theorem OwnSl.append {n : Nat} {h : PHeap} {p : PV} {xs : List Int} (s : OwnSl n h p xs) (hn : n ≤ h.length) (x : Int) (hl : xs.length + 1 ≤ 2 ^ 36) :
    ∃ v p' h', buildSliceP Tryd.prog 22 1 [(0, .int .i64 x)] h = some v ∧ appendP Tryd.prog 22 22 p v.1 v.2 = some (p', h') ∧ OwnSl n h' p' (xs ++ [x]) ∧ Keep n h h' := by
  have hb : buildSliceP Tryd.prog 22 1 [(0, .int .i64 x)] h = some (.sl h.length 0 1, h ++ [.own 1 [.int .i64 x]]) := by
    simp [buildSliceP, tyElem, tySize, tyZero, repeatCells, fillP, PV.cells, setCells]
  have hsrc : srcP (h ++ [.own 1 [.int .i64 x]]) 1 (.sl h.length 0 1) = some (1, [.int .i64 x]) := by
    simp [srcP, cellsAt, PObj.get]
  rcases s with ⟨rfl, rfl⟩ | ⟨id, h1, rfl, h3⟩
  · refine ⟨_, .sl (h.length + 1) 0 1, h ++ [.own 1 [.int .i64 x]] ++ [.own 1 [.int .i64 x]], hb, ?_, .inr ⟨h.length + 1, by omega, rfl, ?_⟩, ?_⟩
    · simp [appendP, tyElem, tySize, tySmall, hsrc]
    · rw [List.getElem?_append_right (by simp)]; simp
    · rw [List.append_assoc]; exact Keep.append _ _ _ hn
  · have hid : id < h.length := (List.getElem?_eq_some_iff.1 h3).1
    have h3' : (h ++ [PObj.own 1 [.int .i64 x]])[id]? = some (.own 1 (xs.map (.int .i64))) := by rw [List.getElem?_append_left hid]; exact h3
    refine ⟨_, .sl (h.length + 1) 0 (xs.length + 1), ((h ++ [PObj.own 1 [.int .i64 x]]).set id .dead ++ [PObj.own 1 (xs.map (.int .i64) ++ [.int .i64 x])]), hb, ?_, .inr ⟨h.length + 1, by omega, by simp, ?_⟩, ?_⟩
    · simp [appendP, tyElem, tySize, tySmall, hsrc, h3', hl]
    · rw [List.getElem?_append_right (by simp)]; simp
    · exact ((Keep.append n h _ hn).trans (Keep.set n _ id .dead h1)).trans (Keep.append _ _ _ (by simp; omega))

/-- An empty literal. -/
theorem empty_lit {h : PHeap} : ∃ p h', buildSliceP Tryd.prog 22 0 [] h = some (p, h') ∧ OwnSl h.length h' p [] ∧ Keep h.length h h' := by
  refine ⟨.sl h.length 0 0, h ++ [.own 1 []], by simp [buildSliceP, tyElem, tySize, tyZero, repeatCells, fillP], .inr ⟨h.length, Nat.le_refl _, rfl, by simp⟩, Keep.append _ _ _ (Nat.le_refl _)⟩

theorem nx {i : Nat} (hi : i < 2 ^ 40) : IntKind.i64.wrap ((i : Int) + 1) = ((i + 1 : Nat) : Int) := by
  rw [wr (by omega)]; rfl

end Go.Proofs.YtpaehbfknlpkbadDoor

