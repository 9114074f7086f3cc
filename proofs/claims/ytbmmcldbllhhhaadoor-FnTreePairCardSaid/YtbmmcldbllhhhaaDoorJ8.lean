/- Texts of this seat, in their order, put together by program. -/
import Derived.Test.YtbmmcldbllhhhaaDoorJ7
import Derived.IntWalk
import Derived.Test.YtbmmcldbllhhhaaDoorProg
import Derived.KernelRfl
set_option linter.unusedSimpArgs false
set_option linter.unusedVariables false
set_option linter.unusedSectionVars false
/- What the operations come to on values that are written out: rules for the simplifier; and the types of this program. -/
set_option maxRecDepth 20000
namespace Go.Proofs.YtbmmcldbllhhhaaDoor
open Go Go.Ip

section
variable {P : Program} {t : TypeId} {k : IntKind} {a b : Int} {h : PHeap}

@[simp] theorem bin_add : binP P .add t (.int k a) (.int k b) = some (.int k (k.wrap (a + b))) := by simp [binP, binI]
@[simp] theorem bin_sub : binP P .sub t (.int k a) (.int k b) = some (.int k (k.wrap (a - b))) := by simp [binP, binI]
@[simp] theorem bin_mul : binP P .mul t (.int k a) (.int k b) = some (.int k (k.wrap (a * b))) := by simp [binP, binI]
theorem bin_quo (hb : b ≠ 0) : binP P .quo t (.int k a) (.int k b) = some (.int k (k.wrap (a.tdiv b))) := by simp [binP, binI, hb]
theorem bin_rem (hb : b ≠ 0) : binP P .rem t (.int k a) (.int k b) = some (.int k (a.tmod b)) := by simp [binP, binI, hb]
@[simp] theorem bin_eql : binP P .eql t (.int k a) (.int k b) = some (.bool (a == b)) := by simp [binP, binI]
@[simp] theorem bin_neq : binP P .neq t (.int k a) (.int k b) = some (.bool (a != b)) := by simp [binP, binI]
@[simp] theorem bin_lss : binP P .lss t (.int k a) (.int k b) = some (.bool (decide (a < b))) := by simp [binP, binI]
@[simp] theorem bin_leq : binP P .leq t (.int k a) (.int k b) = some (.bool (decide (a ≤ b))) := by simp [binP, binI]
@[simp] theorem bin_gtr : binP P .gtr t (.int k a) (.int k b) = some (.bool (decide (b < a))) := by simp [binP, binI]
@[simp] theorem bin_geq : binP P .geq t (.int k a) (.int k b) = some (.bool (decide (b ≤ a))) := by simp [binP, binI]
@[simp] theorem un_not {x : Bool} : unP .not (.bool x) = some (.bool (!x)) := rfl
@[simp] theorem un_neg : unP .neg (.int k a) = some (.int k (k.wrap (0 - a))) := rfl
@[simp] theorem pick_bool {x : Bool} {u v : PV} : pickP (.bool x) u v = some (bif x then u else v) := rfl
@[simp] theorem want_bool {x y : Bool} : wantV (.bool x) y = some (x == y) := rfl
@[simp] theorem want_undef {y : Bool} : wantV (.tup []) y = some false := rfl
@[simp] theorem cond_bool {x : Bool} {u v : Res} : condP (.bool x) u v = bif x then u else v := rfl
@[simp] theorem res_int : resV (.int k a) = some (.int k a) := rfl
@[simp] theorem res_bool {x : Bool} : resV (.bool x) = some (.bool x) := rfl
@[simp] theorem res_sl {i o l : Nat} : resV (.sl i o l) = some (.sl i o l) := rfl
@[simp] theorem res_nilsl : resV .nilsl = some .nilsl := rfl
@[simp] theorem res_ptr {i o : Nat} : resV (.ptr i o) = some (.ptr i o) := rfl
@[simp] theorem pv_some' {v : PV} : pv h (some v) = some (v, h) := rfl
@[simp] theorem ptr_ptr {i o : Nat} : ptrP (.ptr i o) = some (.ptr i o) := rfl
@[simp] theorem extract_tup {l : List PV} {i : Nat} : extractP (.tup l) i = l[i]? := rfl
@[simp] theorem fold_nil {f : PV → PV → Option PV} {x : PV} : foldP f x [] = some x := rfl
@[simp] theorem fold_cons {f : PV → PV → Option PV} {x y : PV} {ys : List PV} : foldP f x (y :: ys) = (f x y).bind fun z => foldP f z ys := rfl
@[simp] theorem max2_int {k' : IntKind} : maxP2 (.int k a) (.int k' b) = some (.int k (if b > a then b else a)) := rfl
@[simp] theorem min2_int {k' : IntKind} : minP2 (.int k a) (.int k' b) = some (.int k (if b < a then b else a)) := rfl
theorem wr {x : Int} (hx : -9223372036854775808 ≤ x ∧ x ≤ 9223372036854775807) : IntKind.i64.wrap x = x := by rw [IntKind.wrap_i64]; omega

theorem bin_eqlB {x y : Bool} (ht : isBoolT P t = true) : binP P .eql t (.bool x) (.bool y) = some (.bool (x == y)) := by simp [binP, ht]
theorem bin_neqB {x y : Bool} (ht : isBoolT P t = true) : binP P .neq t (.bool x) (.bool y) = some (.bool (!(x == y))) := by simp [binP, ht]
end

@[simp] theorem ty_bool : isBoolT Tryd.prog 4 = true := by kernel_rfl
@[simp] theorem neqB {x y : Bool} : binP Tryd.prog .neq 4 (.bool x) (.bool y) = some (.bool (!(x == y))) := bin_neqB ty_bool
@[simp] theorem eqlB {x y : Bool} : binP Tryd.prog .eql 4 (.bool x) (.bool y) = some (.bool (x == y)) := bin_eqlB ty_bool

end Go.Proofs.YtbmmcldbllhhhaaDoor

/- Slices of integers on the interpreter's heap: how they are read, made, written and appended to. -/
set_option maxRecDepth 20000
namespace Go.Proofs.YtbmmcldbllhhhaaDoor
open Go Go.Ip G

def kLoop (f : St → (PX → St → Res) → Res) (n : Nat) (k : PX → St → Res) : PX → St → Res := fun x s => match x with | .normal => loopK f n s k | x => k x s
theorem loopK_succ (f : St → (PX → St → Res) → Res) (n : Nat) (s : St) (k : PX → St → Res) : loopK f (n + 1) s k = f s (kLoop f n k) := rfl
@[simp] theorem kLoop_normal (f : St → (PX → St → Res) → Res) (n : Nat) (s : St) (k : PX → St → Res) : kLoop f n k .normal s = loopK f n s k := rfl
@[simp] theorem kLoop_exit (f : St → (PX → St → Res) → Res) (n i : Nat) (s : St) (k : PX → St → Res) : kLoop f n k (.exit i) s = k (.exit i) s := rfl
@[simp] theorem kLoop_ret (f : St → (PX → St → Res) → Res) (n : Nat) (s : St) (k : PX → St → Res) : kLoop f n k .ret s = k .ret s := rfl

/-- The first n objects are as they were. -/
def Keep (n : Nat) (h h' : PHeap) : Prop := h.length ≤ h'.length ∧ ∀ i, i < n → h'[i]? = h[i]?

theorem Keep.refl (n : Nat) (h : PHeap) : Keep n h h := ⟨Nat.le_refl _, fun _ _ => rfl⟩
theorem Keep.trans {n : Nat} {a b c : PHeap} (h : Keep n a b) (k : Keep n b c) : Keep n a c := ⟨Nat.le_trans h.1 k.1, fun i hi => (k.2 i hi).trans (h.2 i hi)⟩
theorem Keep.mono {n m : Nat} {a b : PHeap} (h : Keep n a b) (hm : m ≤ n) : Keep m a b := ⟨h.1, fun i hi => h.2 i (by omega)⟩
theorem Keep.append (n : Nat) (h E : PHeap) (hn : n ≤ h.length) : Keep n h (h ++ E) := ⟨by simp, fun i hi => List.getElem?_append_left (by omega)⟩
theorem Keep.set (n : Nat) (h : PHeap) (i : Nat) (o : PObj) (hi : n ≤ i) : Keep n h (h.set i o) := ⟨by simp, fun j hj => List.getElem?_set_ne (by omega)⟩

theorem cellsAt_keep {n : Nat} {h h' : PHeap} (k : Keep n h h') {id : Nat} (hi : id < n) : cellsAt h' id = cellsAt h id := by
  unfold cellsAt; rw [k.2 id hi]

theorem lt_of_cell {h : PHeap} {id j : Nat} {v : PV} (hv : (cellsAt h id)[j]? = some v) : id < h.length := by
  unfold cellsAt at hv
  cases ho : h[id]? with
  | none => rw [ho] at hv; simp at hv
  | some o => exact (List.getElem?_eq_some_iff.1 ho).1

theorem IntSl.keep {k : IntKind} {h h' : PHeap} {p : PV} {xs : List Int} (s : IntSl k h p xs) (hk : Keep h.length h h') : IntSl k h' p xs := by
  rcases s with s | ⟨id, off, hp, hc⟩
  · exact .inl s
  · exact .inr ⟨id, off, hp, fun i x hx => by rw [cellsAt_keep hk (lt_of_cell (hc i x hx))]; exact hc i x hx⟩

theorem IntSl.nil (k : IntKind) (h : PHeap) : IntSl k h .nilsl [] := .inl ⟨rfl, rfl⟩

section
variable {P : Program} {T I : TypeId}

theorem IntSl.len {k : IntKind} {h : PHeap} {p : PV} {xs : List Int} (s : IntSl k h p xs) (hT : P.underlying T = some (.slice I)) : lenP P T p = some (.int .i64 xs.length) := by
  rcases s with ⟨rfl, rfl⟩ | ⟨id, off, rfl, hc⟩ <;> simp [lenP, hT]

theorem IntSl.at {k : IntKind} {h : PHeap} {p : PV} {xs : List Int} (s : IntSl k h p xs) (hT : P.underlying T = some (.slice I)) (hS : sizeT P I = some 1) (hA : isAggT P I = some false) {i : Nat} (hi : i < xs.length) :
    ∃ a, indexAddrP P T p (.int .i64 i) = some a ∧ loadP P I a h = some (.int k xs[i]) := by
  rcases s with ⟨rfl, rfl⟩ | ⟨id, off, rfl, hc⟩
  · simp at hi
  · refine ⟨.ptr id (off + i), ?_, ?_⟩
    · simp [indexAddrP, hT, hS, hi]
    · simp only [loadP, hA]
      exact hc i _ (List.getElem?_eq_getElem hi)
end

/-- A slice of integers that the call itself made, from object n on. -/
def OwnSl (n : Nat) (h : PHeap) (p : PV) (xs : List Int) : Prop :=
  (p = .nilsl ∧ xs = []) ∨ ∃ id, n ≤ id ∧ p = .sl id 0 xs.length ∧ h[id]? = some (.own 1 (xs.map (.int .i64)))

theorem OwnSl.int {n : Nat} {h : PHeap} {p : PV} {xs : List Int} (s : OwnSl n h p xs) : IntSl .i64 h p xs := by
  rcases s with s | ⟨id, _, hp, ho⟩
  · exact .inl s
  · refine .inr ⟨id, 0, hp, fun i x hx => ?_⟩
    simp [cellsAt, ho, PObj.get, hx]

theorem OwnSl.mono {n m : Nat} {h : PHeap} {p : PV} {xs : List Int} (s : OwnSl n h p xs) (hm : m ≤ n) : OwnSl m h p xs := by
  rcases s with s | ⟨id, h1, h2⟩
  · exact .inl s
  · exact .inr ⟨id, by omega, h2⟩

theorem OwnSl.keep {n : Nat} {h h' : PHeap} {p : PV} {xs : List Int} (s : OwnSl n h p xs) (hk : Keep h.length h h') : OwnSl n h' p xs := by
  rcases s with s | ⟨id, h1, h2, h3⟩
  · exact .inl s
  · exact .inr ⟨id, h1, h2, by rw [hk.2 id (List.getElem?_eq_some_iff.1 h3).1]; exact h3⟩

theorem OwnSl.nil (n : Nat) (h : PHeap) : OwnSl n h .nilsl [] := .inl ⟨rfl, rfl⟩

theorem tyS : Tryd.prog.underlying 31 = some (.slice 3) := by kernel_rfl
theorem tySize : sizeT Tryd.prog 3 = some 1 := by kernel_rfl
theorem tyAgg : isAggT Tryd.prog 3 = some false := by kernel_rfl
theorem tyElem : elemT Tryd.prog 31 = some 3 := by kernel_rfl
theorem tyZero : zeroCellsT Tryd.prog 3 = some [.int .i64 0] := by kernel_rfl
theorem tySmall : smallT Tryd.prog 3 = true := by kernel_rfl

theorem IntSl.len' {k : IntKind} {h : PHeap} {p : PV} {xs : List Int} (s : IntSl k h p xs) : lenP Tryd.prog 31 p = some (.int .i64 xs.length) := s.len tyS
theorem IntSl.at' {k : IntKind} {h : PHeap} {p : PV} {xs : List Int} (s : IntSl k h p xs) {i : Nat} (hi : i < xs.length) :
    ∃ a, indexAddrP Tryd.prog 31 p (.int .i64 i) = some a ∧ loadP Tryd.prog 3 a h = some (.int k xs[i]) := s.at tyS tySize tyAgg hi

theorem OwnSl.store {n : Nat} {h : PHeap} {p : PV} {xs : List Int} (s : OwnSl n h p xs) {i : Nat} (hi : i < xs.length) (x : Int) :
    ∃ a h', indexAddrP Tryd.prog 31 p (.int .i64 i) = some a ∧ storeP Tryd.prog 3 a (.int .i64 x) h = some h' ∧ OwnSl n h' p (xs.set i x) ∧ Keep n h h' ∧ h'.length = h.length := by
  rcases s with ⟨rfl, rfl⟩ | ⟨id, h1, rfl, h3⟩
  · simp at hi
  · have hid : id < h.length := (List.getElem?_eq_some_iff.1 h3).1
    refine ⟨.ptr id (0 + i), h.set id (.own 1 ((xs.set i x).map (.int .i64))), by simp [indexAddrP, tySize, hi], ?_, .inr ⟨id, h1, by simp, by rw [List.getElem?_set_self hid]⟩, Keep.set _ _ _ _ h1, by simp⟩
    simp only [storeP, h3, PV.cells, tySize, Nat.zero_add]
    rw [if_pos ⟨rfl, by simp; omega⟩]
    simp [setCells, List.map_set]

/-- What 'make' gives. -/
theorem made {h : PHeap} {m : Nat} (hm : m ≤ 2 ^ 36) : ∃ p h', makeP Tryd.prog 31 (.int .i64 m) (.int .i64 m) h = some (p, h') ∧ OwnSl h.length h' p (List.replicate m 0) ∧ Keep h.length h h' := by
  refine ⟨.sl h.length 0 m, h ++ [.own 1 ((List.replicate m 0).map (.int .i64))], ?_, .inr ⟨h.length, Nat.le_refl _, by simp, by simp⟩, Keep.append _ _ _ (Nat.le_refl _)⟩
  have hrep : ∀ k : Nat, repeatCells [PV.int .i64 0] k = (List.replicate k (0 : Int)).map (.int .i64) := by
    intro k
    induction k with
    | zero => rfl
    | succ k ih => rw [repeatCells, ih, List.replicate_succ]; rfl
  have hm' : (m : Int) ≤ 68719476736 := by omega
  simp [makeP, tyElem, tySize, tyZero, tySmall, hm', hrep]

/-- One element more. -/
theorem OwnSl.append {n : Nat} {h : PHeap} {p : PV} {xs : List Int} (s : OwnSl n h p xs) (hn : n ≤ h.length) (x : Int) (hl : xs.length + 1 ≤ 2 ^ 36) :
    ∃ v p' h', buildSliceP Tryd.prog 31 1 [(0, .int .i64 x)] h = some v ∧ appendP Tryd.prog 31 31 p v.1 v.2 = some (p', h') ∧ OwnSl n h' p' (xs ++ [x]) ∧ Keep n h h' := by
  have hb : buildSliceP Tryd.prog 31 1 [(0, .int .i64 x)] h = some (.sl h.length 0 1, h ++ [.own 1 [.int .i64 x]]) := by
    simp [buildSliceP, tyElem, tySize, tyZero, repeatCells, fillP, PV.cells, setCells]
  have hsrc : srcP (h ++ [.own 1 [.int .i64 x]]) 1 (.sl h.length 0 1) = some (1, [.int .i64 x]) := by
    simp [srcP, cellsAt, PObj.get]
  rcases s with ⟨rfl, rfl⟩ | ⟨id, h1, rfl, h3⟩
  · refine ⟨_, .sl (h.length + 1) 0 1, h ++ [.own 1 [.int .i64 x]] ++ [.own 1 [.int .i64 x]], hb, ?_, .inr ⟨h.length + 1, by omega, rfl, ?_⟩, ?_⟩
    · simp [appendP, tyElem, tySize, tySmall, hsrc]
    · rw [List.getElem?_append_right (by simp)]; simp
    · rw [List.append_assoc]; exact Keep.append _ _ _ hn
  · have hid : id < h.length := (List.getElem?_eq_some_iff.1 h3).1
    have h3' : (h ++ [PObj.own 1 [.int .i64 x]])[id]? = some (.own 1 (xs.map (.int .i64))) := by rw [List.getElem?_append_left hid]; exact h3
    refine ⟨_, .sl (h.length + 1) 0 (xs.length + 1), ((h ++ [PObj.own 1 [.int .i64 x]]).set id .dead ++ [PObj.own 1 (xs.map (.int .i64) ++ [.int .i64 x])]), hb, ?_, .inr ⟨h.length + 1, by omega, by simp, ?_⟩, ?_⟩
    · simp [appendP, tyElem, tySize, tySmall, hsrc, h3', hl]
    · rw [List.getElem?_append_right (by simp)]; simp
    · exact ((Keep.append n h _ hn).trans (Keep.set n _ id .dead h1)).trans (Keep.append _ _ _ (by simp; omega))

/-- An empty literal. -/
theorem empty_lit {h : PHeap} : ∃ p h', buildSliceP Tryd.prog 31 0 [] h = some (p, h') ∧ OwnSl h.length h' p [] ∧ Keep h.length h h' := by
  refine ⟨.sl h.length 0 0, h ++ [.own 1 []], by simp [buildSliceP, tyElem, tySize, tyZero, repeatCells, fillP], .inr ⟨h.length, Nat.le_refl _, rfl, by simp⟩, Keep.append _ _ _ (Nat.le_refl _)⟩

theorem nx {i : Nat} (hi : i < 2 ^ 40) : IntKind.i64.wrap ((i : Int) + 1) = ((i + 1 : Nat) : Int) := by
  rw [wr (by omega)]; rfl

end Go.Proofs.YtbmmcldbllhhhaaDoor

/- Of each function of this seat's program its plain form over the interpreter, written by program; each equation is the kernel's. -/
set_option linter.unusedVariables false
set_option maxRecDepth 100000
namespace Go.Proofs.YtbmmcldbllhhhaaDoor.G
open Go Go.Ip Go.Proofs

namespace laws_FnTreeOk
noncomputable def lp0 : Code := (codeAt (bodyOf Tryd.f3) [1, 1, 1, 1, 1, 1, 0, 1, 0, 0])
def st0 (x3 x4 x5 x7 : PV) (h : PHeap) : St := ⟨[.junk, .junk, .junk, x3, x4, x5, .junk, x7, .junk, .junk, .junk, .junk, .junk, .junk, .junk, .junk, .junk, .junk, .junk, .junk, .junk, .junk, .junk, .junk, .junk, .junk, .junk, .junk, .junk, .junk, .junk, .junk, .junk, .junk, .junk, .junk, .junk, .junk, .junk, .junk, .junk, .junk, .junk, .junk, .junk, .junk, .junk], h⟩
def sr_2 (x2 : PV) (h : PHeap) : St := ⟨[.junk, .junk, x2, .junk, .junk, .junk, .junk, .junk, .junk, .junk, .junk, .junk, .junk, .junk, .junk, .junk, .junk, .junk, .junk, .junk, .junk, .junk, .junk, .junk, .junk, .junk, .junk, .junk, .junk, .junk, .junk, .junk, .junk, .junk, .junk, .junk, .junk, .junk, .junk, .junk, .junk, .junk, .junk, .junk, .junk, .junk, .junk], h⟩
def se0_3_4_5_7_33 (x3 x4 x5 x7 x33 : PV) (h : PHeap) : St := ⟨[.junk, .junk, .junk, x3, x4, x5, .junk, x7, .junk, .junk, .junk, .junk, .junk, .junk, .junk, .junk, .junk, .junk, .junk, .junk, .junk, .junk, .junk, .junk, .junk, .junk, .junk, .junk, .junk, .junk, .junk, .junk, .junk, x33, .junk, .junk, .junk, .junk, .junk, .junk, .junk, .junk, .junk, .junk, .junk, .junk, .junk], h⟩
noncomputable def K0 (E : Env) (K : PX → St → Res) : PX → St → Res := (kBlock 0 (kSeq (ev (E.cx Tryd.prog kl) (codeAt (bodyOf Tryd.f3) [1, 1, 1, 1, 1, 1, 1])) K))
@[simp] theorem K0_ret (E : Env) (K : PX → St → Res) (s : St) : K0 E K .ret s = K .ret s := by kernel_rfl
noncomputable def body0 (E : Env) (K : PX → St → Res) (x3 x4 x5 x7 : PV) (h : PHeap) : Res :=
    (E.p.len 23 x4).bind fun v23 =>
    (E.p.bin .lss 3 x7 v23).bind fun v24 =>
    condP v24
     (
      (E.p.bin .shl 3 (.int .i64 1) x7).bind fun v25 =>
      (E.p.bin .xor 3 x5 v25).bind fun v26 =>
      (E.C fn_impl_TreeOk [x3, x4, v26] h).bind fun v27 =>
      condP v27.1
       (
        K .ret (sr_2 (.bool false) v27.2))
       (
        (E.p.bin .add 3 x7 (.int .i64 1)).bind fun v28 =>
        K .normal (st0 x3 x4 x5 v28 v27.2)))
     (
      K (.exit 0) (se0_3_4_5_7_33 x3 x4 x5 x7 v24 h))
theorem body0_eq (E : Env) (K : PX → St → Res) (x3 x4 x5 x7 : PV) (h : PHeap) : ev (E.cx Tryd.prog kl) lp0 (st0 x3 x4 x5 x7 h) K = body0 E K x3 x4 x5 x7 h := by kernel_rfl
theorem after0_se0_3_4_5_7_33 (E : Env) (x3 x4 x5 x7 x33 : PV) (h : PHeap) : K0 E (kTop Tryd.prog Tryd.f3) (.exit 0) (se0_3_4_5_7_33 x3 x4 x5 x7 x33 h) =
    (E.C fn_impl_LinksEnds [x3, x4, x5] h).bind fun v21 =>
    (resV v21.1).bind fun v22 =>
    some (v22, v21.2) := by kernel_rfl
theorem top_sr_2 (x2 : PV) (h : PHeap) : kTop Tryd.prog Tryd.f3 .ret (sr_2 x2 h) =
    (resV x2).bind fun v29 =>
    some (v29, h) := by kernel_rfl
noncomputable def main (E : Env) (x0 : PV) (h : PHeap) : Res :=
    (E.p.len 22 x0).bind fun v1 =>
    (E.p.bin .gtr 3 v1 (.int .i64 1048576)).bind fun v2 =>
    condP v2
     (
      (resV (.bool true)).bind fun v3 =>
      some (v3, h))
     (
      (E.C fn_spec_DrawTreeOk [x0] h).bind fun v4 =>
      (E.p.extract v4.1 0).bind fun v5 =>
      (E.p.extract v4.1 1).bind fun v6 =>
      (E.p.extract v4.1 2).bind fun v7 =>
      (E.C fn_impl_TreeOk [v5, v6, v7] v4.2).bind fun v8 =>
      (E.C fn_spec_TreeOk [v5, v6, v7] v8.2).bind fun v9 =>
      (E.p.bin .neq 4 v8.1 v9.1).bind fun v10 =>
      condP v10
       (
        (resV (.bool false)).bind fun v11 =>
        some (v11, v9.2))
       (
        (E.p.un .not v8.1).bind fun v12 =>
        condP v12
         (
          (E.C fn_laws_alive [] v9.2).bind fun v13 =>
          (resV v13.1).bind fun v14 =>
          some (v14, v13.2))
         (
          loopK (ev (E.cx Tryd.prog laws_FnTreeOk.kl) laws_FnTreeOk.lp0) E.lf (laws_FnTreeOk.st0 v5 v6 v7 (.int .i64 0) v9.2) (laws_FnTreeOk.K0 E (kTop Tryd.prog Tryd.f3)))))
theorem main_eq (E : Env) (x0 : PV) (h : PHeap) : runBody (E.cx Tryd.prog kl) Tryd.f3 [x0] h = main E x0 h := by kernel_rfl
theorem call_eq (g : Nat → PV) (lf n : Nat) (x0 : PV) (h : PHeap) : CL g lf (n + 1) fn_laws_FnTreeOk [x0] h = main (env g lf n) x0 h := by
  rw [← main_eq]
  show call Tryd.prog g KL lf (n + 1) 3 [x0] h = _
  rw [call_succ, Tryd.func3]
  kernel_rfl
end laws_FnTreeOk
namespace laws_FnTreesOf
noncomputable def lp0 : Code := (codeAt (bodyOf Tryd.f4) [1, 1, 1, 1, 1, 1, 0, 1, 0, 0])
def st0 (x3 x4 x5 x6 : PV) (h : PHeap) : St := ⟨[.junk, .junk, .junk, x3, x4, x5, x6, .junk, .junk, .junk, .junk, .junk, .junk, .junk, .junk, .junk, .junk, .junk, .junk, .junk, .junk, .junk, .junk, .junk, .junk, .junk, .junk, .junk, .junk, .junk, .junk, .junk, .junk, .junk, .junk, .junk, .junk, .junk, .junk, .junk, .junk, .junk, .junk, .junk, .junk, .junk, .junk, .junk, .junk, .junk, .junk, .junk, .junk, .junk], h⟩
def sr_2 (x2 : PV) (h : PHeap) : St := ⟨[.junk, .junk, x2, .junk, .junk, .junk, .junk, .junk, .junk, .junk, .junk, .junk, .junk, .junk, .junk, .junk, .junk, .junk, .junk, .junk, .junk, .junk, .junk, .junk, .junk, .junk, .junk, .junk, .junk, .junk, .junk, .junk, .junk, .junk, .junk, .junk, .junk, .junk, .junk, .junk, .junk, .junk, .junk, .junk, .junk, .junk, .junk, .junk, .junk, .junk, .junk, .junk, .junk, .junk], h⟩
def se0_3_4_5_6_38 (x3 x4 x5 x6 x38 : PV) (h : PHeap) : St := ⟨[.junk, .junk, .junk, x3, x4, x5, x6, .junk, .junk, .junk, .junk, .junk, .junk, .junk, .junk, .junk, .junk, .junk, .junk, .junk, .junk, .junk, .junk, .junk, .junk, .junk, .junk, .junk, .junk, .junk, .junk, .junk, .junk, .junk, .junk, .junk, .junk, .junk, x38, .junk, .junk, .junk, .junk, .junk, .junk, .junk, .junk, .junk, .junk, .junk, .junk, .junk, .junk, .junk], h⟩
noncomputable def K0 (E : Env) (K : PX → St → Res) : PX → St → Res := (kBlock 0 (kSeq (ev (E.cx Tryd.prog kl) (codeAt (bodyOf Tryd.f4) [1, 1, 1, 1, 1, 1, 1])) K))
@[simp] theorem K0_ret (E : Env) (K : PX → St → Res) (s : St) : K0 E K .ret s = K .ret s := by kernel_rfl
noncomputable def body0 (E : Env) (K : PX → St → Res) (x3 x4 x5 x6 : PV) (h : PHeap) : Res :=
    (E.p.len 23 x4).bind fun v32 =>
    (E.p.bin .shl 3 (.int .i64 1) v32).bind fun v33 =>
    (E.p.bin .lss 3 x6 v33).bind fun v34 =>
    condP v34
     (
      (E.C fn_impl_TreeOk [x3, x4, x6] h).bind fun v35 =>
      (E.C fn_laws_hasInt [x5, x6] v35.2).bind fun v36 =>
      (E.p.bin .neq 4 v35.1 v36.1).bind fun v37 =>
      condP v37
       (
        K .ret (sr_2 (.bool false) v36.2))
       (
        (E.p.bin .add 3 x6 (.int .i64 1)).bind fun v38 =>
        K .normal (st0 x3 x4 x5 v38 v36.2)))
     (
      K (.exit 0) (se0_3_4_5_6_38 x3 x4 x5 x6 v34 h))
theorem body0_eq (E : Env) (K : PX → St → Res) (x3 x4 x5 x6 : PV) (h : PHeap) : ev (E.cx Tryd.prog kl) lp0 (st0 x3 x4 x5 x6 h) K = body0 E K x3 x4 x5 x6 h := by kernel_rfl
theorem after0_se0_3_4_5_6_38 (E : Env) (x3 x4 x5 x6 x38 : PV) (h : PHeap) : K0 E (kTop Tryd.prog Tryd.f4) (.exit 0) (se0_3_4_5_6_38 x3 x4 x5 x6 x38 h) =
    (E.C fn_laws_ascend [x5] h).bind fun v27 =>
    (wantV v27.1 true).bind fun v28 =>
    (bif v28 then E.C fn_laws_alive [] v27.2 else some (.tup [], v27.2)).bind fun v29 =>
    (E.p.pick v27.1 v29.1 (.bool false)).bind fun v30 =>
    (resV v30).bind fun v31 =>
    some (v31, v29.2) := by kernel_rfl
theorem top_sr_2 (x2 : PV) (h : PHeap) : kTop Tryd.prog Tryd.f4 .ret (sr_2 x2 h) =
    (resV x2).bind fun v39 =>
    some (v39, h) := by kernel_rfl
noncomputable def main (E : Env) (x0 : PV) (h : PHeap) : Res :=
    (E.p.len 22 x0).bind fun v1 =>
    (E.p.bin .gtr 3 v1 (.int .i64 1048576)).bind fun v2 =>
    condP v2
     (
      (resV (.bool true)).bind fun v3 =>
      some (v3, h))
     (
      (E.C fn_spec_DrawTreesOf [x0] h).bind fun v4 =>
      (E.p.extract v4.1 0).bind fun v5 =>
      (E.p.extract v4.1 1).bind fun v6 =>
      (E.C fn_impl_TreesOf [v5, v6] v4.2).bind fun v7 =>
      (E.C fn_spec_TreesOf [v5, v6] v7.2).bind fun v8 =>
      (E.C fn_laws_sameInts [v7.1, v8.1] v8.2).bind fun v9 =>
      (E.p.un .not v9.1).bind fun v10 =>
      condP v10
       (
        (resV (.bool false)).bind fun v11 =>
        some (v11, v9.2))
       (
        (E.C fn_spec_WiresOk [v5, v6] v9.2).bind fun v12 =>
        (E.p.un .not v12.1).bind fun v13 =>
        condP v13
         (
          (E.p.len 31 v7.1).bind fun v14 =>
          (E.p.bin .eql 3 v14 (.int .i64 0)).bind fun v15 =>
          (wantV v15 true).bind fun v16 =>
          (bif v16 then E.C fn_laws_alive [] v12.2 else some (.tup [], v12.2)).bind fun v17 =>
          (E.p.pick v15 v17.1 (.bool false)).bind fun v18 =>
          (resV v18).bind fun v19 =>
          some (v19, v17.2))
         (
          loopK (ev (E.cx Tryd.prog laws_FnTreesOf.kl) laws_FnTreesOf.lp0) E.lf (laws_FnTreesOf.st0 v5 v6 v7.1 (.int .i64 0) v12.2) (laws_FnTreesOf.K0 E (kTop Tryd.prog Tryd.f4)))))
theorem main_eq (E : Env) (x0 : PV) (h : PHeap) : runBody (E.cx Tryd.prog kl) Tryd.f4 [x0] h = main E x0 h := by kernel_rfl
theorem call_eq (g : Nat → PV) (lf n : Nat) (x0 : PV) (h : PHeap) : CL g lf (n + 1) fn_laws_FnTreesOf [x0] h = main (env g lf n) x0 h := by
  rw [← main_eq]
  show call Tryd.prog g KL lf (n + 1) 4 [x0] h = _
  rw [call_succ, Tryd.func4]
  kernel_rfl
end laws_FnTreesOf
namespace laws_FnTreePair
noncomputable def main (E : Env) (x0 : PV) (h : PHeap) : Res :=
    (E.p.len 22 x0).bind fun v1 =>
    (E.p.bin .gtr 3 v1 (.int .i64 1048576)).bind fun v2 =>
    condP v2
     (
      (resV (.bool true)).bind fun v3 =>
      some (v3, h))
     (
      (E.C fn_spec_DrawTreePair [x0] h).bind fun v4 =>
      (E.p.extract v4.1 0).bind fun v5 =>
      (E.p.extract v4.1 1).bind fun v6 =>
      (E.C fn_impl_TreePair [v5, v6] v4.2).bind fun v7 =>
      (E.p.extract v7.1 0).bind fun v8 =>
      (E.p.extract v7.1 1).bind fun v9 =>
      (E.p.extract v7.1 2).bind fun v10 =>
      (E.C fn_spec_TreePair [v5, v6] v7.2).bind fun v11 =>
      (E.p.extract v11.1 0).bind fun v12 =>
      (E.p.extract v11.1 1).bind fun v13 =>
      (E.p.extract v11.1 2).bind fun v14 =>
      (E.p.bin .neq 3 v8 v12).bind fun v15 =>
      (wantV v15 false).bind fun v16 =>
      (bif v16 then some (v9, v11.2) else some (.tup [], v11.2)).bind fun v17 =>
      (wantV v15 false).bind fun v18 =>
      (bif v18 then some (v13, v17.2) else some (.tup [], v17.2)).bind fun v19 =>
      (wantV v15 false).bind fun v20 =>
      (bif v20 then pv v19.2 (E.p.bin .neq 3 v17.1 v19.1) else some (.tup [], v19.2)).bind fun v21 =>
      (E.p.pick v15 (.bool true) v21.1).bind fun v22 =>
      (wantV v22 false).bind fun v23 =>
      (bif v23 then some (v10, v21.2) else some (.tup [], v21.2)).bind fun v24 =>
      (wantV v22 false).bind fun v25 =>
      (bif v25 then some (v14, v24.2) else some (.tup [], v24.2)).bind fun v26 =>
      (wantV v22 false).bind fun v27 =>
      (bif v27 then pv v26.2 (E.p.bin .neq 4 v24.1 v26.1) else some (.tup [], v26.2)).bind fun v28 =>
      (E.p.pick v22 (.bool true) v28.1).bind fun v29 =>
      condP v29
       (
        (resV (.bool false)).bind fun v30 =>
        some (v30, v28.2))
       (
        (E.p.un .not v10).bind fun v31 =>
        condP v31
         (
          (E.p.bin .eql 3 v8 (.int .i64 0)).bind fun v32 =>
          (wantV v32 true).bind fun v33 =>
          (bif v33 then some (v9, v28.2) else some (.tup [], v28.2)).bind fun v34 =>
          (wantV v32 true).bind fun v35 =>
          (bif v35 then pv v34.2 (E.p.bin .eql 3 v34.1 (.int .i64 0)) else some (.tup [], v34.2)).bind fun v36 =>
          (E.p.pick v32 v36.1 (.bool false)).bind fun v37 =>
          (wantV v37 true).bind fun v38 =>
          (bif v38 then E.C fn_laws_alive [] v36.2 else some (.tup [], v36.2)).bind fun v39 =>
          (E.p.pick v37 v39.1 (.bool false)).bind fun v40 =>
          (resV v40).bind fun v41 =>
          some (v41, v39.2))
         (
          (E.C fn_impl_TreeOk [v5, v6, v8] v28.2).bind fun v42 =>
          (wantV v42.1 true).bind fun v43 =>
          (bif v43 then some (v5, v42.2) else some (.tup [], v42.2)).bind fun v44 =>
          (wantV v42.1 true).bind fun v45 =>
          (bif v45 then some (v6, v44.2) else some (.tup [], v44.2)).bind fun v46 =>
          (wantV v42.1 true).bind fun v47 =>
          (bif v47 then some (v9, v46.2) else some (.tup [], v46.2)).bind fun v48 =>
          (wantV v42.1 true).bind fun v49 =>
          (bif v49 then E.C fn_impl_TreeOk [v44.1, v46.1, v48.1] v48.2 else some (.tup [], v48.2)).bind fun v50 =>
          (E.p.pick v42.1 v50.1 (.bool false)).bind fun v51 =>
          (wantV v51 true).bind fun v52 =>
          (bif v52 then some (v8, v50.2) else some (.tup [], v50.2)).bind fun v53 =>
          (wantV v51 true).bind fun v54 =>
          (bif v54 then some (v9, v53.2) else some (.tup [], v53.2)).bind fun v55 =>
          (wantV v51 true).bind fun v56 =>
          (bif v56 then pv v55.2 (E.p.bin .and 3 v53.1 v55.1) else some (.tup [], v55.2)).bind fun v57 =>
          (wantV v51 true).bind fun v58 =>
          (bif v58 then pv v57.2 (E.p.bin .eql 3 v57.1 (.int .i64 0)) else some (.tup [], v57.2)).bind fun v59 =>
          (E.p.pick v51 v59.1 (.bool false)).bind fun v60 =>
          (wantV v60 true).bind fun v61 =>
          (bif v61 then some (v5, v59.2) else some (.tup [], v59.2)).bind fun v62 =>
          (wantV v60 true).bind fun v63 =>
          (bif v63 then some (v6, v62.2) else some (.tup [], v62.2)).bind fun v64 =>
          (wantV v60 true).bind fun v65 =>
          (bif v65 then some (v6, v64.2) else some (.tup [], v64.2)).bind fun v66 =>
          (wantV v60 true).bind fun v67 =>
          (bif v67 then pv v66.2 (E.p.len 23 v66.1) else some (.tup [], v66.2)).bind fun v68 =>
          (wantV v60 true).bind fun v69 =>
          (bif v69 then E.p.make 31 v68.1 v68.1 v68.2 else some (.tup [], v68.2)).bind fun v70 =>
          (wantV v60 true).bind fun v71 =>
          (bif v71 then E.C fn_impl_WiresWinner [v62.1, v64.1, v70.1, (.int .i64 2)] v70.2 else some (.tup [], v70.2)).bind fun v72 =>
          (wantV v60 true).bind fun v73 =>
          (bif v73 then pv v72.2 (E.p.bin .eql 3 v72.1 (.int .i64 1)) else some (.tup [], v72.2)).bind fun v74 =>
          (E.p.pick v60 v74.1 (.bool false)).bind fun v75 =>
          (wantV v75 true).bind fun v76 =>
          (bif v76 then some (v6, v74.2) else some (.tup [], v74.2)).bind fun v77 =>
          (wantV v75 true).bind fun v78 =>
          (bif v78 then pv v77.2 (E.p.len 23 v77.1) else some (.tup [], v77.2)).bind fun v79 =>
          (wantV v75 true).bind fun v80 =>
          (bif v80 then some (v5, v79.2) else some (.tup [], v79.2)).bind fun v81 =>
          (wantV v75 true).bind fun v82 =>
          (bif v82 then pv v81.2 (E.p.bin .sub 3 v81.1 (.int .i64 1)) else some (.tup [], v81.2)).bind fun v83 =>
          (wantV v75 true).bind fun v84 =>
          (bif v84 then pv v83.2 (E.p.bin .mul 3 (.int .i64 2) v83.1) else some (.tup [], v83.2)).bind fun v85 =>
          (wantV v75 true).bind fun v86 =>
          (bif v86 then pv v85.2 (E.p.bin .geq 3 v79.1 v85.1) else some (.tup [], v85.2)).bind fun v87 =>
          (E.p.pick v75 v87.1 (.bool false)).bind fun v88 =>
          (resV v88).bind fun v89 =>
          some (v89, v87.2))))
theorem main_eq (E : Env) (x0 : PV) (h : PHeap) : runBody (E.cx Tryd.prog kl) Tryd.f5 [x0] h = main E x0 h := by kernel_rfl
theorem call_eq (g : Nat → PV) (lf n : Nat) (x0 : PV) (h : PHeap) : CL g lf (n + 1) fn_laws_FnTreePair [x0] h = main (env g lf n) x0 h := by
  rw [← main_eq]
  show call Tryd.prog g KL lf (n + 1) 5 [x0] h = _
  rw [call_succ, Tryd.func5]
  kernel_rfl
end laws_FnTreePair
namespace laws_FnPairOn
noncomputable def lp0 : Code := (codeAt (bodyOf Tryd.f6) [1, 1, 1, 1, 1, 1, 1, 1, 0, 1, 0, 0])
def st0 (x3 x4 x5 x6 x9 x10 x11 : PV) (h : PHeap) : St := ⟨[.junk, .junk, .junk, x3, x4, x5, x6, .junk, .junk, x9, x10, x11, .junk, .junk, .junk, .junk, .junk, .junk, .junk, .junk, .junk, .junk, .junk, .junk, .junk, .junk, .junk, .junk, .junk, .junk, .junk, .junk, .junk, .junk, .junk, .junk, .junk, .junk, .junk, .junk, .junk, .junk, .junk, .junk, .junk, .junk, .junk, .junk, .junk, .junk, .junk, .junk, .junk, .junk, .junk, .junk, .junk, .junk, .junk, .junk, .junk, .junk, .junk, .junk, .junk, .junk, .junk, .junk, .junk, .junk, .junk, .junk, .junk, .junk, .junk, .junk, .junk, .junk, .junk, .junk, .junk, .junk, .junk, .junk, .junk, .junk, .junk, .junk, .junk, .junk, .junk, .junk, .junk, .junk, .junk], h⟩
def se0_3_4_5_6_9_10_11_50 (x3 x4 x5 x6 x9 x10 x11 x50 : PV) (h : PHeap) : St := ⟨[.junk, .junk, .junk, x3, x4, x5, x6, .junk, .junk, x9, x10, x11, .junk, .junk, .junk, .junk, .junk, .junk, .junk, .junk, .junk, .junk, .junk, .junk, .junk, .junk, .junk, .junk, .junk, .junk, .junk, .junk, .junk, .junk, .junk, .junk, .junk, .junk, .junk, .junk, .junk, .junk, .junk, .junk, .junk, .junk, .junk, .junk, .junk, .junk, x50, .junk, .junk, .junk, .junk, .junk, .junk, .junk, .junk, .junk, .junk, .junk, .junk, .junk, .junk, .junk, .junk, .junk, .junk, .junk, .junk, .junk, .junk, .junk, .junk, .junk, .junk, .junk, .junk, .junk, .junk, .junk, .junk, .junk, .junk, .junk, .junk, .junk, .junk, .junk, .junk, .junk, .junk, .junk, .junk], h⟩
noncomputable def K0 (E : Env) (K : PX → St → Res) : PX → St → Res := (kBlock 0 (kSeq (ev (E.cx Tryd.prog kl) (codeAt (bodyOf Tryd.f6) [1, 1, 1, 1, 1, 1, 1, 1, 1])) K))
@[simp] theorem K0_ret (E : Env) (K : PX → St → Res) (s : St) : K0 E K .ret s = K .ret s := by kernel_rfl
noncomputable def body0 (E : Env) (K : PX → St → Res) (x3 x4 x5 x6 x9 x10 x11 : PV) (h : PHeap) : Res :=
    (E.p.len 23 x4).bind fun v72 =>
    (E.p.bin .lss 3 x11 v72).bind fun v73 =>
    condP v73
     (
      (E.p.indexAddr 23 x4 x11).bind fun v74 =>
      (E.p.fieldAddr 41 v74 0).bind fun v75 =>
      (E.p.load 3 v75 h).bind fun v76 =>
      (E.p.indexAddr 23 x4 x11).bind fun v77 =>
      (E.p.fieldAddr 41 v77 1).bind fun v78 =>
      (E.p.load 3 v78 h).bind fun v79 =>
      (E.p.bin .add 3 v76 v79).bind fun v80 =>
      (E.p.bin .eql 3 v80 (.int .i64 1)).bind fun v81 =>
      condP v81
       (
        (E.p.bin .add 3 x10 (.int .i64 1)).bind fun v82 =>
        (E.p.bin .add 3 x11 (.int .i64 1)).bind fun v83 =>
        K .normal (st0 x3 x4 x5 x6 x9 v82 v83 h))
       (
        (E.p.bin .add 3 x11 (.int .i64 1)).bind fun v84 =>
        K .normal (st0 x3 x4 x5 x6 x9 x10 v84 h)))
     (
      K (.exit 0) (se0_3_4_5_6_9_10_11_50 x3 x4 x5 x6 x9 x10 x11 v73 h))
theorem body0_eq (E : Env) (K : PX → St → Res) (x3 x4 x5 x6 x9 x10 x11 : PV) (h : PHeap) : ev (E.cx Tryd.prog kl) lp0 (st0 x3 x4 x5 x6 x9 x10 x11 h) K = body0 E K x3 x4 x5 x6 x9 x10 x11 h := by kernel_rfl
theorem after0_se0_3_4_5_6_9_10_11_50 (E : Env) (x3 x4 x5 x6 x9 x10 x11 x50 : PV) (h : PHeap) : K0 E (kTop Tryd.prog Tryd.f6) (.exit 0) (se0_3_4_5_6_9_10_11_50 x3 x4 x5 x6 x9 x10 x11 x50 h) =
    (E.p.bin .shl 3 (.int .i64 1) x3).bind fun v36 =>
    (E.p.bin .sub 3 v36 (.int .i64 1)).bind fun v37 =>
    (E.C fn_impl_PairOn [x3, x4, v37] h).bind fun v38 =>
    (E.p.bin .eql 4 v38.1 x9).bind fun v39 =>
    (wantV v39 true).bind fun v40 =>
    (bif v40 then some (x3, v38.2) else some (.tup [], v38.2)).bind fun v41 =>
    (wantV v39 true).bind fun v42 =>
    (bif v42 then some (x4, v41.2) else some (.tup [], v41.2)).bind fun v43 =>
    (wantV v39 true).bind fun v44 =>
    (bif v44 then E.C fn_impl_PairOn [v41.1, v43.1, (.int .i64 3)] v43.2 else some (.tup [], v43.2)).bind fun v45 =>
    (wantV v39 true).bind fun v46 =>
    (bif v46 then some (x10, v45.2) else some (.tup [], v45.2)).bind fun v47 =>
    (wantV v39 true).bind fun v48 =>
    (bif v48 then pv v47.2 (E.p.bin .geq 3 v47.1 (.int .i64 2)) else some (.tup [], v47.2)).bind fun v49 =>
    (wantV v39 true).bind fun v50 =>
    (bif v50 then pv v49.2 (E.p.bin .eql 4 v45.1 v49.1) else some (.tup [], v49.2)).bind fun v51 =>
    (E.p.pick v39 v51.1 (.bool false)).bind fun v52 =>
    (wantV v52 true).bind fun v53 =>
    (bif v53 then some (x6, v51.2) else some (.tup [], v51.2)).bind fun v54 =>
    (wantV v52 true).bind fun v55 =>
    (bif v55 then pv v54.2 (E.p.un .not v54.1) else some (.tup [], v54.2)).bind fun v56 =>
    (wantV v52 true).bind fun v57 =>
    (bif v57 then some (v56.1, v56.2) else some (.tup [], v56.2)).bind fun v58 =>
    (wantV v58.1 false).bind fun v59 =>
    (bif v59 then some (x5, v58.2) else some (.tup [], v58.2)).bind fun v60 =>
    (wantV v58.1 false).bind fun v61 =>
    (bif v61 then pv v60.2 (E.p.bin .rem 3 v60.1 (.int .i64 4)) else some (.tup [], v60.2)).bind fun v62 =>
    (wantV v58.1 false).bind fun v63 =>
    (bif v63 then pv v62.2 (E.p.bin .eql 3 v62.1 (.int .i64 3)) else some (.tup [], v62.2)).bind fun v64 =>
    (wantV v52 true).bind fun v65 =>
    (bif v65 then pv v64.2 (E.p.pick v58.1 (.bool true) v64.1) else some (.tup [], v64.2)).bind fun v66 =>
    (E.p.pick v52 v66.1 (.bool false)).bind fun v67 =>
    (wantV v67 true).bind fun v68 =>
    (bif v68 then E.C fn_laws_alive [] v66.2 else some (.tup [], v66.2)).bind fun v69 =>
    (E.p.pick v67 v69.1 (.bool false)).bind fun v70 =>
    (resV v70).bind fun v71 =>
    some (v71, v69.2) := by kernel_rfl
noncomputable def main (E : Env) (x0 : PV) (h : PHeap) : Res :=
    (E.p.len 22 x0).bind fun v1 =>
    (E.p.bin .gtr 3 v1 (.int .i64 1048576)).bind fun v2 =>
    condP v2
     (
      (resV (.bool true)).bind fun v3 =>
      some (v3, h))
     (
      (E.C fn_spec_DrawPairOn [x0] h).bind fun v4 =>
      (E.p.extract v4.1 0).bind fun v5 =>
      (E.p.extract v4.1 1).bind fun v6 =>
      (E.p.extract v4.1 2).bind fun v7 =>
      (E.C fn_impl_PairOn [v5, v6, v7] v4.2).bind fun v8 =>
      (E.C fn_spec_PairOn [v5, v6, v7] v8.2).bind fun v9 =>
      (E.p.bin .neq 4 v8.1 v9.1).bind fun v10 =>
      condP v10
       (
        (resV (.bool false)).bind fun v11 =>
        some (v11, v9.2))
       (
        (E.C fn_spec_WiresOk [v5, v6] v9.2).bind fun v12 =>
        (E.p.un .not v12.1).bind fun v13 =>
        condP v13
         (
          (E.p.un .not v8.1).bind fun v14 =>
          (wantV v14 true).bind fun v15 =>
          (bif v15 then E.C fn_laws_alive [] v12.2 else some (.tup [], v12.2)).bind fun v16 =>
          (E.p.pick v14 v16.1 (.bool false)).bind fun v17 =>
          (resV v17).bind fun v18 =>
          some (v18, v16.2))
         (
          (E.C fn_impl_TreePair [v5, v6] v12.2).bind fun v19 =>
          (E.p.extract v19.1 0).bind fun v20 =>
          (E.p.extract v19.1 1).bind fun v21 =>
          (E.p.extract v19.1 2).bind fun v22 =>
          loopK (ev (E.cx Tryd.prog laws_FnPairOn.kl) laws_FnPairOn.lp0) E.lf (laws_FnPairOn.st0 v5 v6 v7 v8.1 v22 (.int .i64 0) (.int .i64 0) v19.2) (laws_FnPairOn.K0 E (kTop Tryd.prog Tryd.f6)))))
theorem main_eq (E : Env) (x0 : PV) (h : PHeap) : runBody (E.cx Tryd.prog kl) Tryd.f6 [x0] h = main E x0 h := by kernel_rfl
theorem call_eq (g : Nat → PV) (lf n : Nat) (x0 : PV) (h : PHeap) : CL g lf (n + 1) fn_laws_FnPairOn [x0] h = main (env g lf n) x0 h := by
  rw [← main_eq]
  show call Tryd.prog g KL lf (n + 1) 6 [x0] h = _
  rw [call_succ, Tryd.func6]
  kernel_rfl
end laws_FnPairOn
namespace laws_FnPairSomewhere
noncomputable def main (E : Env) (x0 : PV) (h : PHeap) : Res :=
    (E.p.len 22 x0).bind fun v1 =>
    (E.p.bin .gtr 3 v1 (.int .i64 1048576)).bind fun v2 =>
    condP v2
     (
      (resV (.bool true)).bind fun v3 =>
      some (v3, h))
     (
      (E.C fn_spec_DrawPairSomewhere [x0] h).bind fun v4 =>
      (E.p.extract v4.1 0).bind fun v5 =>
      (E.p.extract v4.1 1).bind fun v6 =>
      (E.C fn_impl_PairSomewhere [v5, v6] v4.2).bind fun v7 =>
      (E.C fn_spec_PairSomewhere [v5, v6] v7.2).bind fun v8 =>
      (E.p.bin .neq 3 v7.1 v8.1).bind fun v9 =>
      condP v9
       (
        (resV (.bool false)).bind fun v10 =>
        some (v10, v8.2))
       (
        (E.C fn_spec_WiresOk [v5, v6] v8.2).bind fun v11 =>
        (E.p.un .not v11.1).bind fun v12 =>
        condP v12
         (
          (E.p.bin .eql 3 v7.1 (.int .i64 (-1))).bind fun v13 =>
          (wantV v13 true).bind fun v14 =>
          (bif v14 then E.C fn_laws_alive [] v11.2 else some (.tup [], v11.2)).bind fun v15 =>
          (E.p.pick v13 v15.1 (.bool false)).bind fun v16 =>
          (resV v16).bind fun v17 =>
          some (v17, v15.2))
         (
          (E.p.len 23 v6).bind fun v18 =>
          (E.p.make 31 v18 v18 v11.2).bind fun v19 =>
          (E.C fn_impl_WiresWinner [v5, v6, v19.1, (.int .i64 2)] v19.2).bind fun v20 =>
          (E.p.bin .eql 3 v20.1 (.int .i64 1)).bind fun v21 =>
          (E.p.bin .lss 3 v7.1 (.int .i64 0)).bind fun v22 =>
          condP v22
           (
            (E.p.bin .eql 3 v7.1 (.int .i64 (-1))).bind fun v23 =>
            (wantV v23 true).bind fun v24 =>
            (bif v24 then some (v21, v20.2) else some (.tup [], v20.2)).bind fun v25 =>
            (wantV v23 true).bind fun v26 =>
            (bif v26 then pv v25.2 (E.p.un .not v25.1) else some (.tup [], v25.2)).bind fun v27 =>
            (E.p.pick v23 v27.1 (.bool false)).bind fun v28 =>
            (wantV v28 true).bind fun v29 =>
            (bif v29 then E.C fn_laws_alive [] v27.2 else some (.tup [], v27.2)).bind fun v30 =>
            (E.p.pick v28 v30.1 (.bool false)).bind fun v31 =>
            (resV v31).bind fun v32 =>
            some (v32, v30.2))
           (
            (wantV v21 true).bind fun v33 =>
            (bif v33 then some (v5, v20.2) else some (.tup [], v20.2)).bind fun v34 =>
            (wantV v21 true).bind fun v35 =>
            (bif v35 then some (v6, v34.2) else some (.tup [], v34.2)).bind fun v36 =>
            (wantV v21 true).bind fun v37 =>
            (bif v37 then some (v7.1, v36.2) else some (.tup [], v36.2)).bind fun v38 =>
            (wantV v21 true).bind fun v39 =>
            (bif v39 then E.C fn_impl_PairOn [v34.1, v36.1, v38.1] v38.2 else some (.tup [], v38.2)).bind fun v40 =>
            (E.p.pick v21 v40.1 (.bool false)).bind fun v41 =>
            (resV v41).bind fun v42 =>
            some (v42, v40.2)))))
theorem main_eq (E : Env) (x0 : PV) (h : PHeap) : runBody (E.cx Tryd.prog kl) Tryd.f7 [x0] h = main E x0 h := by kernel_rfl
theorem call_eq (g : Nat → PV) (lf n : Nat) (x0 : PV) (h : PHeap) : CL g lf (n + 1) fn_laws_FnPairSomewhere [x0] h = main (env g lf n) x0 h := by
  rw [← main_eq]
  show call Tryd.prog g KL lf (n + 1) 7 [x0] h = _
  rw [call_succ, Tryd.func7]
  kernel_rfl
end laws_FnPairSomewhere
namespace spec_DrawTreeOk
noncomputable def main (E : Env) (x0 : PV) (h : PHeap) : Res :=
    (E.C fn_spec_l20Open [x0] h).bind fun v1 =>
    (E.C fn_spec_l20Rich [v1.1] v1.2).bind fun v2 =>
    (E.p.extract v2.1 0).bind fun v3 =>
    (E.p.extract v2.1 1).bind fun v4 =>
    (E.C fn_spec_TreesOf [v3, v4] v2.2).bind fun v5 =>
    (E.p.len 31 v5.1).bind fun v6 =>
    (E.p.bin .gtr 3 v6 (.int .i64 0)).bind fun v7 =>
    (wantV v7 true).bind fun v8 =>
    (bif v8 then some (v1.1, v5.2) else some (.tup [], v5.2)).bind fun v9 =>
    (wantV v7 true).bind fun v10 =>
    (bif v10 then E.C fn_spec_l20Rd_pick [v9.1, (.int .i64 2)] v9.2 else some (.tup [], v9.2)).bind fun v11 =>
    (wantV v7 true).bind fun v12 =>
    (bif v12 then pv v11.2 (E.p.bin .eql 3 v11.1 (.int .i64 0)) else some (.tup [], v11.2)).bind fun v13 =>
    (E.p.pick v7 v13.1 (.bool false)).bind fun v14 =>
    condP v14
     (
      (E.p.len 31 v5.1).bind fun v15 =>
      (E.C fn_spec_l20Rd_pick [v1.1, v15] v13.2).bind fun v16 =>
      (E.p.indexAddr 31 v5.1 v16.1).bind fun v17 =>
      (E.p.load 3 v17 v16.2).bind fun v18 =>
      (resV v3).bind fun v19 =>
      (resV v4).bind fun v20 =>
      (resV v18).bind fun v21 =>
      some (.tup [v19, v20, v21], v16.2))
     (
      (E.p.len 23 v4).bind fun v22 =>
      (E.p.bin .shl 3 (.int .i64 1) v22).bind fun v23 =>
      (E.C fn_spec_l20Rd_pick [v1.1, v23] v13.2).bind fun v24 =>
      (E.C fn_spec_l20Rd_pick [v1.1, (.int .i64 40)] v24.2).bind fun v25 =>
      (E.p.bin .quo 3 v25.1 (.int .i64 39)).bind fun v26 =>
      (E.p.bin .mul 3 v26 (.int .i64 512)).bind fun v27 =>
      (E.p.bin .add 3 v24.1 v27).bind fun v28 =>
      (resV v3).bind fun v29 =>
      (resV v4).bind fun v30 =>
      (resV v28).bind fun v31 =>
      some (.tup [v29, v30, v31], v25.2))
theorem main_eq (E : Env) (x0 : PV) (h : PHeap) : runBody (E.cx Tryd.prog kl) Tryd.f8 [x0] h = main E x0 h := by kernel_rfl
theorem call_eq (g : Nat → PV) (lf n : Nat) (x0 : PV) (h : PHeap) : CL g lf (n + 1) fn_spec_DrawTreeOk [x0] h = main (env g lf n) x0 h := by
  rw [← main_eq]
  show call Tryd.prog g KL lf (n + 1) 8 [x0] h = _
  rw [call_succ, Tryd.func8]
  kernel_rfl
end spec_DrawTreeOk
namespace impl_TreeOk
noncomputable def main (E : Env) (x0 x1 x2 : PV) (h : PHeap) : Res :=
    (E.C fn_impl_WiresOk [x0, x1] h).bind fun v1 =>
    (wantV v1.1 true).bind fun v2 =>
    (bif v2 then some (x1, v1.2) else some (.tup [], v1.2)).bind fun v3 =>
    (wantV v1.1 true).bind fun v4 =>
    (bif v4 then some (x2, v3.2) else some (.tup [], v3.2)).bind fun v5 =>
    (wantV v1.1 true).bind fun v6 =>
    (bif v6 then E.C fn_impl_wireSetOk [v3.1, v5.1] v5.2 else some (.tup [], v5.2)).bind fun v7 =>
    (E.p.pick v1.1 v7.1 (.bool false)).bind fun v8 =>
    (wantV v8 true).bind fun v9 =>
    (bif v9 then some (x1, v7.2) else some (.tup [], v7.2)).bind fun v10 =>
    (wantV v8 true).bind fun v11 =>
    (bif v11 then some (x0, v10.2) else some (.tup [], v10.2)).bind fun v12 =>
    (wantV v8 true).bind fun v13 =>
    (bif v13 then E.C fn_impl_allNodes [v12.1] v12.2 else some (.tup [], v12.2)).bind fun v14 =>
    (wantV v8 true).bind fun v15 =>
    (bif v15 then some (x2, v14.2) else some (.tup [], v14.2)).bind fun v16 =>
    (wantV v8 true).bind fun v17 =>
    (bif v17 then E.C fn_impl_treeOn [v10.1, v14.1, v16.1] v16.2 else some (.tup [], v16.2)).bind fun v18 =>
    (E.p.pick v8 v18.1 (.bool false)).bind fun v19 =>
    (resV v19).bind fun v20 =>
    some (v20, v18.2)
theorem main_eq (E : Env) (x0 x1 x2 : PV) (h : PHeap) : runBody (E.cx Tryd.prog kl) Tryd.f9 [x0, x1, x2] h = main E x0 x1 x2 h := by kernel_rfl
theorem call_eq (g : Nat → PV) (lf n : Nat) (x0 x1 x2 : PV) (h : PHeap) : CL g lf (n + 1) fn_impl_TreeOk [x0, x1, x2] h = main (env g lf n) x0 x1 x2 h := by
  rw [← main_eq]
  show call Tryd.prog g KL lf (n + 1) 9 [x0, x1, x2] h = _
  rw [call_succ, Tryd.func9]
  kernel_rfl
end impl_TreeOk
namespace spec_TreeOk
noncomputable def main (E : Env) (x0 x1 x2 : PV) (h : PHeap) : Res :=
    (E.C fn_spec_WiresOk [x0, x1] h).bind fun v1 =>
    (wantV v1.1 true).bind fun v2 =>
    (bif v2 then some (x2, v1.2) else some (.tup [], v1.2)).bind fun v3 =>
    (wantV v1.1 true).bind fun v4 =>
    (bif v4 then some (x1, v3.2) else some (.tup [], v3.2)).bind fun v5 =>
    (wantV v1.1 true).bind fun v6 =>
    (bif v6 then pv v5.2 (E.p.len 23 v5.1) else some (.tup [], v5.2)).bind fun v7 =>
    (wantV v1.1 true).bind fun v8 =>
    (bif v8 then pv v7.2 (E.p.bin .shl 3 (.int .i64 1) v7.1) else some (.tup [], v7.2)).bind fun v9 =>
    (wantV v1.1 true).bind fun v10 =>
    (bif v10 then pv v9.2 (E.p.bin .sub 3 v9.1 (.int .i64 1)) else some (.tup [], v9.2)).bind fun v11 =>
    (wantV v1.1 true).bind fun v12 =>
    (bif v12 then E.C fn_spec_l1In [v3.1, (.int .i64 0), v11.1] v11.2 else some (.tup [], v11.2)).bind fun v13 =>
    (E.p.pick v1.1 v13.1 (.bool false)).bind fun v14 =>
    (wantV v14 true).bind fun v15 =>
    (bif v15 then some (x1, v13.2) else some (.tup [], v13.2)).bind fun v16 =>
    (wantV v14 true).bind fun v17 =>
    (bif v17 then some (x2, v16.2) else some (.tup [], v16.2)).bind fun v18 =>
    (wantV v14 true).bind fun v19 =>
    (bif v19 then some (x0, v18.2) else some (.tup [], v18.2)).bind fun v20 =>
    (wantV v14 true).bind fun v21 =>
    (bif v21 then pv v20.2 (E.p.bin .shl 3 (.int .i64 1) v20.1) else some (.tup [], v20.2)).bind fun v22 =>
    (wantV v14 true).bind fun v23 =>
    (bif v23 then pv v22.2 (E.p.bin .sub 3 v22.1 (.int .i64 1)) else some (.tup [], v22.2)).bind fun v24 =>
    (wantV v14 true).bind fun v25 =>
    (bif v25 then E.C fn_spec_l10Tree [v16.1, v18.1, v24.1] v24.2 else some (.tup [], v24.2)).bind fun v26 =>
    (E.p.pick v14 v26.1 (.bool false)).bind fun v27 =>
    (resV v27).bind fun v28 =>
    some (v28, v26.2)
theorem main_eq (E : Env) (x0 x1 x2 : PV) (h : PHeap) : runBody (E.cx Tryd.prog kl) Tryd.f10 [x0, x1, x2] h = main E x0 x1 x2 h := by kernel_rfl
theorem call_eq (g : Nat → PV) (lf n : Nat) (x0 x1 x2 : PV) (h : PHeap) : CL g lf (n + 1) fn_spec_TreeOk [x0, x1, x2] h = main (env g lf n) x0 x1 x2 h := by
  rw [← main_eq]
  show call Tryd.prog g KL lf (n + 1) 10 [x0, x1, x2] h = _
  rw [call_succ, Tryd.func10]
  kernel_rfl
end spec_TreeOk
namespace laws_alive
noncomputable def main (E : Env) (h : PHeap) : Res :=
    (E.C fn_impl_BoardOk [(.int .i64 2), (.int .i64 2)] h).bind fun v1 =>
    (wantV v1.1 true).bind fun v2 =>
    (bif v2 then E.C fn_impl_BoardOk [(.int .i64 0), (.int .i64 2)] v1.2 else some (.tup [], v1.2)).bind fun v3 =>
    (wantV v1.1 true).bind fun v4 =>
    (bif v4 then pv v3.2 (E.p.un .not v3.1) else some (.tup [], v3.2)).bind fun v5 =>
    (E.p.pick v1.1 v5.1 (.bool false)).bind fun v6 =>
    (resV v6).bind fun v7 =>
    some (v7, v5.2)
theorem main_eq (E : Env) (h : PHeap) : runBody (E.cx Tryd.prog kl) Tryd.f11 [] h = main E  h := by kernel_rfl
theorem call_eq (g : Nat → PV) (lf n : Nat) (h : PHeap) : CL g lf (n + 1) fn_laws_alive [] h = main (env g lf n)  h := by
  rw [← main_eq]
  show call Tryd.prog g KL lf (n + 1) 11 [] h = _
  rw [call_succ, Tryd.func11]
  kernel_rfl
end laws_alive
namespace impl_LinksEnds
noncomputable def main (E : Env) (x0 x1 x2 : PV) (h : PHeap) : Res :=
    (E.C fn_impl_WiresOk [x0, x1] h).bind fun v1 =>
    (wantV v1.1 true).bind fun v2 =>
    (bif v2 then some (x1, v1.2) else some (.tup [], v1.2)).bind fun v3 =>
    (wantV v1.1 true).bind fun v4 =>
    (bif v4 then some (x2, v3.2) else some (.tup [], v3.2)).bind fun v5 =>
    (wantV v1.1 true).bind fun v6 =>
    (bif v6 then E.C fn_impl_wireSetOk [v3.1, v5.1] v5.2 else some (.tup [], v5.2)).bind fun v7 =>
    (E.p.pick v1.1 v7.1 (.bool false)).bind fun v8 =>
    (wantV v8 true).bind fun v9 =>
    (bif v9 then some (x1, v7.2) else some (.tup [], v7.2)).bind fun v10 =>
    (wantV v8 true).bind fun v11 =>
    (bif v11 then some (x2, v10.2) else some (.tup [], v10.2)).bind fun v12 =>
    (wantV v8 true).bind fun v13 =>
    (bif v13 then E.C fn_impl_linked [v10.1, v12.1] v12.2 else some (.tup [], v12.2)).bind fun v14 =>
    (E.p.pick v8 v14.1 (.bool false)).bind fun v15 =>
    (resV v15).bind fun v16 =>
    some (v16, v14.2)
theorem main_eq (E : Env) (x0 x1 x2 : PV) (h : PHeap) : runBody (E.cx Tryd.prog kl) Tryd.f12 [x0, x1, x2] h = main E x0 x1 x2 h := by kernel_rfl
theorem call_eq (g : Nat → PV) (lf n : Nat) (x0 x1 x2 : PV) (h : PHeap) : CL g lf (n + 1) fn_impl_LinksEnds [x0, x1, x2] h = main (env g lf n) x0 x1 x2 h := by
  rw [← main_eq]
  show call Tryd.prog g KL lf (n + 1) 12 [x0, x1, x2] h = _
  rw [call_succ, Tryd.func12]
  kernel_rfl
end impl_LinksEnds
namespace spec_DrawTreesOf
noncomputable def main (E : Env) (x0 : PV) (h : PHeap) : Res :=
    (E.C fn_spec_l20Open [x0] h).bind fun v1 =>
    (E.C fn_spec_l20Rich [v1.1] v1.2).bind fun v2 =>
    (E.p.extract v2.1 0).bind fun v3 =>
    (E.p.extract v2.1 1).bind fun v4 =>
    (resV v3).bind fun v5 =>
    (resV v4).bind fun v6 =>
    some (.tup [v5, v6], v2.2)
theorem main_eq (E : Env) (x0 : PV) (h : PHeap) : runBody (E.cx Tryd.prog kl) Tryd.f13 [x0] h = main E x0 h := by kernel_rfl
theorem call_eq (g : Nat → PV) (lf n : Nat) (x0 : PV) (h : PHeap) : CL g lf (n + 1) fn_spec_DrawTreesOf [x0] h = main (env g lf n) x0 h := by
  rw [← main_eq]
  show call Tryd.prog g KL lf (n + 1) 13 [x0] h = _
  rw [call_succ, Tryd.func13]
  kernel_rfl
end spec_DrawTreesOf
namespace impl_TreesOf
noncomputable def main (E : Env) (x0 x1 : PV) (h : PHeap) : Res :=
    (E.C fn_impl_WiresOk [x0, x1] h).bind fun v1 =>
    (E.p.un .not v1.1).bind fun v2 =>
    condP v2
     (
      (resV .nilsl).bind fun v3 =>
      some (v3, v1.2))
     (
      (E.C fn_impl_allNodes [x0] v1.2).bind fun v4 =>
      (E.C fn_impl_treesOn [x1, v4.1] v4.2).bind fun v5 =>
      (resV v5.1).bind fun v6 =>
      some (v6, v5.2))
theorem main_eq (E : Env) (x0 x1 : PV) (h : PHeap) : runBody (E.cx Tryd.prog kl) Tryd.f14 [x0, x1] h = main E x0 x1 h := by kernel_rfl
theorem call_eq (g : Nat → PV) (lf n : Nat) (x0 x1 : PV) (h : PHeap) : CL g lf (n + 1) fn_impl_TreesOf [x0, x1] h = main (env g lf n) x0 x1 h := by
  rw [← main_eq]
  show call Tryd.prog g KL lf (n + 1) 14 [x0, x1] h = _
  rw [call_succ, Tryd.func14]
  kernel_rfl
end impl_TreesOf
namespace laws_sameInts
noncomputable def lp0 : Code := (codeAt (bodyOf Tryd.f15) [1, 1, 0, 1, 0, 0])
def st0 (x0 x1 x5 : PV) (h : PHeap) : St := ⟨[x0, x1, .junk, .junk, .junk, x5, .junk, .junk, .junk, .junk, .junk, .junk, .junk, .junk, .junk, .junk, .junk, .junk, .junk, .junk, .junk, .junk, .junk, .junk, .junk, .junk], h⟩
def sr_4 (x4 : PV) (h : PHeap) : St := ⟨[.junk, .junk, .junk, .junk, x4, .junk, .junk, .junk, .junk, .junk, .junk, .junk, .junk, .junk, .junk, .junk, .junk, .junk, .junk, .junk, .junk, .junk, .junk, .junk, .junk, .junk], h⟩
def se0_0_1_5_14 (x0 x1 x5 x14 : PV) (h : PHeap) : St := ⟨[x0, x1, .junk, .junk, .junk, x5, .junk, .junk, .junk, .junk, .junk, .junk, .junk, .junk, x14, .junk, .junk, .junk, .junk, .junk, .junk, .junk, .junk, .junk, .junk, .junk], h⟩
noncomputable def K0 (E : Env) (K : PX → St → Res) : PX → St → Res := (kBlock 0 (kSeq (ev (E.cx Tryd.prog kl) (codeAt (bodyOf Tryd.f15) [1, 1, 1])) K))
@[simp] theorem K0_ret (E : Env) (K : PX → St → Res) (s : St) : K0 E K .ret s = K .ret s := by kernel_rfl
noncomputable def body0 (E : Env) (K : PX → St → Res) (x0 x1 x5 : PV) (h : PHeap) : Res :=
    (E.p.len 31 x0).bind fun v14 =>
    (E.p.bin .lss 3 x5 v14).bind fun v15 =>
    condP v15
     (
      (E.p.indexAddr 31 x0 x5).bind fun v16 =>
      (E.p.load 3 v16 h).bind fun v17 =>
      (E.p.indexAddr 31 x1 x5).bind fun v18 =>
      (E.p.load 3 v18 h).bind fun v19 =>
      (E.p.bin .neq 3 v17 v19).bind fun v20 =>
      condP v20
       (
        K .ret (sr_4 (.bool false) h))
       (
        (E.p.bin .add 3 x5 (.int .i64 1)).bind fun v21 =>
        K .normal (st0 x0 x1 v21 h)))
     (
      K (.exit 0) (se0_0_1_5_14 x0 x1 x5 v15 h))
theorem body0_eq (E : Env) (K : PX → St → Res) (x0 x1 x5 : PV) (h : PHeap) : ev (E.cx Tryd.prog kl) lp0 (st0 x0 x1 x5 h) K = body0 E K x0 x1 x5 h := by kernel_rfl
theorem after0_se0_0_1_5_14 (E : Env) (x0 x1 x5 x14 : PV) (h : PHeap) : K0 E (kTop Tryd.prog Tryd.f15) (.exit 0) (se0_0_1_5_14 x0 x1 x5 x14 h) =
    (resV (.bool true)).bind fun v13 =>
    some (v13, h) := by kernel_rfl
theorem top_sr_4 (x4 : PV) (h : PHeap) : kTop Tryd.prog Tryd.f15 .ret (sr_4 x4 h) =
    (resV x4).bind fun v22 =>
    some (v22, h) := by kernel_rfl
noncomputable def main (E : Env) (x0 x1 : PV) (h : PHeap) : Res :=
    (E.p.len 31 x0).bind fun v1 =>
    (E.p.len 31 x1).bind fun v2 =>
    (E.p.bin .neq 3 v1 v2).bind fun v3 =>
    condP v3
     (
      (resV (.bool false)).bind fun v4 =>
      some (v4, h))
     (
      loopK (ev (E.cx Tryd.prog laws_sameInts.kl) laws_sameInts.lp0) E.lf (laws_sameInts.st0 x0 x1 (.int .i64 0) h) (laws_sameInts.K0 E (kTop Tryd.prog Tryd.f15)))
theorem main_eq (E : Env) (x0 x1 : PV) (h : PHeap) : runBody (E.cx Tryd.prog kl) Tryd.f15 [x0, x1] h = main E x0 x1 h := by kernel_rfl
theorem call_eq (g : Nat → PV) (lf n : Nat) (x0 x1 : PV) (h : PHeap) : CL g lf (n + 1) fn_laws_sameInts [x0, x1] h = main (env g lf n) x0 x1 h := by
  rw [← main_eq]
  show call Tryd.prog g KL lf (n + 1) 15 [x0, x1] h = _
  rw [call_succ, Tryd.func15]
  kernel_rfl
end laws_sameInts
namespace spec_TreesOf
noncomputable def lp0 : Code := (codeAt (bodyOf Tryd.f16) [1, 1, 0, 1, 0, 0])
def st0 (x0 x1 x5 x6 : PV) (h : PHeap) : St := ⟨[x0, x1, .junk, .junk, .junk, x5, x6, .junk, .junk, .junk, .junk, .junk, .junk, .junk, .junk, .junk, .junk, .junk, .junk, .junk, .junk, .junk, .junk, .junk, .junk, .junk, .junk, .junk, .junk, .junk, .junk], h⟩
def se0_0_1_5_6_17 (x0 x1 x5 x6 x17 : PV) (h : PHeap) : St := ⟨[x0, x1, .junk, .junk, .junk, x5, x6, .junk, .junk, .junk, .junk, .junk, .junk, .junk, .junk, .junk, .junk, x17, .junk, .junk, .junk, .junk, .junk, .junk, .junk, .junk, .junk, .junk, .junk, .junk, .junk], h⟩
noncomputable def K0 (E : Env) (K : PX → St → Res) : PX → St → Res := (kBlock 0 (kSeq (ev (E.cx Tryd.prog kl) (codeAt (bodyOf Tryd.f16) [1, 1, 1])) K))
@[simp] theorem K0_ret (E : Env) (K : PX → St → Res) (s : St) : K0 E K .ret s = K .ret s := by kernel_rfl
noncomputable def body0 (E : Env) (K : PX → St → Res) (x0 x1 x5 x6 : PV) (h : PHeap) : Res :=
    (E.C fn_spec_WiresOk [x0, x1] h).bind fun v22 =>
    (wantV v22.1 true).bind fun v23 =>
    (bif v23 then some (x6, v22.2) else some (.tup [], v22.2)).bind fun v24 =>
    (wantV v22.1 true).bind fun v25 =>
    (bif v25 then some (x1, v24.2) else some (.tup [], v24.2)).bind fun v26 =>
    (wantV v22.1 true).bind fun v27 =>
    (bif v27 then pv v26.2 (E.p.len 23 v26.1) else some (.tup [], v26.2)).bind fun v28 =>
    (wantV v22.1 true).bind fun v29 =>
    (bif v29 then pv v28.2 (E.p.bin .shl 3 (.int .i64 1) v28.1) else some (.tup [], v28.2)).bind fun v30 =>
    (wantV v22.1 true).bind fun v31 =>
    (bif v31 then pv v30.2 (E.p.bin .lss 3 v24.1 v30.1) else some (.tup [], v30.2)).bind fun v32 =>
    (E.p.pick v22.1 v32.1 (.bool false)).bind fun v33 =>
    condP v33
     (
      (E.p.bin .shl 3 (.int .i64 1) x0).bind fun v34 =>
      (E.p.bin .sub 3 v34 (.int .i64 1)).bind fun v35 =>
      (E.C fn_spec_l10Tree [x1, x6, v35] v32.2).bind fun v36 =>
      condP v36.1
       (
        (E.p.buildSlice 31 1 [(0, x6)] v36.2).bind fun v37 =>
        (E.p.append 31 31 x5 v37.1 v37.2).bind fun v38 =>
        (E.p.bin .add 3 x6 (.int .i64 1)).bind fun v39 =>
        K .normal (st0 x0 x1 v38.1 v39 v38.2))
       (
        (E.p.bin .add 3 x6 (.int .i64 1)).bind fun v40 =>
        K .normal (st0 x0 x1 x5 v40 v36.2)))
     (
      K (.exit 0) (se0_0_1_5_6_17 x0 x1 x5 x6 v33 v32.2))
theorem body0_eq (E : Env) (K : PX → St → Res) (x0 x1 x5 x6 : PV) (h : PHeap) : ev (E.cx Tryd.prog kl) lp0 (st0 x0 x1 x5 x6 h) K = body0 E K x0 x1 x5 x6 h := by kernel_rfl
theorem after0_se0_0_1_5_6_17 (E : Env) (x0 x1 x5 x6 x17 : PV) (h : PHeap) : K0 E (kTop Tryd.prog Tryd.f16) (.exit 0) (se0_0_1_5_6_17 x0 x1 x5 x6 x17 h) =
    (resV x5).bind fun v21 =>
    some (v21, h) := by kernel_rfl
noncomputable def main (E : Env) (x0 x1 : PV) (h : PHeap) : Res :=
    (E.p.buildSlice 31 0 [] h).bind fun v1 =>
    loopK (ev (E.cx Tryd.prog spec_TreesOf.kl) spec_TreesOf.lp0) E.lf (spec_TreesOf.st0 x0 x1 v1.1 (.int .i64 0) v1.2) (spec_TreesOf.K0 E (kTop Tryd.prog Tryd.f16))
theorem main_eq (E : Env) (x0 x1 : PV) (h : PHeap) : runBody (E.cx Tryd.prog kl) Tryd.f16 [x0, x1] h = main E x0 x1 h := by kernel_rfl
theorem call_eq (g : Nat → PV) (lf n : Nat) (x0 x1 : PV) (h : PHeap) : CL g lf (n + 1) fn_spec_TreesOf [x0, x1] h = main (env g lf n) x0 x1 h := by
  rw [← main_eq]
  show call Tryd.prog g KL lf (n + 1) 16 [x0, x1] h = _
  rw [call_succ, Tryd.func16]
  kernel_rfl
end spec_TreesOf
namespace spec_WiresOk
noncomputable def lp0 : Code := (codeAt (bodyOf Tryd.f17) [1, 0, 1, 0, 0])
def st0 (x0 x1 x5 : PV) (h : PHeap) : St := ⟨[x0, x1, .junk, .junk, .junk, x5, .junk, .junk, .junk, .junk, .junk, .junk, .junk, .junk, .junk, .junk, .junk, .junk, .junk, .junk, .junk, .junk, .junk, .junk, .junk, .junk, .junk, .junk, .junk, .junk, .junk, .junk, .junk, .junk, .junk, .junk, .junk, .junk, .junk, .junk, .junk, .junk, .junk, .junk, .junk, .junk, .junk, .junk, .junk, .junk, .junk], h⟩
def sr_4 (x4 : PV) (h : PHeap) : St := ⟨[.junk, .junk, .junk, .junk, x4, .junk, .junk, .junk, .junk, .junk, .junk, .junk, .junk, .junk, .junk, .junk, .junk, .junk, .junk, .junk, .junk, .junk, .junk, .junk, .junk, .junk, .junk, .junk, .junk, .junk, .junk, .junk, .junk, .junk, .junk, .junk, .junk, .junk, .junk, .junk, .junk, .junk, .junk, .junk, .junk, .junk, .junk, .junk, .junk, .junk, .junk], h⟩
def se0_0_1_5_10 (x0 x1 x5 x10 : PV) (h : PHeap) : St := ⟨[x0, x1, .junk, .junk, .junk, x5, .junk, .junk, .junk, .junk, x10, .junk, .junk, .junk, .junk, .junk, .junk, .junk, .junk, .junk, .junk, .junk, .junk, .junk, .junk, .junk, .junk, .junk, .junk, .junk, .junk, .junk, .junk, .junk, .junk, .junk, .junk, .junk, .junk, .junk, .junk, .junk, .junk, .junk, .junk, .junk, .junk, .junk, .junk, .junk, .junk], h⟩
noncomputable def K0 (E : Env) (K : PX → St → Res) : PX → St → Res := (kBlock 0 (kSeq (ev (E.cx Tryd.prog kl) (codeAt (bodyOf Tryd.f17) [1, 1])) K))
@[simp] theorem K0_ret (E : Env) (K : PX → St → Res) (s : St) : K0 E K .ret s = K .ret s := by kernel_rfl
noncomputable def body0 (E : Env) (K : PX → St → Res) (x0 x1 x5 : PV) (h : PHeap) : Res :=
    (E.p.len 23 x1).bind fun v56 =>
    (E.p.bin .lss 3 x5 v56).bind fun v57 =>
    condP v57
     (
      (E.p.indexAddr 23 x1 x5).bind fun v58 =>
      (E.p.load 41 v58 h).bind fun v59 =>
      (E.p.alloc 41 h).bind fun v60 =>
      (E.p.store 41 v60.1 v59 v60.2).bind fun v61 =>
      (E.p.fieldAddr 41 v60.1 0).bind fun v62 =>
      (E.p.load 3 v62 v61).bind fun v63 =>
      (E.p.bin .lss 3 v63 (.int .i64 0)).bind fun v64 =>
      (wantV v64 false).bind fun v65 =>
      (bif v65 then pv v61 (E.p.fieldAddr 41 v60.1 0) else some (.tup [], v61)).bind fun v66 =>
      (wantV v64 false).bind fun v67 =>
      (bif v67 then pv v66.2 (E.p.load 3 v66.1 v66.2) else some (.tup [], v66.2)).bind fun v68 =>
      (wantV v64 false).bind fun v69 =>
      (bif v69 then some (x0, v68.2) else some (.tup [], v68.2)).bind fun v70 =>
      (wantV v64 false).bind fun v71 =>
      (bif v71 then pv v70.2 (E.p.bin .geq 3 v68.1 v70.1) else some (.tup [], v70.2)).bind fun v72 =>
      (E.p.pick v64 (.bool true) v72.1).bind fun v73 =>
      (wantV v73 false).bind fun v74 =>
      (bif v74 then pv v72.2 (E.p.fieldAddr 41 v60.1 1) else some (.tup [], v72.2)).bind fun v75 =>
      (wantV v73 false).bind fun v76 =>
      (bif v76 then pv v75.2 (E.p.load 3 v75.1 v75.2) else some (.tup [], v75.2)).bind fun v77 =>
      (wantV v73 false).bind fun v78 =>
      (bif v78 then pv v77.2 (E.p.bin .lss 3 v77.1 (.int .i64 0)) else some (.tup [], v77.2)).bind fun v79 =>
      (E.p.pick v73 (.bool true) v79.1).bind fun v80 =>
      (wantV v80 false).bind fun v81 =>
      (bif v81 then pv v79.2 (E.p.fieldAddr 41 v60.1 1) else some (.tup [], v79.2)).bind fun v82 =>
      (wantV v80 false).bind fun v83 =>
      (bif v83 then pv v82.2 (E.p.load 3 v82.1 v82.2) else some (.tup [], v82.2)).bind fun v84 =>
      (wantV v80 false).bind fun v85 =>
      (bif v85 then some (x0, v84.2) else some (.tup [], v84.2)).bind fun v86 =>
      (wantV v80 false).bind fun v87 =>
      (bif v87 then pv v86.2 (E.p.bin .geq 3 v84.1 v86.1) else some (.tup [], v86.2)).bind fun v88 =>
      (E.p.pick v80 (.bool true) v88.1).bind fun v89 =>
      (wantV v89 false).bind fun v90 =>
      (bif v90 then pv v88.2 (E.p.fieldAddr 41 v60.1 0) else some (.tup [], v88.2)).bind fun v91 =>
      (wantV v89 false).bind fun v92 =>
      (bif v92 then pv v91.2 (E.p.load 3 v91.1 v91.2) else some (.tup [], v91.2)).bind fun v93 =>
      (wantV v89 false).bind fun v94 =>
      (bif v94 then pv v93.2 (E.p.fieldAddr 41 v60.1 1) else some (.tup [], v93.2)).bind fun v95 =>
      (wantV v89 false).bind fun v96 =>
      (bif v96 then pv v95.2 (E.p.load 3 v95.1 v95.2) else some (.tup [], v95.2)).bind fun v97 =>
      (wantV v89 false).bind fun v98 =>
      (bif v98 then pv v97.2 (E.p.bin .eql 3 v93.1 v97.1) else some (.tup [], v97.2)).bind fun v99 =>
      (E.p.pick v89 (.bool true) v99.1).bind fun v100 =>
      condP v100
       (
        K .ret (sr_4 (.bool false) v99.2))
       (
        (E.p.bin .add 3 x5 (.int .i64 1)).bind fun v101 =>
        K .normal (st0 x0 x1 v101 v99.2)))
     (
      K (.exit 0) (se0_0_1_5_10 x0 x1 x5 v57 h))
theorem body0_eq (E : Env) (K : PX → St → Res) (x0 x1 x5 : PV) (h : PHeap) : ev (E.cx Tryd.prog kl) lp0 (st0 x0 x1 x5 h) K = body0 E K x0 x1 x5 h := by kernel_rfl
theorem after0_se0_0_1_5_10 (E : Env) (x0 x1 x5 x10 : PV) (h : PHeap) : K0 E (kTop Tryd.prog Tryd.f17) (.exit 0) (se0_0_1_5_10 x0 x1 x5 x10 h) =
    (E.C fn_spec_l1In [x0, (.int .i64 2), (.int .i64 5)] h).bind fun v47 =>
    (wantV v47.1 true).bind fun v48 =>
    (bif v48 then some (x1, v47.2) else some (.tup [], v47.2)).bind fun v49 =>
    (wantV v47.1 true).bind fun v50 =>
    (bif v50 then pv v49.2 (E.p.len 23 v49.1) else some (.tup [], v49.2)).bind fun v51 =>
    (wantV v47.1 true).bind fun v52 =>
    (bif v52 then pv v51.2 (E.p.bin .leq 3 v51.1 (.int .i64 8)) else some (.tup [], v51.2)).bind fun v53 =>
    (E.p.pick v47.1 v53.1 (.bool false)).bind fun v54 =>
    (resV v54).bind fun v55 =>
    some (v55, v53.2) := by kernel_rfl
theorem top_sr_4 (x4 : PV) (h : PHeap) : kTop Tryd.prog Tryd.f17 .ret (sr_4 x4 h) =
    (resV x4).bind fun v102 =>
    some (v102, h) := by kernel_rfl
noncomputable def main (E : Env) (x0 x1 : PV) (h : PHeap) : Res :=
    loopK (ev (E.cx Tryd.prog spec_WiresOk.kl) spec_WiresOk.lp0) E.lf (spec_WiresOk.st0 x0 x1 (.int .i64 0) h) (spec_WiresOk.K0 E (kTop Tryd.prog Tryd.f17))
theorem main_eq (E : Env) (x0 x1 : PV) (h : PHeap) : runBody (E.cx Tryd.prog kl) Tryd.f17 [x0, x1] h = main E x0 x1 h := by kernel_rfl
theorem call_eq (g : Nat → PV) (lf n : Nat) (x0 x1 : PV) (h : PHeap) : CL g lf (n + 1) fn_spec_WiresOk [x0, x1] h = main (env g lf n) x0 x1 h := by
  rw [← main_eq]
  show call Tryd.prog g KL lf (n + 1) 17 [x0, x1] h = _
  rw [call_succ, Tryd.func17]
  kernel_rfl
end spec_WiresOk
namespace laws_hasInt
noncomputable def lp0 : Code := (codeAt (bodyOf Tryd.f18) [1, 0, 1, 0, 0])
def st0 (x0 x1 x5 : PV) (h : PHeap) : St := ⟨[x0, x1, .junk, .junk, .junk, x5, .junk, .junk, .junk, .junk, .junk, .junk, .junk, .junk, .junk, .junk, .junk, .junk], h⟩
def sr_4 (x4 : PV) (h : PHeap) : St := ⟨[.junk, .junk, .junk, .junk, x4, .junk, .junk, .junk, .junk, .junk, .junk, .junk, .junk, .junk, .junk, .junk, .junk, .junk], h⟩
def se0_0_1_5_9 (x0 x1 x5 x9 : PV) (h : PHeap) : St := ⟨[x0, x1, .junk, .junk, .junk, x5, .junk, .junk, .junk, x9, .junk, .junk, .junk, .junk, .junk, .junk, .junk, .junk], h⟩
noncomputable def K0 (E : Env) (K : PX → St → Res) : PX → St → Res := (kBlock 0 (kSeq (ev (E.cx Tryd.prog kl) (codeAt (bodyOf Tryd.f18) [1, 1])) K))
@[simp] theorem K0_ret (E : Env) (K : PX → St → Res) (s : St) : K0 E K .ret s = K .ret s := by kernel_rfl
noncomputable def body0 (E : Env) (K : PX → St → Res) (x0 x1 x5 : PV) (h : PHeap) : Res :=
    (E.p.len 31 x0).bind fun v8 =>
    (E.p.bin .lss 3 x5 v8).bind fun v9 =>
    condP v9
     (
      (E.p.indexAddr 31 x0 x5).bind fun v10 =>
      (E.p.load 3 v10 h).bind fun v11 =>
      (E.p.bin .eql 3 v11 x1).bind fun v12 =>
      condP v12
       (
        K .ret (sr_4 (.bool true) h))
       (
        (E.p.bin .add 3 x5 (.int .i64 1)).bind fun v13 =>
        K .normal (st0 x0 x1 v13 h)))
     (
      K (.exit 0) (se0_0_1_5_9 x0 x1 x5 v9 h))
theorem body0_eq (E : Env) (K : PX → St → Res) (x0 x1 x5 : PV) (h : PHeap) : ev (E.cx Tryd.prog kl) lp0 (st0 x0 x1 x5 h) K = body0 E K x0 x1 x5 h := by kernel_rfl
theorem after0_se0_0_1_5_9 (E : Env) (x0 x1 x5 x9 : PV) (h : PHeap) : K0 E (kTop Tryd.prog Tryd.f18) (.exit 0) (se0_0_1_5_9 x0 x1 x5 x9 h) =
    (resV (.bool false)).bind fun v7 =>
    some (v7, h) := by kernel_rfl
theorem top_sr_4 (x4 : PV) (h : PHeap) : kTop Tryd.prog Tryd.f18 .ret (sr_4 x4 h) =
    (resV x4).bind fun v14 =>
    some (v14, h) := by kernel_rfl
noncomputable def main (E : Env) (x0 x1 : PV) (h : PHeap) : Res :=
    loopK (ev (E.cx Tryd.prog laws_hasInt.kl) laws_hasInt.lp0) E.lf (laws_hasInt.st0 x0 x1 (.int .i64 0) h) (laws_hasInt.K0 E (kTop Tryd.prog Tryd.f18))
theorem main_eq (E : Env) (x0 x1 : PV) (h : PHeap) : runBody (E.cx Tryd.prog kl) Tryd.f18 [x0, x1] h = main E x0 x1 h := by kernel_rfl
theorem call_eq (g : Nat → PV) (lf n : Nat) (x0 x1 : PV) (h : PHeap) : CL g lf (n + 1) fn_laws_hasInt [x0, x1] h = main (env g lf n) x0 x1 h := by
  rw [← main_eq]
  show call Tryd.prog g KL lf (n + 1) 18 [x0, x1] h = _
  rw [call_succ, Tryd.func18]
  kernel_rfl
end laws_hasInt
namespace laws_ascend
noncomputable def lp0 : Code := (codeAt (bodyOf Tryd.f19) [1, 0, 1, 0, 0])
def st0 (x0 x3 : PV) (h : PHeap) : St := ⟨[x0, .junk, .junk, x3, .junk, .junk, .junk, .junk, .junk, .junk, .junk, .junk, .junk, .junk, .junk, .junk, .junk, .junk, .junk, .junk], h⟩
def sr_2 (x2 : PV) (h : PHeap) : St := ⟨[.junk, .junk, x2, .junk, .junk, .junk, .junk, .junk, .junk, .junk, .junk, .junk, .junk, .junk, .junk, .junk, .junk, .junk, .junk, .junk], h⟩
def se0_0_3_7 (x0 x3 x7 : PV) (h : PHeap) : St := ⟨[x0, .junk, .junk, x3, .junk, .junk, .junk, x7, .junk, .junk, .junk, .junk, .junk, .junk, .junk, .junk, .junk, .junk, .junk, .junk], h⟩
noncomputable def K0 (E : Env) (K : PX → St → Res) : PX → St → Res := (kBlock 0 (kSeq (ev (E.cx Tryd.prog kl) (codeAt (bodyOf Tryd.f19) [1, 1])) K))
@[simp] theorem K0_ret (E : Env) (K : PX → St → Res) (s : St) : K0 E K .ret s = K .ret s := by kernel_rfl
noncomputable def body0 (E : Env) (K : PX → St → Res) (x0 x3 : PV) (h : PHeap) : Res :=
    (E.p.len 31 x0).bind fun v11 =>
    (E.p.bin .lss 3 x3 v11).bind fun v12 =>
    condP v12
     (
      (E.p.bin .sub 3 x3 (.int .i64 1)).bind fun v13 =>
      (E.p.indexAddr 31 x0 v13).bind fun v14 =>
      (E.p.load 3 v14 h).bind fun v15 =>
      (E.p.indexAddr 31 x0 x3).bind fun v16 =>
      (E.p.load 3 v16 h).bind fun v17 =>
      (E.p.bin .geq 3 v15 v17).bind fun v18 =>
      condP v18
       (
        K .ret (sr_2 (.bool false) h))
       (
        (E.p.bin .add 3 x3 (.int .i64 1)).bind fun v19 =>
        K .normal (st0 x0 v19 h)))
     (
      K (.exit 0) (se0_0_3_7 x0 x3 v12 h))
theorem body0_eq (E : Env) (K : PX → St → Res) (x0 x3 : PV) (h : PHeap) : ev (E.cx Tryd.prog kl) lp0 (st0 x0 x3 h) K = body0 E K x0 x3 h := by kernel_rfl
theorem after0_se0_0_3_7 (E : Env) (x0 x3 x7 : PV) (h : PHeap) : K0 E (kTop Tryd.prog Tryd.f19) (.exit 0) (se0_0_3_7 x0 x3 x7 h) =
    (resV (.bool true)).bind fun v10 =>
    some (v10, h) := by kernel_rfl
theorem top_sr_2 (x2 : PV) (h : PHeap) : kTop Tryd.prog Tryd.f19 .ret (sr_2 x2 h) =
    (resV x2).bind fun v20 =>
    some (v20, h) := by kernel_rfl
noncomputable def main (E : Env) (x0 : PV) (h : PHeap) : Res :=
    loopK (ev (E.cx Tryd.prog laws_ascend.kl) laws_ascend.lp0) E.lf (laws_ascend.st0 x0 (.int .i64 1) h) (laws_ascend.K0 E (kTop Tryd.prog Tryd.f19))
theorem main_eq (E : Env) (x0 : PV) (h : PHeap) : runBody (E.cx Tryd.prog kl) Tryd.f19 [x0] h = main E x0 h := by kernel_rfl
theorem call_eq (g : Nat → PV) (lf n : Nat) (x0 : PV) (h : PHeap) : CL g lf (n + 1) fn_laws_ascend [x0] h = main (env g lf n) x0 h := by
  rw [← main_eq]
  show call Tryd.prog g KL lf (n + 1) 19 [x0] h = _
  rw [call_succ, Tryd.func19]
  kernel_rfl
end laws_ascend
namespace spec_DrawTreePair
noncomputable def main (E : Env) (x0 : PV) (h : PHeap) : Res :=
    (E.C fn_spec_l20Open [x0] h).bind fun v1 =>
    (E.C fn_spec_l20Rich [v1.1] v1.2).bind fun v2 =>
    (E.p.extract v2.1 0).bind fun v3 =>
    (E.p.extract v2.1 1).bind fun v4 =>
    (resV v3).bind fun v5 =>
    (resV v4).bind fun v6 =>
    some (.tup [v5, v6], v2.2)
theorem main_eq (E : Env) (x0 : PV) (h : PHeap) : runBody (E.cx Tryd.prog kl) Tryd.f20 [x0] h = main E x0 h := by kernel_rfl
theorem call_eq (g : Nat → PV) (lf n : Nat) (x0 : PV) (h : PHeap) : CL g lf (n + 1) fn_spec_DrawTreePair [x0] h = main (env g lf n) x0 h := by
  rw [← main_eq]
  show call Tryd.prog g KL lf (n + 1) 20 [x0] h = _
  rw [call_succ, Tryd.func20]
  kernel_rfl
end spec_DrawTreePair
namespace impl_TreePair
noncomputable def main (E : Env) (x0 x1 : PV) (h : PHeap) : Res :=
    (E.C fn_impl_TreesOf [x0, x1] h).bind fun v1 =>
    (E.C fn_impl_pairAmong [v1.1] v1.2).bind fun v2 =>
    (E.p.extract v2.1 0).bind fun v3 =>
    (E.p.extract v2.1 1).bind fun v4 =>
    (E.p.extract v2.1 2).bind fun v5 =>
    (resV v3).bind fun v6 =>
    (resV v4).bind fun v7 =>
    (resV v5).bind fun v8 =>
    some (.tup [v6, v7, v8], v2.2)
theorem main_eq (E : Env) (x0 x1 : PV) (h : PHeap) : runBody (E.cx Tryd.prog kl) Tryd.f21 [x0, x1] h = main E x0 x1 h := by kernel_rfl
theorem call_eq (g : Nat → PV) (lf n : Nat) (x0 x1 : PV) (h : PHeap) : CL g lf (n + 1) fn_impl_TreePair [x0, x1] h = main (env g lf n) x0 x1 h := by
  rw [← main_eq]
  show call Tryd.prog g KL lf (n + 1) 21 [x0, x1] h = _
  rw [call_succ, Tryd.func21]
  kernel_rfl
end impl_TreePair
namespace spec_TreePair
noncomputable def main (E : Env) (x0 x1 : PV) (h : PHeap) : Res :=
    (E.C fn_spec_WiresOk [x0, x1] h).bind fun v1 =>
    (E.p.un .not v1.1).bind fun v2 =>
    condP v2
     (
      (resV (.int .i64 0)).bind fun v3 =>
      (resV (.int .i64 0)).bind fun v4 =>
      (resV (.bool false)).bind fun v5 =>
      some (.tup [v3, v4, v5], v1.2))
     (
      (E.p.bin .shl 3 (.int .i64 1) x0).bind fun v6 =>
      (E.p.bin .sub 3 v6 (.int .i64 1)).bind fun v7 =>
      (E.C fn_spec_l10Pair [x1, v7] v1.2).bind fun v8 =>
      (E.p.extract v8.1 0).bind fun v9 =>
      (E.p.extract v8.1 1).bind fun v10 =>
      (E.p.extract v8.1 2).bind fun v11 =>
      (resV v9).bind fun v12 =>
      (resV v10).bind fun v13 =>
      (resV v11).bind fun v14 =>
      some (.tup [v12, v13, v14], v8.2))
theorem main_eq (E : Env) (x0 x1 : PV) (h : PHeap) : runBody (E.cx Tryd.prog kl) Tryd.f22 [x0, x1] h = main E x0 x1 h := by kernel_rfl
theorem call_eq (g : Nat → PV) (lf n : Nat) (x0 x1 : PV) (h : PHeap) : CL g lf (n + 1) fn_spec_TreePair [x0, x1] h = main (env g lf n) x0 x1 h := by
  rw [← main_eq]
  show call Tryd.prog g KL lf (n + 1) 22 [x0, x1] h = _
  rw [call_succ, Tryd.func22]
  kernel_rfl
end spec_TreePair
namespace impl_WiresWinner
noncomputable def main (E : Env) (x0 x1 x2 x3 : PV) (h : PHeap) : Res :=
    (E.C fn_impl_OwnersOk [x0, x1, x2] h).bind fun v1 =>
    (E.p.un .not v1.1).bind fun v2 =>
    (wantV v2 false).bind fun v3 =>
    (bif v3 then some (x3, v1.2) else some (.tup [], v1.2)).bind fun v4 =>
    (wantV v2 false).bind fun v5 =>
    (bif v5 then E.C fn_impl_playerOk [v4.1] v4.2 else some (.tup [], v4.2)).bind fun v6 =>
    (wantV v2 false).bind fun v7 =>
    (bif v7 then pv v6.2 (E.p.un .not v6.1) else some (.tup [], v6.2)).bind fun v8 =>
    (E.p.pick v2 (.bool true) v8.1).bind fun v9 =>
    condP v9
     (
      (resV (.int .i64 0)).bind fun v10 =>
      some (v10, v8.2))
     (
      (E.C fn_impl_newNetGame [x1] v8.2).bind fun v11 =>
      (E.C fn_impl_standingOf [x2, x3] v11.2).bind fun v12 =>
      (E.C fn_impl_netGame_winner [v11.1, v12.1] v12.2).bind fun v13 =>
      (resV v13.1).bind fun v14 =>
      some (v14, v13.2))
theorem main_eq (E : Env) (x0 x1 x2 x3 : PV) (h : PHeap) : runBody (E.cx Tryd.prog kl) Tryd.f23 [x0, x1, x2, x3] h = main E x0 x1 x2 x3 h := by kernel_rfl
theorem call_eq (g : Nat → PV) (lf n : Nat) (x0 x1 x2 x3 : PV) (h : PHeap) : CL g lf (n + 1) fn_impl_WiresWinner [x0, x1, x2, x3] h = main (env g lf n) x0 x1 x2 x3 h := by
  rw [← main_eq]
  show call Tryd.prog g KL lf (n + 1) 23 [x0, x1, x2, x3] h = _
  rw [call_succ, Tryd.func23]
  kernel_rfl
end impl_WiresWinner
namespace spec_DrawPairOn
noncomputable def main (E : Env) (x0 : PV) (h : PHeap) : Res :=
    (E.C fn_spec_l20Open [x0] h).bind fun v1 =>
    (E.C fn_spec_l20Rich [v1.1] v1.2).bind fun v2 =>
    (E.p.extract v2.1 0).bind fun v3 =>
    (E.p.extract v2.1 1).bind fun v4 =>
    (E.p.bin .shl 3 (.int .i64 1) v3).bind fun v5 =>
    (E.C fn_spec_l20Rd_pick [v1.1, v5] v2.2).bind fun v6 =>
    (E.C fn_spec_l20Rd_pick [v1.1, (.int .i64 9)] v6.2).bind fun v7 =>
    (E.p.bin .quo 3 v7.1 (.int .i64 8)).bind fun v8 =>
    (E.p.bin .mul 3 v8 (.int .i64 4)).bind fun v9 =>
    (E.p.bin .sub 3 (.int .i64 4) v9).bind fun v10 =>
    (E.p.bin .sub 3 v10 (.int .i64 1)).bind fun v11 =>
    (E.p.bin .and 3 (.int .i64 3) v11).bind fun v12 =>
    (E.p.bin .or 3 v6.1 v12).bind fun v13 =>
    (E.C fn_spec_l20Rd_pick [v1.1, (.int .i64 40)] v7.2).bind fun v14 =>
    (E.p.bin .quo 3 v14.1 (.int .i64 39)).bind fun v15 =>
    (E.p.bin .mul 3 v15 (.int .i64 64)).bind fun v16 =>
    (E.p.bin .add 3 v13 v16).bind fun v17 =>
    (resV v3).bind fun v18 =>
    (resV v4).bind fun v19 =>
    (resV v17).bind fun v20 =>
    some (.tup [v18, v19, v20], v14.2)
theorem main_eq (E : Env) (x0 : PV) (h : PHeap) : runBody (E.cx Tryd.prog kl) Tryd.f24 [x0] h = main E x0 h := by kernel_rfl
theorem call_eq (g : Nat → PV) (lf n : Nat) (x0 : PV) (h : PHeap) : CL g lf (n + 1) fn_spec_DrawPairOn [x0] h = main (env g lf n) x0 h := by
  rw [← main_eq]
  show call Tryd.prog g KL lf (n + 1) 24 [x0] h = _
  rw [call_succ, Tryd.func24]
  kernel_rfl
end spec_DrawPairOn
namespace impl_PairOn
noncomputable def main (E : Env) (x0 x1 x2 : PV) (h : PHeap) : Res :=
    (E.C fn_impl_WiresOk [x0, x1] h).bind fun v1 =>
    (E.p.un .not v1.1).bind fun v2 =>
    (wantV v2 false).bind fun v3 =>
    (bif v3 then some (x2, v1.2) else some (.tup [], v1.2)).bind fun v4 =>
    (wantV v2 false).bind fun v5 =>
    (bif v5 then pv v4.2 (E.p.bin .lss 3 v4.1 (.int .i64 0)) else some (.tup [], v4.2)).bind fun v6 =>
    (E.p.pick v2 (.bool true) v6.1).bind fun v7 =>
    (wantV v7 false).bind fun v8 =>
    (bif v8 then some (x2, v6.2) else some (.tup [], v6.2)).bind fun v9 =>
    (wantV v7 false).bind fun v10 =>
    (bif v10 then some (x0, v9.2) else some (.tup [], v9.2)).bind fun v11 =>
    (wantV v7 false).bind fun v12 =>
    (bif v12 then E.C fn_impl_allNodes [v11.1] v11.2 else some (.tup [], v11.2)).bind fun v13 =>
    (wantV v7 false).bind fun v14 =>
    (bif v14 then pv v13.2 (E.p.bin .gtr 3 v9.1 v13.1) else some (.tup [], v13.2)).bind fun v15 =>
    (E.p.pick v7 (.bool true) v15.1).bind fun v16 =>
    (wantV v16 false).bind fun v17 =>
    (bif v17 then some (x2, v15.2) else some (.tup [], v15.2)).bind fun v18 =>
    (wantV v16 false).bind fun v19 =>
    (bif v19 then pv v18.2 (E.p.bin .and 3 v18.1 (.int .i64 3)) else some (.tup [], v18.2)).bind fun v20 =>
    (wantV v16 false).bind fun v21 =>
    (bif v21 then pv v20.2 (E.p.bin .neq 3 v20.1 (.int .i64 3)) else some (.tup [], v20.2)).bind fun v22 =>
    (E.p.pick v16 (.bool true) v22.1).bind fun v23 =>
    condP v23
     (
      (resV (.bool false)).bind fun v24 =>
      some (v24, v22.2))
     (
      (E.C fn_impl_treesOn [x1, x2] v22.2).bind fun v25 =>
      (E.C fn_impl_pairAmong [v25.1] v25.2).bind fun v26 =>
      (E.p.extract v26.1 0).bind fun v27 =>
      (E.p.extract v26.1 1).bind fun v28 =>
      (E.p.extract v26.1 2).bind fun v29 =>
      (resV v29).bind fun v30 =>
      some (v30, v26.2))
theorem main_eq (E : Env) (x0 x1 x2 : PV) (h : PHeap) : runBody (E.cx Tryd.prog kl) Tryd.f25 [x0, x1, x2] h = main E x0 x1 x2 h := by kernel_rfl
theorem call_eq (g : Nat → PV) (lf n : Nat) (x0 x1 x2 : PV) (h : PHeap) : CL g lf (n + 1) fn_impl_PairOn [x0, x1, x2] h = main (env g lf n) x0 x1 x2 h := by
  rw [← main_eq]
  show call Tryd.prog g KL lf (n + 1) 25 [x0, x1, x2] h = _
  rw [call_succ, Tryd.func25]
  kernel_rfl
end impl_PairOn
namespace spec_PairOn
noncomputable def main (E : Env) (x0 x1 x2 : PV) (h : PHeap) : Res :=
    (E.C fn_spec_WiresOk [x0, x1] h).bind fun v1 =>
    (E.p.un .not v1.1).bind fun v2 =>
    (wantV v2 false).bind fun v3 =>
    (bif v3 then some (x2, v1.2) else some (.tup [], v1.2)).bind fun v4 =>
    (wantV v2 false).bind fun v5 =>
    (bif v5 then some (x0, v4.2) else some (.tup [], v4.2)).bind fun v6 =>
    (wantV v2 false).bind fun v7 =>
    (bif v7 then pv v6.2 (E.p.bin .shl 3 (.int .i64 1) v6.1) else some (.tup [], v6.2)).bind fun v8 =>
    (wantV v2 false).bind fun v9 =>
    (bif v9 then pv v8.2 (E.p.bin .sub 3 v8.1 (.int .i64 1)) else some (.tup [], v8.2)).bind fun v10 =>
    (wantV v2 false).bind fun v11 =>
    (bif v11 then E.C fn_spec_l1In [v4.1, (.int .i64 0), v10.1] v10.2 else some (.tup [], v10.2)).bind fun v12 =>
    (wantV v2 false).bind fun v13 =>
    (bif v13 then pv v12.2 (E.p.un .not v12.1) else some (.tup [], v12.2)).bind fun v14 =>
    (E.p.pick v2 (.bool true) v14.1).bind fun v15 =>
    (wantV v15 false).bind fun v16 =>
    (bif v16 then some (x2, v14.2) else some (.tup [], v14.2)).bind fun v17 =>
    (wantV v15 false).bind fun v18 =>
    (bif v18 then pv v17.2 (E.p.bin .rem 3 v17.1 (.int .i64 4)) else some (.tup [], v17.2)).bind fun v19 =>
    (wantV v15 false).bind fun v20 =>
    (bif v20 then pv v19.2 (E.p.bin .neq 3 v19.1 (.int .i64 3)) else some (.tup [], v19.2)).bind fun v21 =>
    (E.p.pick v15 (.bool true) v21.1).bind fun v22 =>
    condP v22
     (
      (resV (.bool false)).bind fun v23 =>
      some (v23, v21.2))
     (
      (E.C fn_spec_l10Pair [x1, x2] v21.2).bind fun v24 =>
      (E.p.extract v24.1 0).bind fun v25 =>
      (E.p.extract v24.1 1).bind fun v26 =>
      (E.p.extract v24.1 2).bind fun v27 =>
      (resV v27).bind fun v28 =>
      some (v28, v24.2))
theorem main_eq (E : Env) (x0 x1 x2 : PV) (h : PHeap) : runBody (E.cx Tryd.prog kl) Tryd.f26 [x0, x1, x2] h = main E x0 x1 x2 h := by kernel_rfl
theorem call_eq (g : Nat → PV) (lf n : Nat) (x0 x1 x2 : PV) (h : PHeap) : CL g lf (n + 1) fn_spec_PairOn [x0, x1, x2] h = main (env g lf n) x0 x1 x2 h := by
  rw [← main_eq]
  show call Tryd.prog g KL lf (n + 1) 26 [x0, x1, x2] h = _
  rw [call_succ, Tryd.func26]
  kernel_rfl
end spec_PairOn
namespace spec_DrawPairSomewhere
noncomputable def main (E : Env) (x0 : PV) (h : PHeap) : Res :=
    (E.C fn_spec_l20Open [x0] h).bind fun v1 =>
    (E.C fn_spec_l20Rich [v1.1] v1.2).bind fun v2 =>
    (E.p.extract v2.1 0).bind fun v3 =>
    (E.p.extract v2.1 1).bind fun v4 =>
    (resV v3).bind fun v5 =>
    (resV v4).bind fun v6 =>
    some (.tup [v5, v6], v2.2)
theorem main_eq (E : Env) (x0 : PV) (h : PHeap) : runBody (E.cx Tryd.prog kl) Tryd.f27 [x0] h = main E x0 h := by kernel_rfl
theorem call_eq (g : Nat → PV) (lf n : Nat) (x0 : PV) (h : PHeap) : CL g lf (n + 1) fn_spec_DrawPairSomewhere [x0] h = main (env g lf n) x0 h := by
  rw [← main_eq]
  show call Tryd.prog g KL lf (n + 1) 27 [x0] h = _
  rw [call_succ, Tryd.func27]
  kernel_rfl
end spec_DrawPairSomewhere
namespace impl_PairSomewhere
noncomputable def lp0 : Code := (codeAt (bodyOf Tryd.f28) [1, 1, 0, 1, 0, 0])
def st0 (x0 x1 x13 x14 x15 : PV) (h : PHeap) : St := ⟨[x0, x1, .junk, .junk, .junk, .junk, .junk, .junk, .junk, .junk, .junk, .junk, .junk, x13, x14, x15, .junk, .junk, .junk, .junk, .junk, .junk, .junk, .junk, .junk], h⟩
def sr_4 (x4 : PV) (h : PHeap) : St := ⟨[.junk, .junk, .junk, .junk, x4, .junk, .junk, .junk, .junk, .junk, .junk, .junk, .junk, .junk, .junk, .junk, .junk, .junk, .junk, .junk, .junk, .junk, .junk, .junk, .junk], h⟩
def se0_0_1_13_14_15_16 (x0 x1 x13 x14 x15 x16 : PV) (h : PHeap) : St := ⟨[x0, x1, .junk, .junk, .junk, .junk, .junk, .junk, .junk, .junk, .junk, .junk, .junk, x13, x14, x15, x16, .junk, .junk, .junk, .junk, .junk, .junk, .junk, .junk], h⟩
noncomputable def K0 (E : Env) (K : PX → St → Res) : PX → St → Res := (kBlock 0 (kSeq (ev (E.cx Tryd.prog kl) (codeAt (bodyOf Tryd.f28) [1, 1, 1])) K))
@[simp] theorem K0_ret (E : Env) (K : PX → St → Res) (s : St) : K0 E K .ret s = K .ret s := by kernel_rfl
noncomputable def body0 (E : Env) (K : PX → St → Res) (x0 x1 x13 x14 x15 : PV) (h : PHeap) : Res :=
    (E.p.bin .lss 3 x15 x14).bind fun v13 =>
    condP v13
     (
      (E.p.indexAddr 31 x13 x15).bind fun v14 =>
      (E.p.load 3 v14 h).bind fun v15 =>
      (E.C fn_impl_PairOn [x0, x1, v15] h).bind fun v16 =>
      condP v16.1
       (
        K .ret (sr_4 v15 v16.2))
       (
        (E.p.bin .add 3 x15 (.int .i64 1)).bind fun v17 =>
        K .normal (st0 x0 x1 x13 x14 v17 v16.2)))
     (
      K (.exit 0) (se0_0_1_13_14_15_16 x0 x1 x13 x14 x15 v13 h))
theorem body0_eq (E : Env) (K : PX → St → Res) (x0 x1 x13 x14 x15 : PV) (h : PHeap) : ev (E.cx Tryd.prog kl) lp0 (st0 x0 x1 x13 x14 x15 h) K = body0 E K x0 x1 x13 x14 x15 h := by kernel_rfl
theorem after0_se0_0_1_13_14_15_16 (E : Env) (x0 x1 x13 x14 x15 x16 : PV) (h : PHeap) : K0 E (kTop Tryd.prog Tryd.f28) (.exit 0) (se0_0_1_13_14_15_16 x0 x1 x13 x14 x15 x16 h) =
    (resV (.int .i64 (-1))).bind fun v12 =>
    some (v12, h) := by kernel_rfl
theorem top_sr_4 (x4 : PV) (h : PHeap) : kTop Tryd.prog Tryd.f28 .ret (sr_4 x4 h) =
    (resV x4).bind fun v18 =>
    some (v18, h) := by kernel_rfl
noncomputable def main (E : Env) (x0 x1 : PV) (h : PHeap) : Res :=
    (E.C fn_impl_WiresOk [x0, x1] h).bind fun v1 =>
    (E.p.un .not v1.1).bind fun v2 =>
    condP v2
     (
      (resV (.int .i64 (-1))).bind fun v3 =>
      some (v3, v1.2))
     (
      (E.C fn_impl_allNodes [x0] v1.2).bind fun v4 =>
      (E.C fn_impl_partsOf [v4.1] v4.2).bind fun v5 =>
      (E.p.len 31 v5.1).bind fun v6 =>
      loopK (ev (E.cx Tryd.prog impl_PairSomewhere.kl) impl_PairSomewhere.lp0) E.lf (impl_PairSomewhere.st0 x0 x1 v5.1 v6 (.int .i64 0) v5.2) (impl_PairSomewhere.K0 E (kTop Tryd.prog Tryd.f28)))
theorem main_eq (E : Env) (x0 x1 : PV) (h : PHeap) : runBody (E.cx Tryd.prog kl) Tryd.f28 [x0, x1] h = main E x0 x1 h := by kernel_rfl
theorem call_eq (g : Nat → PV) (lf n : Nat) (x0 x1 : PV) (h : PHeap) : CL g lf (n + 1) fn_impl_PairSomewhere [x0, x1] h = main (env g lf n) x0 x1 h := by
  rw [← main_eq]
  show call Tryd.prog g KL lf (n + 1) 28 [x0, x1] h = _
  rw [call_succ, Tryd.func28]
  kernel_rfl
end impl_PairSomewhere
namespace spec_PairSomewhere
noncomputable def lp0 : Code := (codeAt (bodyOf Tryd.f29) [1, 0, 1, 0, 0])
def st0 (x0 x1 x5 : PV) (h : PHeap) : St := ⟨[x0, x1, .junk, .junk, .junk, x5, .junk, .junk, .junk, .junk, .junk, .junk, .junk, .junk, .junk, .junk, .junk, .junk, .junk, .junk, .junk, .junk], h⟩
def sr_4 (x4 : PV) (h : PHeap) : St := ⟨[.junk, .junk, .junk, .junk, x4, .junk, .junk, .junk, .junk, .junk, .junk, .junk, .junk, .junk, .junk, .junk, .junk, .junk, .junk, .junk, .junk, .junk], h⟩
def se0_0_1_5_14 (x0 x1 x5 x14 : PV) (h : PHeap) : St := ⟨[x0, x1, .junk, .junk, .junk, x5, .junk, .junk, .junk, .junk, .junk, .junk, .junk, .junk, x14, .junk, .junk, .junk, .junk, .junk, .junk, .junk], h⟩
noncomputable def K0 (E : Env) (K : PX → St → Res) : PX → St → Res := (kBlock 0 (kSeq (ev (E.cx Tryd.prog kl) (codeAt (bodyOf Tryd.f29) [1, 1])) K))
@[simp] theorem K0_ret (E : Env) (K : PX → St → Res) (s : St) : K0 E K .ret s = K .ret s := by kernel_rfl
noncomputable def body0 (E : Env) (K : PX → St → Res) (x0 x1 x5 : PV) (h : PHeap) : Res :=
    (E.C fn_spec_WiresOk [x0, x1] h).bind fun v14 =>
    (wantV v14.1 true).bind fun v15 =>
    (bif v15 then some (x5, v14.2) else some (.tup [], v14.2)).bind fun v16 =>
    (wantV v14.1 true).bind fun v17 =>
    (bif v17 then some (x0, v16.2) else some (.tup [], v16.2)).bind fun v18 =>
    (wantV v14.1 true).bind fun v19 =>
    (bif v19 then pv v18.2 (E.p.bin .shl 3 (.int .i64 1) v18.1) else some (.tup [], v18.2)).bind fun v20 =>
    (wantV v14.1 true).bind fun v21 =>
    (bif v21 then pv v20.2 (E.p.bin .lss 3 v16.1 v20.1) else some (.tup [], v20.2)).bind fun v22 =>
    (E.p.pick v14.1 v22.1 (.bool false)).bind fun v23 =>
    condP v23
     (
      (E.C fn_spec_PairOn [x0, x1, x5] v22.2).bind fun v24 =>
      condP v24.1
       (
        K .ret (sr_4 x5 v24.2))
       (
        (E.p.bin .add 3 x5 (.int .i64 4)).bind fun v25 =>
        K .normal (st0 x0 x1 v25 v24.2)))
     (
      K (.exit 0) (se0_0_1_5_14 x0 x1 x5 v23 v22.2))
theorem body0_eq (E : Env) (K : PX → St → Res) (x0 x1 x5 : PV) (h : PHeap) : ev (E.cx Tryd.prog kl) lp0 (st0 x0 x1 x5 h) K = body0 E K x0 x1 x5 h := by kernel_rfl
theorem after0_se0_0_1_5_14 (E : Env) (x0 x1 x5 x14 : PV) (h : PHeap) : K0 E (kTop Tryd.prog Tryd.f29) (.exit 0) (se0_0_1_5_14 x0 x1 x5 x14 h) =
    (resV (.int .i64 (-1))).bind fun v13 =>
    some (v13, h) := by kernel_rfl
theorem top_sr_4 (x4 : PV) (h : PHeap) : kTop Tryd.prog Tryd.f29 .ret (sr_4 x4 h) =
    (resV x4).bind fun v26 =>
    some (v26, h) := by kernel_rfl
noncomputable def main (E : Env) (x0 x1 : PV) (h : PHeap) : Res :=
    loopK (ev (E.cx Tryd.prog spec_PairSomewhere.kl) spec_PairSomewhere.lp0) E.lf (spec_PairSomewhere.st0 x0 x1 (.int .i64 3) h) (spec_PairSomewhere.K0 E (kTop Tryd.prog Tryd.f29))
theorem main_eq (E : Env) (x0 x1 : PV) (h : PHeap) : runBody (E.cx Tryd.prog kl) Tryd.f29 [x0, x1] h = main E x0 x1 h := by kernel_rfl
theorem call_eq (g : Nat → PV) (lf n : Nat) (x0 x1 : PV) (h : PHeap) : CL g lf (n + 1) fn_spec_PairSomewhere [x0, x1] h = main (env g lf n) x0 x1 h := by
  rw [← main_eq]
  show call Tryd.prog g KL lf (n + 1) 29 [x0, x1] h = _
  rw [call_succ, Tryd.func29]
  kernel_rfl
end spec_PairSomewhere
namespace spec_l20Open
noncomputable def main (E : Env) (x0 : PV) (h : PHeap) : Res :=
    (E.p.len 22 x0).bind fun v1 =>
    (E.p.bin .gtr 3 v1 (.int .i64 2000)).bind fun v2 =>
    condP v2
     (
      (E.p.slice 22 x0 none (some (.int .i64 2000)) h).bind fun v3 =>
      (E.p.build 67 [(0, v3)]).bind fun v4 =>
      (E.p.box v4 h).bind fun v5 =>
      (resV v5.1).bind fun v6 =>
      some (v6, v5.2))
     (
      (E.p.build 67 [(0, x0)]).bind fun v7 =>
      (E.p.box v7 h).bind fun v8 =>
      (resV v8.1).bind fun v9 =>
      some (v9, v8.2))
theorem main_eq (E : Env) (x0 : PV) (h : PHeap) : runBody (E.cx Tryd.prog kl) Tryd.f30 [x0] h = main E x0 h := by kernel_rfl
theorem call_eq (g : Nat → PV) (lf n : Nat) (x0 : PV) (h : PHeap) : CL g lf (n + 1) fn_spec_l20Open [x0] h = main (env g lf n) x0 h := by
  rw [← main_eq]
  show call Tryd.prog g KL lf (n + 1) 30 [x0] h = _
  rw [call_succ, Tryd.func30]
  kernel_rfl
end spec_l20Open
namespace spec_l20Rich
noncomputable def lp0 : Code := (codeAt (bodyOf Tryd.f31) [1, 1, 0, 1, 0, 1, 1, 0, 1, 0, 0])
def st0 (x0 x4 x5 x6 : PV) (h : PHeap) : St := ⟨[x0, .junk, .junk, .junk, x4, x5, x6, .junk, .junk, .junk, .junk, .junk, .junk, .junk, .junk, .junk, .junk, .junk, .junk, .junk, .junk, .junk, .junk, .junk, .junk, .junk, .junk, .junk, .junk, .junk, .junk, .junk, .junk, .junk, .junk, .junk, .junk, .junk, .junk, .junk, .junk, .junk, .junk, .junk], h⟩
noncomputable def lp1 : Code := (codeAt (bodyOf Tryd.f31) [1, 1, 0, 1, 0, 1, 1, 0, 1, 0, 0, 1, 0, 0, 1, 0, 0])
def st1 (x0 x4 x5 x6 x7 : PV) (h : PHeap) : St := ⟨[x0, .junk, .junk, .junk, x4, x5, x6, x7, .junk, .junk, .junk, .junk, .junk, .junk, .junk, .junk, .junk, .junk, .junk, .junk, .junk, .junk, .junk, .junk, .junk, .junk, .junk, .junk, .junk, .junk, .junk, .junk, .junk, .junk, .junk, .junk, .junk, .junk, .junk, .junk, .junk, .junk, .junk, .junk], h⟩
def se0_0_4_5_6_21 (x0 x4 x5 x6 x21 : PV) (h : PHeap) : St := ⟨[x0, .junk, .junk, .junk, x4, x5, x6, .junk, .junk, .junk, .junk, .junk, .junk, .junk, .junk, .junk, .junk, .junk, .junk, .junk, .junk, x21, .junk, .junk, .junk, .junk, .junk, .junk, .junk, .junk, .junk, .junk, .junk, .junk, .junk, .junk, .junk, .junk, .junk, .junk, .junk, .junk, .junk, .junk], h⟩
def se2_0_4_5_6_7_26 (x0 x4 x5 x6 x7 x26 : PV) (h : PHeap) : St := ⟨[x0, .junk, .junk, .junk, x4, x5, x6, x7, .junk, .junk, .junk, .junk, .junk, .junk, .junk, .junk, .junk, .junk, .junk, .junk, .junk, .junk, .junk, .junk, .junk, .junk, x26, .junk, .junk, .junk, .junk, .junk, .junk, .junk, .junk, .junk, .junk, .junk, .junk, .junk, .junk, .junk, .junk, .junk], h⟩
noncomputable def K0 (E : Env) (K : PX → St → Res) : PX → St → Res := (kBlock 0 (kSeq (ev (E.cx Tryd.prog kl) (codeAt (bodyOf Tryd.f31) [1, 1, 0, 1, 0, 1, 1, 1])) (kSeq (ev (E.cx Tryd.prog kl) (codeAt (bodyOf Tryd.f31) [1, 1, 1])) K)))
@[simp] theorem K0_ret (E : Env) (K : PX → St → Res) (s : St) : K0 E K .ret s = K .ret s := by kernel_rfl
noncomputable def K1 (E : Env) (K : PX → St → Res) : PX → St → Res := (kBlock 2 (kBlock 1 (kSeq (ev (E.cx Tryd.prog kl) (codeAt (bodyOf Tryd.f31) [1, 1, 0, 1, 0, 1, 1, 0, 1, 0, 0, 1, 1])) K)))
@[simp] theorem K1_ret (E : Env) (K : PX → St → Res) (s : St) : K1 E K .ret s = K .ret s := by kernel_rfl
noncomputable def body0 (E : Env) (K : PX → St → Res) (x0 x4 x5 x6 : PV) (h : PHeap) : Res :=
    (E.p.bin .lss 3 x6 (.int .i64 2)).bind fun v26 =>
    condP v26
     (
      loopK (ev (E.cx Tryd.prog spec_l20Rich.kl) spec_l20Rich.lp1) E.lf (spec_l20Rich.st1 x0 x4 x5 x6 (.int .i64 1) h) (spec_l20Rich.K1 E K))
     (
      K (.exit 0) (se0_0_4_5_6_21 x0 x4 x5 x6 v26 h))
theorem body0_eq (E : Env) (K : PX → St → Res) (x0 x4 x5 x6 : PV) (h : PHeap) : ev (E.cx Tryd.prog kl) lp0 (st0 x0 x4 x5 x6 h) K = body0 E K x0 x4 x5 x6 h := by kernel_rfl
noncomputable def body1 (E : Env) (K : PX → St → Res) (x0 x4 x5 x6 x7 : PV) (h : PHeap) : Res :=
    (E.p.bin .lss 3 x7 x4).bind fun v27 =>
    condP v27
     (
      (E.C fn_spec_l20Rd_pick [x0, x7] h).bind fun v28 =>
      (E.p.build 41 [(0, v28.1), (1, x7)]).bind fun v29 =>
      (E.p.buildSlice 23 1 [(0, v29)] v28.2).bind fun v30 =>
      (E.p.append 23 23 x5 v30.1 v30.2).bind fun v31 =>
      (E.p.bin .add 3 x7 (.int .i64 1)).bind fun v32 =>
      K .normal (st1 x0 x4 v31.1 x6 v32 v31.2))
     (
      K (.exit 2) (se2_0_4_5_6_7_26 x0 x4 x5 x6 x7 v27 h))
theorem body1_eq (E : Env) (K : PX → St → Res) (x0 x4 x5 x6 x7 : PV) (h : PHeap) : ev (E.cx Tryd.prog kl) lp1 (st1 x0 x4 x5 x6 x7 h) K = body1 E K x0 x4 x5 x6 x7 h := by kernel_rfl
theorem after0_se0_0_4_5_6_21 (E : Env) (x0 x4 x5 x6 x21 : PV) (h : PHeap) : K0 E (kTop Tryd.prog Tryd.f31) (.exit 0) (se0_0_4_5_6_21 x0 x4 x5 x6 x21 h) =
    (E.C fn_spec_l20Rd_pick [x0, (.int .i64 3)] h).bind fun v18 =>
    (E.p.bin .eql 3 v18.1 (.int .i64 0)).bind fun v19 =>
    condP v19
     (
      (E.p.slice 23 x5 (some (.int .i64 1)) none v18.2).bind fun v20 =>
      (resV x4).bind fun v21 =>
      (resV v20).bind fun v22 =>
      some (.tup [v21, v22], v18.2))
     (
      (resV x4).bind fun v23 =>
      (resV x5).bind fun v24 =>
      some (.tup [v23, v24], v18.2)) := by kernel_rfl
theorem after1_se2_0_4_5_6_7_26 (E : Env) (K : PX → St → Res) (x0 x4 x5 x6 x7 x26 : PV) (h : PHeap) : K1 E K (.exit 2) (se2_0_4_5_6_7_26 x0 x4 x5 x6 x7 x26 h) =
    (E.p.bin .add 3 x6 (.int .i64 1)).bind fun v25 =>
    K .normal (st0 x0 x4 x5 v25 h) := by kernel_rfl
noncomputable def main (E : Env) (x0 : PV) (h : PHeap) : Res :=
    (E.C fn_spec_l20Wires [x0, (.int .i64 20)] h).bind fun v1 =>
    (E.p.extract v1.1 0).bind fun v2 =>
    (E.p.extract v1.1 1).bind fun v3 =>
    (E.C fn_spec_l20Rd_pick [x0, (.int .i64 2)] v1.2).bind fun v4 =>
    (E.p.bin .eql 3 v4.1 (.int .i64 0)).bind fun v5 =>
    condP v5
     (
      (E.C fn_spec_l20Rd_pick [x0, (.int .i64 3)] v4.2).bind fun v6 =>
      (E.p.bin .add 3 (.int .i64 2) v6.1).bind fun v7 =>
      (E.p.buildSlice 23 0 [] v6.2).bind fun v8 =>
      loopK (ev (E.cx Tryd.prog spec_l20Rich.kl) spec_l20Rich.lp0) E.lf (spec_l20Rich.st0 x0 v7 v8.1 (.int .i64 0) v8.2) (spec_l20Rich.K0 E (kTop Tryd.prog Tryd.f31)))
     (
      (resV v2).bind fun v9 =>
      (resV v3).bind fun v10 =>
      some (.tup [v9, v10], v4.2))
theorem main_eq (E : Env) (x0 : PV) (h : PHeap) : runBody (E.cx Tryd.prog kl) Tryd.f31 [x0] h = main E x0 h := by kernel_rfl
theorem call_eq (g : Nat → PV) (lf n : Nat) (x0 : PV) (h : PHeap) : CL g lf (n + 1) fn_spec_l20Rich [x0] h = main (env g lf n) x0 h := by
  rw [← main_eq]
  show call Tryd.prog g KL lf (n + 1) 31 [x0] h = _
  rw [call_succ, Tryd.func31]
  kernel_rfl
end spec_l20Rich
namespace spec_l20Rd_pick
noncomputable def main (E : Env) (x0 x1 : PV) (h : PHeap) : Res :=
    (E.p.ptr x0).bind fun v1 =>
    (E.p.fieldAddr 67 v1 1).bind fun v2 =>
    (E.p.load 3 v2 h).bind fun v3 =>
    (E.p.bin .add 3 v3 (.int .i64 1)).bind fun v4 =>
    (E.p.ptr x0).bind fun v5 =>
    (E.p.fieldAddr 67 v5 1).bind fun v6 =>
    (E.p.store 3 v6 v4 h).bind fun v7 =>
    (E.p.bin .lss 3 x1 (.int .i64 1)).bind fun v8 =>
    (wantV v8 false).bind fun v9 =>
    (bif v9 then some (x0, v7) else some (.tup [], v7)).bind fun v10 =>
    (wantV v8 false).bind fun v11 =>
    (bif v11 then pv v10.2 (E.p.ptr v10.1) else some (.tup [], v10.2)).bind fun v12 =>
    (wantV v8 false).bind fun v13 =>
    (bif v13 then pv v12.2 (E.p.fieldAddr 67 v12.1 0) else some (.tup [], v12.2)).bind fun v14 =>
    (wantV v8 false).bind fun v15 =>
    (bif v15 then pv v14.2 (E.p.load 22 v14.1 v14.2) else some (.tup [], v14.2)).bind fun v16 =>
    (wantV v8 false).bind fun v17 =>
    (bif v17 then pv v16.2 (E.p.len 22 v16.1) else some (.tup [], v16.2)).bind fun v18 =>
    (wantV v8 false).bind fun v19 =>
    (bif v19 then pv v18.2 (E.p.bin .eql 3 v18.1 (.int .i64 0)) else some (.tup [], v18.2)).bind fun v20 =>
    (E.p.pick v8 (.bool true) v20.1).bind fun v21 =>
    condP v21
     (
      (resV (.int .i64 0)).bind fun v22 =>
      some (v22, v20.2))
     (
      (E.p.ptr x0).bind fun v23 =>
      (E.p.fieldAddr 67 v23 1).bind fun v24 =>
      (E.p.load 3 v24 v20.2).bind fun v25 =>
      (E.p.bin .sub 3 v25 (.int .i64 1)).bind fun v26 =>
      (E.p.ptr x0).bind fun v27 =>
      (E.p.fieldAddr 67 v27 0).bind fun v28 =>
      (E.p.load 22 v28 v20.2).bind fun v29 =>
      (E.p.len 22 v29).bind fun v30 =>
      (E.p.bin .lss 3 v26 v30).bind fun v31 =>
      condP v31
       (
        (E.p.ptr x0).bind fun v32 =>
        (E.p.fieldAddr 67 v32 0).bind fun v33 =>
        (E.p.load 22 v33 v20.2).bind fun v34 =>
        (E.p.indexAddr 22 v34 v26).bind fun v35 =>
        (E.p.load 5 v35 v20.2).bind fun v36 =>
        (E.p.conv 5 3 v36).bind fun v37 =>
        (E.p.bin .rem 3 v37 x1).bind fun v38 =>
        (resV v38).bind fun v39 =>
        some (v39, v20.2))
       (
        (E.p.ptr x0).bind fun v40 =>
        (E.p.fieldAddr 67 v40 0).bind fun v41 =>
        (E.p.load 22 v41 v20.2).bind fun v42 =>
        (E.p.ptr x0).bind fun v43 =>
        (E.p.fieldAddr 67 v43 0).bind fun v44 =>
        (E.p.load 22 v44 v20.2).bind fun v45 =>
        (E.p.len 22 v45).bind fun v46 =>
        (E.p.bin .rem 3 v26 v46).bind fun v47 =>
        (E.p.indexAddr 22 v42 v47).bind fun v48 =>
        (E.p.load 5 v48 v20.2).bind fun v49 =>
        (E.p.conv 5 3 v49).bind fun v50 =>
        (E.p.bin .mul 3 v50 (.int .i64 131)).bind fun v51 =>
        (E.p.ptr x0).bind fun v52 =>
        (E.p.fieldAddr 67 v52 0).bind fun v53 =>
        (E.p.load 22 v53 v20.2).bind fun v54 =>
        (E.p.bin .mul 3 v26 (.int .i64 7)).bind fun v55 =>
        (E.p.bin .add 3 v55 (.int .i64 3)).bind fun v56 =>
        (E.p.ptr x0).bind fun v57 =>
        (E.p.fieldAddr 67 v57 0).bind fun v58 =>
        (E.p.load 22 v58 v20.2).bind fun v59 =>
        (E.p.len 22 v59).bind fun v60 =>
        (E.p.bin .rem 3 v56 v60).bind fun v61 =>
        (E.p.indexAddr 22 v54 v61).bind fun v62 =>
        (E.p.load 5 v62 v20.2).bind fun v63 =>
        (E.p.conv 5 3 v63).bind fun v64 =>
        (E.p.bin .mul 3 v64 (.int .i64 1117)).bind fun v65 =>
        (E.p.bin .add 3 v51 v65).bind fun v66 =>
        (E.p.bin .mul 3 v26 (.int .i64 29)).bind fun v67 =>
        (E.p.bin .add 3 v66 v67).bind fun v68 =>
        (E.p.ptr x0).bind fun v69 =>
        (E.p.fieldAddr 67 v69 0).bind fun v70 =>
        (E.p.load 22 v70 v20.2).bind fun v71 =>
        (E.p.len 22 v71).bind fun v72 =>
        (E.p.bin .quo 3 v26 v72).bind fun v73 =>
        (E.p.bin .mul 3 v73 (.int .i64 53)).bind fun v74 =>
        (E.p.bin .add 3 v68 v74).bind fun v75 =>
        (E.p.bin .quo 3 v75 (.int .i64 64)).bind fun v76 =>
        (E.p.bin .xor 3 v75 v76).bind fun v77 =>
        (E.p.bin .rem 3 v77 x1).bind fun v78 =>
        (resV v78).bind fun v79 =>
        some (v79, v20.2)))
theorem main_eq (E : Env) (x0 x1 : PV) (h : PHeap) : runBody (E.cx Tryd.prog kl) Tryd.f32 [x0, x1] h = main E x0 x1 h := by kernel_rfl
theorem call_eq (g : Nat → PV) (lf n : Nat) (x0 x1 : PV) (h : PHeap) : CL g lf (n + 1) fn_spec_l20Rd_pick [x0, x1] h = main (env g lf n) x0 x1 h := by
  rw [← main_eq]
  show call Tryd.prog g KL lf (n + 1) 32 [x0, x1] h = _
  rw [call_succ, Tryd.func32]
  kernel_rfl
end spec_l20Rd_pick
namespace impl_WiresOk
noncomputable def lp0 : Code := (codeAt (bodyOf Tryd.f33) [1, 1, 0, 1, 0, 0])
def st0 (x0 x18 x19 x20 : PV) (h : PHeap) : St := ⟨[x0, .junk, .junk, .junk, .junk, .junk, .junk, .junk, .junk, .junk, .junk, .junk, .junk, .junk, .junk, .junk, .junk, .junk, x18, x19, x20, .junk, .junk, .junk, .junk, .junk, .junk, .junk, .junk, .junk, .junk, .junk, .junk, .junk, .junk, .junk, .junk, .junk, .junk, .junk, .junk, .junk, .junk, .junk], h⟩
def sr_4 (x4 : PV) (h : PHeap) : St := ⟨[.junk, .junk, .junk, .junk, x4, .junk, .junk, .junk, .junk, .junk, .junk, .junk, .junk, .junk, .junk, .junk, .junk, .junk, .junk, .junk, .junk, .junk, .junk, .junk, .junk, .junk, .junk, .junk, .junk, .junk, .junk, .junk, .junk, .junk, .junk, .junk, .junk, .junk, .junk, .junk, .junk, .junk, .junk, .junk], h⟩
def se0_0_18_19_20_21 (x0 x18 x19 x20 x21 : PV) (h : PHeap) : St := ⟨[x0, .junk, .junk, .junk, .junk, .junk, .junk, .junk, .junk, .junk, .junk, .junk, .junk, .junk, .junk, .junk, .junk, .junk, x18, x19, x20, x21, .junk, .junk, .junk, .junk, .junk, .junk, .junk, .junk, .junk, .junk, .junk, .junk, .junk, .junk, .junk, .junk, .junk, .junk, .junk, .junk, .junk, .junk], h⟩
noncomputable def K0 (E : Env) (K : PX → St → Res) : PX → St → Res := (kBlock 0 (kSeq (ev (E.cx Tryd.prog kl) (codeAt (bodyOf Tryd.f33) [1, 1, 1])) K))
@[simp] theorem K0_ret (E : Env) (K : PX → St → Res) (s : St) : K0 E K .ret s = K .ret s := by kernel_rfl
noncomputable def body0 (E : Env) (K : PX → St → Res) (x0 x18 x19 x20 : PV) (h : PHeap) : Res :=
    (E.p.bin .lss 3 x20 x19).bind fun v50 =>
    condP v50
     (
      (E.p.indexAddr 23 x18 x20).bind fun v51 =>
      (E.p.load 41 v51 h).bind fun v52 =>
      (E.p.alloc 41 h).bind fun v53 =>
      (E.p.store 41 v53.1 v52 v53.2).bind fun v54 =>
      (E.p.fieldAddr 41 v53.1 0).bind fun v55 =>
      (E.p.load 3 v55 v54).bind fun v56 =>
      (E.p.fieldAddr 41 v53.1 1).bind fun v57 =>
      (E.p.load 3 v57 v54).bind fun v58 =>
      (E.p.bin .eql 3 v56 v58).bind fun v59 =>
      (wantV v59 false).bind fun v60 =>
      (bif v60 then some (x0, v54) else some (.tup [], v54)).bind fun v61 =>
      (wantV v59 false).bind fun v62 =>
      (bif v62 then pv v61.2 (E.p.fieldAddr 41 v53.1 0) else some (.tup [], v61.2)).bind fun v63 =>
      (wantV v59 false).bind fun v64 =>
      (bif v64 then pv v63.2 (E.p.load 3 v63.1 v63.2) else some (.tup [], v63.2)).bind fun v65 =>
      (wantV v59 false).bind fun v66 =>
      (bif v66 then E.C fn_impl_nodeOk [v61.1, v65.1] v65.2 else some (.tup [], v65.2)).bind fun v67 =>
      (wantV v59 false).bind fun v68 =>
      (bif v68 then pv v67.2 (E.p.un .not v67.1) else some (.tup [], v67.2)).bind fun v69 =>
      (E.p.pick v59 (.bool true) v69.1).bind fun v70 =>
      (wantV v70 false).bind fun v71 =>
      (bif v71 then some (x0, v69.2) else some (.tup [], v69.2)).bind fun v72 =>
      (wantV v70 false).bind fun v73 =>
      (bif v73 then pv v72.2 (E.p.fieldAddr 41 v53.1 1) else some (.tup [], v72.2)).bind fun v74 =>
      (wantV v70 false).bind fun v75 =>
      (bif v75 then pv v74.2 (E.p.load 3 v74.1 v74.2) else some (.tup [], v74.2)).bind fun v76 =>
      (wantV v70 false).bind fun v77 =>
      (bif v77 then E.C fn_impl_nodeOk [v72.1, v76.1] v76.2 else some (.tup [], v76.2)).bind fun v78 =>
      (wantV v70 false).bind fun v79 =>
      (bif v79 then pv v78.2 (E.p.un .not v78.1) else some (.tup [], v78.2)).bind fun v80 =>
      (E.p.pick v70 (.bool true) v80.1).bind fun v81 =>
      condP v81
       (
        K .ret (sr_4 (.bool false) v80.2))
       (
        (E.p.bin .add 3 x20 (.int .i64 1)).bind fun v82 =>
        K .normal (st0 x0 x18 x19 v82 v80.2)))
     (
      K (.exit 0) (se0_0_18_19_20_21 x0 x18 x19 x20 v50 h))
theorem body0_eq (E : Env) (K : PX → St → Res) (x0 x18 x19 x20 : PV) (h : PHeap) : ev (E.cx Tryd.prog kl) lp0 (st0 x0 x18 x19 x20 h) K = body0 E K x0 x18 x19 x20 h := by kernel_rfl
theorem after0_se0_0_18_19_20_21 (E : Env) (x0 x18 x19 x20 x21 : PV) (h : PHeap) : K0 E (kTop Tryd.prog Tryd.f33) (.exit 0) (se0_0_18_19_20_21 x0 x18 x19 x20 x21 h) =
    (resV (.bool true)).bind fun v49 =>
    some (v49, h) := by kernel_rfl
theorem top_sr_4 (x4 : PV) (h : PHeap) : kTop Tryd.prog Tryd.f33 .ret (sr_4 x4 h) =
    (resV x4).bind fun v83 =>
    some (v83, h) := by kernel_rfl
noncomputable def main (E : Env) (x0 x1 : PV) (h : PHeap) : Res :=
    (E.p.bin .lss 3 x0 (.int .i64 2)).bind fun v1 =>
    (wantV v1 false).bind fun v2 =>
    (bif v2 then some (x0, h) else some (.tup [], h)).bind fun v3 =>
    (wantV v1 false).bind fun v4 =>
    (bif v4 then pv v3.2 (E.p.bin .gtr 3 v3.1 (.int .i64 5)) else some (.tup [], v3.2)).bind fun v5 =>
    (E.p.pick v1 (.bool true) v5.1).bind fun v6 =>
    (wantV v6 false).bind fun v7 =>
    (bif v7 then some (x1, v5.2) else some (.tup [], v5.2)).bind fun v8 =>
    (wantV v6 false).bind fun v9 =>
    (bif v9 then pv v8.2 (E.p.len 23 v8.1) else some (.tup [], v8.2)).bind fun v10 =>
    (wantV v6 false).bind fun v11 =>
    (bif v11 then pv v10.2 (E.p.bin .gtr 3 v10.1 (.int .i64 8)) else some (.tup [], v10.2)).bind fun v12 =>
    (E.p.pick v6 (.bool true) v12.1).bind fun v13 =>
    condP v13
     (
      (resV (.bool false)).bind fun v14 =>
      some (v14, v12.2))
     (
      (E.p.len 23 x1).bind fun v15 =>
      loopK (ev (E.cx Tryd.prog impl_WiresOk.kl) impl_WiresOk.lp0) E.lf (impl_WiresOk.st0 x0 x1 v15 (.int .i64 0) v12.2) (impl_WiresOk.K0 E (kTop Tryd.prog Tryd.f33)))
theorem main_eq (E : Env) (x0 x1 : PV) (h : PHeap) : runBody (E.cx Tryd.prog kl) Tryd.f33 [x0, x1] h = main E x0 x1 h := by kernel_rfl
theorem call_eq (g : Nat → PV) (lf n : Nat) (x0 x1 : PV) (h : PHeap) : CL g lf (n + 1) fn_impl_WiresOk [x0, x1] h = main (env g lf n) x0 x1 h := by
  rw [← main_eq]
  show call Tryd.prog g KL lf (n + 1) 33 [x0, x1] h = _
  rw [call_succ, Tryd.func33]
  kernel_rfl
end impl_WiresOk
namespace impl_wireSetOk
noncomputable def main (E : Env) (x0 x1 : PV) (h : PHeap) : Res :=
    (E.p.bin .geq 3 x1 (.int .i64 0)).bind fun v1 =>
    (wantV v1 true).bind fun v2 =>
    (bif v2 then some (x1, h) else some (.tup [], h)).bind fun v3 =>
    (wantV v1 true).bind fun v4 =>
    (bif v4 then some (x0, v3.2) else some (.tup [], v3.2)).bind fun v5 =>
    (wantV v1 true).bind fun v6 =>
    (bif v6 then E.C fn_impl_allWires [v5.1] v5.2 else some (.tup [], v5.2)).bind fun v7 =>
    (wantV v1 true).bind fun v8 =>
    (bif v8 then pv v7.2 (E.p.bin .leq 3 v3.1 v7.1) else some (.tup [], v7.2)).bind fun v9 =>
    (E.p.pick v1 v9.1 (.bool false)).bind fun v10 =>
    (resV v10).bind fun v11 =>
    some (v11, v9.2)
theorem main_eq (E : Env) (x0 x1 : PV) (h : PHeap) : runBody (E.cx Tryd.prog kl) Tryd.f34 [x0, x1] h = main E x0 x1 h := by kernel_rfl
theorem call_eq (g : Nat → PV) (lf n : Nat) (x0 x1 : PV) (h : PHeap) : CL g lf (n + 1) fn_impl_wireSetOk [x0, x1] h = main (env g lf n) x0 x1 h := by
  rw [← main_eq]
  show call Tryd.prog g KL lf (n + 1) 34 [x0, x1] h = _
  rw [call_succ, Tryd.func34]
  kernel_rfl
end impl_wireSetOk
namespace impl_treeOn
noncomputable def main (E : Env) (x0 x1 x2 : PV) (h : PHeap) : Res :=
    (E.C fn_impl_countIn [x2] h).bind fun v1 =>
    (E.C fn_impl_countIn [x1] v1.2).bind fun v2 =>
    (E.p.bin .sub 3 v2.1 (.int .i64 1)).bind fun v3 =>
    (E.p.bin .eql 3 v1.1 v3).bind fun v4 =>
    (wantV v4 true).bind fun v5 =>
    (bif v5 then some (x0, v2.2) else some (.tup [], v2.2)).bind fun v6 =>
    (wantV v4 true).bind fun v7 =>
    (bif v7 then some (x2, v6.2) else some (.tup [], v6.2)).bind fun v8 =>
    (wantV v4 true).bind fun v9 =>
    (bif v9 then E.C fn_impl_nodesReached [v6.1, v8.1, (.int .i64 1)] v8.2 else some (.tup [], v8.2)).bind fun v10 =>
    (wantV v4 true).bind fun v11 =>
    (bif v11 then some (x1, v10.2) else some (.tup [], v10.2)).bind fun v12 =>
    (wantV v4 true).bind fun v13 =>
    (bif v13 then pv v12.2 (E.p.bin .eql 3 v10.1 v12.1) else some (.tup [], v12.2)).bind fun v14 =>
    (E.p.pick v4 v14.1 (.bool false)).bind fun v15 =>
    (resV v15).bind fun v16 =>
    some (v16, v14.2)
theorem main_eq (E : Env) (x0 x1 x2 : PV) (h : PHeap) : runBody (E.cx Tryd.prog kl) Tryd.f35 [x0, x1, x2] h = main E x0 x1 x2 h := by kernel_rfl
theorem call_eq (g : Nat → PV) (lf n : Nat) (x0 x1 x2 : PV) (h : PHeap) : CL g lf (n + 1) fn_impl_treeOn [x0, x1, x2] h = main (env g lf n) x0 x1 x2 h := by
  rw [← main_eq]
  show call Tryd.prog g KL lf (n + 1) 35 [x0, x1, x2] h = _
  rw [call_succ, Tryd.func35]
  kernel_rfl
end impl_treeOn
namespace impl_allNodes
noncomputable def main (E : Env) (x0 : PV) (h : PHeap) : Res :=
    (E.p.bin .shl 3 (.int .i64 1) x0).bind fun v1 =>
    (E.p.bin .sub 3 v1 (.int .i64 1)).bind fun v2 =>
    (resV v2).bind fun v3 =>
    some (v3, h)
theorem main_eq (E : Env) (x0 : PV) (h : PHeap) : runBody (E.cx Tryd.prog kl) Tryd.f36 [x0] h = main E x0 h := by kernel_rfl
theorem call_eq (g : Nat → PV) (lf n : Nat) (x0 : PV) (h : PHeap) : CL g lf (n + 1) fn_impl_allNodes [x0] h = main (env g lf n) x0 h := by
  rw [← main_eq]
  show call Tryd.prog g KL lf (n + 1) 36 [x0] h = _
  rw [call_succ, Tryd.func36]
  kernel_rfl
end impl_allNodes
namespace spec_l1In
noncomputable def main (E : Env) (x0 x1 x2 : PV) (h : PHeap) : Res :=
    (E.p.bin .geq 3 x0 x1).bind fun v1 =>
    (wantV v1 true).bind fun v2 =>
    (bif v2 then some (x0, h) else some (.tup [], h)).bind fun v3 =>
    (wantV v1 true).bind fun v4 =>
    (bif v4 then some (x2, v3.2) else some (.tup [], v3.2)).bind fun v5 =>
    (wantV v1 true).bind fun v6 =>
    (bif v6 then pv v5.2 (E.p.bin .leq 3 v3.1 v5.1) else some (.tup [], v5.2)).bind fun v7 =>
    (E.p.pick v1 v7.1 (.bool false)).bind fun v8 =>
    (resV v8).bind fun v9 =>
    some (v9, v7.2)
theorem main_eq (E : Env) (x0 x1 x2 : PV) (h : PHeap) : runBody (E.cx Tryd.prog kl) Tryd.f37 [x0, x1, x2] h = main E x0 x1 x2 h := by kernel_rfl
theorem call_eq (g : Nat → PV) (lf n : Nat) (x0 x1 x2 : PV) (h : PHeap) : CL g lf (n + 1) fn_spec_l1In [x0, x1, x2] h = main (env g lf n) x0 x1 x2 h := by
  rw [← main_eq]
  show call Tryd.prog g KL lf (n + 1) 37 [x0, x1, x2] h = _
  rw [call_succ, Tryd.func37]
  kernel_rfl
end spec_l1In
namespace spec_l10Tree
noncomputable def lp0 : Code := (codeAt (bodyOf Tryd.f38) [1, 0, 1, 0, 0])
def st0 (x0 x1 x2 x7 : PV) (h : PHeap) : St := ⟨[x0, x1, x2, .junk, .junk, .junk, .junk, x7, .junk, .junk, .junk, .junk, .junk, .junk, .junk, .junk, .junk, .junk, .junk, .junk, .junk, .junk, .junk, .junk, .junk, .junk, .junk, .junk, .junk, .junk, .junk, .junk, .junk, .junk, .junk, .junk, .junk, .junk, .junk, .junk, .junk, .junk, .junk, .junk, .junk, .junk, .junk, .junk, .junk, .junk, .junk, .junk, .junk, .junk], h⟩
def sr_6 (x6 : PV) (h : PHeap) : St := ⟨[.junk, .junk, .junk, .junk, .junk, .junk, x6, .junk, .junk, .junk, .junk, .junk, .junk, .junk, .junk, .junk, .junk, .junk, .junk, .junk, .junk, .junk, .junk, .junk, .junk, .junk, .junk, .junk, .junk, .junk, .junk, .junk, .junk, .junk, .junk, .junk, .junk, .junk, .junk, .junk, .junk, .junk, .junk, .junk, .junk, .junk, .junk, .junk, .junk, .junk, .junk, .junk, .junk, .junk], h⟩
def se0_0_1_2_7_11 (x0 x1 x2 x7 x11 : PV) (h : PHeap) : St := ⟨[x0, x1, x2, .junk, .junk, .junk, .junk, x7, .junk, .junk, .junk, x11, .junk, .junk, .junk, .junk, .junk, .junk, .junk, .junk, .junk, .junk, .junk, .junk, .junk, .junk, .junk, .junk, .junk, .junk, .junk, .junk, .junk, .junk, .junk, .junk, .junk, .junk, .junk, .junk, .junk, .junk, .junk, .junk, .junk, .junk, .junk, .junk, .junk, .junk, .junk, .junk, .junk, .junk], h⟩
noncomputable def K0 (E : Env) (K : PX → St → Res) : PX → St → Res := (kBlock 0 (kSeq (ev (E.cx Tryd.prog kl) (codeAt (bodyOf Tryd.f38) [1, 1])) K))
@[simp] theorem K0_ret (E : Env) (K : PX → St → Res) (s : St) : K0 E K .ret s = K .ret s := by kernel_rfl
noncomputable def body0 (E : Env) (K : PX → St → Res) (x0 x1 x2 x7 : PV) (h : PHeap) : Res :=
    (E.p.len 23 x0).bind fun v64 =>
    (E.p.bin .lss 3 x7 v64).bind fun v65 =>
    condP v65
     (
      (E.p.bin .shr 3 x1 x7).bind fun v66 =>
      (E.p.bin .rem 3 v66 (.int .i64 2)).bind fun v67 =>
      (E.p.bin .eql 3 v67 (.int .i64 1)).bind fun v68 =>
      (wantV v68 true).bind fun v69 =>
      (bif v69 then some (x2, h) else some (.tup [], h)).bind fun v70 =>
      (wantV v68 true).bind fun v71 =>
      (bif v71 then some (x0, v70.2) else some (.tup [], v70.2)).bind fun v72 =>
      (wantV v68 true).bind fun v73 =>
      (bif v73 then some (x7, v72.2) else some (.tup [], v72.2)).bind fun v74 =>
      (wantV v68 true).bind fun v75 =>
      (bif v75 then pv v74.2 (E.p.indexAddr 23 v72.1 v74.1) else some (.tup [], v74.2)).bind fun v76 =>
      (wantV v68 true).bind fun v77 =>
      (bif v77 then pv v76.2 (E.p.fieldAddr 41 v76.1 0) else some (.tup [], v76.2)).bind fun v78 =>
      (wantV v68 true).bind fun v79 =>
      (bif v79 then pv v78.2 (E.p.load 3 v78.1 v78.2) else some (.tup [], v78.2)).bind fun v80 =>
      (wantV v68 true).bind fun v81 =>
      (bif v81 then pv v80.2 (E.p.bin .shr 3 v70.1 v80.1) else some (.tup [], v80.2)).bind fun v82 =>
      (wantV v68 true).bind fun v83 =>
      (bif v83 then pv v82.2 (E.p.bin .rem 3 v82.1 (.int .i64 2)) else some (.tup [], v82.2)).bind fun v84 =>
      (wantV v68 true).bind fun v85 =>
      (bif v85 then pv v84.2 (E.p.bin .eql 3 v84.1 (.int .i64 0)) else some (.tup [], v84.2)).bind fun v86 =>
      (wantV v68 true).bind fun v87 =>
      (bif v87 then some (v86.1, v86.2) else some (.tup [], v86.2)).bind fun v88 =>
      (wantV v88.1 false).bind fun v89 =>
      (bif v89 then some (x2, v88.2) else some (.tup [], v88.2)).bind fun v90 =>
      (wantV v88.1 false).bind fun v91 =>
      (bif v91 then some (x0, v90.2) else some (.tup [], v90.2)).bind fun v92 =>
      (wantV v88.1 false).bind fun v93 =>
      (bif v93 then some (x7, v92.2) else some (.tup [], v92.2)).bind fun v94 =>
      (wantV v88.1 false).bind fun v95 =>
      (bif v95 then pv v94.2 (E.p.indexAddr 23 v92.1 v94.1) else some (.tup [], v94.2)).bind fun v96 =>
      (wantV v88.1 false).bind fun v97 =>
      (bif v97 then pv v96.2 (E.p.fieldAddr 41 v96.1 1) else some (.tup [], v96.2)).bind fun v98 =>
      (wantV v88.1 false).bind fun v99 =>
      (bif v99 then pv v98.2 (E.p.load 3 v98.1 v98.2) else some (.tup [], v98.2)).bind fun v100 =>
      (wantV v88.1 false).bind fun v101 =>
      (bif v101 then pv v100.2 (E.p.bin .shr 3 v90.1 v100.1) else some (.tup [], v100.2)).bind fun v102 =>
      (wantV v88.1 false).bind fun v103 =>
      (bif v103 then pv v102.2 (E.p.bin .rem 3 v102.1 (.int .i64 2)) else some (.tup [], v102.2)).bind fun v104 =>
      (wantV v88.1 false).bind fun v105 =>
      (bif v105 then pv v104.2 (E.p.bin .eql 3 v104.1 (.int .i64 0)) else some (.tup [], v104.2)).bind fun v106 =>
      (wantV v68 true).bind fun v107 =>
      (bif v107 then pv v106.2 (E.p.pick v88.1 (.bool true) v106.1) else some (.tup [], v106.2)).bind fun v108 =>
      (E.p.pick v68 v108.1 (.bool false)).bind fun v109 =>
      condP v109
       (
        K .ret (sr_6 (.bool false) v108.2))
       (
        (E.p.bin .add 3 x7 (.int .i64 1)).bind fun v110 =>
        K .normal (st0 x0 x1 x2 v110 v108.2)))
     (
      K (.exit 0) (se0_0_1_2_7_11 x0 x1 x2 x7 v65 h))
theorem body0_eq (E : Env) (K : PX → St → Res) (x0 x1 x2 x7 : PV) (h : PHeap) : ev (E.cx Tryd.prog kl) lp0 (st0 x0 x1 x2 x7 h) K = body0 E K x0 x1 x2 x7 h := by kernel_rfl
theorem after0_se0_0_1_2_7_11 (E : Env) (x0 x1 x2 x7 x11 : PV) (h : PHeap) : K0 E (kTop Tryd.prog Tryd.f38) (.exit 0) (se0_0_1_2_7_11 x0 x1 x2 x7 x11 h) =
    (E.C fn_spec_l6Size [x1] h).bind fun v48 =>
    (E.C fn_spec_l6Size [x2] v48.2).bind fun v49 =>
    (E.p.bin .sub 3 v49.1 (.int .i64 1)).bind fun v50 =>
    (E.p.bin .eql 3 v48.1 v50).bind fun v51 =>
    (wantV v51 true).bind fun v52 =>
    (bif v52 then some (x0, v49.2) else some (.tup [], v49.2)).bind fun v53 =>
    (wantV v51 true).bind fun v54 =>
    (bif v54 then some (x1, v53.2) else some (.tup [], v53.2)).bind fun v55 =>
    (wantV v51 true).bind fun v56 =>
    (bif v56 then E.C fn_spec_l9Reach [v53.1, v55.1, (.int .i64 0)] v55.2 else some (.tup [], v55.2)).bind fun v57 =>
    (wantV v51 true).bind fun v58 =>
    (bif v58 then some (x2, v57.2) else some (.tup [], v57.2)).bind fun v59 =>
    (wantV v51 true).bind fun v60 =>
    (bif v60 then pv v59.2 (E.p.bin .eql 3 v57.1 v59.1) else some (.tup [], v59.2)).bind fun v61 =>
    (E.p.pick v51 v61.1 (.bool false)).bind fun v62 =>
    (resV v62).bind fun v63 =>
    some (v63, v61.2) := by kernel_rfl
theorem top_sr_6 (x6 : PV) (h : PHeap) : kTop Tryd.prog Tryd.f38 .ret (sr_6 x6 h) =
    (resV x6).bind fun v111 =>
    some (v111, h) := by kernel_rfl
noncomputable def main (E : Env) (x0 x1 x2 : PV) (h : PHeap) : Res :=
    loopK (ev (E.cx Tryd.prog spec_l10Tree.kl) spec_l10Tree.lp0) E.lf (spec_l10Tree.st0 x0 x1 x2 (.int .i64 0) h) (spec_l10Tree.K0 E (kTop Tryd.prog Tryd.f38))
theorem main_eq (E : Env) (x0 x1 x2 : PV) (h : PHeap) : runBody (E.cx Tryd.prog kl) Tryd.f38 [x0, x1, x2] h = main E x0 x1 x2 h := by kernel_rfl
theorem call_eq (g : Nat → PV) (lf n : Nat) (x0 x1 x2 : PV) (h : PHeap) : CL g lf (n + 1) fn_spec_l10Tree [x0, x1, x2] h = main (env g lf n) x0 x1 x2 h := by
  rw [← main_eq]
  show call Tryd.prog g KL lf (n + 1) 38 [x0, x1, x2] h = _
  rw [call_succ, Tryd.func38]
  kernel_rfl
end spec_l10Tree
namespace impl_BoardOk
noncomputable def main (E : Env) (x0 x1 : PV) (h : PHeap) : Res :=
    (E.C fn_impl_sizeOk [x0] h).bind fun v1 =>
    (wantV v1.1 true).bind fun v2 =>
    (bif v2 then some (x1, v1.2) else some (.tup [], v1.2)).bind fun v3 =>
    (wantV v1.1 true).bind fun v4 =>
    (bif v4 then E.C fn_impl_sizeOk [v3.1] v3.2 else some (.tup [], v3.2)).bind fun v5 =>
    (E.p.pick v1.1 v5.1 (.bool false)).bind fun v6 =>
    (wantV v6 true).bind fun v7 =>
    (bif v7 then some (x0, v5.2) else some (.tup [], v5.2)).bind fun v8 =>
    (wantV v6 true).bind fun v9 =>
    (bif v9 then some (x1, v8.2) else some (.tup [], v8.2)).bind fun v10 =>
    (wantV v6 true).bind fun v11 =>
    (bif v11 then pv v10.2 (E.p.bin .mul 3 v8.1 v10.1) else some (.tup [], v10.2)).bind fun v12 =>
    (wantV v6 true).bind fun v13 =>
    (bif v13 then pv v12.2 (E.p.bin .leq 3 v12.1 (.int .i64 9)) else some (.tup [], v12.2)).bind fun v14 =>
    (E.p.pick v6 v14.1 (.bool false)).bind fun v15 =>
    (resV v15).bind fun v16 =>
    some (v16, v14.2)
theorem main_eq (E : Env) (x0 x1 : PV) (h : PHeap) : runBody (E.cx Tryd.prog kl) Tryd.f39 [x0, x1] h = main E x0 x1 h := by kernel_rfl
theorem call_eq (g : Nat → PV) (lf n : Nat) (x0 x1 : PV) (h : PHeap) : CL g lf (n + 1) fn_impl_BoardOk [x0, x1] h = main (env g lf n) x0 x1 h := by
  rw [← main_eq]
  show call Tryd.prog g KL lf (n + 1) 39 [x0, x1] h = _
  rw [call_succ, Tryd.func39]
  kernel_rfl
end impl_BoardOk
namespace impl_linked
noncomputable def main (E : Env) (x0 x1 : PV) (h : PHeap) : Res :=
    (E.C fn_impl_nodesReached [x0, x1, (.int .i64 1)] h).bind fun v1 =>
    (E.p.bin .and 3 v1.1 (.int .i64 2)).bind fun v2 =>
    (E.p.bin .neq 3 v2 (.int .i64 0)).bind fun v3 =>
    (resV v3).bind fun v4 =>
    some (v4, v1.2)
theorem main_eq (E : Env) (x0 x1 : PV) (h : PHeap) : runBody (E.cx Tryd.prog kl) Tryd.f40 [x0, x1] h = main E x0 x1 h := by kernel_rfl
theorem call_eq (g : Nat → PV) (lf n : Nat) (x0 x1 : PV) (h : PHeap) : CL g lf (n + 1) fn_impl_linked [x0, x1] h = main (env g lf n) x0 x1 h := by
  rw [← main_eq]
  show call Tryd.prog g KL lf (n + 1) 40 [x0, x1] h = _
  rw [call_succ, Tryd.func40]
  kernel_rfl
end impl_linked
namespace impl_treesOn
noncomputable def lp0 : Code := (codeAt (bodyOf Tryd.f41) [1, 1, 0, 1, 0, 0])
def st0 (x0 x1 x5 x10 x11 x12 : PV) (h : PHeap) : St := ⟨[x0, x1, .junk, .junk, .junk, x5, .junk, .junk, .junk, .junk, x10, x11, x12, .junk, .junk, .junk, .junk, .junk, .junk, .junk, .junk, .junk, .junk, .junk, .junk, .junk], h⟩
def se0_0_1_5_10_11_12_13 (x0 x1 x5 x10 x11 x12 x13 : PV) (h : PHeap) : St := ⟨[x0, x1, .junk, .junk, .junk, x5, .junk, .junk, .junk, .junk, x10, x11, x12, x13, .junk, .junk, .junk, .junk, .junk, .junk, .junk, .junk, .junk, .junk, .junk, .junk], h⟩
noncomputable def K0 (E : Env) (K : PX → St → Res) : PX → St → Res := (kBlock 0 (kSeq (ev (E.cx Tryd.prog kl) (codeAt (bodyOf Tryd.f41) [1, 1, 1])) K))
@[simp] theorem K0_ret (E : Env) (K : PX → St → Res) (s : St) : K0 E K .ret s = K .ret s := by kernel_rfl
noncomputable def body0 (E : Env) (K : PX → St → Res) (x0 x1 x5 x10 x11 x12 : PV) (h : PHeap) : Res :=
    (E.p.bin .lss 3 x12 x11).bind fun v13 =>
    condP v13
     (
      (E.p.indexAddr 31 x10 x12).bind fun v14 =>
      (E.p.load 3 v14 h).bind fun v15 =>
      (E.C fn_impl_treeOn [x0, x1, v15] h).bind fun v16 =>
      condP v16.1
       (
        (E.p.buildSlice 31 1 [(0, v15)] v16.2).bind fun v17 =>
        (E.p.append 31 31 x5 v17.1 v17.2).bind fun v18 =>
        (E.p.bin .add 3 x12 (.int .i64 1)).bind fun v19 =>
        K .normal (st0 x0 x1 v18.1 x10 x11 v19 v18.2))
       (
        (E.p.bin .add 3 x12 (.int .i64 1)).bind fun v20 =>
        K .normal (st0 x0 x1 x5 x10 x11 v20 v16.2)))
     (
      K (.exit 0) (se0_0_1_5_10_11_12_13 x0 x1 x5 x10 x11 x12 v13 h))
theorem body0_eq (E : Env) (K : PX → St → Res) (x0 x1 x5 x10 x11 x12 : PV) (h : PHeap) : ev (E.cx Tryd.prog kl) lp0 (st0 x0 x1 x5 x10 x11 x12 h) K = body0 E K x0 x1 x5 x10 x11 x12 h := by kernel_rfl
theorem after0_se0_0_1_5_10_11_12_13 (E : Env) (x0 x1 x5 x10 x11 x12 x13 : PV) (h : PHeap) : K0 E (kTop Tryd.prog Tryd.f41) (.exit 0) (se0_0_1_5_10_11_12_13 x0 x1 x5 x10 x11 x12 x13 h) =
    (resV x5).bind fun v12 =>
    some (v12, h) := by kernel_rfl
noncomputable def main (E : Env) (x0 x1 : PV) (h : PHeap) : Res :=
    (E.C fn_impl_allWires [x0] h).bind fun v1 =>
    (E.C fn_impl_partsOf [v1.1] v1.2).bind fun v2 =>
    (E.p.len 31 v2.1).bind fun v3 =>
    loopK (ev (E.cx Tryd.prog impl_treesOn.kl) impl_treesOn.lp0) E.lf (impl_treesOn.st0 x0 x1 .nilsl v2.1 v3 (.int .i64 0) v2.2) (impl_treesOn.K0 E (kTop Tryd.prog Tryd.f41))
theorem main_eq (E : Env) (x0 x1 : PV) (h : PHeap) : runBody (E.cx Tryd.prog kl) Tryd.f41 [x0, x1] h = main E x0 x1 h := by kernel_rfl
theorem call_eq (g : Nat → PV) (lf n : Nat) (x0 x1 : PV) (h : PHeap) : CL g lf (n + 1) fn_impl_treesOn [x0, x1] h = main (env g lf n) x0 x1 h := by
  rw [← main_eq]
  show call Tryd.prog g KL lf (n + 1) 41 [x0, x1] h = _
  rw [call_succ, Tryd.func41]
  kernel_rfl
end impl_treesOn
namespace impl_pairAmong
noncomputable def lp0 : Code := (codeAt (bodyOf Tryd.f42) [1, 0, 1, 0, 0])
def st0 (x0 x9 x10 x11 : PV) (h : PHeap) : St := ⟨[x0, .junk, .junk, .junk, .junk, .junk, .junk, .junk, .junk, x9, x10, x11, .junk, .junk, .junk, .junk, .junk, .junk, .junk, .junk, .junk, .junk, .junk, .junk, .junk, .junk, .junk, .junk, .junk], h⟩
noncomputable def lp1 : Code := (codeAt (bodyOf Tryd.f42) [1, 0, 1, 0, 0, 1, 1, 0, 0, 1, 1, 0, 0])
def st1 (x0 x6 x9 x10 x11 x15 x16 x17 : PV) (h : PHeap) : St := ⟨[x0, .junk, .junk, .junk, .junk, .junk, x6, .junk, .junk, x9, x10, x11, .junk, .junk, .junk, x15, x16, x17, .junk, .junk, .junk, .junk, .junk, .junk, .junk, .junk, .junk, .junk, .junk], h⟩
def se0_0_9_10_11_12 (x0 x9 x10 x11 x12 : PV) (h : PHeap) : St := ⟨[x0, .junk, .junk, .junk, .junk, .junk, .junk, .junk, .junk, x9, x10, x11, x12, .junk, .junk, .junk, .junk, .junk, .junk, .junk, .junk, .junk, .junk, .junk, .junk, .junk, .junk, .junk, .junk], h⟩
def sr_2_3_4 (x2 x3 x4 : PV) (h : PHeap) : St := ⟨[.junk, .junk, x2, x3, x4, .junk, .junk, .junk, .junk, .junk, .junk, .junk, .junk, .junk, .junk, .junk, .junk, .junk, .junk, .junk, .junk, .junk, .junk, .junk, .junk, .junk, .junk, .junk, .junk], h⟩
def se2_0_6_9_10_11_15_16_17_18 (x0 x6 x9 x10 x11 x15 x16 x17 x18 : PV) (h : PHeap) : St := ⟨[x0, .junk, .junk, .junk, .junk, .junk, x6, .junk, .junk, x9, x10, x11, .junk, .junk, .junk, x15, x16, x17, x18, .junk, .junk, .junk, .junk, .junk, .junk, .junk, .junk, .junk, .junk], h⟩
noncomputable def K0 (E : Env) (K : PX → St → Res) : PX → St → Res := (kBlock 0 (kSeq (ev (E.cx Tryd.prog kl) (codeAt (bodyOf Tryd.f42) [1, 1])) K))
@[simp] theorem K0_ret (E : Env) (K : PX → St → Res) (s : St) : K0 E K .ret s = K .ret s := by kernel_rfl
noncomputable def K1 (E : Env) (K : PX → St → Res) : PX → St → Res := (kBlock 2 (kBlock 1 (kSeq (ev (E.cx Tryd.prog kl) (codeAt (bodyOf Tryd.f42) [1, 0, 1, 0, 0, 1, 1, 1])) K)))
@[simp] theorem K1_ret (E : Env) (K : PX → St → Res) (s : St) : K1 E K .ret s = K .ret s := by kernel_rfl
noncomputable def body0 (E : Env) (K : PX → St → Res) (x0 x9 x10 x11 : PV) (h : PHeap) : Res :=
    (E.p.bin .lss 3 x11 x10).bind fun v16 =>
    condP v16
     (
      (E.p.indexAddr 31 x9 x11).bind fun v17 =>
      (E.p.load 3 v17 h).bind fun v18 =>
      (E.p.len 31 x0).bind fun v19 =>
      loopK (ev (E.cx Tryd.prog impl_pairAmong.kl) impl_pairAmong.lp1) E.lf (impl_pairAmong.st1 x0 v18 x9 x10 x11 x0 v19 (.int .i64 0) h) (impl_pairAmong.K1 E K))
     (
      K (.exit 0) (se0_0_9_10_11_12 x0 x9 x10 x11 v16 h))
theorem body0_eq (E : Env) (K : PX → St → Res) (x0 x9 x10 x11 : PV) (h : PHeap) : ev (E.cx Tryd.prog kl) lp0 (st0 x0 x9 x10 x11 h) K = body0 E K x0 x9 x10 x11 h := by kernel_rfl
noncomputable def body1 (E : Env) (K : PX → St → Res) (x0 x6 x9 x10 x11 x15 x16 x17 : PV) (h : PHeap) : Res :=
    (E.p.bin .lss 3 x17 x16).bind fun v20 =>
    condP v20
     (
      (E.p.indexAddr 31 x15 x17).bind fun v21 =>
      (E.p.load 3 v21 h).bind fun v22 =>
      (E.p.bin .and 3 x6 v22).bind fun v23 =>
      (E.p.bin .eql 3 v23 (.int .i64 0)).bind fun v24 =>
      condP v24
       (
        K .ret (sr_2_3_4 x6 v22 (.bool true) h))
       (
        (E.p.bin .add 3 x17 (.int .i64 1)).bind fun v25 =>
        K .normal (st1 x0 x6 x9 x10 x11 x15 x16 v25 h)))
     (
      K (.exit 2) (se2_0_6_9_10_11_15_16_17_18 x0 x6 x9 x10 x11 x15 x16 x17 v20 h))
theorem body1_eq (E : Env) (K : PX → St → Res) (x0 x6 x9 x10 x11 x15 x16 x17 : PV) (h : PHeap) : ev (E.cx Tryd.prog kl) lp1 (st1 x0 x6 x9 x10 x11 x15 x16 x17 h) K = body1 E K x0 x6 x9 x10 x11 x15 x16 x17 h := by kernel_rfl
theorem after0_se0_0_9_10_11_12 (E : Env) (x0 x9 x10 x11 x12 : PV) (h : PHeap) : K0 E (kTop Tryd.prog Tryd.f42) (.exit 0) (se0_0_9_10_11_12 x0 x9 x10 x11 x12 h) =
    (resV (.int .i64 0)).bind fun v12 =>
    (resV (.int .i64 0)).bind fun v13 =>
    (resV (.bool false)).bind fun v14 =>
    some (.tup [v12, v13, v14], h) := by kernel_rfl
theorem after1_se2_0_6_9_10_11_15_16_17_18 (E : Env) (K : PX → St → Res) (x0 x6 x9 x10 x11 x15 x16 x17 x18 : PV) (h : PHeap) : K1 E K (.exit 2) (se2_0_6_9_10_11_15_16_17_18 x0 x6 x9 x10 x11 x15 x16 x17 x18 h) =
    (E.p.bin .add 3 x11 (.int .i64 1)).bind fun v15 =>
    K .normal (st0 x0 x9 x10 v15 h) := by kernel_rfl
theorem top_sr_2_3_4 (x2 x3 x4 : PV) (h : PHeap) : kTop Tryd.prog Tryd.f42 .ret (sr_2_3_4 x2 x3 x4 h) =
    (resV x2).bind fun v26 =>
    (resV x3).bind fun v27 =>
    (resV x4).bind fun v28 =>
    some (.tup [v26, v27, v28], h) := by kernel_rfl
noncomputable def main (E : Env) (x0 : PV) (h : PHeap) : Res :=
    (E.p.len 31 x0).bind fun v1 =>
    loopK (ev (E.cx Tryd.prog impl_pairAmong.kl) impl_pairAmong.lp0) E.lf (impl_pairAmong.st0 x0 x0 v1 (.int .i64 0) h) (impl_pairAmong.K0 E (kTop Tryd.prog Tryd.f42))
theorem main_eq (E : Env) (x0 : PV) (h : PHeap) : runBody (E.cx Tryd.prog kl) Tryd.f42 [x0] h = main E x0 h := by kernel_rfl
theorem call_eq (g : Nat → PV) (lf n : Nat) (x0 : PV) (h : PHeap) : CL g lf (n + 1) fn_impl_pairAmong [x0] h = main (env g lf n) x0 h := by
  rw [← main_eq]
  show call Tryd.prog g KL lf (n + 1) 42 [x0] h = _
  rw [call_succ, Tryd.func42]
  kernel_rfl
end impl_pairAmong
namespace spec_l10Pair
noncomputable def lp0 : Code := (codeAt (bodyOf Tryd.f43) [1, 0, 1, 0, 0])
def st0 (x0 x1 x7 : PV) (h : PHeap) : St := ⟨[x0, x1, .junk, .junk, .junk, .junk, .junk, x7, .junk, .junk, .junk, .junk, .junk, .junk, .junk, .junk, .junk, .junk, .junk, .junk, .junk, .junk, .junk, .junk, .junk, .junk, .junk, .junk, .junk, .junk, .junk, .junk, .junk, .junk, .junk, .junk, .junk, .junk, .junk, .junk, .junk, .junk], h⟩
noncomputable def lp1 : Code := (codeAt (bodyOf Tryd.f43) [1, 0, 1, 0, 0, 1, 0, 0, 1, 1, 0, 0])
def st1 (x0 x1 x7 x8 : PV) (h : PHeap) : St := ⟨[x0, x1, .junk, .junk, .junk, .junk, .junk, x7, x8, .junk, .junk, .junk, .junk, .junk, .junk, .junk, .junk, .junk, .junk, .junk, .junk, .junk, .junk, .junk, .junk, .junk, .junk, .junk, .junk, .junk, .junk, .junk, .junk, .junk, .junk, .junk, .junk, .junk, .junk, .junk, .junk, .junk], h⟩
def se0_0_1_7_13 (x0 x1 x7 x13 : PV) (h : PHeap) : St := ⟨[x0, x1, .junk, .junk, .junk, .junk, .junk, x7, .junk, .junk, .junk, .junk, .junk, x13, .junk, .junk, .junk, .junk, .junk, .junk, .junk, .junk, .junk, .junk, .junk, .junk, .junk, .junk, .junk, .junk, .junk, .junk, .junk, .junk, .junk, .junk, .junk, .junk, .junk, .junk, .junk, .junk], h⟩
def sr_4_5_6 (x4 x5 x6 : PV) (h : PHeap) : St := ⟨[.junk, .junk, .junk, .junk, x4, x5, x6, .junk, .junk, .junk, .junk, .junk, .junk, .junk, .junk, .junk, .junk, .junk, .junk, .junk, .junk, .junk, .junk, .junk, .junk, .junk, .junk, .junk, .junk, .junk, .junk, .junk, .junk, .junk, .junk, .junk, .junk, .junk, .junk, .junk, .junk, .junk], h⟩
def se2_0_1_7_8_27 (x0 x1 x7 x8 x27 : PV) (h : PHeap) : St := ⟨[x0, x1, .junk, .junk, .junk, .junk, .junk, x7, x8, .junk, .junk, .junk, .junk, .junk, .junk, .junk, .junk, .junk, .junk, .junk, .junk, .junk, .junk, .junk, .junk, .junk, .junk, x27, .junk, .junk, .junk, .junk, .junk, .junk, .junk, .junk, .junk, .junk, .junk, .junk, .junk, .junk], h⟩
noncomputable def K0 (E : Env) (K : PX → St → Res) : PX → St → Res := (kBlock 0 (kSeq (ev (E.cx Tryd.prog kl) (codeAt (bodyOf Tryd.f43) [1, 1])) K))
@[simp] theorem K0_ret (E : Env) (K : PX → St → Res) (s : St) : K0 E K .ret s = K .ret s := by kernel_rfl
noncomputable def K1 (E : Env) (K : PX → St → Res) : PX → St → Res := (kBlock 2 (kBlock 1 (kSeq (ev (E.cx Tryd.prog kl) (codeAt (bodyOf Tryd.f43) [1, 0, 1, 0, 0, 1, 1])) K)))
@[simp] theorem K1_ret (E : Env) (K : PX → St → Res) (s : St) : K1 E K .ret s = K .ret s := by kernel_rfl
noncomputable def body0 (E : Env) (K : PX → St → Res) (x0 x1 x7 : PV) (h : PHeap) : Res :=
    (E.p.len 23 x0).bind fun v27 =>
    (E.p.bin .shl 3 (.int .i64 1) v27).bind fun v28 =>
    (E.p.bin .lss 3 x7 v28).bind fun v29 =>
    condP v29
     (
      (E.C fn_spec_l10Tree [x0, x7, x1] h).bind fun v30 =>
      (E.p.un .not v30.1).bind fun v31 =>
      condP v31
       (
        (E.p.bin .add 3 x7 (.int .i64 1)).bind fun v32 =>
        K .normal (st0 x0 x1 v32 v30.2))
       (
        (E.p.bin .add 3 x7 (.int .i64 1)).bind fun v33 =>
        loopK (ev (E.cx Tryd.prog spec_l10Pair.kl) spec_l10Pair.lp1) E.lf (spec_l10Pair.st1 x0 x1 x7 v33 v30.2) (spec_l10Pair.K1 E K)))
     (
      K (.exit 0) (se0_0_1_7_13 x0 x1 x7 v29 h))
theorem body0_eq (E : Env) (K : PX → St → Res) (x0 x1 x7 : PV) (h : PHeap) : ev (E.cx Tryd.prog kl) lp0 (st0 x0 x1 x7 h) K = body0 E K x0 x1 x7 h := by kernel_rfl
noncomputable def body1 (E : Env) (K : PX → St → Res) (x0 x1 x7 x8 : PV) (h : PHeap) : Res :=
    (E.p.len 23 x0).bind fun v34 =>
    (E.p.bin .shl 3 (.int .i64 1) v34).bind fun v35 =>
    (E.p.bin .lss 3 x8 v35).bind fun v36 =>
    condP v36
     (
      (E.p.bin .and 3 x7 x8).bind fun v37 =>
      (E.p.bin .eql 3 v37 (.int .i64 0)).bind fun v38 =>
      (wantV v38 true).bind fun v39 =>
      (bif v39 then some (x0, h) else some (.tup [], h)).bind fun v40 =>
      (wantV v38 true).bind fun v41 =>
      (bif v41 then some (x8, v40.2) else some (.tup [], v40.2)).bind fun v42 =>
      (wantV v38 true).bind fun v43 =>
      (bif v43 then some (x1, v42.2) else some (.tup [], v42.2)).bind fun v44 =>
      (wantV v38 true).bind fun v45 =>
      (bif v45 then E.C fn_spec_l10Tree [v40.1, v42.1, v44.1] v44.2 else some (.tup [], v44.2)).bind fun v46 =>
      (E.p.pick v38 v46.1 (.bool false)).bind fun v47 =>
      condP v47
       (
        K .ret (sr_4_5_6 x7 x8 (.bool true) v46.2))
       (
        (E.p.bin .add 3 x8 (.int .i64 1)).bind fun v48 =>
        K .normal (st1 x0 x1 x7 v48 v46.2)))
     (
      K (.exit 2) (se2_0_1_7_8_27 x0 x1 x7 x8 v36 h))
theorem body1_eq (E : Env) (K : PX → St → Res) (x0 x1 x7 x8 : PV) (h : PHeap) : ev (E.cx Tryd.prog kl) lp1 (st1 x0 x1 x7 x8 h) K = body1 E K x0 x1 x7 x8 h := by kernel_rfl
theorem after0_se0_0_1_7_13 (E : Env) (x0 x1 x7 x13 : PV) (h : PHeap) : K0 E (kTop Tryd.prog Tryd.f43) (.exit 0) (se0_0_1_7_13 x0 x1 x7 x13 h) =
    (resV (.int .i64 0)).bind fun v23 =>
    (resV (.int .i64 0)).bind fun v24 =>
    (resV (.bool false)).bind fun v25 =>
    some (.tup [v23, v24, v25], h) := by kernel_rfl
theorem after1_se2_0_1_7_8_27 (E : Env) (K : PX → St → Res) (x0 x1 x7 x8 x27 : PV) (h : PHeap) : K1 E K (.exit 2) (se2_0_1_7_8_27 x0 x1 x7 x8 x27 h) =
    (E.p.bin .add 3 x7 (.int .i64 1)).bind fun v26 =>
    K .normal (st0 x0 x1 v26 h) := by kernel_rfl
theorem top_sr_4_5_6 (x4 x5 x6 : PV) (h : PHeap) : kTop Tryd.prog Tryd.f43 .ret (sr_4_5_6 x4 x5 x6 h) =
    (resV x4).bind fun v49 =>
    (resV x5).bind fun v50 =>
    (resV x6).bind fun v51 =>
    some (.tup [v49, v50, v51], h) := by kernel_rfl
noncomputable def main (E : Env) (x0 x1 : PV) (h : PHeap) : Res :=
    loopK (ev (E.cx Tryd.prog spec_l10Pair.kl) spec_l10Pair.lp0) E.lf (spec_l10Pair.st0 x0 x1 (.int .i64 0) h) (spec_l10Pair.K0 E (kTop Tryd.prog Tryd.f43))
theorem main_eq (E : Env) (x0 x1 : PV) (h : PHeap) : runBody (E.cx Tryd.prog kl) Tryd.f43 [x0, x1] h = main E x0 x1 h := by kernel_rfl
theorem call_eq (g : Nat → PV) (lf n : Nat) (x0 x1 : PV) (h : PHeap) : CL g lf (n + 1) fn_spec_l10Pair [x0, x1] h = main (env g lf n) x0 x1 h := by
  rw [← main_eq]
  show call Tryd.prog g KL lf (n + 1) 43 [x0, x1] h = _
  rw [call_succ, Tryd.func43]
  kernel_rfl
end spec_l10Pair
namespace impl_OwnersOk
noncomputable def lp0 : Code := (codeAt (bodyOf Tryd.f44) [1, 1, 0, 1, 0, 0])
def st0 (x20 x21 x22 : PV) (h : PHeap) : St := ⟨[.junk, .junk, .junk, .junk, .junk, .junk, .junk, .junk, .junk, .junk, .junk, .junk, .junk, .junk, .junk, .junk, .junk, .junk, .junk, .junk, x20, x21, x22, .junk, .junk, .junk, .junk, .junk, .junk, .junk], h⟩
def sr_6 (x6 : PV) (h : PHeap) : St := ⟨[.junk, .junk, .junk, .junk, .junk, .junk, x6, .junk, .junk, .junk, .junk, .junk, .junk, .junk, .junk, .junk, .junk, .junk, .junk, .junk, .junk, .junk, .junk, .junk, .junk, .junk, .junk, .junk, .junk, .junk], h⟩
def se0_20_21_22_23 (x20 x21 x22 x23 : PV) (h : PHeap) : St := ⟨[.junk, .junk, .junk, .junk, .junk, .junk, .junk, .junk, .junk, .junk, .junk, .junk, .junk, .junk, .junk, .junk, .junk, .junk, .junk, .junk, x20, x21, x22, x23, .junk, .junk, .junk, .junk, .junk, .junk], h⟩
noncomputable def K0 (E : Env) (K : PX → St → Res) : PX → St → Res := (kBlock 0 (kSeq (ev (E.cx Tryd.prog kl) (codeAt (bodyOf Tryd.f44) [1, 1, 1])) K))
@[simp] theorem K0_ret (E : Env) (K : PX → St → Res) (s : St) : K0 E K .ret s = K .ret s := by kernel_rfl
noncomputable def body0 (E : Env) (K : PX → St → Res) (x20 x21 x22 : PV) (h : PHeap) : Res :=
    (E.p.bin .lss 3 x22 x21).bind fun v23 =>
    condP v23
     (
      (E.p.indexAddr 31 x20 x22).bind fun v24 =>
      (E.p.load 3 v24 h).bind fun v25 =>
      (E.C fn_impl_contentOk [v25] h).bind fun v26 =>
      (E.p.un .not v26.1).bind fun v27 =>
      condP v27
       (
        K .ret (sr_6 (.bool false) v26.2))
       (
        (E.p.bin .add 3 x22 (.int .i64 1)).bind fun v28 =>
        K .normal (st0 x20 x21 v28 v26.2)))
     (
      K (.exit 0) (se0_20_21_22_23 x20 x21 x22 v23 h))
theorem body0_eq (E : Env) (K : PX → St → Res) (x20 x21 x22 : PV) (h : PHeap) : ev (E.cx Tryd.prog kl) lp0 (st0 x20 x21 x22 h) K = body0 E K x20 x21 x22 h := by kernel_rfl
theorem after0_se0_20_21_22_23 (E : Env) (x20 x21 x22 x23 : PV) (h : PHeap) : K0 E (kTop Tryd.prog Tryd.f44) (.exit 0) (se0_20_21_22_23 x20 x21 x22 x23 h) =
    (resV (.bool true)).bind fun v22 =>
    some (v22, h) := by kernel_rfl
theorem top_sr_6 (x6 : PV) (h : PHeap) : kTop Tryd.prog Tryd.f44 .ret (sr_6 x6 h) =
    (resV x6).bind fun v29 =>
    some (v29, h) := by kernel_rfl
noncomputable def main (E : Env) (x0 x1 x2 : PV) (h : PHeap) : Res :=
    (E.C fn_impl_WiresOk [x0, x1] h).bind fun v1 =>
    (E.p.un .not v1.1).bind fun v2 =>
    (wantV v2 false).bind fun v3 =>
    (bif v3 then some (x2, v1.2) else some (.tup [], v1.2)).bind fun v4 =>
    (wantV v2 false).bind fun v5 =>
    (bif v5 then pv v4.2 (E.p.len 31 v4.1) else some (.tup [], v4.2)).bind fun v6 =>
    (wantV v2 false).bind fun v7 =>
    (bif v7 then some (x1, v6.2) else some (.tup [], v6.2)).bind fun v8 =>
    (wantV v2 false).bind fun v9 =>
    (bif v9 then pv v8.2 (E.p.len 23 v8.1) else some (.tup [], v8.2)).bind fun v10 =>
    (wantV v2 false).bind fun v11 =>
    (bif v11 then pv v10.2 (E.p.bin .neq 3 v6.1 v10.1) else some (.tup [], v10.2)).bind fun v12 =>
    (E.p.pick v2 (.bool true) v12.1).bind fun v13 =>
    condP v13
     (
      (resV (.bool false)).bind fun v14 =>
      some (v14, v12.2))
     (
      (E.p.len 31 x2).bind fun v15 =>
      loopK (ev (E.cx Tryd.prog impl_OwnersOk.kl) impl_OwnersOk.lp0) E.lf (impl_OwnersOk.st0 x2 v15 (.int .i64 0) v12.2) (impl_OwnersOk.K0 E (kTop Tryd.prog Tryd.f44)))
theorem main_eq (E : Env) (x0 x1 x2 : PV) (h : PHeap) : runBody (E.cx Tryd.prog kl) Tryd.f44 [x0, x1, x2] h = main E x0 x1 x2 h := by kernel_rfl
theorem call_eq (g : Nat → PV) (lf n : Nat) (x0 x1 x2 : PV) (h : PHeap) : CL g lf (n + 1) fn_impl_OwnersOk [x0, x1, x2] h = main (env g lf n) x0 x1 x2 h := by
  rw [← main_eq]
  show call Tryd.prog g KL lf (n + 1) 44 [x0, x1, x2] h = _
  rw [call_succ, Tryd.func44]
  kernel_rfl
end impl_OwnersOk
namespace impl_playerOk
noncomputable def main (E : Env) (x0 : PV) (h : PHeap) : Res :=
    (E.p.bin .eql 3 x0 (.int .i64 1)).bind fun v1 =>
    (wantV v1 false).bind fun v2 =>
    (bif v2 then some (x0, h) else some (.tup [], h)).bind fun v3 =>
    (wantV v1 false).bind fun v4 =>
    (bif v4 then pv v3.2 (E.p.bin .eql 3 v3.1 (.int .i64 2)) else some (.tup [], v3.2)).bind fun v5 =>
    (E.p.pick v1 (.bool true) v5.1).bind fun v6 =>
    (resV v6).bind fun v7 =>
    some (v7, v5.2)
theorem main_eq (E : Env) (x0 : PV) (h : PHeap) : runBody (E.cx Tryd.prog kl) Tryd.f45 [x0] h = main E x0 h := by kernel_rfl
theorem call_eq (g : Nat → PV) (lf n : Nat) (x0 : PV) (h : PHeap) : CL g lf (n + 1) fn_impl_playerOk [x0] h = main (env g lf n) x0 h := by
  rw [← main_eq]
  show call Tryd.prog g KL lf (n + 1) 45 [x0] h = _
  rw [call_succ, Tryd.func45]
  kernel_rfl
end impl_playerOk
namespace impl_newNetGame
noncomputable def main (E : Env) (x0 : PV) (h : PHeap) : Res :=
    (E.p.alloc 58 h).bind fun v1 =>
    (E.p.makeMap none v1.2).bind fun v2 =>
    (E.p.build 58 [(0, x0), (1, v2.1)]).bind fun v3 =>
    (E.p.store 58 v1.1 v3 v2.2).bind fun v4 =>
    (loadP Tryd.prog 58 v1.1 v4).bind fun v5 =>
    some (v5, v4)
theorem main_eq (E : Env) (x0 : PV) (h : PHeap) : runBody (E.cx Tryd.prog kl) Tryd.f46 [x0] h = main E x0 h := by kernel_rfl
theorem call_eq (g : Nat → PV) (lf n : Nat) (x0 : PV) (h : PHeap) : CL g lf (n + 1) fn_impl_newNetGame [x0] h = main (env g lf n) x0 h := by
  rw [← main_eq]
  show call Tryd.prog g KL lf (n + 1) 46 [x0] h = _
  rw [call_succ, Tryd.func46]
  kernel_rfl
end impl_newNetGame
namespace impl_netGame_winner
noncomputable def main (E : Env) (x0 x1 : PV) (h : PHeap) : Res :=
    (E.p.box x0 h).bind fun v1 =>
    (E.p.box x1 v1.2).bind fun v2 =>
    (E.p.fieldAddr 58 v1.1 1).bind fun v3 =>
    (E.p.load 56 v3 v2.2).bind fun v4 =>
    (E.p.load 63 v2.1 v2.2).bind fun v5 =>
    (E.p.lookup 56 v4 v5 true v2.2).bind fun v6 =>
    (E.p.extract v6 0).bind fun v7 =>
    (E.p.extract v6 1).bind fun v8 =>
    (E.p.un .not v8).bind fun v9 =>
    condP v9
     (
      (E.p.load 58 v1.1 v2.2).bind fun v10 =>
      (E.p.load 63 v2.1 v2.2).bind fun v11 =>
      (E.C fn_impl_netGame_solved [v10, v11] v2.2).bind fun v12 =>
      (E.p.fieldAddr 58 v1.1 1).bind fun v13 =>
      (E.p.load 56 v13 v12.2).bind fun v14 =>
      (E.p.load 63 v2.1 v12.2).bind fun v15 =>
      (E.p.update 56 v14 v15 v12.1 v12.2).bind fun v16 =>
      (resV v12.1).bind fun v17 =>
      some (v17, v16))
     (
      (resV v7).bind fun v18 =>
      some (v18, v2.2))
theorem main_eq (E : Env) (x0 x1 : PV) (h : PHeap) : runBody (E.cx Tryd.prog kl) Tryd.f47 [x0, x1] h = main E x0 x1 h := by kernel_rfl
theorem call_eq (g : Nat → PV) (lf n : Nat) (x0 x1 : PV) (h : PHeap) : CL g lf (n + 1) fn_impl_netGame_winner [x0, x1] h = main (env g lf n) x0 x1 h := by
  rw [← main_eq]
  show call Tryd.prog g KL lf (n + 1) 47 [x0, x1] h = _
  rw [call_succ, Tryd.func47]
  kernel_rfl
end impl_netGame_winner
namespace impl_standingOf
noncomputable def lp0 : Code := (codeAt (bodyOf Tryd.f48) [1, 1, 0, 1, 0, 0])
def st0 (x0 x4 x5 x9 : PV) (h : PHeap) : St := ⟨[x0, .junk, .junk, .junk, x4, x5, .junk, .junk, .junk, x9, .junk, .junk, .junk, .junk, .junk, .junk, .junk, .junk, .junk, .junk], h⟩
def se0_0_4_5_9_10 (x0 x4 x5 x9 x10 : PV) (h : PHeap) : St := ⟨[x0, .junk, .junk, .junk, x4, x5, .junk, .junk, .junk, x9, x10, .junk, .junk, .junk, .junk, .junk, .junk, .junk, .junk, .junk], h⟩
noncomputable def K0 (E : Env) (K : PX → St → Res) : PX → St → Res := (kBlock 0 (kSeq (ev (E.cx Tryd.prog kl) (codeAt (bodyOf Tryd.f48) [1, 1, 1])) K))
@[simp] theorem K0_ret (E : Env) (K : PX → St → Res) (s : St) : K0 E K .ret s = K .ret s := by kernel_rfl
noncomputable def body0 (E : Env) (K : PX → St → Res) (x0 x4 x5 x9 : PV) (h : PHeap) : Res :=
    (E.p.bin .lss 3 x9 (.int .i64 3)).bind fun v14 =>
    condP v14
     (
      (E.C fn_impl_setOf [x0, x9] h).bind fun v15 =>
      (E.p.fieldAddr 63 x5 0).bind fun v16 =>
      (E.p.indexAddr 61 v16 x9).bind fun v17 =>
      (E.p.store 3 v17 v15.1 v15.2).bind fun v18 =>
      (E.p.bin .add 3 x9 (.int .i64 1)).bind fun v19 =>
      K .normal (st0 x0 x4 x5 v19 v18))
     (
      K (.exit 0) (se0_0_4_5_9_10 x0 x4 x5 x9 v14 h))
theorem body0_eq (E : Env) (K : PX → St → Res) (x0 x4 x5 x9 : PV) (h : PHeap) : ev (E.cx Tryd.prog kl) lp0 (st0 x0 x4 x5 x9 h) K = body0 E K x0 x4 x5 x9 h := by kernel_rfl
theorem after0_se0_0_4_5_9_10 (E : Env) (x0 x4 x5 x9 x10 : PV) (h : PHeap) : K0 E (kTop Tryd.prog Tryd.f48) (.exit 0) (se0_0_4_5_9_10 x0 x4 x5 x9 x10 h) =
    (E.p.load 63 x5 h).bind fun v11 =>
    (E.p.store 63 x4 v11 h).bind fun v12 =>
    (loadP Tryd.prog 63 x4 v12).bind fun v13 =>
    some (v13, v12) := by kernel_rfl
noncomputable def main (E : Env) (x0 x1 : PV) (h : PHeap) : Res :=
    (E.p.alloc 63 h).bind fun v1 =>
    (E.p.build 63 [(1, x1)]).bind fun v2 =>
    (E.p.alloc 63 v1.2).bind fun v3 =>
    (E.p.store 63 v3.1 v2 v3.2).bind fun v4 =>
    loopK (ev (E.cx Tryd.prog impl_standingOf.kl) impl_standingOf.lp0) E.lf (impl_standingOf.st0 x0 v1.1 v3.1 (.int .i64 0) v4) (impl_standingOf.K0 E (kTop Tryd.prog Tryd.f48))
theorem main_eq (E : Env) (x0 x1 : PV) (h : PHeap) : runBody (E.cx Tryd.prog kl) Tryd.f48 [x0, x1] h = main E x0 x1 h := by kernel_rfl
theorem call_eq (g : Nat → PV) (lf n : Nat) (x0 x1 : PV) (h : PHeap) : CL g lf (n + 1) fn_impl_standingOf [x0, x1] h = main (env g lf n) x0 x1 h := by
  rw [← main_eq]
  show call Tryd.prog g KL lf (n + 1) 48 [x0, x1] h = _
  rw [call_succ, Tryd.func48]
  kernel_rfl
end impl_standingOf
namespace impl_partsOf
noncomputable def lp0 : Code := (codeAt (bodyOf Tryd.f49) [1, 1, 0, 1, 0, 0])
def st0 (x0 x3 x4 : PV) (h : PHeap) : St := ⟨[x0, .junk, .junk, x3, x4, .junk, .junk, .junk, .junk, .junk, .junk, .junk, .junk, .junk, .junk, .junk, .junk, .junk, .junk, .junk, .junk], h⟩
def se0_0_3_4_8 (x0 x3 x4 x8 : PV) (h : PHeap) : St := ⟨[x0, .junk, .junk, x3, x4, .junk, .junk, .junk, x8, .junk, .junk, .junk, .junk, .junk, .junk, .junk, .junk, .junk, .junk, .junk, .junk], h⟩
noncomputable def K0 (E : Env) (K : PX → St → Res) : PX → St → Res := (kBlock 0 (kSeq (ev (E.cx Tryd.prog kl) (codeAt (bodyOf Tryd.f49) [1, 1, 1])) K))
@[simp] theorem K0_ret (E : Env) (K : PX → St → Res) (s : St) : K0 E K .ret s = K .ret s := by kernel_rfl
noncomputable def body0 (E : Env) (K : PX → St → Res) (x0 x3 x4 : PV) (h : PHeap) : Res :=
    (E.p.bin .neq 3 x4 x0).bind fun v10 =>
    condP v10
     (
      (E.p.un .xor x0).bind fun v11 =>
      (E.p.bin .or 3 x4 v11).bind fun v12 =>
      (E.p.bin .add 3 v12 (.int .i64 1)).bind fun v13 =>
      (E.p.bin .and 3 v13 x0).bind fun v14 =>
      (E.p.buildSlice 31 1 [(0, v14)] h).bind fun v15 =>
      (E.p.append 31 31 x3 v15.1 v15.2).bind fun v16 =>
      K .normal (st0 x0 v16.1 v14 v16.2))
     (
      K (.exit 0) (se0_0_3_4_8 x0 x3 x4 v10 h))
theorem body0_eq (E : Env) (K : PX → St → Res) (x0 x3 x4 : PV) (h : PHeap) : ev (E.cx Tryd.prog kl) lp0 (st0 x0 x3 x4 h) K = body0 E K x0 x3 x4 h := by kernel_rfl
theorem after0_se0_0_3_4_8 (E : Env) (x0 x3 x4 x8 : PV) (h : PHeap) : K0 E (kTop Tryd.prog Tryd.f49) (.exit 0) (se0_0_3_4_8 x0 x3 x4 x8 h) =
    (resV x3).bind fun v9 =>
    some (v9, h) := by kernel_rfl
noncomputable def main (E : Env) (x0 : PV) (h : PHeap) : Res :=
    (E.p.buildSlice 31 1 [(0, (.int .i64 0))] h).bind fun v1 =>
    loopK (ev (E.cx Tryd.prog impl_partsOf.kl) impl_partsOf.lp0) E.lf (impl_partsOf.st0 x0 v1.1 (.int .i64 0) v1.2) (impl_partsOf.K0 E (kTop Tryd.prog Tryd.f49))
theorem main_eq (E : Env) (x0 : PV) (h : PHeap) : runBody (E.cx Tryd.prog kl) Tryd.f49 [x0] h = main E x0 h := by kernel_rfl
theorem call_eq (g : Nat → PV) (lf n : Nat) (x0 : PV) (h : PHeap) : CL g lf (n + 1) fn_impl_partsOf [x0] h = main (env g lf n) x0 h := by
  rw [← main_eq]
  show call Tryd.prog g KL lf (n + 1) 49 [x0] h = _
  rw [call_succ, Tryd.func49]
  kernel_rfl
end impl_partsOf
namespace spec_l20Wires
noncomputable def lp0 : Code := (codeAt (bodyOf Tryd.f50) [1, 1, 1, 0, 1, 0, 0])
def st0 (x0 x1 x6 x7 x8 : PV) (h : PHeap) : St := ⟨[x0, x1, .junk, .junk, .junk, .junk, x6, x7, x8, .junk, .junk, .junk, .junk, .junk, .junk, .junk, .junk, .junk, .junk, .junk, .junk, .junk, .junk, .junk, .junk, .junk, .junk, .junk, .junk, .junk, .junk, .junk, .junk, .junk, .junk, .junk, .junk, .junk, .junk, .junk, .junk, .junk, .junk, .junk, .junk, .junk, .junk, .junk, .junk, .junk, .junk, .junk, .junk, .junk, .junk, .junk, .junk, .junk, .junk, .junk, .junk, .junk, .junk, .junk, .junk, .junk], h⟩
def se0_0_1_6_7_8_19 (x0 x1 x6 x7 x8 x19 : PV) (h : PHeap) : St := ⟨[x0, x1, .junk, .junk, .junk, .junk, x6, x7, x8, .junk, .junk, .junk, .junk, .junk, .junk, .junk, .junk, .junk, .junk, x19, .junk, .junk, .junk, .junk, .junk, .junk, .junk, .junk, .junk, .junk, .junk, .junk, .junk, .junk, .junk, .junk, .junk, .junk, .junk, .junk, .junk, .junk, .junk, .junk, .junk, .junk, .junk, .junk, .junk, .junk, .junk, .junk, .junk, .junk, .junk, .junk, .junk, .junk, .junk, .junk, .junk, .junk, .junk, .junk, .junk, .junk], h⟩
noncomputable def K0 (E : Env) (K : PX → St → Res) : PX → St → Res := (kBlock 0 (kSeq (ev (E.cx Tryd.prog kl) (codeAt (bodyOf Tryd.f50) [1, 1, 1, 1])) K))
@[simp] theorem K0_ret (E : Env) (K : PX → St → Res) (s : St) : K0 E K .ret s = K .ret s := by kernel_rfl
noncomputable def body0 (E : Env) (K : PX → St → Res) (x0 x1 x6 x7 x8 : PV) (h : PHeap) : Res :=
    (E.p.bin .gtr 3 x8 (.int .i64 0)).bind fun v39 =>
    condP v39
     (
      (E.C fn_spec_l20Rd_pick [x0, x6] h).bind fun v40 =>
      (E.p.bin .add 3 v40.1 (.int .i64 1)).bind fun v41 =>
      (E.p.bin .sub 3 x6 (.int .i64 1)).bind fun v42 =>
      (E.C fn_spec_l20Rd_pick [x0, v42] v40.2).bind fun v43 =>
      (E.p.bin .add 3 v41 v43.1).bind fun v44 =>
      (E.p.bin .rem 3 v44 x6).bind fun v45 =>
      (E.p.build 41 [(0, v40.1), (1, v45)]).bind fun v46 =>
      (E.p.buildSlice 23 1 [(0, v46)] v43.2).bind fun v47 =>
      (E.p.append 23 23 x7 v47.1 v47.2).bind fun v48 =>
      (E.p.bin .sub 3 x8 (.int .i64 1)).bind fun v49 =>
      K .normal (st0 x0 x1 x6 v48.1 v49 v48.2))
     (
      K (.exit 0) (se0_0_1_6_7_8_19 x0 x1 x6 x7 x8 v39 h))
theorem body0_eq (E : Env) (K : PX → St → Res) (x0 x1 x6 x7 x8 : PV) (h : PHeap) : ev (E.cx Tryd.prog kl) lp0 (st0 x0 x1 x6 x7 x8 h) K = body0 E K x0 x1 x6 x7 x8 h := by kernel_rfl
theorem after0_se0_0_1_6_7_8_19 (E : Env) (x0 x1 x6 x7 x8 x19 : PV) (h : PHeap) : K0 E (kTop Tryd.prog Tryd.f50) (.exit 0) (se0_0_1_6_7_8_19 x0 x1 x6 x7 x8 x19 h) =
    (E.C fn_spec_l20Rd_odd [x0, x1] h).bind fun v17 =>
    condP v17.1
     (
      (E.C fn_spec_l20Rd_pick [x0, (.int .i64 3)] v17.2).bind fun v18 =>
      (E.p.bin .eql 3 v18.1 (.int .i64 0)).bind fun v19 =>
      condP v19
       (
        (E.p.build 41 [(0, (.int .i64 1)), (1, (.int .i64 1))]).bind fun v20 =>
        (E.p.buildSlice 23 1 [(0, v20)] v18.2).bind fun v21 =>
        (E.p.append 23 23 x7 v21.1 v21.2).bind fun v22 =>
        (resV x6).bind fun v23 =>
        (resV v22.1).bind fun v24 =>
        some (.tup [v23, v24], v22.2))
       (
        (E.p.bin .eql 3 v18.1 (.int .i64 1)).bind fun v25 =>
        condP v25
         (
          (E.p.build 41 [(0, (.int .i64 0)), (1, x6)]).bind fun v26 =>
          (E.p.buildSlice 23 1 [(0, v26)] v18.2).bind fun v27 =>
          (E.p.append 23 23 x7 v27.1 v27.2).bind fun v28 =>
          (resV x6).bind fun v29 =>
          (resV v28.1).bind fun v30 =>
          some (.tup [v29, v30], v28.2))
         (
          (E.p.buildSlice 31 2 [(0, (.int .i64 1)), (1, (.int .i64 6))] v18.2).bind fun v31 =>
          (E.C fn_spec_l20Rd_pick [x0, (.int .i64 2)] v31.2).bind fun v32 =>
          (E.p.indexAddr 31 v31.1 v32.1).bind fun v33 =>
          (E.p.load 3 v33 v32.2).bind fun v34 =>
          (resV v34).bind fun v35 =>
          (resV x7).bind fun v36 =>
          some (.tup [v35, v36], v32.2))))
     (
      (resV x6).bind fun v37 =>
      (resV x7).bind fun v38 =>
      some (.tup [v37, v38], v17.2)) := by kernel_rfl
noncomputable def main (E : Env) (x0 x1 : PV) (h : PHeap) : Res :=
    (E.C fn_spec_l20Rd_pick [x0, (.int .i64 4)] h).bind fun v1 =>
    (E.p.bin .add 3 (.int .i64 2) v1.1).bind fun v2 =>
    (E.p.buildSlice 23 0 [] v1.2).bind fun v3 =>
    (E.C fn_spec_l20Rd_pick [x0, (.int .i64 7)] v3.2).bind fun v4 =>
    (E.p.bin .add 3 (.int .i64 1) v4.1).bind fun v5 =>
    loopK (ev (E.cx Tryd.prog spec_l20Wires.kl) spec_l20Wires.lp0) E.lf (spec_l20Wires.st0 x0 x1 v2 v3.1 v5 v4.2) (spec_l20Wires.K0 E (kTop Tryd.prog Tryd.f50))
theorem main_eq (E : Env) (x0 x1 : PV) (h : PHeap) : runBody (E.cx Tryd.prog kl) Tryd.f50 [x0, x1] h = main E x0 x1 h := by kernel_rfl
theorem call_eq (g : Nat → PV) (lf n : Nat) (x0 x1 : PV) (h : PHeap) : CL g lf (n + 1) fn_spec_l20Wires [x0, x1] h = main (env g lf n) x0 x1 h := by
  rw [← main_eq]
  show call Tryd.prog g KL lf (n + 1) 50 [x0, x1] h = _
  rw [call_succ, Tryd.func50]
  kernel_rfl
end spec_l20Wires
namespace impl_nodeOk
noncomputable def main (E : Env) (x0 x1 : PV) (h : PHeap) : Res :=
    (E.p.bin .geq 3 x1 (.int .i64 0)).bind fun v1 =>
    (wantV v1 true).bind fun v2 =>
    (bif v2 then some (x1, h) else some (.tup [], h)).bind fun v3 =>
    (wantV v1 true).bind fun v4 =>
    (bif v4 then some (x0, v3.2) else some (.tup [], v3.2)).bind fun v5 =>
    (wantV v1 true).bind fun v6 =>
    (bif v6 then pv v5.2 (E.p.bin .lss 3 v3.1 v5.1) else some (.tup [], v5.2)).bind fun v7 =>
    (E.p.pick v1 v7.1 (.bool false)).bind fun v8 =>
    (resV v8).bind fun v9 =>
    some (v9, v7.2)
theorem main_eq (E : Env) (x0 x1 : PV) (h : PHeap) : runBody (E.cx Tryd.prog kl) Tryd.f51 [x0, x1] h = main E x0 x1 h := by kernel_rfl
theorem call_eq (g : Nat → PV) (lf n : Nat) (x0 x1 : PV) (h : PHeap) : CL g lf (n + 1) fn_impl_nodeOk [x0, x1] h = main (env g lf n) x0 x1 h := by
  rw [← main_eq]
  show call Tryd.prog g KL lf (n + 1) 51 [x0, x1] h = _
  rw [call_succ, Tryd.func51]
  kernel_rfl
end impl_nodeOk
namespace impl_allWires
noncomputable def main (E : Env) (x0 : PV) (h : PHeap) : Res :=
    (E.p.len 23 x0).bind fun v1 =>
    (E.p.bin .shl 3 (.int .i64 1) v1).bind fun v2 =>
    (E.p.bin .sub 3 v2 (.int .i64 1)).bind fun v3 =>
    (resV v3).bind fun v4 =>
    some (v4, h)
theorem main_eq (E : Env) (x0 : PV) (h : PHeap) : runBody (E.cx Tryd.prog kl) Tryd.f52 [x0] h = main E x0 h := by kernel_rfl
theorem call_eq (g : Nat → PV) (lf n : Nat) (x0 : PV) (h : PHeap) : CL g lf (n + 1) fn_impl_allWires [x0] h = main (env g lf n) x0 h := by
  rw [← main_eq]
  show call Tryd.prog g KL lf (n + 1) 52 [x0] h = _
  rw [call_succ, Tryd.func52]
  kernel_rfl
end impl_allWires
namespace impl_countIn
noncomputable def main (E : Env) (x0 : PV) (h : PHeap) : Res :=
    (E.p.conv 3 74 x0).bind fun v1 =>
    (E.C fn_bits_OnesCount [v1] h).bind fun v2 =>
    (resV v2.1).bind fun v3 =>
    some (v3, v2.2)
theorem main_eq (E : Env) (x0 : PV) (h : PHeap) : runBody (E.cx Tryd.prog kl) Tryd.f53 [x0] h = main E x0 h := by kernel_rfl
theorem call_eq (g : Nat → PV) (lf n : Nat) (x0 : PV) (h : PHeap) : CL g lf (n + 1) fn_impl_countIn [x0] h = main (env g lf n) x0 h := by
  rw [← main_eq]
  show call Tryd.prog g KL lf (n + 1) 53 [x0] h = _
  rw [call_succ, Tryd.func53]
  kernel_rfl
end impl_countIn
namespace impl_nodesReached
noncomputable def lp0 : Code := (codeAt (bodyOf Tryd.f54) [1, 0, 1, 0, 0])
def st0 (x0 x1 x2 x7 : PV) (h : PHeap) : St := ⟨[x0, x1, x2, .junk, .junk, .junk, .junk, x7, .junk, .junk, .junk, .junk, .junk, .junk, .junk, .junk, .junk, .junk, .junk, .junk, .junk], h⟩
def se0_0_1_2_7_10 (x0 x1 x2 x7 x10 : PV) (h : PHeap) : St := ⟨[x0, x1, x2, .junk, .junk, .junk, .junk, x7, .junk, .junk, x10, .junk, .junk, .junk, .junk, .junk, .junk, .junk, .junk, .junk, .junk], h⟩
noncomputable def K0 (E : Env) (K : PX → St → Res) : PX → St → Res := (kBlock 0 (kSeq (ev (E.cx Tryd.prog kl) (codeAt (bodyOf Tryd.f54) [1, 1])) K))
@[simp] theorem K0_ret (E : Env) (K : PX → St → Res) (s : St) : K0 E K .ret s = K .ret s := by kernel_rfl
noncomputable def body0 (E : Env) (K : PX → St → Res) (x0 x1 x2 x7 : PV) (h : PHeap) : Res :=
    (E.p.bin .neq 3 x7 (.int .i64 0)).bind fun v6 =>
    condP v6
     (
      (E.C fn_impl_nodesBeside [x0, x1, x7] h).bind fun v7 =>
      (E.p.bin .andNot 3 v7.1 x2).bind fun v8 =>
      (E.p.bin .or 3 x2 v8).bind fun v9 =>
      K .normal (st0 x0 x1 v9 v8 v7.2))
     (
      K (.exit 0) (se0_0_1_2_7_10 x0 x1 x2 x7 v6 h))
theorem body0_eq (E : Env) (K : PX → St → Res) (x0 x1 x2 x7 : PV) (h : PHeap) : ev (E.cx Tryd.prog kl) lp0 (st0 x0 x1 x2 x7 h) K = body0 E K x0 x1 x2 x7 h := by kernel_rfl
theorem after0_se0_0_1_2_7_10 (E : Env) (x0 x1 x2 x7 x10 : PV) (h : PHeap) : K0 E (kTop Tryd.prog Tryd.f54) (.exit 0) (se0_0_1_2_7_10 x0 x1 x2 x7 x10 h) =
    (resV x2).bind fun v5 =>
    some (v5, h) := by kernel_rfl
noncomputable def main (E : Env) (x0 x1 x2 : PV) (h : PHeap) : Res :=
    loopK (ev (E.cx Tryd.prog impl_nodesReached.kl) impl_nodesReached.lp0) E.lf (impl_nodesReached.st0 x0 x1 x2 x2 h) (impl_nodesReached.K0 E (kTop Tryd.prog Tryd.f54))
theorem main_eq (E : Env) (x0 x1 x2 : PV) (h : PHeap) : runBody (E.cx Tryd.prog kl) Tryd.f54 [x0, x1, x2] h = main E x0 x1 x2 h := by kernel_rfl
theorem call_eq (g : Nat → PV) (lf n : Nat) (x0 x1 x2 : PV) (h : PHeap) : CL g lf (n + 1) fn_impl_nodesReached [x0, x1, x2] h = main (env g lf n) x0 x1 x2 h := by
  rw [← main_eq]
  show call Tryd.prog g KL lf (n + 1) 54 [x0, x1, x2] h = _
  rw [call_succ, Tryd.func54]
  kernel_rfl
end impl_nodesReached
namespace spec_l6Size
noncomputable def main (E : Env) (x0 : PV) (h : PHeap) : Res :=
    (E.C fn_spec_l2List [x0] h).bind fun v1 =>
    (E.p.len 31 v1.1).bind fun v2 =>
    (resV v2).bind fun v3 =>
    some (v3, v1.2)
theorem main_eq (E : Env) (x0 : PV) (h : PHeap) : runBody (E.cx Tryd.prog kl) Tryd.f55 [x0] h = main E x0 h := by kernel_rfl
theorem call_eq (g : Nat → PV) (lf n : Nat) (x0 : PV) (h : PHeap) : CL g lf (n + 1) fn_spec_l6Size [x0] h = main (env g lf n) x0 h := by
  rw [← main_eq]
  show call Tryd.prog g KL lf (n + 1) 55 [x0] h = _
  rw [call_succ, Tryd.func55]
  kernel_rfl
end spec_l6Size
namespace spec_l9Reach
noncomputable def lp0 : Code := (codeAt (bodyOf Tryd.f56) [1, 1, 0, 1, 0, 0])
def st0 (x0 x1 x7 x8 : PV) (h : PHeap) : St := ⟨[x0, x1, .junk, .junk, .junk, .junk, .junk, x7, x8, .junk, .junk, .junk, .junk, .junk, .junk, .junk, .junk, .junk, .junk, .junk, .junk, .junk, .junk, .junk, .junk, .junk, .junk, .junk, .junk, .junk, .junk, .junk, .junk, .junk, .junk, .junk, .junk, .junk, .junk, .junk, .junk, .junk, .junk, .junk, .junk, .junk, .junk, .junk, .junk, .junk, .junk, .junk, .junk, .junk, .junk, .junk, .junk, .junk, .junk], h⟩
noncomputable def lp1 : Code := (codeAt (bodyOf Tryd.f56) [1, 1, 0, 1, 0, 0, 1, 0, 1, 1, 0, 0])
def st1 (x0 x1 x7 x8 x9 : PV) (h : PHeap) : St := ⟨[x0, x1, .junk, .junk, .junk, .junk, .junk, x7, x8, x9, .junk, .junk, .junk, .junk, .junk, .junk, .junk, .junk, .junk, .junk, .junk, .junk, .junk, .junk, .junk, .junk, .junk, .junk, .junk, .junk, .junk, .junk, .junk, .junk, .junk, .junk, .junk, .junk, .junk, .junk, .junk, .junk, .junk, .junk, .junk, .junk, .junk, .junk, .junk, .junk, .junk, .junk, .junk, .junk, .junk, .junk, .junk, .junk, .junk], h⟩
def se0_0_1_7_12 (x0 x1 x7 x12 : PV) (h : PHeap) : St := ⟨[x0, x1, .junk, .junk, .junk, .junk, .junk, x7, .junk, .junk, .junk, .junk, x12, .junk, .junk, .junk, .junk, .junk, .junk, .junk, .junk, .junk, .junk, .junk, .junk, .junk, .junk, .junk, .junk, .junk, .junk, .junk, .junk, .junk, .junk, .junk, .junk, .junk, .junk, .junk, .junk, .junk, .junk, .junk, .junk, .junk, .junk, .junk, .junk, .junk, .junk, .junk, .junk, .junk, .junk, .junk, .junk, .junk, .junk], h⟩
def se2_0_1_7_8_9_16 (x0 x1 x7 x8 x9 x16 : PV) (h : PHeap) : St := ⟨[x0, x1, .junk, .junk, .junk, .junk, .junk, x7, x8, x9, .junk, .junk, .junk, .junk, .junk, .junk, x16, .junk, .junk, .junk, .junk, .junk, .junk, .junk, .junk, .junk, .junk, .junk, .junk, .junk, .junk, .junk, .junk, .junk, .junk, .junk, .junk, .junk, .junk, .junk, .junk, .junk, .junk, .junk, .junk, .junk, .junk, .junk, .junk, .junk, .junk, .junk, .junk, .junk, .junk, .junk, .junk, .junk, .junk], h⟩
def sn_0_1_7_8_9_16 (x0 x1 x7 x8 x9 x16 : PV) (h : PHeap) : St := ⟨[x0, x1, .junk, .junk, .junk, .junk, .junk, x7, x8, x9, .junk, .junk, .junk, .junk, .junk, .junk, x16, .junk, .junk, .junk, .junk, .junk, .junk, .junk, .junk, .junk, .junk, .junk, .junk, .junk, .junk, .junk, .junk, .junk, .junk, .junk, .junk, .junk, .junk, .junk, .junk, .junk, .junk, .junk, .junk, .junk, .junk, .junk, .junk, .junk, .junk, .junk, .junk, .junk, .junk, .junk, .junk, .junk, .junk], h⟩
noncomputable def K0 (E : Env) (K : PX → St → Res) : PX → St → Res := (kBlock 0 (kSeq (ev (E.cx Tryd.prog kl) (codeAt (bodyOf Tryd.f56) [1, 1, 1])) K))
@[simp] theorem K0_ret (E : Env) (K : PX → St → Res) (s : St) : K0 E K .ret s = K .ret s := by kernel_rfl
noncomputable def K1 (E : Env) (K : PX → St → Res) : PX → St → Res := (kBlock 2 (kBlock 1 K))
@[simp] theorem K1_ret (E : Env) (K : PX → St → Res) (s : St) : K1 E K .ret s = K .ret s := by kernel_rfl
noncomputable def body0 (E : Env) (K : PX → St → Res) (x0 x1 x7 x8 : PV) (h : PHeap) : Res :=
    condP x8
     (
      loopK (ev (E.cx Tryd.prog spec_l9Reach.kl) spec_l9Reach.lp1) E.lf (spec_l9Reach.st1 x0 x1 x7 (.bool false) (.int .i64 0) h) (spec_l9Reach.K1 E K))
     (
      K (.exit 0) (se0_0_1_7_12 x0 x1 x7 x8 h))
theorem body0_eq (E : Env) (K : PX → St → Res) (x0 x1 x7 x8 : PV) (h : PHeap) : ev (E.cx Tryd.prog kl) lp0 (st0 x0 x1 x7 x8 h) K = body0 E K x0 x1 x7 x8 h := by kernel_rfl
noncomputable def body1 (E : Env) (K : PX → St → Res) (x0 x1 x7 x8 x9 : PV) (h : PHeap) : Res :=
    (E.p.len 23 x0).bind fun v55 =>
    (E.p.bin .lss 3 x9 v55).bind fun v56 =>
    condP v56
     (
      (E.p.bin .shr 3 x1 x9).bind fun v57 =>
      (E.p.bin .rem 3 v57 (.int .i64 2)).bind fun v58 =>
      (E.p.bin .eql 3 v58 (.int .i64 0)).bind fun v59 =>
      (wantV v59 false).bind fun v60 =>
      (bif v60 then some (x7, h) else some (.tup [], h)).bind fun v61 =>
      (wantV v59 false).bind fun v62 =>
      (bif v62 then some (x0, v61.2) else some (.tup [], v61.2)).bind fun v63 =>
      (wantV v59 false).bind fun v64 =>
      (bif v64 then some (x9, v63.2) else some (.tup [], v63.2)).bind fun v65 =>
      (wantV v59 false).bind fun v66 =>
      (bif v66 then pv v65.2 (E.p.indexAddr 23 v63.1 v65.1) else some (.tup [], v65.2)).bind fun v67 =>
      (wantV v59 false).bind fun v68 =>
      (bif v68 then pv v67.2 (E.p.fieldAddr 41 v67.1 0) else some (.tup [], v67.2)).bind fun v69 =>
      (wantV v59 false).bind fun v70 =>
      (bif v70 then pv v69.2 (E.p.load 3 v69.1 v69.2) else some (.tup [], v69.2)).bind fun v71 =>
      (wantV v59 false).bind fun v72 =>
      (bif v72 then pv v71.2 (E.p.bin .shr 3 v61.1 v71.1) else some (.tup [], v71.2)).bind fun v73 =>
      (wantV v59 false).bind fun v74 =>
      (bif v74 then pv v73.2 (E.p.bin .rem 3 v73.1 (.int .i64 2)) else some (.tup [], v73.2)).bind fun v75 =>
      (wantV v59 false).bind fun v76 =>
      (bif v76 then some (x7, v75.2) else some (.tup [], v75.2)).bind fun v77 =>
      (wantV v59 false).bind fun v78 =>
      (bif v78 then some (x0, v77.2) else some (.tup [], v77.2)).bind fun v79 =>
      (wantV v59 false).bind fun v80 =>
      (bif v80 then some (x9, v79.2) else some (.tup [], v79.2)).bind fun v81 =>
      (wantV v59 false).bind fun v82 =>
      (bif v82 then pv v81.2 (E.p.indexAddr 23 v79.1 v81.1) else some (.tup [], v81.2)).bind fun v83 =>
      (wantV v59 false).bind fun v84 =>
      (bif v84 then pv v83.2 (E.p.fieldAddr 41 v83.1 1) else some (.tup [], v83.2)).bind fun v85 =>
      (wantV v59 false).bind fun v86 =>
      (bif v86 then pv v85.2 (E.p.load 3 v85.1 v85.2) else some (.tup [], v85.2)).bind fun v87 =>
      (wantV v59 false).bind fun v88 =>
      (bif v88 then pv v87.2 (E.p.bin .shr 3 v77.1 v87.1) else some (.tup [], v87.2)).bind fun v89 =>
      (wantV v59 false).bind fun v90 =>
      (bif v90 then pv v89.2 (E.p.bin .rem 3 v89.1 (.int .i64 2)) else some (.tup [], v89.2)).bind fun v91 =>
      (wantV v59 false).bind fun v92 =>
      (bif v92 then pv v91.2 (E.p.bin .eql 3 v75.1 v91.1) else some (.tup [], v91.2)).bind fun v93 =>
      (E.p.pick v59 (.bool true) v93.1).bind fun v94 =>
      condP v94
       (
        (E.p.bin .add 3 x9 (.int .i64 1)).bind fun v95 =>
        K .normal (st1 x0 x1 x7 x8 v95 v93.2))
       (
        (E.p.indexAddr 23 x0 x9).bind fun v96 =>
        (E.p.fieldAddr 41 v96 0).bind fun v97 =>
        (E.p.load 3 v97 v93.2).bind fun v98 =>
        (E.p.bin .shl 3 (.int .i64 1) v98).bind fun v99 =>
        (E.p.bin .or 3 x7 v99).bind fun v100 =>
        (E.p.indexAddr 23 x0 x9).bind fun v101 =>
        (E.p.fieldAddr 41 v101 1).bind fun v102 =>
        (E.p.load 3 v102 v93.2).bind fun v103 =>
        (E.p.bin .shl 3 (.int .i64 1) v103).bind fun v104 =>
        (E.p.bin .or 3 v100 v104).bind fun v105 =>
        (E.p.bin .add 3 x9 (.int .i64 1)).bind fun v106 =>
        K .normal (st1 x0 x1 v105 (.bool true) v106 v93.2)))
     (
      K (.exit 2) (se2_0_1_7_8_9_16 x0 x1 x7 x8 x9 v56 h))
theorem body1_eq (E : Env) (K : PX → St → Res) (x0 x1 x7 x8 x9 : PV) (h : PHeap) : ev (E.cx Tryd.prog kl) lp1 (st1 x0 x1 x7 x8 x9 h) K = body1 E K x0 x1 x7 x8 x9 h := by kernel_rfl
theorem body0_sn_0_1_7_8_9_16 (E : Env) (K : PX → St → Res) (x0 x1 x7 x8 x9 x16 : PV) (h : PHeap) : ev (E.cx Tryd.prog kl) lp0 (sn_0_1_7_8_9_16 x0 x1 x7 x8 x9 x16 h) K = body0 E K x0 x1 x7 x8 h := by kernel_rfl
theorem after0_se0_0_1_7_12 (E : Env) (x0 x1 x7 x12 : PV) (h : PHeap) : K0 E (kTop Tryd.prog Tryd.f56) (.exit 0) (se0_0_1_7_12 x0 x1 x7 x12 h) =
    (resV x7).bind fun v54 =>
    some (v54, h) := by kernel_rfl
theorem after1_se2_0_1_7_8_9_16 (E : Env) (K : PX → St → Res) (x0 x1 x7 x8 x9 x16 : PV) (h : PHeap) : K1 E K (.exit 2) (se2_0_1_7_8_9_16 x0 x1 x7 x8 x9 x16 h) =
    K .normal (sn_0_1_7_8_9_16 x0 x1 x7 x8 x9 x16 h) := by kernel_rfl
noncomputable def main (E : Env) (x0 x1 x2 : PV) (h : PHeap) : Res :=
    (E.p.bin .shl 3 (.int .i64 1) x2).bind fun v1 =>
    loopK (ev (E.cx Tryd.prog spec_l9Reach.kl) spec_l9Reach.lp0) E.lf (spec_l9Reach.st0 x0 x1 v1 (.bool true) h) (spec_l9Reach.K0 E (kTop Tryd.prog Tryd.f56))
theorem main_eq (E : Env) (x0 x1 x2 : PV) (h : PHeap) : runBody (E.cx Tryd.prog kl) Tryd.f56 [x0, x1, x2] h = main E x0 x1 x2 h := by kernel_rfl
theorem call_eq (g : Nat → PV) (lf n : Nat) (x0 x1 x2 : PV) (h : PHeap) : CL g lf (n + 1) fn_spec_l9Reach [x0, x1, x2] h = main (env g lf n) x0 x1 x2 h := by
  rw [← main_eq]
  show call Tryd.prog g KL lf (n + 1) 56 [x0, x1, x2] h = _
  rw [call_succ, Tryd.func56]
  kernel_rfl
end spec_l9Reach
namespace impl_sizeOk
noncomputable def main (E : Env) (x0 : PV) (h : PHeap) : Res :=
    (E.p.bin .geq 3 x0 (.int .i64 1)).bind fun v1 =>
    (wantV v1 true).bind fun v2 =>
    (bif v2 then some (x0, h) else some (.tup [], h)).bind fun v3 =>
    (wantV v1 true).bind fun v4 =>
    (bif v4 then pv v3.2 (E.p.bin .leq 3 v3.1 (.int .i64 4)) else some (.tup [], v3.2)).bind fun v5 =>
    (E.p.pick v1 v5.1 (.bool false)).bind fun v6 =>
    (resV v6).bind fun v7 =>
    some (v7, v5.2)
theorem main_eq (E : Env) (x0 : PV) (h : PHeap) : runBody (E.cx Tryd.prog kl) Tryd.f57 [x0] h = main E x0 h := by kernel_rfl
theorem call_eq (g : Nat → PV) (lf n : Nat) (x0 : PV) (h : PHeap) : CL g lf (n + 1) fn_impl_sizeOk [x0] h = main (env g lf n) x0 h := by
  rw [← main_eq]
  show call Tryd.prog g KL lf (n + 1) 57 [x0] h = _
  rw [call_succ, Tryd.func57]
  kernel_rfl
end impl_sizeOk
namespace impl_contentOk
noncomputable def main (E : Env) (x0 : PV) (h : PHeap) : Res :=
    (E.p.bin .eql 3 x0 (.int .i64 0)).bind fun v1 =>
    (wantV v1 false).bind fun v2 =>
    (bif v2 then some (x0, h) else some (.tup [], h)).bind fun v3 =>
    (wantV v1 false).bind fun v4 =>
    (bif v4 then pv v3.2 (E.p.bin .eql 3 v3.1 (.int .i64 1)) else some (.tup [], v3.2)).bind fun v5 =>
    (E.p.pick v1 (.bool true) v5.1).bind fun v6 =>
    (wantV v6 false).bind fun v7 =>
    (bif v7 then some (x0, v5.2) else some (.tup [], v5.2)).bind fun v8 =>
    (wantV v6 false).bind fun v9 =>
    (bif v9 then pv v8.2 (E.p.bin .eql 3 v8.1 (.int .i64 2)) else some (.tup [], v8.2)).bind fun v10 =>
    (E.p.pick v6 (.bool true) v10.1).bind fun v11 =>
    (resV v11).bind fun v12 =>
    some (v12, v10.2)
theorem main_eq (E : Env) (x0 : PV) (h : PHeap) : runBody (E.cx Tryd.prog kl) Tryd.f58 [x0] h = main E x0 h := by kernel_rfl
theorem call_eq (g : Nat → PV) (lf n : Nat) (x0 : PV) (h : PHeap) : CL g lf (n + 1) fn_impl_contentOk [x0] h = main (env g lf n) x0 h := by
  rw [← main_eq]
  show call Tryd.prog g KL lf (n + 1) 58 [x0] h = _
  rw [call_succ, Tryd.func58]
  kernel_rfl
end impl_contentOk
namespace impl_netGame_solved
noncomputable def lp0 : Code := (codeAt (bodyOf Tryd.f59) [1, 1, 0, 1, 0, 0])
def st0 (x2 x3 x6 : PV) (h : PHeap) : St := ⟨[.junk, .junk, x2, x3, .junk, .junk, x6, .junk, .junk, .junk, .junk, .junk, .junk, .junk, .junk, .junk, .junk, .junk, .junk, .junk, .junk, .junk, .junk, .junk, .junk, .junk, .junk, .junk, .junk, .junk, .junk, .junk], h⟩
def sr_4 (x4 : PV) (h : PHeap) : St := ⟨[.junk, .junk, .junk, .junk, x4, .junk, .junk, .junk, .junk, .junk, .junk, .junk, .junk, .junk, .junk, .junk, .junk, .junk, .junk, .junk, .junk, .junk, .junk, .junk, .junk, .junk, .junk, .junk, .junk, .junk, .junk, .junk], h⟩
def se0_2_3_6_17 (x2 x3 x6 x17 : PV) (h : PHeap) : St := ⟨[.junk, .junk, x2, x3, .junk, .junk, x6, .junk, .junk, .junk, .junk, .junk, .junk, .junk, .junk, .junk, .junk, x17, .junk, .junk, .junk, .junk, .junk, .junk, .junk, .junk, .junk, .junk, .junk, .junk, .junk, .junk], h⟩
noncomputable def K0 (E : Env) (K : PX → St → Res) : PX → St → Res := (kBlock 0 (kSeq (ev (E.cx Tryd.prog kl) (codeAt (bodyOf Tryd.f59) [1, 1, 1])) K))
@[simp] theorem K0_ret (E : Env) (K : PX → St → Res) (s : St) : K0 E K .ret s = K .ret s := by kernel_rfl
noncomputable def body0 (E : Env) (K : PX → St → Res) (x2 x3 x6 : PV) (h : PHeap) : Res :=
    (E.p.bin .neq 3 x6 (.int .i64 0)).bind fun v28 =>
    condP v28
     (
      (E.p.load 58 x2 h).bind fun v29 =>
      (E.p.load 63 x3 h).bind fun v30 =>
      (E.C fn_impl_leastIn [x6] h).bind fun v31 =>
      (E.p.load 63 x3 v31.2).bind fun v32 =>
      ckP (plainEq v30 v32) (
      (E.p.load 58 x2 v31.2).bind fun v33 =>
      ckP (plainEq v29 v33) (
      (E.C fn_impl_netGame_wins [v29, v30, v31.1] v31.2).bind fun v34 =>
      (E.p.load 63 x3 v34.2).bind fun v35 =>
      ckP (plainEq v30 v35) (
      (E.p.load 58 x2 v34.2).bind fun v36 =>
      ckP (plainEq v29 v36) (
      condP v34.1
       (
        (E.p.fieldAddr 63 x3 1).bind fun v37 =>
        (E.p.load 3 v37 v34.2).bind fun v38 =>
        K .ret (sr_4 v38 v34.2))
       (
        (E.p.bin .sub 3 x6 (.int .i64 1)).bind fun v39 =>
        (E.p.bin .and 3 x6 v39).bind fun v40 =>
        K .normal (st0 x2 x3 v40 v34.2)))))))
     (
      K (.exit 0) (se0_2_3_6_17 x2 x3 x6 v28 h))
theorem body0_eq (E : Env) (K : PX → St → Res) (x2 x3 x6 : PV) (h : PHeap) : ev (E.cx Tryd.prog kl) lp0 (st0 x2 x3 x6 h) K = body0 E K x2 x3 x6 h := by kernel_rfl
theorem after0_se0_2_3_6_17 (E : Env) (x2 x3 x6 x17 : PV) (h : PHeap) : K0 E (kTop Tryd.prog Tryd.f59) (.exit 0) (se0_2_3_6_17 x2 x3 x6 x17 h) =
    (E.p.fieldAddr 63 x3 1).bind fun v24 =>
    (E.p.load 3 v24 h).bind fun v25 =>
    (E.C fn_impl_exchanged [v25] h).bind fun v26 =>
    (resV v26.1).bind fun v27 =>
    some (v27, v26.2) := by kernel_rfl
theorem top_sr_4 (x4 : PV) (h : PHeap) : kTop Tryd.prog Tryd.f59 .ret (sr_4 x4 h) =
    (resV x4).bind fun v41 =>
    some (v41, h) := by kernel_rfl
noncomputable def main (E : Env) (x0 x1 : PV) (h : PHeap) : Res :=
    (E.p.box x0 h).bind fun v1 =>
    (E.p.box x1 v1.2).bind fun v2 =>
    (E.p.load 58 v1.1 v2.2).bind fun v3 =>
    (E.p.load 63 v2.1 v2.2).bind fun v4 =>
    (E.C fn_impl_netGame_won [v3, v4] v2.2).bind fun v5 =>
    (E.p.bin .neq 3 v5.1 (.int .i64 0)).bind fun v6 =>
    condP v6
     (
      (resV v5.1).bind fun v7 =>
      some (v7, v5.2))
     (
      (E.p.fieldAddr 63 v2.1 0).bind fun v8 =>
      (E.p.indexAddr 61 v8 (.int .i64 0)).bind fun v9 =>
      (E.p.load 3 v9 v5.2).bind fun v10 =>
      loopK (ev (E.cx Tryd.prog impl_netGame_solved.kl) impl_netGame_solved.lp0) E.lf (impl_netGame_solved.st0 v1.1 v2.1 v10 v5.2) (impl_netGame_solved.K0 E (kTop Tryd.prog Tryd.f59)))
theorem main_eq (E : Env) (x0 x1 : PV) (h : PHeap) : runBody (E.cx Tryd.prog kl) Tryd.f59 [x0, x1] h = main E x0 x1 h := by kernel_rfl
theorem call_eq (g : Nat → PV) (lf n : Nat) (x0 x1 : PV) (h : PHeap) : CL g lf (n + 1) fn_impl_netGame_solved [x0, x1] h = main (env g lf n) x0 x1 h := by
  rw [← main_eq]
  show call Tryd.prog g KL lf (n + 1) 59 [x0, x1] h = _
  rw [call_succ, Tryd.func59]
  kernel_rfl
end impl_netGame_solved
namespace impl_setOf
noncomputable def lp0 : Code := (codeAt (bodyOf Tryd.f60) [1, 1, 0, 1, 0, 0])
def st0 (x1 x5 x8 x9 x10 : PV) (h : PHeap) : St := ⟨[.junk, x1, .junk, .junk, .junk, x5, .junk, .junk, x8, x9, x10, .junk, .junk, .junk, .junk, .junk, .junk, .junk, .junk, .junk, .junk, .junk, .junk, .junk], h⟩
def se0_1_5_8_9_10_11 (x1 x5 x8 x9 x10 x11 : PV) (h : PHeap) : St := ⟨[.junk, x1, .junk, .junk, .junk, x5, .junk, .junk, x8, x9, x10, x11, .junk, .junk, .junk, .junk, .junk, .junk, .junk, .junk, .junk, .junk, .junk, .junk], h⟩
noncomputable def K0 (E : Env) (K : PX → St → Res) : PX → St → Res := (kBlock 0 (kSeq (ev (E.cx Tryd.prog kl) (codeAt (bodyOf Tryd.f60) [1, 1, 1])) K))
@[simp] theorem K0_ret (E : Env) (K : PX → St → Res) (s : St) : K0 E K .ret s = K .ret s := by kernel_rfl
noncomputable def body0 (E : Env) (K : PX → St → Res) (x1 x5 x8 x9 x10 : PV) (h : PHeap) : Res :=
    (E.p.bin .lss 3 x10 x9).bind fun v11 =>
    condP v11
     (
      (E.p.indexAddr 31 x8 x10).bind fun v12 =>
      (E.p.load 3 v12 h).bind fun v13 =>
      (E.p.bin .eql 3 v13 x1).bind fun v14 =>
      condP v14
       (
        (E.p.bin .shl 3 (.int .i64 1) x10).bind fun v15 =>
        (E.p.bin .or 3 x5 v15).bind fun v16 =>
        (E.p.bin .add 3 x10 (.int .i64 1)).bind fun v17 =>
        K .normal (st0 x1 v16 x8 x9 v17 h))
       (
        (E.p.bin .add 3 x10 (.int .i64 1)).bind fun v18 =>
        K .normal (st0 x1 x5 x8 x9 v18 h)))
     (
      K (.exit 0) (se0_1_5_8_9_10_11 x1 x5 x8 x9 x10 v11 h))
theorem body0_eq (E : Env) (K : PX → St → Res) (x1 x5 x8 x9 x10 : PV) (h : PHeap) : ev (E.cx Tryd.prog kl) lp0 (st0 x1 x5 x8 x9 x10 h) K = body0 E K x1 x5 x8 x9 x10 h := by kernel_rfl
theorem after0_se0_1_5_8_9_10_11 (E : Env) (x1 x5 x8 x9 x10 x11 : PV) (h : PHeap) : K0 E (kTop Tryd.prog Tryd.f60) (.exit 0) (se0_1_5_8_9_10_11 x1 x5 x8 x9 x10 x11 h) =
    (resV x5).bind fun v10 =>
    some (v10, h) := by kernel_rfl
noncomputable def main (E : Env) (x0 x1 : PV) (h : PHeap) : Res :=
    (E.p.len 31 x0).bind fun v1 =>
    loopK (ev (E.cx Tryd.prog impl_setOf.kl) impl_setOf.lp0) E.lf (impl_setOf.st0 x1 (.int .i64 0) x0 v1 (.int .i64 0) h) (impl_setOf.K0 E (kTop Tryd.prog Tryd.f60))
theorem main_eq (E : Env) (x0 x1 : PV) (h : PHeap) : runBody (E.cx Tryd.prog kl) Tryd.f60 [x0, x1] h = main E x0 x1 h := by kernel_rfl
theorem call_eq (g : Nat → PV) (lf n : Nat) (x0 x1 : PV) (h : PHeap) : CL g lf (n + 1) fn_impl_setOf [x0, x1] h = main (env g lf n) x0 x1 h := by
  rw [← main_eq]
  show call Tryd.prog g KL lf (n + 1) 60 [x0, x1] h = _
  rw [call_succ, Tryd.func60]
  kernel_rfl
end impl_setOf
namespace spec_l20Rd_odd
noncomputable def main (E : Env) (x0 x1 : PV) (h : PHeap) : Res :=
    (E.p.bin .gtr 3 x1 (.int .i64 0)).bind fun v1 =>
    (wantV v1 true).bind fun v2 =>
    (bif v2 then some (x0, h) else some (.tup [], h)).bind fun v3 =>
    (wantV v1 true).bind fun v4 =>
    (bif v4 then some (x1, v3.2) else some (.tup [], v3.2)).bind fun v5 =>
    (wantV v1 true).bind fun v6 =>
    (bif v6 then E.C fn_spec_l20Rd_pick [v3.1, v5.1] v5.2 else some (.tup [], v5.2)).bind fun v7 =>
    (wantV v1 true).bind fun v8 =>
    (bif v8 then some (x1, v7.2) else some (.tup [], v7.2)).bind fun v9 =>
    (wantV v1 true).bind fun v10 =>
    (bif v10 then pv v9.2 (E.p.bin .sub 3 v9.1 (.int .i64 1)) else some (.tup [], v9.2)).bind fun v11 =>
    (wantV v1 true).bind fun v12 =>
    (bif v12 then pv v11.2 (E.p.bin .eql 3 v7.1 v11.1) else some (.tup [], v11.2)).bind fun v13 =>
    (E.p.pick v1 v13.1 (.bool false)).bind fun v14 =>
    (resV v14).bind fun v15 =>
    some (v15, v13.2)
theorem main_eq (E : Env) (x0 x1 : PV) (h : PHeap) : runBody (E.cx Tryd.prog kl) Tryd.f61 [x0, x1] h = main E x0 x1 h := by kernel_rfl
theorem call_eq (g : Nat → PV) (lf n : Nat) (x0 x1 : PV) (h : PHeap) : CL g lf (n + 1) fn_spec_l20Rd_odd [x0, x1] h = main (env g lf n) x0 x1 h := by
  rw [← main_eq]
  show call Tryd.prog g KL lf (n + 1) 61 [x0, x1] h = _
  rw [call_succ, Tryd.func61]
  kernel_rfl
end spec_l20Rd_odd
namespace bits_OnesCount
noncomputable def main (E : Env) (x0 : PV) (h : PHeap) : Res :=
    condP (.bool false)
     (
      (E.p.conv 74 77 x0).bind fun v1 =>
      (E.C 69 [v1] h).bind fun v2 =>
      (resV v2.1).bind fun v3 =>
      some (v3, v2.2))
     (
      (E.C fn_bits_OnesCount64 [x0] h).bind fun v4 =>
      (resV v4.1).bind fun v5 =>
      some (v5, v4.2))
theorem main_eq (E : Env) (x0 : PV) (h : PHeap) : runBody (E.cx Tryd.prog kl) Tryd.f62 [x0] h = main E x0 h := by kernel_rfl
theorem call_eq (g : Nat → PV) (lf n : Nat) (x0 : PV) (h : PHeap) : CL g lf (n + 1) fn_bits_OnesCount [x0] h = main (env g lf n) x0 h := by
  rw [← main_eq]
  show call Tryd.prog g KL lf (n + 1) 62 [x0] h = _
  rw [call_succ, Tryd.func62]
  kernel_rfl
end bits_OnesCount
namespace impl_nodesBeside
noncomputable def lp0 : Code := (codeAt (bodyOf Tryd.f63) [1, 1, 0, 1, 0, 0])
def st0 (x0 x2 x7 x8 : PV) (h : PHeap) : St := ⟨[x0, .junk, x2, .junk, .junk, .junk, .junk, x7, x8, .junk, .junk, .junk, .junk, .junk, .junk, .junk, .junk, .junk, .junk, .junk, .junk, .junk, .junk, .junk, .junk, .junk, .junk, .junk, .junk, .junk, .junk, .junk, .junk, .junk, .junk, .junk, .junk, .junk], h⟩
def se0_0_2_7_8_13 (x0 x2 x7 x8 x13 : PV) (h : PHeap) : St := ⟨[x0, .junk, x2, .junk, .junk, .junk, .junk, x7, x8, .junk, .junk, .junk, .junk, x13, .junk, .junk, .junk, .junk, .junk, .junk, .junk, .junk, .junk, .junk, .junk, .junk, .junk, .junk, .junk, .junk, .junk, .junk, .junk, .junk, .junk, .junk, .junk, .junk], h⟩
noncomputable def K0 (E : Env) (K : PX → St → Res) : PX → St → Res := (kBlock 0 (kSeq (ev (E.cx Tryd.prog kl) (codeAt (bodyOf Tryd.f63) [1, 1, 1])) K))
@[simp] theorem K0_ret (E : Env) (K : PX → St → Res) (s : St) : K0 E K .ret s = K .ret s := by kernel_rfl
noncomputable def body0 (E : Env) (K : PX → St → Res) (x0 x2 x7 x8 : PV) (h : PHeap) : Res :=
    (E.p.bin .neq 3 x8 (.int .i64 0)).bind fun v22 =>
    condP v22
     (
      (E.C fn_impl_leastIn [x8] h).bind fun v23 =>
      (E.p.indexAddr 23 x0 v23.1).bind fun v24 =>
      (E.p.load 41 v24 v23.2).bind fun v25 =>
      (E.p.alloc 41 v23.2).bind fun v26 =>
      (E.p.store 41 v26.1 v25 v26.2).bind fun v27 =>
      (E.p.fieldAddr 41 v26.1 0).bind fun v28 =>
      (E.p.load 3 v28 v27).bind fun v29 =>
      (E.p.bin .shl 3 (.int .i64 1) v29).bind fun v30 =>
      (E.p.fieldAddr 41 v26.1 1).bind fun v31 =>
      (E.p.load 3 v31 v27).bind fun v32 =>
      (E.p.bin .shl 3 (.int .i64 1) v32).bind fun v33 =>
      (E.p.bin .or 3 v30 v33).bind fun v34 =>
      (E.p.bin .and 3 v34 x2).bind fun v35 =>
      (E.p.bin .neq 3 v35 (.int .i64 0)).bind fun v36 =>
      condP v36
       (
        (E.p.bin .or 3 x7 v34).bind fun v37 =>
        (E.p.bin .sub 3 x8 (.int .i64 1)).bind fun v38 =>
        (E.p.bin .and 3 x8 v38).bind fun v39 =>
        K .normal (st0 x0 x2 v37 v39 v27))
       (
        (E.p.bin .sub 3 x8 (.int .i64 1)).bind fun v40 =>
        (E.p.bin .and 3 x8 v40).bind fun v41 =>
        K .normal (st0 x0 x2 x7 v41 v27)))
     (
      K (.exit 0) (se0_0_2_7_8_13 x0 x2 x7 x8 v22 h))
theorem body0_eq (E : Env) (K : PX → St → Res) (x0 x2 x7 x8 : PV) (h : PHeap) : ev (E.cx Tryd.prog kl) lp0 (st0 x0 x2 x7 x8 h) K = body0 E K x0 x2 x7 x8 h := by kernel_rfl
theorem after0_se0_0_2_7_8_13 (E : Env) (x0 x2 x7 x8 x13 : PV) (h : PHeap) : K0 E (kTop Tryd.prog Tryd.f63) (.exit 0) (se0_0_2_7_8_13 x0 x2 x7 x8 x13 h) =
    (resV x7).bind fun v21 =>
    some (v21, h) := by kernel_rfl
noncomputable def main (E : Env) (x0 x1 x2 : PV) (h : PHeap) : Res :=
    loopK (ev (E.cx Tryd.prog impl_nodesBeside.kl) impl_nodesBeside.lp0) E.lf (impl_nodesBeside.st0 x0 x2 (.int .i64 0) x1 h) (impl_nodesBeside.K0 E (kTop Tryd.prog Tryd.f63))
theorem main_eq (E : Env) (x0 x1 x2 : PV) (h : PHeap) : runBody (E.cx Tryd.prog kl) Tryd.f63 [x0, x1, x2] h = main E x0 x1 x2 h := by kernel_rfl
theorem call_eq (g : Nat → PV) (lf n : Nat) (x0 x1 x2 : PV) (h : PHeap) : CL g lf (n + 1) fn_impl_nodesBeside [x0, x1, x2] h = main (env g lf n) x0 x1 x2 h := by
  rw [← main_eq]
  show call Tryd.prog g KL lf (n + 1) 63 [x0, x1, x2] h = _
  rw [call_succ, Tryd.func63]
  kernel_rfl
end impl_nodesBeside
namespace spec_l2List
noncomputable def lp0 : Code := (codeAt (bodyOf Tryd.f64) [1, 1, 0, 1, 0, 0])
def st0 (x0 x3 x4 : PV) (h : PHeap) : St := ⟨[x0, .junk, .junk, x3, x4, .junk, .junk, .junk, .junk, .junk, .junk, .junk, .junk, .junk, .junk, .junk, .junk, .junk, .junk, .junk, .junk, .junk], h⟩
def se0_0_3_4_9 (x0 x3 x4 x9 : PV) (h : PHeap) : St := ⟨[x0, .junk, .junk, x3, x4, .junk, .junk, .junk, .junk, x9, .junk, .junk, .junk, .junk, .junk, .junk, .junk, .junk, .junk, .junk, .junk, .junk], h⟩
noncomputable def K0 (E : Env) (K : PX → St → Res) : PX → St → Res := (kBlock 0 (kSeq (ev (E.cx Tryd.prog kl) (codeAt (bodyOf Tryd.f64) [1, 1, 1])) K))
@[simp] theorem K0_ret (E : Env) (K : PX → St → Res) (s : St) : K0 E K .ret s = K .ret s := by kernel_rfl
noncomputable def body0 (E : Env) (K : PX → St → Res) (x0 x3 x4 : PV) (h : PHeap) : Res :=
    (E.p.bin .shr 3 x0 x4).bind fun v12 =>
    (E.p.bin .gtr 3 v12 (.int .i64 0)).bind fun v13 =>
    condP v13
     (
      (E.p.bin .shr 3 x0 x4).bind fun v14 =>
      (E.p.bin .rem 3 v14 (.int .i64 2)).bind fun v15 =>
      (E.p.bin .eql 3 v15 (.int .i64 1)).bind fun v16 =>
      condP v16
       (
        (E.p.buildSlice 31 1 [(0, x4)] h).bind fun v17 =>
        (E.p.append 31 31 x3 v17.1 v17.2).bind fun v18 =>
        (E.p.bin .add 3 x4 (.int .i64 1)).bind fun v19 =>
        K .normal (st0 x0 v18.1 v19 v18.2))
       (
        (E.p.bin .add 3 x4 (.int .i64 1)).bind fun v20 =>
        K .normal (st0 x0 x3 v20 h)))
     (
      K (.exit 0) (se0_0_3_4_9 x0 x3 x4 v13 h))
theorem body0_eq (E : Env) (K : PX → St → Res) (x0 x3 x4 : PV) (h : PHeap) : ev (E.cx Tryd.prog kl) lp0 (st0 x0 x3 x4 h) K = body0 E K x0 x3 x4 h := by kernel_rfl
theorem after0_se0_0_3_4_9 (E : Env) (x0 x3 x4 x9 : PV) (h : PHeap) : K0 E (kTop Tryd.prog Tryd.f64) (.exit 0) (se0_0_3_4_9 x0 x3 x4 x9 h) =
    (resV x3).bind fun v11 =>
    some (v11, h) := by kernel_rfl
noncomputable def main (E : Env) (x0 : PV) (h : PHeap) : Res :=
    (E.p.buildSlice 31 0 [] h).bind fun v1 =>
    loopK (ev (E.cx Tryd.prog spec_l2List.kl) spec_l2List.lp0) E.lf (spec_l2List.st0 x0 v1.1 (.int .i64 0) v1.2) (spec_l2List.K0 E (kTop Tryd.prog Tryd.f64))
theorem main_eq (E : Env) (x0 : PV) (h : PHeap) : runBody (E.cx Tryd.prog kl) Tryd.f64 [x0] h = main E x0 h := by kernel_rfl
theorem call_eq (g : Nat → PV) (lf n : Nat) (x0 : PV) (h : PHeap) : CL g lf (n + 1) fn_spec_l2List [x0] h = main (env g lf n) x0 h := by
  rw [← main_eq]
  show call Tryd.prog g KL lf (n + 1) 64 [x0] h = _
  rw [call_succ, Tryd.func64]
  kernel_rfl
end spec_l2List
namespace impl_netGame_won
noncomputable def main (E : Env) (x0 x1 : PV) (h : PHeap) : Res :=
    (E.p.box x0 h).bind fun v1 =>
    (E.p.box x1 v1.2).bind fun v2 =>
    (E.p.fieldAddr 58 v1.1 0).bind fun v3 =>
    (E.p.load 23 v3 v2.2).bind fun v4 =>
    (E.p.fieldAddr 63 v2.1 0).bind fun v5 =>
    (E.p.indexAddr 61 v5 (.int .i64 1)).bind fun v6 =>
    (E.p.load 3 v6 v2.2).bind fun v7 =>
    (E.p.fieldAddr 63 v2.1 0).bind fun v8 =>
    (E.p.indexAddr 61 v8 (.int .i64 0)).bind fun v9 =>
    (E.p.load 3 v9 v2.2).bind fun v10 =>
    (E.C fn_impl_wonBy [v4, v7, v10] v2.2).bind fun v11 =>
    (resV v11.1).bind fun v12 =>
    some (v12, v11.2)
theorem main_eq (E : Env) (x0 x1 : PV) (h : PHeap) : runBody (E.cx Tryd.prog kl) Tryd.f65 [x0, x1] h = main E x0 x1 h := by kernel_rfl
theorem call_eq (g : Nat → PV) (lf n : Nat) (x0 x1 : PV) (h : PHeap) : CL g lf (n + 1) fn_impl_netGame_won [x0, x1] h = main (env g lf n) x0 x1 h := by
  rw [← main_eq]
  show call Tryd.prog g KL lf (n + 1) 65 [x0, x1] h = _
  rw [call_succ, Tryd.func65]
  kernel_rfl
end impl_netGame_won
namespace impl_netGame_wins
noncomputable def main (E : Env) (x0 x1 x2 : PV) (h : PHeap) : Res :=
    (E.p.box x0 h).bind fun v1 =>
    (E.p.box x1 v1.2).bind fun v2 =>
    (E.p.load 58 v1.1 v2.2).bind fun v3 =>
    (E.p.load 63 v2.1 v2.2).bind fun v4 =>
    (E.p.fieldAddr 63 v2.1 1).bind fun v5 =>
    (E.p.load 3 v5 v2.2).bind fun v6 =>
    (E.C fn_impl_standing_after [v4, x2] v2.2).bind fun v7 =>
    (E.p.load 3 v5 v7.2).bind fun v8 =>
    ckP (plainEq v6 v8) (
    (E.p.load 63 v2.1 v7.2).bind fun v9 =>
    ckP (plainEq v4 v9) (
    (E.p.load 58 v1.1 v7.2).bind fun v10 =>
    ckP (plainEq v3 v10) (
    (E.C fn_impl_netGame_winner [v3, v7.1] v7.2).bind fun v11 =>
    (E.p.load 3 v5 v11.2).bind fun v12 =>
    ckP (plainEq v6 v12) (
    (E.p.load 63 v2.1 v11.2).bind fun v13 =>
    ckP (plainEq v4 v13) (
    (E.p.load 58 v1.1 v11.2).bind fun v14 =>
    ckP (plainEq v3 v14) (
    (E.p.bin .eql 3 v11.1 v6).bind fun v15 =>
    (resV v15).bind fun v16 =>
    some (v16, v11.2)))))))
theorem main_eq (E : Env) (x0 x1 x2 : PV) (h : PHeap) : runBody (E.cx Tryd.prog kl) Tryd.f66 [x0, x1, x2] h = main E x0 x1 x2 h := by kernel_rfl
theorem call_eq (g : Nat → PV) (lf n : Nat) (x0 x1 x2 : PV) (h : PHeap) : CL g lf (n + 1) fn_impl_netGame_wins [x0, x1, x2] h = main (env g lf n) x0 x1 x2 h := by
  rw [← main_eq]
  show call Tryd.prog g KL lf (n + 1) 66 [x0, x1, x2] h = _
  rw [call_succ, Tryd.func66]
  kernel_rfl
end impl_netGame_wins
namespace impl_leastIn
noncomputable def main (E : Env) (x0 : PV) (h : PHeap) : Res :=
    (E.p.conv 3 74 x0).bind fun v1 =>
    (E.C fn_bits_TrailingZeros [v1] h).bind fun v2 =>
    (resV v2.1).bind fun v3 =>
    some (v3, v2.2)
theorem main_eq (E : Env) (x0 : PV) (h : PHeap) : runBody (E.cx Tryd.prog kl) Tryd.f67 [x0] h = main E x0 h := by kernel_rfl
theorem call_eq (g : Nat → PV) (lf n : Nat) (x0 : PV) (h : PHeap) : CL g lf (n + 1) fn_impl_leastIn [x0] h = main (env g lf n) x0 h := by
  rw [← main_eq]
  show call Tryd.prog g KL lf (n + 1) 67 [x0] h = _
  rw [call_succ, Tryd.func67]
  kernel_rfl
end impl_leastIn
namespace impl_exchanged
noncomputable def main (E : Env) (x0 : PV) (h : PHeap) : Res :=
    (E.p.bin .eql 3 x0 (.int .i64 1)).bind fun v1 =>
    condP v1
     (
      (resV (.int .i64 2)).bind fun v2 =>
      some (v2, h))
     (
      (E.p.bin .eql 3 x0 (.int .i64 2)).bind fun v3 =>
      condP v3
       (
        (resV (.int .i64 1)).bind fun v4 =>
        some (v4, h))
       (
        (resV x0).bind fun v5 =>
        some (v5, h)))
theorem main_eq (E : Env) (x0 : PV) (h : PHeap) : runBody (E.cx Tryd.prog kl) Tryd.f68 [x0] h = main E x0 h := by kernel_rfl
theorem call_eq (g : Nat → PV) (lf n : Nat) (x0 : PV) (h : PHeap) : CL g lf (n + 1) fn_impl_exchanged [x0] h = main (env g lf n) x0 h := by
  rw [← main_eq]
  show call Tryd.prog g KL lf (n + 1) 68 [x0] h = _
  rw [call_succ, Tryd.func68]
  kernel_rfl
end impl_exchanged
namespace bits_OnesCount64
noncomputable def main (E : Env) (x0 : PV) (h : PHeap) : Res :=
    (E.p.bin .shr 79 x0 (.int .u64 1)).bind fun v1 =>
    (E.p.bin .and 79 v1 (.int .u64 6148914691236517205)).bind fun v2 =>
    (E.p.bin .and 79 x0 (.int .u64 6148914691236517205)).bind fun v3 =>
    (E.p.bin .add 79 v2 v3).bind fun v4 =>
    (E.p.bin .shr 79 v4 (.int .u64 2)).bind fun v5 =>
    (E.p.bin .and 79 v5 (.int .u64 3689348814741910323)).bind fun v6 =>
    (E.p.bin .and 79 v4 (.int .u64 3689348814741910323)).bind fun v7 =>
    (E.p.bin .add 79 v6 v7).bind fun v8 =>
    (E.p.bin .shr 79 v8 (.int .u64 4)).bind fun v9 =>
    (E.p.bin .add 79 v9 v8).bind fun v10 =>
    (E.p.bin .and 79 v10 (.int .u64 1085102592571150095)).bind fun v11 =>
    (E.p.bin .shr 79 v11 (.int .u64 8)).bind fun v12 =>
    (E.p.bin .add 79 v11 v12).bind fun v13 =>
    (E.p.bin .shr 79 v13 (.int .u64 16)).bind fun v14 =>
    (E.p.bin .add 79 v13 v14).bind fun v15 =>
    (E.p.bin .shr 79 v15 (.int .u64 32)).bind fun v16 =>
    (E.p.bin .add 79 v15 v16).bind fun v17 =>
    (E.p.conv 79 3 v17).bind fun v18 =>
    (E.p.bin .and 3 v18 (.int .i64 127)).bind fun v19 =>
    (resV v19).bind fun v20 =>
    some (v20, h)
theorem main_eq (E : Env) (x0 : PV) (h : PHeap) : runBody (E.cx Tryd.prog kl) Tryd.f70 [x0] h = main E x0 h := by kernel_rfl
theorem call_eq (g : Nat → PV) (lf n : Nat) (x0 : PV) (h : PHeap) : CL g lf (n + 1) fn_bits_OnesCount64 [x0] h = main (env g lf n) x0 h := by
  rw [← main_eq]
  show call Tryd.prog g KL lf (n + 1) 70 [x0] h = _
  rw [call_succ, Tryd.func70]
  kernel_rfl
end bits_OnesCount64
namespace impl_wonBy
noncomputable def main (E : Env) (x0 x1 x2 : PV) (h : PHeap) : Res :=
    (E.C fn_impl_linked [x0, x1] h).bind fun v1 =>
    condP v1.1
     (
      (resV (.int .i64 1)).bind fun v2 =>
      some (v2, v1.2))
     (
      (E.p.bin .or 3 x1 x2).bind fun v3 =>
      (E.C fn_impl_linked [x0, v3] v1.2).bind fun v4 =>
      (E.p.un .not v4.1).bind fun v5 =>
      condP v5
       (
        (resV (.int .i64 2)).bind fun v6 =>
        some (v6, v4.2))
       (
        (resV (.int .i64 0)).bind fun v7 =>
        some (v7, v4.2)))
theorem main_eq (E : Env) (x0 x1 x2 : PV) (h : PHeap) : runBody (E.cx Tryd.prog kl) Tryd.f71 [x0, x1, x2] h = main E x0 x1 x2 h := by kernel_rfl
theorem call_eq (g : Nat → PV) (lf n : Nat) (x0 x1 x2 : PV) (h : PHeap) : CL g lf (n + 1) fn_impl_wonBy [x0, x1, x2] h = main (env g lf n) x0 x1 x2 h := by
  rw [← main_eq]
  show call Tryd.prog g KL lf (n + 1) 71 [x0, x1, x2] h = _
  rw [call_succ, Tryd.func71]
  kernel_rfl
end impl_wonBy
namespace impl_standing_after
noncomputable def main (E : Env) (x0 x1 : PV) (h : PHeap) : Res :=
    (E.p.box x0 h).bind fun v1 =>
    (E.p.alloc 63 v1.2).bind fun v2 =>
    (E.p.fieldAddr 63 v1.1 0).bind fun v3 =>
    (E.p.indexAddr 61 v3 (.int .i64 0)).bind fun v4 =>
    (E.p.bin .shl 3 (.int .i64 1) x1).bind fun v5 =>
    (E.p.fieldAddr 63 v1.1 0).bind fun v6 =>
    (E.p.load 3 v4 v2.2).bind fun v7 =>
    (E.p.bin .andNot 3 v7 v5).bind fun v8 =>
    (E.p.indexAddr 61 v6 (.int .i64 0)).bind fun v9 =>
    (E.p.store 3 v9 v8 v2.2).bind fun v10 =>
    (E.p.fieldAddr 63 v1.1 1).bind fun v11 =>
    (E.p.fieldAddr 63 v1.1 0).bind fun v12 =>
    (E.p.bin .shl 3 (.int .i64 1) x1).bind fun v13 =>
    (E.p.fieldAddr 63 v1.1 0).bind fun v14 =>
    (E.p.load 3 v11 v10).bind fun v15 =>
    (E.p.indexAddr 61 v12 v15).bind fun v16 =>
    (E.p.load 3 v16 v10).bind fun v17 =>
    (E.p.bin .or 3 v17 v13).bind fun v18 =>
    (E.p.indexAddr 61 v14 v15).bind fun v19 =>
    (E.p.store 3 v19 v18 v10).bind fun v20 =>
    (E.p.fieldAddr 63 v1.1 1).bind fun v21 =>
    (E.p.load 3 v21 v20).bind fun v22 =>
    (E.C fn_impl_exchanged [v22] v20).bind fun v23 =>
    (E.p.fieldAddr 63 v1.1 1).bind fun v24 =>
    (E.p.store 3 v24 v23.1 v23.2).bind fun v25 =>
    (E.p.load 63 v1.1 v25).bind fun v26 =>
    (E.p.store 63 v2.1 v26 v25).bind fun v27 =>
    (loadP Tryd.prog 63 v2.1 v27).bind fun v28 =>
    some (v28, v27)
theorem main_eq (E : Env) (x0 x1 : PV) (h : PHeap) : runBody (E.cx Tryd.prog kl) Tryd.f72 [x0, x1] h = main E x0 x1 h := by kernel_rfl
theorem call_eq (g : Nat → PV) (lf n : Nat) (x0 x1 : PV) (h : PHeap) : CL g lf (n + 1) fn_impl_standing_after [x0, x1] h = main (env g lf n) x0 x1 h := by
  rw [← main_eq]
  show call Tryd.prog g KL lf (n + 1) 72 [x0, x1] h = _
  rw [call_succ, Tryd.func72]
  kernel_rfl
end impl_standing_after
namespace bits_TrailingZeros
noncomputable def main (E : Env) (x0 : PV) (h : PHeap) : Res :=
    condP (.bool false)
     (
      (E.p.conv 74 77 x0).bind fun v1 =>
      (E.C fn_bits_TrailingZeros32 [v1] h).bind fun v2 =>
      (resV v2.1).bind fun v3 =>
      some (v3, v2.2))
     (
      (E.C fn_bits_TrailingZeros64 [x0] h).bind fun v4 =>
      (resV v4.1).bind fun v5 =>
      some (v5, v4.2))
theorem main_eq (E : Env) (x0 : PV) (h : PHeap) : runBody (E.cx Tryd.prog kl) Tryd.f73 [x0] h = main E x0 h := by kernel_rfl
theorem call_eq (g : Nat → PV) (lf n : Nat) (x0 : PV) (h : PHeap) : CL g lf (n + 1) fn_bits_TrailingZeros [x0] h = main (env g lf n) x0 h := by
  rw [← main_eq]
  show call Tryd.prog g KL lf (n + 1) 73 [x0] h = _
  rw [call_succ, Tryd.func73]
  kernel_rfl
end bits_TrailingZeros
namespace bits_TrailingZeros32
noncomputable def main (E : Env) (x0 : PV) (h : PHeap) : Res :=
    (E.p.bin .eql 77 x0 (.int .u32 0)).bind fun v1 =>
    condP v1
     (
      (resV (.int .i64 32)).bind fun v2 =>
      some (v2, h))
     (
      (E.p.un .neg x0).bind fun v3 =>
      (E.p.bin .and 77 x0 v3).bind fun v4 =>
      (E.p.bin .mul 77 v4 (.int .u32 125613361)).bind fun v5 =>
      (E.p.bin .shr 77 v5 (.int .u64 27)).bind fun v6 =>
      (E.p.indexAddr 81 (E.g 0) v6).bind fun v7 =>
      (E.p.load 5 v7 h).bind fun v8 =>
      (E.p.conv 5 3 v8).bind fun v9 =>
      (resV v9).bind fun v10 =>
      some (v10, h))
theorem main_eq (E : Env) (x0 : PV) (h : PHeap) : runBody (E.cx Tryd.prog kl) Tryd.f74 [x0] h = main E x0 h := by kernel_rfl
theorem call_eq (g : Nat → PV) (lf n : Nat) (x0 : PV) (h : PHeap) : CL g lf (n + 1) fn_bits_TrailingZeros32 [x0] h = main (env g lf n) x0 h := by
  rw [← main_eq]
  show call Tryd.prog g KL lf (n + 1) 74 [x0] h = _
  rw [call_succ, Tryd.func74]
  kernel_rfl
end bits_TrailingZeros32
namespace bits_TrailingZeros64
noncomputable def main (E : Env) (x0 : PV) (h : PHeap) : Res :=
    (E.p.bin .eql 79 x0 (.int .u64 0)).bind fun v1 =>
    condP v1
     (
      (resV (.int .i64 64)).bind fun v2 =>
      some (v2, h))
     (
      (E.p.un .neg x0).bind fun v3 =>
      (E.p.bin .and 79 x0 v3).bind fun v4 =>
      (E.p.bin .mul 79 v4 (.int .u64 285870213051353865)).bind fun v5 =>
      (E.p.bin .shr 79 v5 (.int .u64 58)).bind fun v6 =>
      (E.p.indexAddr 82 (E.g 1) v6).bind fun v7 =>
      (E.p.load 5 v7 h).bind fun v8 =>
      (E.p.conv 5 3 v8).bind fun v9 =>
      (resV v9).bind fun v10 =>
      some (v10, h))
theorem main_eq (E : Env) (x0 : PV) (h : PHeap) : runBody (E.cx Tryd.prog kl) Tryd.f75 [x0] h = main E x0 h := by kernel_rfl
theorem call_eq (g : Nat → PV) (lf n : Nat) (x0 : PV) (h : PHeap) : CL g lf (n + 1) fn_bits_TrailingZeros64 [x0] h = main (env g lf n) x0 h := by
  rw [← main_eq]
  show call Tryd.prog g KL lf (n + 1) 75 [x0] h = _
  rw [call_succ, Tryd.func75]
  kernel_rfl
end bits_TrailingZeros64
end Go.Proofs.YtbmmcldbllhhhaaDoor.G

/- Which boards there are: what the program's and the model's functions on a board's sides compute. -/
set_option maxRecDepth 20000
namespace Go.Proofs.YtbmmcldbllhhhaaDoor
open Go Go.Ip G

def boardB (r c : Int) : Bool := decide (1 ≤ r ∧ r ≤ 4 ∧ 1 ≤ c ∧ c ≤ 4 ∧ r * c ≤ 9)

theorem mul_small {r c : Int} (h1 : 1 ≤ r) (h2 : r ≤ 4) (h3 : 1 ≤ c) (h4 : c ≤ 4) : IntKind.i64.wrap (r * c) = r * c := by
  have : r = 1 ∨ r = 2 ∨ r = 3 ∨ r = 4 := by omega
  rcases this with rfl | rfl | rfl | rfl <;> exact wr (by omega)

variable (g : Nat → PV) (lf n : Nat) (h : PHeap)

theorem sizeOk_calls (a : Int) : CL g lf (n + 1) fn_impl_sizeOk [.int .i64 a] h = some (.bool (decide (1 ≤ a ∧ a ≤ 4)), h) := by
  rw [impl_sizeOk.call_eq]
  by_cases h1 : 1 ≤ a <;> simp [impl_sizeOk.main, h1]

theorem boardOk_calls (r c : Int) : CL g lf (n + 2) fn_impl_BoardOk [.int .i64 r, .int .i64 c] h = some (.bool (boardB r c), h) := by
  rw [impl_BoardOk.call_eq]
  by_cases h1 : 1 ≤ r ∧ r ≤ 4
  · by_cases h2 : 1 ≤ c ∧ c ≤ 4
    · simp [impl_BoardOk.main, sizeOk_calls, h1, h2, boardB, mul_small h1.1 h1.2 h2.1 h2.2]
    · have hb : boardB r c = false := by unfold boardB; simp; omega
      simp [impl_BoardOk.main, sizeOk_calls, h1, h2, hb]
  · have hb : boardB r c = false := by unfold boardB; simp; omega
    simp [impl_BoardOk.main, sizeOk_calls, h1, hb]

theorem l1In_calls (a lo hi : Int) : CL g lf (n + 1) fn_spec_l1In [.int .i64 a, .int .i64 lo, .int .i64 hi] h = some (.bool (decide (lo ≤ a ∧ a ≤ hi)), h) := by
  rw [spec_l1In.call_eq]
  by_cases h1 : lo ≤ a <;> simp [spec_l1In.main, h1]

end Go.Proofs.YtbmmcldbllhhhaaDoor

/- What the laws' helpers on slices of integers, and both functions that check a position, compute. -/
set_option maxRecDepth 20000
namespace Go.Proofs.YtbmmcldbllhhhaaDoor
open Go Go.Ip G

variable (g : Nat → PV) (lf n : Nat)

/-! ### toIntS: a copy -/
/-! ### eqIntS: are two lists equal? -/
/-! ### positions -/
def contentB (x : Int) : Bool := decide (0 ≤ x ∧ x ≤ 2)
def posB (r c : Int) (xs : List Int) : Bool := boardB r c && decide ((xs.length : Int) = r * c) && xs.all contentB

theorem contentOk_calls (a : Int) (h : PHeap) : CL g lf (n + 1) fn_impl_contentOk [.int .i64 a] h = some (.bool (contentB a), h) := by
  rw [impl_contentOk.call_eq]
  by_cases h0 : a = 0
  · subst h0; simp [impl_contentOk.main, contentB]
  · by_cases h1 : a = 1
    · subst h1; simp [impl_contentOk.main, contentB]
    · by_cases h2 : a = 2
      · subst h2; simp [impl_contentOk.main, contentB]
      · have : contentB a = false := by unfold contentB; simp; omega
        have b0 : (a == 0) = false := by simp [h0]
        have b1 : (a == 1) = false := by simp [h1]
        have b2 : (a == 2) = false := by simp [h2]
        simp [impl_contentOk.main, b0, b1, b2, this]

end Go.Proofs.YtbmmcldbllhhhaaDoor

/- The exact law on positions. -/
set_option maxRecDepth 20000
namespace Go.Proofs.YtbmmcldbllhhhaaDoor
open Go Go.Ip G

variable (g : Nat → PV) (lf n : Nat)

end Go.Proofs.YtbmmcldbllhhhaaDoor

/- The marks that the exact laws lay and look for, and the lists that both programs make of a position. -/
set_option maxRecDepth 20000
namespace Go.Proofs.YtbmmcldbllhhhaaDoor
open Go Go.Ip G

/-- A slice of the call's own, among the objects from n up to m. -/
def OwnB (n m : Nat) (h : PHeap) (p : PV) (xs : List Int) : Prop :=
  (p = .nilsl ∧ xs = []) ∨ ∃ id, n ≤ id ∧ id < m ∧ p = .sl id 0 xs.length ∧ h[id]? = some (.own 1 (xs.map (.int .i64)))

theorem OwnSl.b {n : Nat} {h : PHeap} {p : PV} {xs : List Int} (s : OwnSl n h p xs) : OwnB n h.length h p xs := by
  rcases s with s | ⟨id, h1, h2, h3⟩
  · exact .inl s
  · exact .inr ⟨id, h1, (List.getElem?_eq_some_iff.1 h3).1, h2, h3⟩

theorem OwnB.sl {n m : Nat} {h : PHeap} {p : PV} {xs : List Int} (s : OwnB n m h p xs) : OwnSl n h p xs := by
  rcases s with s | ⟨id, h1, _, h2, h3⟩
  · exact .inl s
  · exact .inr ⟨id, h1, h2, h3⟩

theorem OwnB.int {n m : Nat} {h : PHeap} {p : PV} {xs : List Int} (s : OwnB n m h p xs) : IntSl .i64 h p xs := s.sl.int

/-- Only the objects from n up to m may have been written to. -/
def Only (n m : Nat) (h h' : PHeap) : Prop := h'.length = h.length ∧ ∀ i, (i < n ∨ m ≤ i) → h'[i]? = h[i]?

theorem Only.refl (n m : Nat) (h : PHeap) : Only n m h h := ⟨rfl, fun _ _ => rfl⟩
theorem Only.trans {n m : Nat} {a b c : PHeap} (h : Only n m a b) (k : Only n m b c) : Only n m a c := ⟨k.1.trans h.1, fun i hi => (k.2 i hi).trans (h.2 i hi)⟩
theorem Only.keep {n m : Nat} {a b : PHeap} (h : Only n m a b) : Keep n a b := ⟨by rw [h.1]; exact Nat.le_refl _, fun i hi => h.2 i (.inl hi)⟩

theorem OwnB.keep {n m : Nat} {h h' : PHeap} {p : PV} {xs : List Int} (s : OwnB n m h p xs) (k : Keep m h h') : OwnB n m h' p xs := by
  rcases s with s | ⟨id, h1, h2, h3, h4⟩
  · exact .inl s
  · exact .inr ⟨id, h1, h2, h3, by rw [k.2 id h2]; exact h4⟩

theorem OwnB.only {n m n' m' : Nat} {h h' : PHeap} {p : PV} {xs : List Int} (s : OwnB n m h p xs) (k : Only n' m' h h') (hd : m ≤ n' ∨ m' ≤ n) : OwnB n m h' p xs := by
  rcases s with s | ⟨id, h1, h2, h3, h4⟩
  · exact .inl s
  · exact .inr ⟨id, h1, h2, h3, by rw [k.2 id (by omega)]; exact h4⟩

theorem OwnB.store {n m : Nat} {h : PHeap} {p : PV} {xs : List Int} (s : OwnB n m h p xs) {i : Nat} (hi : i < xs.length) (x : Int) :
    ∃ a h', indexAddrP Tryd.prog 31 p (.int .i64 i) = some a ∧ storeP Tryd.prog 3 a (.int .i64 x) h = some h' ∧ OwnB n m h' p (xs.set i x) ∧ Only n m h h' := by
  rcases s with ⟨rfl, rfl⟩ | ⟨id, h1, h2, rfl, h3⟩
  · simp at hi
  · have hid : id < h.length := (List.getElem?_eq_some_iff.1 h3).1
    refine ⟨.ptr id (0 + i), h.set id (.own 1 ((xs.set i x).map (.int .i64))), by simp [indexAddrP, tySize, hi], ?_, .inr ⟨id, h1, h2, by simp, by rw [List.getElem?_set_self hid]⟩, ⟨by simp, fun j hj => List.getElem?_set_ne (by omega)⟩⟩
    simp only [storeP, h3, PV.cells, tySize, Nat.zero_add]
    rw [if_pos ⟨rfl, by simp; omega⟩]
    simp [setCells, List.map_set]

/-- k, k + 1, k + 2 .. -/
def marks (k : Int) : Nat → List Int
  | 0 => []
  | n + 1 => k :: marks (k + 1) n

variable (g : Nat → PV) (lf n : Nat)

end Go.Proofs.YtbmmcldbllhhhaaDoor

/- The cells of one kind, and a position turned by half a turn: both programs, and their exact laws. -/
set_option maxRecDepth 20000
namespace Go.Proofs.YtbmmcldbllhhhaaDoor
open Go Go.Ip G

variable (g : Nat → PV) (lf n : Nat)

theorem OwnSl.res {n : Nat} {h : PHeap} {p : PV} {xs : List Int} (s : OwnSl n h p xs) : resV p = some p := by
  rcases s with ⟨rfl, _⟩ | ⟨id, _, rfl, _⟩ <;> rfl

end Go.Proofs.YtbmmcldbllhhhaaDoor

/- A position turned by half a turn: both programs, and the exact law. -/
set_option maxRecDepth 20000
namespace Go.Proofs.YtbmmcldbllhhhaaDoor
open Go Go.Ip G

variable (g : Nat → PV) (lf n : Nat)

end Go.Proofs.YtbmmcldbllhhhaaDoor

/- The reader from which the model draws: what a pick may come to. -/
set_option maxRecDepth 20000
namespace Go.Proofs.YtbmmcldbllhhhaaDoor
open Go Go.Ip Go.RowKit G

/-- A slice of bytes that came in, as the interpreter's heap holds it: the first object. -/
def Arg (h : PHeap) (p : PV) (xs : List Int) : Prop :=
  (∀ h', Keep 1 h h' → IntSl .u8 h' p xs) ∧ 1 ≤ h.length ∧ (∀ id off len, p = .sl id off len → 0 < len → id = 0 ∧ eszAt h id = 1) ∧ ∀ b ∈ xs, 0 ≤ b ∧ b ≤ 255

theorem arg_of {w : World} {a : Option Addr} {len cap : Nat} {zs : List Int}
    (h : (a = none ∧ len = 0 ∧ cap = 0 ∧ zs = []) ∨ ∃ x, a = some x ∧ len ≤ cap ∧ cap ≤ maxLen ∧ zs.length = cap ∧ (∀ i, i < zs.length → w.cell? (x.add i) = some (.int .u8 (zs.getD i 0))) ∧ ∀ n ∈ zs, (Lit.int .u8 n).wf = true) :
    ∃ μ o p, Sim w.heap.size w μ [o] w ∧ rep μ p (.slice a len cap) ∧ Arg [o] p (zs.take len) := by
  obtain ⟨μ, o, p, sim, hr, hs, hlen, hmax, hwf, hobj⟩ := row_arg h
  have hb : ∀ b ∈ zs.take len, 0 ≤ b ∧ b ≤ 255 := by
    intro b hb
    have := hwf b hb
    simp only [Lit.wf, IntKind.has, IntKind.min, IntKind.max, IntKind.signed, IntKind.bits] at this
    simp at this
    omega
  by_cases h0 : len = 0
  · refine ⟨μ, o, p, sim, hr, ?_, Nat.le_refl _, ?_, hb⟩
    · intro h' _
      rcases hs with hs | ⟨id, off, hp, hc⟩
      · exact .inl hs
      · exact .inr ⟨id, off, hp, fun i x hx => by simp [h0] at hx⟩
    · intro id off l hp hl
      subst hp
      obtain ⟨_, _, _, _, e, _⟩ := rep_sl hr
      cases e
      omega
  · rcases hs with ⟨_, hs⟩ | ⟨id, off, hp, hc⟩
    · rw [hs] at hlen; simp at hlen; omega
    · have hlt : 0 < (zs.take len).length := by omega
      have hid : id = 0 := by
        have := lt_of_cell (hc 0 _ (List.getElem?_eq_getElem hlt))
        simp at this
        exact this
      subst hid
      refine ⟨μ, o, p, sim, hr, ?_, Nat.le_refl _, ?_, hb⟩
      · intro h' hk
        exact .inr ⟨0, off, hp, fun i x hx => by rw [cellsAt_keep hk (by omega)]; exact hc i x hx⟩
      · intro id' off' l hp' hl
        rw [hp] at hp'
        cases hp'
        refine ⟨rfl, ?_⟩
        rcases hobj with rfl | ⟨c, rfl⟩
        · have := hc 0 _ (List.getElem?_eq_getElem hlt)
          simp [cellsAt, PObj.get] at this
        · rfl

theorem fa0 (id off : Nat) : fieldAddrP Tryd.prog 67 (.ptr id off) 0 = some (.ptr id (off + 0)) := by kernel_rfl
theorem fa1 (id off : Nat) : fieldAddrP Tryd.prog 67 (.ptr id off) 1 = some (.ptr id (off + 1)) := by kernel_rfl
theorem tyB : Tryd.prog.underlying 22 = some (.slice 5) := by kernel_rfl
theorem tyBSize : sizeT Tryd.prog 5 = some 1 := by kernel_rfl
theorem tyBAgg : isAggT Tryd.prog 5 = some false := by kernel_rfl
theorem tyBsAgg : isAggT Tryd.prog 22 = some false := by kernel_rfl
theorem tyBElem : elemT Tryd.prog 22 = some 5 := by kernel_rfl
theorem conv_byte (k : IntKind) (x : Int) : convP Tryd.prog 5 3 (.int k x) = some (.int .i64 (IntKind.i64.wrap x)) := by kernel_rfl
theorem build_sl (a b c : Nat) : buildP Tryd.prog 67 [(0, .sl a b c)] = some (.agg [.sl a b c, .int .i64 0]) := by kernel_rfl
theorem build_nil : buildP Tryd.prog 67 [(0, .nilsl)] = some (.agg [.nilsl, .int .i64 0]) := by kernel_rfl

/-- The reader: object id, over a code of at most 2000 bytes, at most m picks behind. -/
def Rd (h : PHeap) (id m : Nat) : Prop :=
  ∃ bp bs pos, h[id]? = some (.own 1 [bp, .int .i64 pos]) ∧ (∀ h', Keep id h h' → IntSl .u8 h' bp bs) ∧ (∀ b ∈ bs, (0 : Int) ≤ b ∧ b ≤ 255) ∧ bs.length ≤ 2000 ∧ 0 ≤ pos ∧ pos ≤ (m : Int)

theorem Rd.keep {h h' : PHeap} {id m n : Nat} (r : Rd h id m) (hk : Keep n h h') (hn : id < n) : Rd h' id m := by
  obtain ⟨bp, bs, pos, h1, h2, rest⟩ := r
  exact ⟨bp, bs, pos, by rw [hk.2 id hn]; exact h1, fun h3 hk3 => h2 h3 ((hk.mono (by omega)).trans hk3), rest⟩

theorem Rd.lt {h : PHeap} {id m : Nat} (r : Rd h id m) : id < h.length := by
  obtain ⟨bp, bs, pos, h1, _⟩ := r
  exact (List.getElem?_eq_some_iff.1 h1).1

theorem xor_small {a b : Int} (ha : 0 ≤ a) (ha' : a < 4611686018427387904) (hb : 0 ≤ b) (hb' : b < 4611686018427387904) :
    0 ≤ IntKind.i64.wrap ((BitVec.ofInt IntKind.i64.bits a ^^^ BitVec.ofInt IntKind.i64.bits b).toNat : Int) := by
  obtain ⟨x, rfl⟩ := Int.eq_ofNat_of_zero_le ha
  obtain ⟨y, rfl⟩ := Int.eq_ofNat_of_zero_le hb
  have hx : x < 2 ^ 62 := by omega
  have hy : y < 2 ^ 62 := by omega
  have hz : x ^^^ y < 2 ^ 62 := Nat.xor_lt_two_pow hx hy
  have e : (BitVec.ofInt IntKind.i64.bits (x : Int) ^^^ BitVec.ofInt IntKind.i64.bits (y : Int)).toNat = x ^^^ y := by
    have hbits : IntKind.i64.bits = 64 := rfl
    rw [BitVec.toNat_xor, BitVec.toNat_ofInt, BitVec.toNat_ofInt, hbits]
    congr 1 <;> omega
  rw [e, wr (by omega)]
  omega

variable (g : Nat → PV) (lf n : Nat)

theorem open_calls {p : PV} {xs : List Int} {h : PHeap} (N : Nat) (hN : 1 ≤ N) (ha : Arg h p xs) :
    ∃ h', CL g lf N fn_spec_l20Open [p] h = some (.ptr h.length 0, h') ∧ Rd h' h.length 0 ∧ Keep h.length h h' := by
  obtain ⟨n, rfl⟩ : ∃ n, N = n + 1 := ⟨N - 1, by omega⟩
  rw [spec_l20Open.call_eq]
  obtain ⟨hs, hlen, hesz, hb⟩ := ha
  have hs0 := hs h (Keep.refl _ _)
  have hlenp : lenP Tryd.prog 22 p = some (.int .i64 xs.length) := hs0.len tyB
  by_cases hbig : (2000 : Int) < (xs.length : Int)
  · rcases hs0 with ⟨_, rfl⟩ | ⟨id, off, rfl, hc⟩
    · simp at hbig
    · obtain ⟨rfl, he⟩ := hesz id off xs.length rfl (by omega)
      have hsl : sliceP Tryd.prog 22 (.sl 0 off xs.length) none (some (.int .i64 2000)) h = some (.sl 0 off 2000) := by
        have : (2000 : Int) ≤ (xs.length : Int) := by omega
        simp [sliceP, tyBElem, tyBSize, he, boundP, this]
      refine ⟨h ++ [.own 1 [.sl 0 off 2000, .int .i64 0]], ?_, ?_, Keep.append _ _ _ (Nat.le_refl _)⟩
      · simp [spec_l20Open.main, hlenp, hbig, hsl, build_sl, boxP, PV.cells, PV.oneCell]
      · refine ⟨.sl 0 off 2000, xs.take 2000, 0, by simp, fun h' hk => ?_, fun b hb' => hb b (List.mem_of_mem_take hb'), by simp; omega, by omega, by omega⟩
        have hk' : Keep 1 h h' := ((Keep.append h.length h _ (Nat.le_refl _)).mono hlen).trans (hk.mono hlen)
        rcases hs h' hk' with ⟨hx, _⟩ | ⟨id', off', hx, hc'⟩
        · cases hx
        · cases hx
          refine .inr ⟨0, off, by simp; omega, fun i x hi => ?_⟩
          rw [List.getElem?_take] at hi
          split at hi
          · exact hc' i x hi
          · cases hi
  · refine ⟨h ++ [.own 1 [p, .int .i64 0]], ?_, ?_, Keep.append _ _ _ (Nat.le_refl _)⟩
    · rcases hs0 with ⟨rfl, rfl⟩ | ⟨id, off, rfl, hc⟩
      · simp [spec_l20Open.main, hlenp, build_nil, boxP, PV.cells, PV.oneCell]
      · simp [spec_l20Open.main, hlenp, hbig, build_sl, boxP, PV.cells, PV.oneCell]
    · exact ⟨p, xs, 0, by simp, fun h' hk => hs h' (((Keep.append h.length h _ (Nat.le_refl _)).mono hlen).trans (hk.mono hlen)), hb, by omega, by omega, by omega⟩

end Go.Proofs.YtbmmcldbllhhhaaDoor

/- What a pick and a chance come to. -/
set_option maxRecDepth 20000
namespace Go.Proofs.YtbmmcldbllhhhaaDoor
open Go Go.Ip Go.RowKit G

variable (g : Nat → PV) (lf n : Nat)

theorem tmod_range {x k : Int} (hx : 0 ≤ x) (hk : 1 ≤ k) : 0 ≤ x.tmod k ∧ x.tmod k < k := by
  rw [Int.tmod_eq_emod_of_nonneg hx]
  exact ⟨Int.emod_nonneg _ (by omega), Int.emod_lt_of_pos _ (by omega)⟩

theorem tdiv_range {x k : Int} (hx : 0 ≤ x) (hk : 1 ≤ k) : 0 ≤ x.tdiv k ∧ x.tdiv k ≤ x := by
  rw [Int.tdiv_eq_ediv_of_nonneg hx]
  exact ⟨Int.ediv_nonneg hx (by omega), Int.ediv_le_self _ hx⟩

theorem bd {α β : Type} {x : Option α} {v : α} {f : α → Option β} {r : Option β} (hx : x = some v) (hf : f v = r) : x.bind f = r := by rw [hx]; exact hf
theorem cdT {x y r : Res} (h : x = r) : condP (.bool true) x y = r := h
theorem cdF {x y r : Res} (h : y = r) : condP (.bool false) x y = r := h
/-- A pick of n: some number from 0 on, below n; the reader has gone on by one. -/
theorem pick_calls {h : PHeap} {id m : Nat} (N : Nat) (hN : 1 ≤ N) (k : Int) (hr : Rd h id m) (hm : m ≤ 1000000) (hk : k ≤ 1000000) :
    ∃ (v : Int) (h' : PHeap), CL g lf N fn_spec_l20Rd_pick [.ptr id 0, .int .i64 k] h = some (.int .i64 v, h') ∧ Rd h' id (m + 1) ∧ Only id (id + 1) h h' ∧ 0 ≤ v ∧ (1 ≤ k → v < k) ∧ (k < 1 → v = 0) := by
  obtain ⟨n, rfl⟩ : ∃ n, N = n + 1 := ⟨N - 1, by omega⟩
  rw [spec_l20Rd_pick.call_eq]
  obtain ⟨bp, bs, pos, ho, hs, hb, hl, hp0, hpm⟩ := hr
  have hid : id < h.length := (List.getElem?_eq_some_iff.1 ho).1
  have w1 : IntKind.i64.wrap (pos + 1) = pos + 1 := wr (by omega)
  have hld : loadP Tryd.prog 3 (.ptr id (0 + 1)) h = some (.int .i64 pos) := by simp [loadP, tyAgg, cellsAt, ho, PObj.get]
  obtain ⟨h7, hh7⟩ : ∃ h7, h7 = h.set id (.own 1 [bp, .int .i64 (pos + 1)]) := ⟨_, rfl⟩
  have hst : storeP Tryd.prog 3 (.ptr id (0 + 1)) (.int .i64 (pos + 1)) h = some h7 := by
    rw [hh7]
    simp [storeP, ho, PV.cells, tySize, setCells]
  have ho7 : h7[id]? = some (.own 1 [bp, .int .i64 (pos + 1)]) := by rw [hh7, List.getElem?_set_self hid]
  have hk7 : Keep id h h7 := by rw [hh7]; exact Keep.set _ _ _ _ (Nat.le_refl _)
  have hon : Only id (id + 1) h h7 := by rw [hh7]; exact ⟨by simp, fun j hj => List.getElem?_set_ne (by omega)⟩
  have hrd : Rd h7 id (m + 1) := ⟨bp, bs, pos + 1, ho7, fun h' hk' => hs h' (hk7.trans hk'), hb, hl, by omega, by push_cast; omega⟩
  have hl1 : loadP Tryd.prog 3 (.ptr id (0 + 1)) h7 = some (.int .i64 (pos + 1)) := by simp [loadP, tyAgg, cellsAt, ho7, PObj.get]
  have hl0 : loadP Tryd.prog 22 (.ptr id (0 + 0)) h7 = some bp := by simp [loadP, tyBsAgg, cellsAt, ho7, PObj.get]
  have hs7 := hs h7 hk7
  have hlen : lenP Tryd.prog 22 bp = some (.int .i64 bs.length) := hs7.len tyB
  have w2 : IntKind.i64.wrap (pos + 1 - 1) = pos := by rw [show pos + 1 - 1 = pos by omega]; exact wr (by omega)
  by_cases hk1 : k < 1
  · refine ⟨0, h7, ?_, hrd, hon, by omega, by omega, fun _ => rfl⟩
    have f_add : binP Tryd.prog .add 3 (.int .i64 pos) (.int .i64 1) = some (.int .i64 (pos + 1)) := by rw [bin_add, w1]
    have f_lss : binP Tryd.prog .lss 3 (.int .i64 k) (.int .i64 1) = some (.bool true) := by rw [bin_lss, decide_eq_true hk1]
    unfold spec_l20Rd_pick.main
    refine bd ptr_ptr (bd (fa1 _ _) (bd hld (bd f_add (bd ptr_ptr (bd (fa1 _ _) (bd hst (bd f_lss ?_)))))))
    refine bd (want_bool (x := true) (y := false)) (bd (v := (PV.tup [], h7)) rfl ?_)
    refine bd (want_bool (x := true) (y := false)) (bd (v := (PV.tup [], h7)) rfl ?_)
    refine bd (want_bool (x := true) (y := false)) (bd (v := (PV.tup [], h7)) rfl ?_)
    refine bd (want_bool (x := true) (y := false)) (bd (v := (PV.tup [], h7)) rfl ?_)
    refine bd (want_bool (x := true) (y := false)) (bd (v := (PV.tup [], h7)) rfl ?_)
    refine bd (want_bool (x := true) (y := false)) (bd (v := (PV.tup [], h7)) rfl ?_)
    refine bd (v := PV.bool true) rfl (cdT ?_)
    exact bd res_int rfl
  · have hk1' : 1 ≤ k := by omega
    by_cases hb0 : bs.length = 0
    · refine ⟨0, h7, ?_, hrd, hon, by omega, by omega, by omega⟩
      have f_add : binP Tryd.prog .add 3 (.int .i64 pos) (.int .i64 1) = some (.int .i64 (pos + 1)) := by rw [bin_add, w1]
      have f_lss : binP Tryd.prog .lss 3 (.int .i64 k) (.int .i64 1) = some (.bool false) := by rw [bin_lss, decide_eq_false hk1]
      have f_eql : binP Tryd.prog .eql 3 (.int .i64 (bs.length : Int)) (.int .i64 0) = some (.bool true) := by rw [bin_eql, hb0]; rfl
      unfold spec_l20Rd_pick.main
      refine bd ptr_ptr (bd (fa1 _ _) (bd hld (bd f_add (bd ptr_ptr (bd (fa1 _ _) (bd hst (bd f_lss ?_)))))))
      refine bd (want_bool (x := false) (y := false)) (bd (v := (PV.ptr id 0, h7)) rfl ?_)
      refine bd (want_bool (x := false) (y := false)) (bd (v := (PV.ptr id 0, h7)) rfl ?_)
      refine bd (want_bool (x := false) (y := false)) (bd (v := (PV.ptr id (0 + 0), h7)) (congrArg (pv h7) (fa0 id 0)) ?_)
      refine bd (want_bool (x := false) (y := false)) (bd (v := (bp, h7)) (congrArg (pv h7) hl0) ?_)
      refine bd (want_bool (x := false) (y := false)) (bd (v := (PV.int .i64 (bs.length : Int), h7)) (congrArg (pv h7) hlen) ?_)
      refine bd (want_bool (x := false) (y := false)) (bd (v := (PV.bool true, h7)) (congrArg (pv h7) f_eql) ?_)
      refine bd (v := PV.bool true) rfl (cdT ?_)
      exact bd res_int rfl
    · have hb1 : 1 ≤ (bs.length : Int) := by omega
      have hne : ((bs.length : Int) == 0) = false := beq_eq_false_iff_ne.2 (by omega)
      obtain ⟨P, hP⟩ := Int.eq_ofNat_of_zero_le hp0
      subst hP
      have byte : ∀ (j : Nat) (hj : j < bs.length), ∃ a, indexAddrP Tryd.prog 22 bp (.int .i64 j) = some a ∧ loadP Tryd.prog 5 a h7 = some (.int .u8 bs[j]) ∧ 0 ≤ bs[j] ∧ bs[j] ≤ 255 ∧ IntKind.i64.wrap bs[j] = bs[j] := by
        intro j hj
        obtain ⟨a, h1, h2⟩ := hs7.at tyB tyBSize tyBAgg hj
        have := hb _ (List.getElem_mem hj)
        exact ⟨a, h1, h2, this.1, this.2, wr (by omega)⟩
      by_cases hlt : (P : Int) < (bs.length : Int)
      · obtain ⟨a, ha, hla, hb2, hb3, hw⟩ := byte P (by omega)
        have hr := tmod_range hb2 hk1'
        refine ⟨bs[P].tmod k, h7, ?_, hrd, hon, hr.1, fun _ => hr.2, by omega⟩
        have hrem := bin_rem (P := Tryd.prog) (t := 3) (k := .i64) (a := bs[P]) (show k ≠ 0 by omega)
        have f_add : binP Tryd.prog .add 3 (.int .i64 (P : Int)) (.int .i64 1) = some (.int .i64 ((P : Int) + 1)) := by rw [bin_add, w1]
        have f_lss : binP Tryd.prog .lss 3 (.int .i64 k) (.int .i64 1) = some (.bool false) := by rw [bin_lss, decide_eq_false hk1]
        have f_eql : binP Tryd.prog .eql 3 (.int .i64 (bs.length : Int)) (.int .i64 0) = some (.bool false) := by rw [bin_eql, hne]
        have f_sub : binP Tryd.prog .sub 3 (.int .i64 ((P : Int) + 1)) (.int .i64 1) = some (.int .i64 (P : Int)) := by rw [bin_sub, w2]
        have f_lt : binP Tryd.prog .lss 3 (.int .i64 (P : Int)) (.int .i64 (bs.length : Int)) = some (.bool true) := by rw [bin_lss, decide_eq_true hlt]
        have f_conv : convP Tryd.prog 5 3 (.int .u8 bs[P]) = some (.int .i64 bs[P]) := by rw [conv_byte, hw]
        unfold spec_l20Rd_pick.main
        refine bd ptr_ptr (bd (fa1 _ _) (bd hld (bd f_add (bd ptr_ptr (bd (fa1 _ _) (bd hst (bd f_lss ?_)))))))
        refine bd (want_bool (x := false) (y := false)) (bd (v := (PV.ptr id 0, h7)) rfl ?_)
        refine bd (want_bool (x := false) (y := false)) (bd (v := (PV.ptr id 0, h7)) rfl ?_)
        refine bd (want_bool (x := false) (y := false)) (bd (v := (PV.ptr id (0 + 0), h7)) (congrArg (pv h7) (fa0 id 0)) ?_)
        refine bd (want_bool (x := false) (y := false)) (bd (v := (bp, h7)) (congrArg (pv h7) hl0) ?_)
        refine bd (want_bool (x := false) (y := false)) (bd (v := (PV.int .i64 (bs.length : Int), h7)) (congrArg (pv h7) hlen) ?_)
        refine bd (want_bool (x := false) (y := false)) (bd (v := (PV.bool false, h7)) (congrArg (pv h7) f_eql) ?_)
        refine bd (v := PV.bool false) rfl (cdF ?_)
        refine bd ptr_ptr (bd (fa1 _ _) (bd hl1 (bd f_sub (bd ptr_ptr (bd (fa0 _ _) (bd hl0 (bd hlen (bd f_lt (cdT ?_)))))))))
        refine bd ptr_ptr (bd (fa0 _ _) (bd hl0 (bd ha (bd hla (bd f_conv (bd hrem (bd res_int rfl)))))))
      · -- past its end
        have hr1 := tmod_range (x := (P : Int)) (k := (bs.length : Int)) (by omega) hb1
        obtain ⟨i1, hi1⟩ : ∃ i : Nat, (P : Int).tmod (bs.length : Int) = i := ⟨((P : Int).tmod bs.length).toNat, by omega⟩
        have hr2 := tmod_range (x := (P : Int) * 7 + 3) (k := (bs.length : Int)) (by omega) hb1
        obtain ⟨i2, hi2⟩ : ∃ i : Nat, ((P : Int) * 7 + 3).tmod (bs.length : Int) = i := ⟨(((P : Int) * 7 + 3).tmod bs.length).toNat, by omega⟩
        obtain ⟨a1, ha1, hla1, c1, c2, hw1⟩ := byte i1 (by omega)
        obtain ⟨a2, ha2, hla2, d1, d2, hw2⟩ := byte i2 (by omega)
        obtain ⟨b1, hb1'⟩ : ∃ b, b = bs[i1]'(by omega) := ⟨_, rfl⟩
        obtain ⟨b2, hb2'⟩ : ∃ b, b = bs[i2]'(by omega) := ⟨_, rfl⟩
        rw [← hb1'] at hla1 c1 c2 hw1
        rw [← hb2'] at hla2 d1 d2 hw2
        have hq := tdiv_range (x := (P : Int)) (k := (bs.length : Int)) (by omega) hb1
        have hquo := bin_quo (P := Tryd.prog) (t := 3) (k := .i64) (a := (P : Int)) (show (bs.length : Int) ≠ 0 by omega)
        have hrem1 := bin_rem (P := Tryd.prog) (t := 3) (k := .i64) (a := (P : Int)) (show (bs.length : Int) ≠ 0 by omega)
        have hrem2 := bin_rem (P := Tryd.prog) (t := 3) (k := .i64) (a := (P : Int) * 7 + 3) (show (bs.length : Int) ≠ 0 by omega)
        obtain ⟨q, hq'⟩ : ∃ q, q = (P : Int).tdiv (bs.length : Int) := ⟨_, rfl⟩
        rw [← hq'] at hq hquo
        have u1 : IntKind.i64.wrap (b1 * 131) = b1 * 131 := wr (by omega)
        have u2 : IntKind.i64.wrap ((P : Int) * 7) = (P : Int) * 7 := wr (by omega)
        have u3 : IntKind.i64.wrap ((P : Int) * 7 + 3) = (P : Int) * 7 + 3 := wr (by omega)
        have u4 : IntKind.i64.wrap (b2 * 1117) = b2 * 1117 := wr (by omega)
        have u5 : IntKind.i64.wrap (b1 * 131 + b2 * 1117) = b1 * 131 + b2 * 1117 := wr (by omega)
        have u6 : IntKind.i64.wrap ((P : Int) * 29) = (P : Int) * 29 := wr (by omega)
        have u7 : IntKind.i64.wrap (b1 * 131 + b2 * 1117 + (P : Int) * 29) = b1 * 131 + b2 * 1117 + (P : Int) * 29 := wr (by omega)
        have u8 : IntKind.i64.wrap q = q := wr (by omega)
        have u9 : IntKind.i64.wrap (q * 53) = q * 53 := wr (by omega)
        obtain ⟨X, hX⟩ : ∃ X, X = b1 * 131 + b2 * 1117 + (P : Int) * 29 + q * 53 := ⟨_, rfl⟩
        have u10 : IntKind.i64.wrap X = X := wr (by omega)
        have hX0 : 0 ≤ X := by omega
        have hX1 : X < 4611686018427387904 := by omega
        have hXq := tdiv_range (x := X) (k := 64) hX0 (by omega)
        have hquoX := bin_quo (P := Tryd.prog) (t := 3) (k := .i64) (a := X) (show (64 : Int) ≠ 0 by omega)
        obtain ⟨Y, hY⟩ : ∃ Y, Y = X.tdiv 64 := ⟨_, rfl⟩
        rw [← hY] at hXq hquoX
        have u11 : IntKind.i64.wrap Y = Y := wr (by omega)
        obtain ⟨Z, hZ⟩ : ∃ Z, Z = IntKind.i64.wrap ((BitVec.ofInt IntKind.i64.bits X ^^^ BitVec.ofInt IntKind.i64.bits Y).toNat : Int) := ⟨_, rfl⟩
        have hZ0 : 0 ≤ Z := by rw [hZ]; exact xor_small hX0 hX1 hXq.1 (by omega)
        have hxor : binP Tryd.prog .xor 3 (.int .i64 X) (.int .i64 Y) = some (.int .i64 Z) := by rw [hZ]; simp [binP, binI]
        have hremZ := bin_rem (P := Tryd.prog) (t := 3) (k := .i64) (a := Z) (show k ≠ 0 by omega)
        have hrZ := tmod_range hZ0 hk1'
        refine ⟨Z.tmod k, h7, ?_, hrd, hon, hrZ.1, fun _ => hrZ.2, by omega⟩
        have f_add : binP Tryd.prog .add 3 (.int .i64 (P : Int)) (.int .i64 1) = some (.int .i64 ((P : Int) + 1)) := by rw [bin_add, w1]
        have f_lss : binP Tryd.prog .lss 3 (.int .i64 k) (.int .i64 1) = some (.bool false) := by rw [bin_lss, decide_eq_false hk1]
        have f_eql : binP Tryd.prog .eql 3 (.int .i64 (bs.length : Int)) (.int .i64 0) = some (.bool false) := by rw [bin_eql, hne]
        have f_sub : binP Tryd.prog .sub 3 (.int .i64 ((P : Int) + 1)) (.int .i64 1) = some (.int .i64 (P : Int)) := by rw [bin_sub, w2]
        have f_lt : binP Tryd.prog .lss 3 (.int .i64 (P : Int)) (.int .i64 (bs.length : Int)) = some (.bool false) := by rw [bin_lss, decide_eq_false hlt]
        have f_conv1 : convP Tryd.prog 5 3 (.int .u8 b1) = some (.int .i64 b1) := by rw [conv_byte, hw1]
        have f_conv2 : convP Tryd.prog 5 3 (.int .u8 b2) = some (.int .i64 b2) := by rw [conv_byte, hw2]
        have f_rem1 : binP Tryd.prog .rem 3 (.int .i64 (P : Int)) (.int .i64 (bs.length : Int)) = some (.int .i64 (i1 : Int)) := by rw [hrem1, hi1]
        have f_rem2 : binP Tryd.prog .rem 3 (.int .i64 ((P : Int) * 7 + 3)) (.int .i64 (bs.length : Int)) = some (.int .i64 (i2 : Int)) := by rw [hrem2, hi2]
        have f1 : binP Tryd.prog .mul 3 (.int .i64 b1) (.int .i64 131) = some (.int .i64 (b1 * 131)) := by rw [bin_mul, u1]
        have f2 : binP Tryd.prog .mul 3 (.int .i64 (P : Int)) (.int .i64 7) = some (.int .i64 ((P : Int) * 7)) := by rw [bin_mul, u2]
        have f3 : binP Tryd.prog .add 3 (.int .i64 ((P : Int) * 7)) (.int .i64 3) = some (.int .i64 ((P : Int) * 7 + 3)) := by rw [bin_add, u3]
        have f4 : binP Tryd.prog .mul 3 (.int .i64 b2) (.int .i64 1117) = some (.int .i64 (b2 * 1117)) := by rw [bin_mul, u4]
        have f5 : binP Tryd.prog .add 3 (.int .i64 (b1 * 131)) (.int .i64 (b2 * 1117)) = some (.int .i64 (b1 * 131 + b2 * 1117)) := by rw [bin_add, u5]
        have f6 : binP Tryd.prog .mul 3 (.int .i64 (P : Int)) (.int .i64 29) = some (.int .i64 ((P : Int) * 29)) := by rw [bin_mul, u6]
        have f7 : binP Tryd.prog .add 3 (.int .i64 (b1 * 131 + b2 * 1117)) (.int .i64 ((P : Int) * 29)) = some (.int .i64 (b1 * 131 + b2 * 1117 + (P : Int) * 29)) := by rw [bin_add, u7]
        have f8 : binP Tryd.prog .quo 3 (.int .i64 (P : Int)) (.int .i64 (bs.length : Int)) = some (.int .i64 q) := by rw [hquo, u8]
        have f9 : binP Tryd.prog .mul 3 (.int .i64 q) (.int .i64 53) = some (.int .i64 (q * 53)) := by rw [bin_mul, u9]
        have f10 : binP Tryd.prog .add 3 (.int .i64 (b1 * 131 + b2 * 1117 + (P : Int) * 29)) (.int .i64 (q * 53)) = some (.int .i64 X) := by rw [bin_add, ← hX, u10]
        have f11 : binP Tryd.prog .quo 3 (.int .i64 X) (.int .i64 64) = some (.int .i64 Y) := by rw [hquoX, u11]
        clear hX hY hZ u1 u2 u3 u4 u5 u6 u7 u8 u9 u10 u11 hq' hquo hquoX hrem1 hrem2
        unfold spec_l20Rd_pick.main
        refine bd ptr_ptr (bd (fa1 _ _) (bd hld (bd f_add (bd ptr_ptr (bd (fa1 _ _) (bd hst (bd f_lss ?_)))))))
        refine bd (want_bool (x := false) (y := false)) (bd (v := (PV.ptr id 0, h7)) rfl ?_)
        refine bd (want_bool (x := false) (y := false)) (bd (v := (PV.ptr id 0, h7)) rfl ?_)
        refine bd (want_bool (x := false) (y := false)) (bd (v := (PV.ptr id (0 + 0), h7)) (congrArg (pv h7) (fa0 id 0)) ?_)
        refine bd (want_bool (x := false) (y := false)) (bd (v := (bp, h7)) (congrArg (pv h7) hl0) ?_)
        refine bd (want_bool (x := false) (y := false)) (bd (v := (PV.int .i64 (bs.length : Int), h7)) (congrArg (pv h7) hlen) ?_)
        refine bd (want_bool (x := false) (y := false)) (bd (v := (PV.bool false, h7)) (congrArg (pv h7) f_eql) ?_)
        refine bd (v := PV.bool false) rfl (cdF ?_)
        refine bd ptr_ptr (bd (fa1 _ _) (bd hl1 (bd f_sub (bd ptr_ptr (bd (fa0 _ _) (bd hl0 (bd hlen (bd f_lt (cdF ?_)))))))))
        refine bd ptr_ptr (bd (fa0 _ _) (bd hl0 (bd ptr_ptr (bd (fa0 _ _) (bd hl0 (bd hlen (bd f_rem1 (bd ha1 (bd hla1 (bd f_conv1 (bd f1 ?_)))))))))))
        refine bd ptr_ptr (bd (fa0 _ _) (bd hl0 (bd f2 (bd f3 (bd ptr_ptr (bd (fa0 _ _) (bd hl0 (bd hlen (bd f_rem2 (bd ha2 (bd hla2 (bd f_conv2 (bd f4 ?_)))))))))))))
        refine bd f5 (bd f6 (bd f7 (bd ptr_ptr (bd (fa0 _ _) (bd hl0 (bd hlen (bd f8 (bd f9 (bd f10 (bd f11 (bd hxor (bd hremZ (bd res_int rfl)))))))))))))

theorem odd_calls {h : PHeap} {id m : Nat} (N : Nat) (hN : 2 ≤ N) (k : Int) (hr : Rd h id m) (hm : m ≤ 1000000) (hk : k ≤ 1000000) (hk0 : 1 ≤ k) :
    ∃ (b : Bool) (h' : PHeap), CL g lf N fn_spec_l20Rd_odd [.ptr id 0, .int .i64 k] h = some (.bool b, h') ∧ Rd h' id (m + 1) ∧ Only id (id + 1) h h' := by
  obtain ⟨n, rfl⟩ : ∃ n, N = n + 1 := ⟨N - 1, by omega⟩
  rw [spec_l20Rd_odd.call_eq]
  obtain ⟨v, h', e, hr', ho, _⟩ := pick_calls g lf n (by omega) k hr hm hk
  have hpos : (0 : Int) < k := by omega
  have w1 : IntKind.i64.wrap (k - 1) = k - 1 := wr (by omega)
  refine ⟨v == k - 1, h', ?_, hr', ho⟩
  simp [spec_l20Rd_odd.main, hpos, e, w1]

end Go.Proofs.YtbmmcldbllhhhaaDoor

/- The board that the model draws: small numbers, whatever they are. -/
set_option maxRecDepth 20000
namespace Go.Proofs.YtbmmcldbllhhhaaDoor
open Go Go.Ip Go.RowKit G

/-- Below n nothing has turned but the object id. -/
def KeepX (id n : Nat) (h h' : PHeap) : Prop := h.length ≤ h'.length ∧ ∀ i, i < n → i ≠ id → h'[i]? = h[i]?

theorem KeepX.refl (id n : Nat) (h : PHeap) : KeepX id n h h := ⟨Nat.le_refl _, fun _ _ _ => rfl⟩
theorem KeepX.trans {id n : Nat} {a b c : PHeap} (h : KeepX id n a b) (k : KeepX id n b c) : KeepX id n a c := ⟨Nat.le_trans h.1 k.1, fun i hi hn => (k.2 i hi hn).trans (h.2 i hi hn)⟩
theorem KeepX.mono {id n m : Nat} {a b : PHeap} (h : KeepX id n a b) (hm : m ≤ n) : KeepX id m a b := ⟨h.1, fun i hi hn => h.2 i (by omega) hn⟩
theorem Keep.x {id n : Nat} {a b : PHeap} (h : Keep n a b) : KeepX id n a b := ⟨h.1, fun i hi _ => h.2 i hi⟩
theorem Only.x {id n : Nat} {a b : PHeap} (h : Only id (id + 1) a b) : KeepX id n a b := ⟨by rw [h.1]; exact Nat.le_refl _, fun i _ hn => h.2 i (by omega)⟩
theorem KeepX.keep {id n : Nat} {a b : PHeap} (h : KeepX id n a b) (hn : id ≤ n) : Keep id a b := ⟨h.1, fun i hi => h.2 i (by omega) (by omega)⟩

theorem OwnSl.keepX {id n m : Nat} {h h' : PHeap} {p : PV} {xs : List Int} (s : OwnSl n h p xs) (hk : KeepX id m h h') (hn : id < n) (hm : h.length ≤ m) : OwnSl n h' p xs := by
  rcases s with s | ⟨i, h1, h2, h3⟩
  · exact .inl s
  · have := (List.getElem?_eq_some_iff.1 h3).1
    exact .inr ⟨i, h1, h2, by rw [hk.2 i (by omega) (by omega)]; exact h3⟩

theorem Rd.mono {h : PHeap} {id m m' : Nat} (r : Rd h id m) (hm : m ≤ m') : Rd h id m' := by
  obtain ⟨bp, bs, pos, h1, h2, h3, h4, h5, h6⟩ := r
  exact ⟨bp, bs, pos, h1, h2, h3, h4, h5, by omega⟩

variable (g : Nat → PV) (lf n : Nat)

end Go.Proofs.YtbmmcldbllhhhaaDoor

/- Promise 1: boards are turned. -/
set_option maxRecDepth 20000
namespace Go.Proofs.YtbmmcldbllhhhaaDoor
open Go Go.Ip Go.RowKit G

variable (g : Nat → PV) (lf n : Nat)

theorem boardOk_N (N : Nat) (hN : 2 ≤ N) (h : PHeap) (r c : Int) : CL g lf N fn_impl_BoardOk [.int .i64 r, .int .i64 c] h = some (.bool (boardB r c), h) := by
  obtain ⟨n, rfl⟩ : ∃ n, N = n + 2 := ⟨N - 2, by omega⟩
  exact boardOk_calls g lf n h r c
end Go.Proofs.YtbmmcldbllhhhaaDoor

/- The position that the model draws: at most ten numbers, whatever they are. -/
set_option maxRecDepth 20000
namespace Go.Proofs.YtbmmcldbllhhhaaDoor
open Go Go.Ip Go.RowKit G

variable (g : Nat → PV) (lf n : Nat)

end Go.Proofs.YtbmmcldbllhhhaaDoor

/- Promise 3: free boards are positions. -/
set_option maxRecDepth 20000
namespace Go.Proofs.YtbmmcldbllhhhaaDoor
open Go Go.Ip Go.RowKit G

variable (g : Nat → PV) (lf n : Nat)

theorem alive_calls (N : Nat) (hN : 3 ≤ N) (h : PHeap) : CL g lf N fn_laws_alive [] h = some (.bool true, h) := by
  obtain ⟨n, rfl⟩ : ∃ n, N = n + 1 := ⟨N - 1, by omega⟩
  rw [laws_alive.call_eq]
  have b22 : boardB 2 2 = true := by decide
  have b02 : boardB 0 2 = false := by decide
  have e1 := boardOk_N g lf n (by omega) h 2 2
  have e2 := boardOk_N g lf n (by omega) h 0 2
  rw [b22] at e1
  rw [b02] at e2
  unfold laws_alive.main
  exact bd e1 (bd (want_bool (x := true) (y := true)) (bd e2 (bd (want_bool (x := true) (y := true)) (bd (v := (PV.bool true, h)) rfl (bd (v := PV.bool true) rfl (bd res_bool rfl))))))

end Go.Proofs.YtbmmcldbllhhhaaDoor

/- Promise 5: turned by half a turn twice it is as before. -/
set_option maxRecDepth 20000
namespace Go.Proofs.YtbmmcldbllhhhaaDoor
open Go Go.Ip Go.RowKit G

variable (g : Nat → PV) (lf n : Nat)

/-! ### sameInts: are two lists equal? -/
theorem sameInts_loop {xs ys : List Int} {p q : PV} {h : PHeap} (hp : IntSl .i64 h p xs) (hq : IntSl .i64 h q ys) (hxy : xs.length = ys.length) (hl : xs.length ≤ 2 ^ 36) : ∀ (m i fuel : Nat), i + m = xs.length → m < fuel →
    loopK (ev ((env g lf n).cx Tryd.prog laws_sameInts.kl) laws_sameInts.lp0) fuel (laws_sameInts.st0 p q (.int .i64 i) h) (laws_sameInts.K0 (env g lf n) (kTop Tryd.prog Tryd.f15)) = some (.bool (decide (xs.drop i = ys.drop i)), h)
  | 0, i, fuel, him, hf => by
    obtain ⟨f, rfl⟩ : ∃ f, fuel = f + 1 := ⟨fuel - 1, by omega⟩
    rw [loopK_succ, laws_sameInts.body0_eq]
    have hlt : ¬ ((i : Int) < (xs.length : Int)) := by omega
    have hd : xs.drop i = ys.drop i := by rw [List.drop_eq_nil_of_le (by omega), List.drop_eq_nil_of_le (by omega)]
    simp [laws_sameInts.body0, hp.len', hlt, laws_sameInts.after0_se0_0_1_5_14, hd]
  | m + 1, i, fuel, him, hf => by
    obtain ⟨f, rfl⟩ : ∃ f, fuel = f + 1 := ⟨fuel - 1, by omega⟩
    have hi : i < xs.length := by omega
    have hi' : i < ys.length := by omega
    obtain ⟨a, ha, hla⟩ := hp.at' hi
    obtain ⟨b, hb, hlb⟩ := hq.at' hi'
    have ih := sameInts_loop hp hq hxy hl m (i + 1) f (by omega) (by omega)
    have hlt : (i : Int) < (xs.length : Int) := by omega
    rw [loopK_succ, laws_sameInts.body0_eq]
    have hdx : xs.drop i = xs[i] :: xs.drop (i + 1) := List.drop_eq_getElem_cons hi
    have hdy : ys.drop i = ys[i] :: ys.drop (i + 1) := List.drop_eq_getElem_cons hi'
    by_cases he : xs[i] = ys[i]
    · have hne : (xs[i] != ys[i]) = false := by simp [he]
      simp only [laws_sameInts.body0, env_len, env_bin, env_indexAddr, env_load, hp.len', bin_lss, hlt, decide_true, Option.bind_some, cond_bool, cond_true, ha, hla, hb, hlb, bin_neq, hne, cond_false, bin_add, nx (show i < 2 ^ 40 by omega), kLoop_normal, ih]
      rw [hdx, hdy, he]
      simp only [List.cons.injEq, true_and]
    · have hne : (xs[i] != ys[i]) = true := by simp [he]
      simp only [laws_sameInts.body0, env_len, env_bin, env_indexAddr, env_load, hp.len', bin_lss, hlt, decide_true, Option.bind_some, cond_bool, cond_true, ha, hla, hb, hlb, bin_neq, hne, kLoop_ret, laws_sameInts.K0_ret, laws_sameInts.top_sr_4, res_bool, Option.bind_some]
      rw [hdx, hdy]
      simp only [List.cons.injEq, he, false_and, decide_false]

theorem sameInts_N {xs ys : List Int} {p q : PV} {h : PHeap} (N : Nat) (hN : 1 ≤ N) (hp : IntSl .i64 h p xs) (hq : IntSl .i64 h q ys) (hl : xs.length ≤ 2 ^ 36) (hf : xs.length < lf) :
    CL g lf N fn_laws_sameInts [p, q] h = some (.bool (decide (xs = ys)), h) := by
  obtain ⟨n, rfl⟩ : ∃ n, N = n + 1 := ⟨N - 1, by omega⟩
  rw [laws_sameInts.call_eq]
  by_cases hxy : xs.length = ys.length
  · have := sameInts_loop g lf n hp hq hxy hl xs.length 0 lf (by omega) hf
    simp only [laws_sameInts.main, env_len, env_bin, env_lf, hp.len', hq.len', Option.bind_some, bin_neq, hxy, bne_self_eq_false, cond_bool, cond_false]
    simpa using this
  · have hne : ((xs.length : Int) != (ys.length : Int)) = true := by simp; omega
    have hd : ¬ xs = ys := fun e => hxy (by rw [e])
    simp [laws_sameInts.main, hp.len', hq.len', hne, hd]

end Go.Proofs.YtbmmcldbllhhhaaDoor

/- Promise 4: each cell is of one kind. -/
set_option maxRecDepth 20000
namespace Go.Proofs.YtbmmcldbllhhhaaDoor
open Go Go.Ip Go.RowKit G

variable (g : Nat → PV) (lf n : Nat)

/-! ### what is listed -/
/-! ### ascend -/
theorem asc_loop {L : List Int} {p : PV} {h : PHeap} (hp : IntSl .i64 h p L) (hs : ∀ i (hi : i + 1 < L.length), L[i] < L[i + 1]) (hl : L.length ≤ 2 ^ 36) : ∀ (m j fuel : Nat), L.length ≤ j + 1 + m → j ≤ 2 ^ 36 → m < fuel →
    loopK (ev ((env g lf n).cx Tryd.prog laws_ascend.kl) laws_ascend.lp0) fuel (laws_ascend.st0 p (.int .i64 ((j + 1 : Nat) : Int)) h) (laws_ascend.K0 (env g lf n) (kTop Tryd.prog Tryd.f19)) = some (.bool true, h) := by
  intro m
  induction m with
  | zero =>
    intro j fuel hj hj2 hf
    obtain ⟨f, rfl⟩ : ∃ f, fuel = f + 1 := ⟨fuel - 1, by omega⟩
    rw [loopK_succ, laws_ascend.body0_eq]
    have f1 : binP Tryd.prog .lss 3 (.int .i64 ((j + 1 : Nat) : Int)) (.int .i64 (L.length : Int)) = some (.bool false) := by rw [bin_lss, decide_eq_false (by omega)]
    unfold laws_ascend.body0
    refine bd hp.len' (bd f1 (cdF ?_))
    show laws_ascend.K0 (env g lf n) _ (.exit 0) _ = _
    rw [laws_ascend.after0_se0_0_3_7]
    exact bd res_bool rfl
  | succ m ih =>
    intro j fuel hj hj2 hf
    obtain ⟨f, rfl⟩ : ∃ f, fuel = f + 1 := ⟨fuel - 1, by omega⟩
    rw [loopK_succ, laws_ascend.body0_eq]
    unfold laws_ascend.body0
    by_cases hlt : j + 1 < L.length
    · have f1 : binP Tryd.prog .lss 3 (.int .i64 ((j + 1 : Nat) : Int)) (.int .i64 (L.length : Int)) = some (.bool true) := by rw [bin_lss, decide_eq_true (by omega)]
      have f2 : binP Tryd.prog .sub 3 (.int .i64 ((j + 1 : Nat) : Int)) (.int .i64 1) = some (.int .i64 (j : Int)) := by rw [bin_sub, show (((j + 1 : Nat) : Int) - 1) = (j : Int) by omega, wr (by omega)]
      have f3 : binP Tryd.prog .add 3 (.int .i64 ((j + 1 : Nat) : Int)) (.int .i64 1) = some (.int .i64 ((j + 1 + 1 : Nat) : Int)) := by rw [bin_add, nx (by omega)]
      obtain ⟨a, ha, hla⟩ := hp.at' (show j < L.length by omega)
      obtain ⟨b, hb, hlb⟩ := hp.at' hlt
      have hlt' := hs j hlt
      have f4 : binP Tryd.prog .geq 3 (.int .i64 L[j]) (.int .i64 L[j + 1]) = some (.bool false) := by rw [bin_geq, decide_eq_false (by omega)]
      exact bd hp.len' (bd f1 (cdT (bd f2 (bd ha (bd hla (bd hb (bd hlb (bd f4 (cdF (bd f3 (ih (j + 1) f (by omega) (by omega) (by omega))))))))))))
    · have f1 : binP Tryd.prog .lss 3 (.int .i64 ((j + 1 : Nat) : Int)) (.int .i64 (L.length : Int)) = some (.bool false) := by rw [bin_lss, decide_eq_false (by omega)]
      refine bd hp.len' (bd f1 (cdF ?_))
      show laws_ascend.K0 (env g lf n) _ (.exit 0) _ = _
      rw [laws_ascend.after0_se0_0_3_7]
      exact bd res_bool rfl

theorem ascend_calls {L : List Int} {p : PV} {h : PHeap} (N : Nat) (hN : 1 ≤ N) (hp : IntSl .i64 h p L) (hs : ∀ i (hi : i + 1 < L.length), L[i] < L[i + 1]) (hl : L.length ≤ 2 ^ 36) (hf : L.length < lf) :
    CL g lf N fn_laws_ascend [p] h = some (.bool true, h) := by
  obtain ⟨n, rfl⟩ : ∃ n, N = n + 1 := ⟨N - 1, by omega⟩
  rw [laws_ascend.call_eq]
  exact asc_loop g lf n hp hs hl L.length 0 lf (by omega) (by omega) hf

/-! ### the law's own loops -/
end Go.Proofs.YtbmmcldbllhhhaaDoor

/- What both functions that mirror a position compute, and the exact law on them. -/
set_option maxRecDepth 20000
namespace Go.Proofs.YtbmmcldbllhhhaaDoor
open Go Go.Ip Go.RowKit G

variable (g : Nat → PV) (lf n : Nat)

/-- Where the mirrored position's cell k comes from: of a board of R rows and C columns. -/
def sig (R C k : Nat) : Nat := k % R * C + k / R
/-- A board's sides, as numbers. -/
def Sides (r c : Int) (R C : Nat) (xs : List Int) : Prop := r = (R : Int) ∧ c = (C : Int) ∧ 1 ≤ R ∧ R ≤ 4 ∧ 1 ≤ C ∧ C ≤ 4 ∧ R * C ≤ 9 ∧ xs.length = R * C ∧ xs.all contentB = true

theorem f_rem (i R : Nat) (hR : 1 ≤ R) : binP Tryd.prog .rem 3 (.int .i64 (i : Int)) (.int .i64 (R : Int)) = some (.int .i64 ((i % R : Nat) : Int)) := by
  rw [bin_rem (show (R : Int) ≠ 0 by omega)]; rfl
theorem f_add (a b : Nat) (h : a + b ≤ 1000) : binP Tryd.prog .add 3 (.int .i64 (a : Int)) (.int .i64 (b : Int)) = some (.int .i64 ((a + b : Nat) : Int)) := by
  rw [bin_add, ← Int.natCast_add, wr (by omega)]

end Go.Proofs.YtbmmcldbllhhhaaDoor

/- The neighbours of a cell: the program's loop over its table of steps, the model's two loops, and the exact law. -/
set_option maxRecDepth 20000
namespace Go.Proofs.YtbmmcldbllhhhaaDoor
open Go Go.Ip G

/-! ### the table of steps -/
def steps : List (Int × Int) := [(-1, 0), (-1, 1), (0, -1), (0, 1), (1, -1), (1, 0)]
def tab64N : List Nat := [0, 1, 56, 2, 57, 49, 28, 3, 61, 58, 42, 50, 38, 29, 17, 4, 62, 47, 59, 36, 45, 43, 51, 22, 53, 39, 33, 30, 24, 18, 12, 5, 63, 55, 48, 27, 60, 41, 37, 16, 46, 35, 44, 21, 52, 32, 23, 11, 54, 26, 40, 15, 34, 20, 31, 10, 25, 14, 19, 9, 13, 8, 7, 6]
def tab64Cells : List PV := tab64N.map fun n : Nat => .int .u8 (n : Int)
/-- Where the library's table of 64 bytes is known to lie, it reads so. -/
def Tab64 (g : Nat → PV) (h : PHeap) : Prop := ∀ id, g 1 = .ptr id 0 → h[id]? = some (.ro 1 tab64Cells)
theorem Tab64.keep {g : Nat → PV} {h h' : PHeap} (t : Tab64 g h) (k : Keep h.length h h') : Tab64 g h' := fun id e => by have ho := t id e; rw [k.2 id (List.getElem?_eq_some_iff.1 ho).1]; exact ho

/-! ### what is meant -/
def rowAt (C k : Nat) (s : Int × Int) : Int := ((k / C : Nat) : Int) + s.1
def colAt (C k : Nat) (s : Int × Int) : Int := ((k % C : Nat) : Int) + s.2
def inB (R C k : Nat) (s : Int × Int) : Bool := decide (0 ≤ rowAt C k s) && decide (rowAt C k s < R) && decide (0 ≤ colAt C k s) && decide (colAt C k s < C)
def nearFrom (R C k : Nat) (ss : List (Int × Int)) : List Int := (ss.filter (inB R C k)).map fun s => rowAt C k s * C + colAt C k s
def nearN (R C k : Nat) : List Int := nearFrom R C k steps
/-- An operation under a guard. -/
theorem gd {α β : Type} {b t : Bool} {x y : Option α} {f : α → Option β} {r : Option β} (hb : b = t) (hx : x.bind f = r) : ((wantV (.bool b) t).bind fun v => (bif v then x else y).bind f) = r := by
  subst hb; simpa using hx
variable (g : Nat → PV) (lf n : Nat)

/-! ### the program -/
end Go.Proofs.YtbmmcldbllhhhaaDoor

/- The model's neighbours, 'is a number in a list', and the exact law on neighbours. -/
set_option maxRecDepth 20000
namespace Go.Proofs.YtbmmcldbllhhhaaDoor
open Go Go.Ip G

variable (g : Nat → PV) (lf n : Nat)

theorem l1In_N (N : Nat) (hN : 1 ≤ N) (h : PHeap) (a lo hi : Int) : CL g lf N fn_spec_l1In [.int .i64 a, .int .i64 lo, .int .i64 hi] h = some (.bool (decide (lo ≤ a ∧ a ≤ hi)), h) := by
  obtain ⟨n, rfl⟩ : ∃ n, N = n + 1 := ⟨N - 1, by omega⟩
  exact l1In_calls g lf n h a lo hi

/-! ### hasInt -/
theorem has_loop {xs : List Int} {p : PV} {h : PHeap} (x : Int) (hp : IntSl .i64 h p xs) (hl : xs.length ≤ 2 ^ 36) : ∀ (m i fuel : Nat), i + m = xs.length → m < fuel →
    loopK (ev ((env g lf n).cx Tryd.prog laws_hasInt.kl) laws_hasInt.lp0) fuel (laws_hasInt.st0 p (.int .i64 x) (.int .i64 (i : Int)) h) (laws_hasInt.K0 (env g lf n) (kTop Tryd.prog Tryd.f18)) = some (.bool (decide (x ∈ xs.drop i)), h)
  | 0, i, fuel, him, hf => by
    obtain ⟨f, rfl⟩ : ∃ f, fuel = f + 1 := ⟨fuel - 1, by omega⟩
    rw [loopK_succ, laws_hasInt.body0_eq]
    have f1 : binP Tryd.prog .lss 3 (.int .i64 (i : Int)) (.int .i64 (xs.length : Int)) = some (.bool false) := by rw [bin_lss, decide_eq_false (by omega)]
    have hd : xs.drop i = [] := List.drop_eq_nil_of_le (by omega)
    unfold laws_hasInt.body0
    refine bd hp.len' (bd f1 (cdF ?_))
    rw [kLoop_exit, laws_hasInt.after0_se0_0_1_5_9, hd]
    exact bd res_bool rfl
  | m + 1, i, fuel, him, hf => by
    obtain ⟨f, rfl⟩ : ∃ f, fuel = f + 1 := ⟨fuel - 1, by omega⟩
    have hi : i < xs.length := by omega
    obtain ⟨a, ha, hla⟩ := hp.at' hi
    have ih := has_loop x hp hl m (i + 1) f (by omega) (by omega)
    rw [loopK_succ, laws_hasInt.body0_eq]
    have f1 : binP Tryd.prog .lss 3 (.int .i64 (i : Int)) (.int .i64 (xs.length : Int)) = some (.bool true) := by rw [bin_lss, decide_eq_true (by omega)]
    have f2 : binP Tryd.prog .eql 3 (.int .i64 xs[i]) (.int .i64 x) = some (.bool (xs[i] == x)) := bin_eql
    have f3 : binP Tryd.prog .add 3 (.int .i64 (i : Int)) (.int .i64 1) = some (.int .i64 ((i + 1 : Nat) : Int)) := by rw [bin_add, nx (by omega)]
    have hdx : xs.drop i = xs[i] :: xs.drop (i + 1) := List.drop_eq_getElem_cons hi
    unfold laws_hasInt.body0
    refine bd hp.len' (bd f1 (cdT (bd ha (bd hla (bd f2 ?_)))))
    by_cases he : xs[i] = x
    · rw [show (xs[i] == x) = true by simp [he]]
      refine cdT ?_
      rw [kLoop_ret, laws_hasInt.K0_ret, laws_hasInt.top_sr_4, hdx, he]
      exact bd res_bool (by simp)
    · rw [show (xs[i] == x) = false by simp [he]]
      refine cdF (bd f3 ?_)
      rw [kLoop_normal, ih, hdx]
      congr 3
      apply decide_eq_decide.2
      rw [List.mem_cons]
      exact ⟨.inr, fun h => h.elim (fun e => absurd e.symm he) id⟩

theorem hasInt_N (N : Nat) (hN : 1 ≤ N) {xs : List Int} {p : PV} {h : PHeap} (x : Int) (hp : IntSl .i64 h p xs) (hl : xs.length ≤ 2 ^ 36) (hf : xs.length < lf) :
    CL g lf N fn_laws_hasInt [p, .int .i64 x] h = some (.bool (decide (x ∈ xs)), h) := by
  obtain ⟨n, rfl⟩ : ∃ n, N = n + 1 := ⟨N - 1, by omega⟩
  rw [laws_hasInt.call_eq]
  have := has_loop g lf n x hp hl xs.length 0 lf (by omega) hf
  unfold laws_hasInt.main
  rw [List.drop_zero] at this
  exact this

/-! ### the exact law -/
end Go.Proofs.YtbmmcldbllhhhaaDoor

/- Promises 2 and 8: neighbours are so both ways; all neighbours are counted by rows and columns. -/
set_option maxRecDepth 20000
namespace Go.Proofs.YtbmmcldbllhhhaaDoor
open Go Go.Ip G

/-! ### of all cells of all boards -/
variable (g : Nat → PV) (lf n : Nat)

/-! ### promise 8 -/
end Go.Proofs.YtbmmcldbllhhhaaDoor

/- Promise 7 and the exact law on it: how far cells are from each other. -/
set_option maxRecDepth 20000
namespace Go.Proofs.YtbmmcldbllhhhaaDoor
open Go Go.Ip G

/-! ### sets of cells as numbers -/
theorem f_shr (a i : Nat) (hi : i ≤ 60) : binP Tryd.prog .shr 3 (.int .i64 (a : Int)) (.int .i64 (i : Int)) = some (.int .i64 ((a >>> i : Nat) : Int)) := by
  have h0 : ¬ ((i : Int) < 0) := by omega
  have hm : min ((i : Int).toNat) (IntKind.i64.bits) = i := by
    have : IntKind.i64.bits = 64 := rfl
    rw [this]; omega
  simp only [binP, shI, if_neg h0, hm]
  congr 2
  rw [Nat.shiftRight_eq_div_pow]
  have : ((2 : Int) ^ i) = ((2 ^ i : Nat) : Int) := by simp
  rw [this, ← Int.ofNat_fdiv]

theorem f_shl (i : Nat) (hi : i ≤ 30) : binP Tryd.prog .shl 3 (.int .i64 1) (.int .i64 (i : Int)) = some (.int .i64 ((1 <<< i : Nat) : Int)) := by
  have h0 : ¬ ((i : Int) < 0) := by omega
  have hm : min ((i : Int).toNat) (IntKind.i64.bits) = i := by
    have : IntKind.i64.bits = 64 := rfl
    rw [this]; omega
  simp only [binP, shI, if_neg h0, hm]
  congr 2
  rw [Nat.one_shiftLeft]
  have : ((2 : Int) ^ i) = ((2 ^ i : Nat) : Int) := by simp
  rw [Int.one_mul, this]
  have hle : 2 ^ i ≤ 2 ^ 30 := Nat.pow_le_pow_right (by decide) hi
  obtain ⟨z, hz⟩ : ∃ z : Nat, z = 2 ^ i := ⟨_, rfl⟩
  rw [← hz] at hle ⊢
  exact wr (by omega)

theorem natEq (y k : Nat) : ((y : Int) == (k : Int)) = decide (y = k) := by rw [Bool.eq_iff_iff, beq_iff_eq, decide_eq_true_iff, Int.ofNat_inj]

theorem f_and {a b : Nat} (ha : a < 2 ^ 62) (hb : b < 2 ^ 62) : binP Tryd.prog .and 3 (.int .i64 (a : Int)) (.int .i64 (b : Int)) = some (.int .i64 ((a &&& b : Nat) : Int)) := by
  have hz : a &&& b < 2 ^ 62 := Nat.and_lt_two_pow a hb
  have e : (BitVec.ofInt IntKind.i64.bits (a : Int) &&& BitVec.ofInt IntKind.i64.bits (b : Int)).toNat = a &&& b := by
    have hbits : IntKind.i64.bits = 64 := rfl
    rw [BitVec.toNat_and, BitVec.toNat_ofInt, BitVec.toNat_ofInt, hbits]
    congr 1 <;> omega
  have : binP Tryd.prog .and 3 (.int .i64 (a : Int)) (.int .i64 (b : Int)) = some (.int .i64 (IntKind.i64.wrap ((BitVec.ofInt IntKind.i64.bits (a : Int) &&& BitVec.ofInt IntKind.i64.bits (b : Int)).toNat : Int))) := by simp only [binP, binI, if_true]
  rw [this, e, wr (by omega)]

theorem f_or {a b : Nat} (ha : a < 2 ^ 62) (hb : b < 2 ^ 62) : binP Tryd.prog .or 3 (.int .i64 (a : Int)) (.int .i64 (b : Int)) = some (.int .i64 ((a ||| b : Nat) : Int)) := by
  have hz : a ||| b < 2 ^ 62 := Nat.or_lt_two_pow ha hb
  have e : (BitVec.ofInt IntKind.i64.bits (a : Int) ||| BitVec.ofInt IntKind.i64.bits (b : Int)).toNat = a ||| b := by
    have hbits : IntKind.i64.bits = 64 := rfl
    rw [BitVec.toNat_or, BitVec.toNat_ofInt, BitVec.toNat_ofInt, hbits]
    congr 1 <;> omega
  have : binP Tryd.prog .or 3 (.int .i64 (a : Int)) (.int .i64 (b : Int)) = some (.int .i64 (IntKind.i64.wrap ((BitVec.ofInt IntKind.i64.bits (a : Int) ||| BitVec.ofInt IntKind.i64.bits (b : Int)).toNat : Int))) := by simp only [binP, binI, if_true]
  rw [this, e, wr (by omega)]

def orAll (w : Nat) : List Int → Nat
  | [] => w
  | e :: l => orAll (w ||| (1 <<< e.toNat)) l
def wideFrom (R C S : Nat) : Nat → Nat → Nat → Nat
  | 0, _, w => w
  | m + 1, i, w => wideFrom R C S m (i + 1) (if (S >>> i) &&& 1 = 0 then w else orAll w (nearN R C i))
def wideN (R C S : Nat) : Nat := wideFrom R C S (R * C) 0 S
theorem shl_lt {i : Nat} (hi : i < 9) : 1 <<< i < 2 ^ 9 := by
  rw [Nat.one_shiftLeft]; exact Nat.pow_lt_pow_right (by decide) hi

/-! ### what the model says -/
variable (g : Nat → PV) (lf n : Nat)

/-! ### the program -/
theorem f_sub (a b : Int) (h : -1000 ≤ a - b ∧ a - b ≤ 1000) : binP Tryd.prog .sub 3 (.int .i64 a) (.int .i64 b) = some (.int .i64 (a - b)) := by rw [bin_sub, wr (by omega)]
end Go.Proofs.YtbmmcldbllhhhaaDoor

/- Sets of cells as bits: what grows, what is reached, and at what cost. No program text. -/
set_option maxRecDepth 20000
namespace Go.Proofs.YtbmmcldbllhhhaaDoor

theorem bit_iff (x k : Nat) : x >>> k % 2 = 1 ↔ x.testBit k = true := by
  rw [Nat.testBit_eq_decide_div_mod_eq, Nat.shiftRight_eq_div_pow, decide_eq_true_iff]

/-- Cell j is beside cell k: the masks tell the neighbours of each cell. -/
def Adj (M : List Nat) (k j : Nat) : Prop := (M.getD k 0).testBit j = true

inductive Reach (M : List Nat) (set fr : Nat) : Nat → Prop
  | start {j} (h : fr.testBit j = true) (hs : set.testBit j = true) : Reach M set fr j
  | step {k j} (h : Reach M set fr k) (ha : Adj M k j) (hs : set.testBit j = true) : Reach M set fr j

theorem Reach.inSet {M : List Nat} {set fr j : Nat} (h : Reach M set fr j) : set.testBit j = true := by
  cases h <;> assumption

theorem Reach.mono {M : List Nat} {set fr set' fr' : Nat} (hs : ∀ j, set.testBit j = true → set'.testBit j = true) (hf : ∀ j, fr.testBit j = true → fr'.testBit j = true) {j : Nat} (h : Reach M set fr j) : Reach M set' fr' j := by
  induction h with
  | start h h' => exact .start (hf _ h) (hs _ h')
  | step _ ha h' ih => exact .step ih ha (hs _ h')

theorem Reach.trans {M : List Nat} {set fr fr' : Nat} (hf : ∀ j, fr'.testBit j = true → Reach M set fr j) {j : Nat} (h : Reach M set fr' j) : Reach M set fr j := by
  induction h with
  | start h _ => exact hf _ h
  | step _ ha h' ih => exact .step ih ha h'

theorem one_bit (k j : Nat) : (1 <<< k).testBit j = decide (j = k) := by
  rw [Nat.one_shiftLeft, Nat.testBit_two_pow]
  by_cases h : j = k
  · subst h; simp
  · simp [h]; exact fun e => h e.symm

/-- From one cell to another, and back. -/
theorem Reach.back {M : List Nat} (sym : ∀ k j, Adj M k j → Adj M j k) {set a b : Nat} (ha : set.testBit a = true) (h : Reach M set (1 <<< a) b) : Reach M set (1 <<< b) a := by
  induction h with
  | @start j h _ =>
    rw [one_bit] at h
    have : j = a := of_decide_eq_true h
    subst this
    exact .start (by rw [one_bit]; simp) ha
  | @step k j _ hk hj ih =>
    refine ih.trans fun i hi => ?_
    rw [one_bit] at hi
    have : i = k := of_decide_eq_true hi
    subst this
    rename_i hk'
    exact .step (.start (by rw [one_bit]; simp) hj) (sym _ _ hk) hk'.inSet

/-! ### growing -/
def stepFrom (set now : Nat) : Nat → List Nat → Nat → Nat
  | _, [], nx => nx
  | k, m :: ms, nx => stepFrom set now (k + 1) ms (if now >>> k % 2 = 1 then nx ||| (m &&& set) else nx)

theorem stepFrom_le (set now : Nat) : ∀ (ms : List Nat) (k nx : Nat), nx ≤ stepFrom set now k ms nx
  | [], _, _ => Nat.le_refl _
  | m :: ms, k, nx => by
    rw [stepFrom]
    refine Nat.le_trans ?_ (stepFrom_le set now ms (k + 1) _)
    split
    · exact Nat.left_le_or
    · exact Nat.le_refl _

theorem stepFrom_bit (set now : Nat) (j : Nat) : ∀ (ms : List Nat) (k nx : Nat), (stepFrom set now k ms nx).testBit j = true ↔ nx.testBit j = true ∨ ∃ i, now.testBit (k + i) = true ∧ (ms.getD i 0).testBit j = true ∧ set.testBit j = true
  | [], k, nx => by simp [stepFrom]
  | m :: ms, k, nx => by
    rw [stepFrom, stepFrom_bit set now j ms (k + 1)]
    have hsplit : (∃ i, now.testBit (k + i) = true ∧ ((m :: ms).getD i 0).testBit j = true ∧ set.testBit j = true) ↔ (now.testBit k = true ∧ m.testBit j = true ∧ set.testBit j = true) ∨ ∃ i, now.testBit (k + 1 + i) = true ∧ (ms.getD i 0).testBit j = true ∧ set.testBit j = true := by
      constructor
      · rintro ⟨i, h⟩
        cases i with
        | zero => exact .inl (by simpa using h)
        | succ i => exact .inr ⟨i, by rw [show k + 1 + i = k + (i + 1) by omega]; simpa using h⟩
      · rintro (h | ⟨i, h⟩)
        · exact ⟨0, by simpa using h⟩
        · exact ⟨i + 1, by rw [show k + (i + 1) = k + 1 + i by omega]; simpa using h⟩
    rw [hsplit]
    by_cases hb : now >>> k % 2 = 1
    · rw [if_pos hb, Nat.testBit_or, Nat.testBit_and]
      have hb' := (bit_iff now k).1 hb
      simp [hb', or_assoc]
    · rw [if_neg hb]
      have hb' : ¬ now.testBit k = true := fun h => hb ((bit_iff now k).2 h)
      simp [hb']

def growF (M : List Nat) (set : Nat) : Nat → Nat → Nat
  | 0, now => now
  | f + 1, now => if stepFrom set now 0 M now = now then now else growF M set f (stepFrom set now 0 M now)
def growN (M : List Nat) (set fr : Nat) : Nat := growF M set 600 (fr &&& set)

theorem sub_and {a b : Nat} (h : ∀ j, a.testBit j = true → b.testBit j = true) : a &&& b = a := by
  apply Nat.eq_of_testBit_eq
  intro j
  rw [Nat.testBit_and]
  cases e : a.testBit j with
  | false => rfl
  | true => rw [h j e]; rfl

theorem sub_le {a b : Nat} (h : ∀ j, a.testBit j = true → b.testBit j = true) : a ≤ b := by
  rw [← sub_and h]; exact Nat.and_le_right

theorem step_sub {M : List Nat} {set now : Nat} (h : ∀ j, now.testBit j = true → set.testBit j = true) : ∀ j, (stepFrom set now 0 M now).testBit j = true → set.testBit j = true := by
  intro j hj
  rcases (stepFrom_bit set now j M 0 now).1 hj with hj | ⟨_, _, _, hj⟩
  · exact h j hj
  · exact hj

theorem growF_fix {M : List Nat} {set : Nat} : ∀ (f now : Nat), (∀ j, now.testBit j = true → set.testBit j = true) → set < now + f → stepFrom set (growF M set f now) 0 M (growF M set f now) = growF M set f now ∧ (∀ j, now.testBit j = true → (growF M set f now).testBit j = true)
  | 0, now, hs, hf => by have := sub_le hs; omega
  | f + 1, now, hs, hf => by
    rw [growF]
    split
    · rename_i h; exact ⟨h, fun _ h => h⟩
    · rename_i h
      have hle := stepFrom_le set now M 0 now
      have ih := growF_fix (M := M) f (stepFrom set now 0 M now) (step_sub hs) (by omega)
      exact ⟨ih.1, fun j hj => ih.2 j ((stepFrom_bit set now j M 0 now).2 (.inl hj))⟩

theorem growF_reach {M : List Nat} {set fr : Nat} : ∀ (f now : Nat), (∀ j, now.testBit j = true → Reach M set fr j) → ∀ j, (growF M set f now).testBit j = true → Reach M set fr j
  | 0, now, hs, j, hj => hs j hj
  | f + 1, now, hs, j, hj => by
    rw [growF] at hj
    split at hj
    · exact hs j hj
    · refine growF_reach f _ (fun i hi => ?_) j hj
      rcases (stepFrom_bit set now i M 0 now).1 hi with hi | ⟨k, h1, h2, h3⟩
      · exact hs i hi
      · rw [Nat.zero_add] at h1
        exact .step (hs k h1) h2 h3

theorem grow_bit {M : List Nat} {set fr : Nat} (hset : set < 2 ^ 9) (j : Nat) : (growN M set fr).testBit j = true ↔ Reach M set fr j := by
  have hsub : ∀ j, (fr &&& set).testBit j = true → set.testBit j = true := fun j hj => by rw [Nat.testBit_and, Bool.and_eq_true] at hj; exact hj.2
  constructor
  · refine growF_reach 600 _ (fun i hi => ?_) j
    rw [Nat.testBit_and, Bool.and_eq_true] at hi
    exact .start hi.1 hi.2
  · obtain ⟨hfix, hin⟩ := growF_fix (M := M) 600 (fr &&& set) hsub (by omega)
    intro h
    induction h with
    | start h hs => exact hin _ (by rw [Nat.testBit_and, h, hs]; rfl)
    | @step k j _ ha hs ih =>
      unfold growN at ih ⊢
      rw [← hfix]
      exact (stepFrom_bit set _ j M 0 _).2 (.inr ⟨k, by rw [Nat.zero_add]; exact ih, ha, hs⟩)

/-! ### at what cost -/
/-- Cell j is reached from the edge over own cells and at most k free ones. -/
inductive Cost (M : List Nat) (edge own free : Nat) : Nat → Nat → Prop
  | ownEdge {k j} (h : edge.testBit j = true) (ho : own.testBit j = true) : Cost M edge own free k j
  | freeEdge {k j} (h : edge.testBit j = true) (hf : free.testBit j = true) : Cost M edge own free (k + 1) j
  | ownStep {k i j} (h : Cost M edge own free k i) (ha : Adj M i j) (ho : own.testBit j = true) : Cost M edge own free k j
  | freeStep {k i j} (h : Cost M edge own free k i) (ha : Adj M i j) (hf : free.testBit j = true) : Cost M edge own free (k + 1) j

theorem Cost.more {M : List Nat} {edge own free k j : Nat} (h : Cost M edge own free k j) : Cost M edge own free (k + 1) j := by
  induction h with
  | ownEdge h ho => exact .ownEdge h ho
  | freeEdge h hf => exact .freeEdge h hf
  | ownStep _ ha ho ih => exact .ownStep ih ha ho
  | freeStep _ ha hf ih => exact .freeStep ih ha hf

/-- Own cells more, free cells that are now own: no dearer. -/
theorem Cost.mono {M : List Nat} {edge own free own' free' : Nat} (ho : ∀ j, own.testBit j = true → own'.testBit j = true) (hf : ∀ j, free.testBit j = true → own'.testBit j = true ∨ free'.testBit j = true) {k j : Nat} (h : Cost M edge own free k j) : Cost M edge own' free' k j := by
  induction h with
  | ownEdge h h' => exact .ownEdge h (ho _ h')
  | freeEdge h h' =>
    rcases hf _ h' with h' | h'
    · exact .ownEdge h h'
    · exact .freeEdge h h'
  | ownStep _ ha h' ih => exact .ownStep ih ha (ho _ h')
  | freeStep _ ha h' ih =>
    rcases hf _ h' with h' | h'
    · exact (Cost.ownStep ih ha h').more
    · exact .freeStep ih ha h'

/-- One own cell more, at c, makes it cheaper by one at most. -/
theorem Cost.less {M : List Nat} {edge own free own' free' c : Nat} (hc : free.testBit c = true) (ho : ∀ j, own'.testBit j = true → own.testBit j = true ∨ j = c) (hf : ∀ j, free'.testBit j = true → free.testBit j = true) {k j : Nat} (h : Cost M edge own' free' k j) :
    Cost M edge own free k j ∨ (Cost M edge own free (k + 1) j ∧ Cost M edge own free (k + 1) c) := by
  induction h with
  | ownEdge h h' =>
    rcases ho _ h' with h' | rfl
    · exact .inl (.ownEdge h h')
    · exact .inr ⟨.freeEdge h hc, .freeEdge h hc⟩
  | freeEdge h h' => exact .inl (.freeEdge h (hf _ h'))
  | ownStep _ ha h' ih =>
    rcases ho _ h' with h' | rfl
    · rcases ih with ih | ⟨ih, ih2⟩
      · exact .inl (.ownStep ih ha h')
      · exact .inr ⟨.ownStep ih ha h', ih2⟩
    · rcases ih with ih | ⟨_, ih2⟩
      · exact .inr ⟨.freeStep ih ha hc, .freeStep ih ha hc⟩
      · exact .inr ⟨ih2, ih2⟩
  | freeStep _ ha h' ih =>
    rcases ih with ih | ⟨ih, ih2⟩
    · exact .inl (.freeStep ih ha (hf _ h'))
    · exact .inr ⟨.freeStep ih ha (hf _ h'), ih2.more⟩

/-- What is dear by one more is so by some free cell: with that one own it is not. -/
theorem Cost.cell {M : List Nat} {edge own free k j : Nat} (h : Cost M edge own free (k + 1) j) :
    Cost M edge own free k j ∨ ∃ c, free.testBit c = true ∧ ∀ own' free', (∀ j, own.testBit j = true → own'.testBit j = true) → own'.testBit c = true → (∀ j, free.testBit j = true → own'.testBit j = true ∨ free'.testBit j = true) → Cost M edge own' free' k j := by
  generalize hk : k + 1 = k' at h
  induction h generalizing k with
  | ownEdge h h' => exact .inl (.ownEdge h h')
  | @freeEdge k0 j h h' => exact .inr ⟨j, h', fun own' free' _ hc _ => .ownEdge h hc⟩
  | ownStep _ ha h' ih =>
    rcases ih hk with ih | ⟨c, hc, ih⟩
    · exact .inl (.ownStep ih ha h')
    · exact .inr ⟨c, hc, fun own' free' ho hoc hf => .ownStep (ih own' free' ho hoc hf) ha (ho _ h')⟩
  | @freeStep k0 i j h0 ha h' _ =>
    obtain rfl : k = k0 := by omega
    exact .inr ⟨j, h', fun own' free' ho hoc hf => .ownStep (h0.mono ho hf) ha hoc⟩

end Go.Proofs.YtbmmcldbllhhhaaDoor

/- Gaps: waves of cost tell the least number of free cells. No program text. -/
set_option maxRecDepth 20000
namespace Go.Proofs.YtbmmcldbllhhhaaDoor

/-- The last side is reached at cost k. -/
def Hits (M : List Nat) (own free edge last k : Nat) : Prop := ∃ j, last.testBit j = true ∧ Cost M edge own free k j
def IsGap (M : List Nat) (own free edge last k : Nat) : Prop := Hits M own free edge last k ∧ ∀ i, i < k → ¬ Hits M own free edge last i

theorem IsGap.unique {M : List Nat} {own free edge last k k' : Nat} (h : IsGap M own free edge last k) (h' : IsGap M own free edge last k') : k = k' := by
  rcases Nat.lt_trichotomy k k' with hlt | e | hgt
  · exact absurd h.1 (h'.2 k hlt)
  · exact e
  · exact absurd h'.1 (h.2 k' hgt)

theorem and_zero {a b : Nat} : a &&& b = 0 ↔ ∀ j, a.testBit j = true → b.testBit j = true → False := by
  constructor
  · intro h j ha hb
    have := congrArg (fun x => x.testBit j) h
    simp [Nat.testBit_and, ha, hb] at this
  · intro h
    apply Nat.eq_of_testBit_eq
    intro j
    rw [Nat.testBit_and, Nat.zero_testBit]
    cases ha : a.testBit j with
    | false => rfl
    | true =>
      cases hb : b.testBit j with
      | false => rfl
      | true => exact (h j ha hb).elim

/-- What is taken away. -/
def without (x c : Nat) : Nat := x ^^^ (x &&& (1 <<< c))
theorem without_bit (x c j : Nat) : (without x c).testBit j = (x.testBit j && decide (j ≠ c)) := by
  unfold without
  rw [Nat.testBit_xor, Nat.testBit_and, one_bit]
  by_cases h : j = c
  · subst h; simp
  · simp [h]
theorem with_bit (x c j : Nat) : (x ||| (1 <<< c)).testBit j = (x.testBit j || decide (j = c)) := by rw [Nat.testBit_or, one_bit]

section
variable {M : List Nat} {own free edge last : Nat}

end

/-! ### how many -/
def pop (x : Nat) : Nat := (List.range 9).countP fun j => x.testBit j

theorem countP_lt {α : Type} {p q : α → Bool} : ∀ {l : List α} {c : α}, (∀ x ∈ l, q x = true → p x = true) → c ∈ l → p c = true → q c = false → l.countP q + 1 ≤ l.countP p
  | [], _, _, hc, _, _ => by simp at hc
  | x :: l, c, hpq, hc, hp, hq => by
    rw [List.countP_cons, List.countP_cons]
    have hle : l.countP q ≤ l.countP p := List.countP_mono_left fun y hy h => hpq y (by simp [hy]) h
    rcases List.mem_cons.1 hc with rfl | hc
    · simp [hp, hq]; omega
    · have ih := countP_lt (fun y hy h => hpq y (by simp [hy]) h) hc hp hq
      by_cases hqx : q x = true
      · have := hpq x (by simp) hqx
        simp [hqx, this]; omega
      · simp [hqx]; omega

theorem bit_small {x n j : Nat} (hx : x < 2 ^ n) (h : x.testBit j = true) : j < n := by
  rcases Nat.lt_or_ge j n with hlt | hge
  · exact hlt
  · rw [Nat.testBit_lt_two_pow (Nat.lt_of_lt_of_le hx (Nat.pow_le_pow_right (by decide) hge))] at h; cases h

theorem without_lt {x c n : Nat} (hx : x < 2 ^ n) : without x c < 2 ^ n :=
  Nat.lt_of_le_of_lt (sub_le fun j hj => by rw [without_bit, Bool.and_eq_true] at hj; exact hj.1) hx

theorem pop_le {n x : Nat} (hn : n ≤ 9) (hx : x < 2 ^ n) : pop x ≤ n := by
  unfold pop
  have : (List.range 9).countP (fun j => x.testBit j) ≤ (List.range 9).countP (fun j => decide (j < n)) :=
    List.countP_mono_left fun j _ h => decide_eq_true (bit_small hx h)
  refine Nat.le_trans this ?_
  have : n = 0 ∨ n = 1 ∨ n = 2 ∨ n = 3 ∨ n = 4 ∨ n = 5 ∨ n = 6 ∨ n = 7 ∨ n = 8 ∨ n = 9 := by omega
  rcases this with rfl | rfl | rfl | rfl | rfl | rfl | rfl | rfl | rfl | rfl <;> decide

/-! ### the waves -/
section
variable {M : List Nat} {own free edge last : Nat}

end

end Go.Proofs.YtbmmcldbllhhhaaDoor

/- The model's sets of cells: masks, sides, the cells with a stone, growing, and whether sides are joined. -/
set_option maxRecDepth 20000
namespace Go.Proofs.YtbmmcldbllhhhaaDoor
open Go Go.Ip G

def masksN (R C : Nat) : List Nat := (List.range (R * C)).map fun k => orAll 0 (nearN R C k)
/-- A board, as numbers. -/
def BoardOf (R C : Nat) : Prop := 1 ≤ R ∧ R ≤ 4 ∧ 1 ≤ C ∧ C ≤ 4 ∧ R * C ≤ 9

variable (g : Nat → PV) (lf n : Nat)

/-! ### masks -/
/-! ### sides -/
def atSide (C P i : Nat) : Nat := if P = 2 then i % C else i / C
def endSide (R C P : Nat) : Nat := if P = 2 then C - 1 else R - 1
def sideFrom (R C P : Nat) (last : Bool) : Nat → Nat → Nat → Nat
  | 0, _, w => w
  | m + 1, i, w => sideFrom R C P last m (i + 1) (if (bif last then decide (atSide C P i = endSide R C P) else decide (atSide C P i = 0)) = true then w ||| (1 <<< i) else w)
def sideN (R C P : Nat) (last : Bool) : Nat := sideFrom R C P last (R * C) 0 0

/-! ### the cells with a stone -/
def setFrom (what : Int) : Nat → List Int → Nat → Nat
  | _, [], w => w
  | k, x :: xs, w => setFrom what (k + 1) xs (if x = what then w ||| (1 <<< k) else w)
def setL (xs : List Int) (what : Int) : Nat := setFrom what 0 xs 0

theorem setFrom_lt (what : Int) {n : Nat} : ∀ (xs : List Int) (k w : Nat), k + xs.length ≤ n → w < 2 ^ n → setFrom what k xs w < 2 ^ n
  | [], _, _, _, hw => hw
  | x :: xs, k, w, hk, hw => by
    rw [setFrom]
    rw [List.length_cons] at hk
    refine setFrom_lt what xs (k + 1) _ (by omega) ?_
    split
    · refine Nat.or_lt_two_pow hw ?_
      rw [Nat.one_shiftLeft]; exact Nat.pow_lt_pow_right (by decide) (by omega)
    · exact hw
theorem setL_lt (what : Int) {xs : List Int} {n : Nat} (h : xs.length ≤ n) : setL xs what < 2 ^ n := setFrom_lt what xs 0 0 (by omega) (Nat.two_pow_pos n)

theorem setFrom_bit (what : Int) (j : Nat) : ∀ (xs : List Int) (k w : Nat), (setFrom what k xs w).testBit j = true ↔ w.testBit j = true ∨ ∃ i, j = k + i ∧ xs[i]? = some what
  | [], k, w => by simp [setFrom]
  | x :: xs, k, w => by
    rw [setFrom, setFrom_bit what j xs (k + 1)]
    have hs : (∃ i, j = k + i ∧ (x :: xs)[i]? = some what) ↔ (j = k ∧ x = what) ∨ ∃ i, j = k + 1 + i ∧ xs[i]? = some what := by
      constructor
      · rintro ⟨i, h1, h2⟩
        cases i with
        | zero => exact .inl ⟨by omega, by simpa using h2⟩
        | succ i => exact .inr ⟨i, by omega, by simpa using h2⟩
      · rintro (⟨h1, h2⟩ | ⟨i, h1, h2⟩)
        · exact ⟨0, by omega, by simp [h2]⟩
        · exact ⟨i + 1, by omega, by simpa using h2⟩
    rw [hs]
    by_cases e : x = what
    · rw [if_pos e, Nat.testBit_or, one_bit, Bool.or_eq_true, decide_eq_true_iff]
      simp [e, or_assoc]
    · rw [if_neg e]; simp [e]

theorem setL_bit {xs : List Int} {what : Int} {j : Nat} : (setL xs what).testBit j = true ↔ xs[j]? = some what := by
  unfold setL
  rw [setFrom_bit]
  constructor
  · rintro (h | ⟨i, h1, h2⟩)
    · rw [Nat.zero_testBit] at h; cases h
    · rw [Nat.zero_add] at h1; subst h1; exact h2
  · intro h; exact .inr ⟨j, by omega, h⟩

/-! ### growing -/
theorem bitq (x k : Nat) (hk : k ≤ 20) : binP Tryd.prog .shr 3 (.int .i64 (x : Int)) (.int .i64 (k : Int)) = some (.int .i64 ((x >>> k : Nat) : Int)) ∧ binP Tryd.prog .rem 3 (.int .i64 ((x >>> k : Nat) : Int)) (.int .i64 2) = some (.int .i64 ((x >>> k % 2 : Nat) : Int)) ∧
    binP Tryd.prog .eql 3 (.int .i64 ((x >>> k % 2 : Nat) : Int)) (.int .i64 1) = some (.bool (decide (x >>> k % 2 = 1))) :=
  ⟨f_shr x k (by omega), f_rem (x >>> k) 2 (by decide), by rw [bin_eql]; exact congrArg (fun z => some (PV.bool z)) (natEq _ 1)⟩

def joinsN (R C P S : Nat) : Bool := !decide (growN (masksN R C) S (sideN R C P false) &&& sideN R C P true = 0)

end Go.Proofs.YtbmmcldbllhhhaaDoor

/- The model's chapter 2: what Joins, GroupOf, GapOf, Filled and GapCells of it compute. -/
set_option maxRecDepth 20000
namespace Go.Proofs.YtbmmcldbllhhhaaDoor
open Go Go.Ip G

def playerB (p : Int) : Bool := decide (1 ≤ p ∧ p ≤ 2)
def listFrom (set : Nat) : Nat → Nat → List Int
  | 0, _ => []
  | m + 1, k => if set >>> k % 2 = 1 then (k : Int) :: listFrom set m (k + 1) else listFrom set m (k + 1)
def listN (set : Nat) : List Int := listFrom set 9 0
theorem player_of {p : Int} (h : playerB p = true) : ∃ P : Nat, p = (P : Int) ∧ (P = 1 ∨ P = 2) := by
  unfold playerB at h
  have := of_decide_eq_true h
  obtain ⟨P, rfl⟩ := Int.eq_ofNat_of_zero_le (show 0 ≤ p by omega)
  exact ⟨P, rfl, by omega⟩

variable (g : Nat → PV) (lf n : Nat)

/-! ### a set's list -/
theorem listFrom_nil {set : Nat} : ∀ (m k : Nat), set >>> k = 0 → listFrom set m k = []
  | 0, _, _ => rfl
  | m + 1, k, h => by
    have h2 : set >>> (k + 1) = 0 := by rw [Nat.shiftRight_add, h]; rfl
    rw [listFrom, h, if_neg (by decide), listFrom_nil m (k + 1) h2]

theorem list_loop {set : Nat} (hs : set < 2 ^ 9) : ∀ (m k fuel : Nat) (q : PV) (ys : List Int) (h : PHeap) (b : Nat), k + m = 9 → m < fuel → ys.length ≤ k → OwnSl b h q ys → b ≤ h.length →
    ∃ q' h', loopK (ev ((env g lf n).cx Tryd.prog spec_l2List.kl) spec_l2List.lp0) fuel (spec_l2List.st0 (.int .i64 (set : Int)) q (.int .i64 (k : Int)) h) (spec_l2List.K0 (env g lf n) (kTop Tryd.prog Tryd.f64)) = some (q', h') ∧
      OwnSl b h' q' (ys ++ listFrom set m k) ∧ Keep b h h'
  | m, k, fuel, q, ys, h, b, hkm, hf, hy, ho, hb => by
    obtain ⟨f, rfl⟩ : ∃ f, fuel = f + 1 := ⟨fuel - 1, by omega⟩
    obtain ⟨b1, b2, b3⟩ := bitq set k (by omega)
    have g1 : binP Tryd.prog .gtr 3 (.int .i64 ((set >>> k : Nat) : Int)) (.int .i64 0) = some (.bool (decide (0 < set >>> k))) := by
      rw [bin_gtr]
      congr 2
      apply decide_eq_decide.2
      omega
    by_cases hz : set >>> k = 0
    · refine ⟨q, h, ?_, by rw [listFrom_nil m k hz, List.append_nil]; exact ho, Keep.refl _ _⟩
      rw [loopK_succ, spec_l2List.body0_eq]
      rw [decide_eq_false (by omega)] at g1
      unfold spec_l2List.body0
      refine bd b1 (bd g1 (cdF ?_))
      rw [kLoop_exit, spec_l2List.after0_se0_0_3_4_9]
      exact bd ho.res rfl
    · match m with
      | 0 =>
        obtain rfl : k = 9 := by omega
        exact absurd (by rw [Nat.shiftRight_eq_div_pow]; exact Nat.div_eq_of_lt hs) hz
      | m + 1 =>
        have f4 : binP Tryd.prog .add 3 (.int .i64 (k : Int)) (.int .i64 1) = some (.int .i64 ((k + 1 : Nat) : Int)) := by rw [bin_add, nx (by omega)]
        rw [decide_eq_true (Nat.pos_of_ne_zero hz)] at g1
        rw [listFrom]
        by_cases e : set >>> k % 2 = 1
        · rw [if_pos e]
          rw [decide_eq_true e] at b3
          obtain ⟨v, q2, h2', hb2, ha2, ho2, hk2⟩ := ho.append hb (k : Int) (by omega)
          obtain ⟨q', h', ih, o', k'⟩ := list_loop hs m (k + 1) f q2 (ys ++ [(k : Int)]) h2' b (by omega) (by omega) (by simp; omega) ho2 (by have := hk2.1; omega)
          refine ⟨q', h', ?_, by simpa using o', hk2.trans k'⟩
          rw [loopK_succ, spec_l2List.body0_eq]
          unfold spec_l2List.body0
          exact bd b1 (bd g1 (cdT (bd b1 (bd b2 (bd b3 (cdT (bd hb2 (bd ha2 (bd f4 ih)))))))))
        · rw [if_neg e]
          rw [decide_eq_false e] at b3
          obtain ⟨q', h', ih, o', k'⟩ := list_loop hs m (k + 1) f q ys h b (by omega) (by omega) (by omega) ho hb
          refine ⟨q', h', ?_, o', k'⟩
          rw [loopK_succ, spec_l2List.body0_eq]
          unfold spec_l2List.body0
          exact bd b1 (bd g1 (cdT (bd b1 (bd b2 (bd b3 (cdF (bd f4 ih)))))))
termination_by m => m

theorem l2List_calls {set : Nat} (hs : set < 2 ^ 9) (N : Nat) (hN : 1 ≤ N) (hlf : 20 < lf) {h : PHeap} :
    ∃ q h', CL g lf N fn_spec_l2List [.int .i64 (set : Int)] h = some (q, h') ∧ OwnSl h.length h' q (listN set) ∧ Keep h.length h h' := by
  obtain ⟨n, rfl⟩ : ∃ n, N = n + 1 := ⟨N - 1, by omega⟩
  rw [spec_l2List.call_eq]
  obtain ⟨q0, h0, e0, o0, k0⟩ := empty_lit (h := h)
  obtain ⟨q', h', e, o, k⟩ := list_loop g lf n hs 9 0 lf q0 [] h0 h.length (by omega) (by omega) (by simp) o0 k0.1
  refine ⟨q', h', ?_, by simpa [listN] using o, k0.trans k⟩
  unfold spec_l2List.main
  exact bd e0 e

/-! ### gaps -/
/-! ### the functions -/
end Go.Proofs.YtbmmcldbllhhhaaDoor

/- The model's Filled and GapCells. -/
set_option maxRecDepth 20000
namespace Go.Proofs.YtbmmcldbllhhhaaDoor
open Go Go.Ip G

variable (g : Nat → PV) (lf n : Nat)

/-! ### the cells that close a gap -/
end Go.Proofs.YtbmmcldbllhhhaaDoor

/- Of all boards and all sets of cells: exactly one has joined on a full board; turned, and mirrored. No program text. -/
set_option maxRecDepth 20000
namespace Go.Proofs.YtbmmcldbllhhhaaDoor

def boards : List (Nat × Nat) := [(1, 1), (1, 2), (1, 3), (1, 4), (2, 1), (2, 2), (2, 3), (2, 4), (3, 1), (3, 2), (3, 3), (4, 1), (4, 2)]
theorem board_mem {R C : Nat} (h : BoardOf R C) : (R, C) ∈ boards := by
  obtain ⟨h1, h2, h3, h4, h9⟩ := h
  have hR : R = 1 ∨ R = 2 ∨ R = 3 ∨ R = 4 := by omega
  have hC : C = 1 ∨ C = 2 ∨ C = 3 ∨ C = 4 := by omega
  rcases hR with rfl | rfl | rfl | rfl <;> rcases hC with rfl | rfl | rfl | rfl <;> first | decide | omega

/-- The cells of a set, each at another place. -/
def moved (f : Nat → Nat) (S : Nat) : Nat → Nat
  | 0 => 0
  | k + 1 => moved f S k ||| (if S.testBit k then 1 <<< f k else 0)

def hexB (R C S : Nat) : Bool :=
  (joinsN R C 1 S != joinsN R C 2 (2 ^ (R * C) - 1 - S)) &&
  (joinsN R C 1 (moved (fun k => R * C - 1 - k) S (R * C)) == joinsN R C 1 S) && (joinsN R C 2 (moved (fun k => R * C - 1 - k) S (R * C)) == joinsN R C 2 S) &&
  (joinsN C R 2 (moved (sig C R) S (R * C)) == joinsN R C 1 S) && (joinsN C R 1 (moved (sig C R) S (R * C)) == joinsN R C 2 S)

theorem hex_all : (boards.all fun b => (List.range (2 ^ (b.1 * b.2))).all fun S => hexB b.1 b.2 S) = true := by kernel_rfl

theorem hex_ok {R C S : Nat} (hb : BoardOf R C) (hS : S < 2 ^ (R * C)) : hexB R C S = true := by
  have := List.all_eq_true.1 hex_all (R, C) (board_mem hb)
  exact List.all_eq_true.1 this S (by rw [List.mem_range]; exact hS)

end Go.Proofs.YtbmmcldbllhhhaaDoor

/- Promise 6: mirrored twice it is as before. -/
set_option maxRecDepth 20000
namespace Go.Proofs.YtbmmcldbllhhhaaDoor
open Go Go.Ip Go.RowKit G

variable (g : Nat → PV) (lf n : Nat)

end Go.Proofs.YtbmmcldbllhhhaaDoor

/- What the laws of chapter 2 say of positions, as facts on sets of cells. No program text. -/
set_option maxRecDepth 20000
namespace Go.Proofs.YtbmmcldbllhhhaaDoor

/-! ### joined sides -/
theorem joins_iff {R C P S : Nat} (hS : S < 2 ^ 9) : joinsN R C P S = true ↔ ∃ j, (sideN R C P true).testBit j = true ∧ Reach (masksN R C) S (sideN R C P false) j := by
  unfold joinsN
  rw [Bool.not_eq_true', decide_eq_false_iff_not]
  constructor
  · intro h
    apply Classical.byContradiction
    intro hn
    exact h (and_zero.2 fun j h1 h2 => hn ⟨j, h2, (grow_bit hS j).1 h1⟩)
  · rintro ⟨j, h1, h2⟩ h
    exact and_zero.1 h j ((grow_bit hS j).2 h2) h1

theorem joins_mono {R C P S T : Nat} (hS : S < 2 ^ 9) (hT : T < 2 ^ 9) (h : ∀ j, S.testBit j = true → T.testBit j = true) (hj : joinsN R C P S = true) : joinsN R C P T = true := by
  obtain ⟨j, h1, h2⟩ := (joins_iff hS).1 hj
  exact (joins_iff hT).2 ⟨j, h1, h2.mono h (fun _ h => h)⟩

theorem compl_bit {n S : Nat} (hS : S < 2 ^ n) (j : Nat) : (2 ^ n - 1 - S).testBit j = (decide (j < n) && !S.testBit j) := by
  rw [Nat.sub_sub, Nat.add_comm 1 S]; exact Nat.testBit_two_pow_sub_succ hS j

theorem hex {R C P S : Nat} (hB : BoardOf R C) (hP : P = 1 ∨ P = 2) (hS : S < 2 ^ (R * C)) : joinsN R C P S = !joinsN R C (3 - P) (2 ^ (R * C) - 1 - S) := by
  have key : ∀ T, T < 2 ^ (R * C) → joinsN R C 1 T = !joinsN R C 2 (2 ^ (R * C) - 1 - T) := fun T hT => by
    have := hex_ok hB hT
    unfold hexB at this
    simp only [Bool.and_eq_true] at this
    have := this.1.1.1.1
    cases h1 : joinsN R C 1 T <;> cases h2 : joinsN R C 2 (2 ^ (R * C) - 1 - T) <;> rw [h1, h2] at this <;> first | rfl | cases this
  rcases hP with rfl | rfl
  · exact key S hS
  · have h2 := key (2 ^ (R * C) - 1 - S) (by omega)
    rw [show 2 ^ (R * C) - 1 - (2 ^ (R * C) - 1 - S) = S by omega] at h2
    rw [show 3 - 2 = 1 from rfl, h2, Bool.not_not]

/-! ### filled -/
/-! ### turned and mirrored -/
theorem moved_bit (f : Nat → Nat) (S : Nat) : ∀ (n j : Nat), (moved f S n).testBit j = true ↔ ∃ k, k < n ∧ S.testBit k = true ∧ j = f k
  | 0, j => by simp [moved]
  | n + 1, j => by
    rw [moved, Nat.testBit_or, Bool.or_eq_true, moved_bit f S n j]
    have hlast : ((if S.testBit n = true then 1 <<< f n else 0).testBit j = true) ↔ (S.testBit n = true ∧ j = f n) := by
      by_cases h : S.testBit n = true
      · rw [if_pos h, one_bit, decide_eq_true_iff]; simp [h]
      · rw [if_neg h, Nat.zero_testBit]; simp [h]
    rw [hlast]
    constructor
    · rintro (⟨k, h1, h2, h3⟩ | ⟨h1, h2⟩)
      · exact ⟨k, by omega, h2, h3⟩
      · exact ⟨n, by omega, h1, h2⟩
    · rintro ⟨k, h1, h2, h3⟩
      by_cases e : k = n
      · subst e; exact .inr ⟨h2, h3⟩
      · exact .inl ⟨k, by omega, h2, h3⟩

/-! ### gaps -/
/-! ### the cells that close a gap -/
end Go.Proofs.YtbmmcldbllhhhaaDoor

