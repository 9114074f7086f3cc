/- Texts of this seat, in their order, put together by program. -/
import Derived.Test.YtlefknibddkjpabDoorK6
import Derived.IntWalk
import Derived.Test.YtlefknibddkjpabDoorProg
import Derived.KernelRfl
set_option linter.unusedSimpArgs false
set_option linter.unusedVariables false
set_option linter.unusedSectionVars false
/- What the operations come to on values that are written out: rules for the simplifier; and the types of this program. -/
set_option maxRecDepth 20000
namespace Go.Proofs.YtlefknibddkjpabDoor
open Go Go.Ip

section
variable {P : Program} {t : TypeId} {k : IntKind} {a b : Int} {h : PHeap}

@[simp] theorem bin_add : binP P .add t (.int k a) (.int k b) = some (.int k (k.wrap (a + b))) := by simp [binP, binI]
@[simp] theorem bin_sub : binP P .sub t (.int k a) (.int k b) = some (.int k (k.wrap (a - b))) := by simp [binP, binI]
@[simp] theorem bin_mul : binP P .mul t (.int k a) (.int k b) = some (.int k (k.wrap (a * b))) := by simp [binP, binI]
theorem bin_quo (hb : b ≠ 0) : binP P .quo t (.int k a) (.int k b) = some (.int k (k.wrap (a.tdiv b))) := by simp [binP, binI, hb]
theorem bin_rem (hb : b ≠ 0) : binP P .rem t (.int k a) (.int k b) = some (.int k (a.tmod b)) := by simp [binP, binI, hb]
@[simp] theorem bin_eql : binP P .eql t (.int k a) (.int k b) = some (.bool (a == b)) := by simp [binP, binI]
@[simp] theorem bin_neq : binP P .neq t (.int k a) (.int k b) = some (.bool (a != b)) := by simp [binP, binI]
@[simp] theorem bin_lss : binP P .lss t (.int k a) (.int k b) = some (.bool (decide (a < b))) := by simp [binP, binI]
@[simp] theorem bin_leq : binP P .leq t (.int k a) (.int k b) = some (.bool (decide (a ≤ b))) := by simp [binP, binI]
@[simp] theorem bin_gtr : binP P .gtr t (.int k a) (.int k b) = some (.bool (decide (b < a))) := by simp [binP, binI]
@[simp] theorem bin_geq : binP P .geq t (.int k a) (.int k b) = some (.bool (decide (b ≤ a))) := by simp [binP, binI]
@[simp] theorem un_not {x : Bool} : unP .not (.bool x) = some (.bool (!x)) := rfl
@[simp] theorem un_neg : unP .neg (.int k a) = some (.int k (k.wrap (0 - a))) := rfl
@[simp] theorem pick_bool {x : Bool} {u v : PV} : pickP (.bool x) u v = some (bif x then u else v) := rfl
@[simp] theorem want_bool {x y : Bool} : wantV (.bool x) y = some (x == y) := rfl
@[simp] theorem want_undef {y : Bool} : wantV (.tup []) y = some false := rfl
@[simp] theorem cond_bool {x : Bool} {u v : Res} : condP (.bool x) u v = bif x then u else v := rfl
@[simp] theorem res_int : resV (.int k a) = some (.int k a) := rfl
@[simp] theorem res_bool {x : Bool} : resV (.bool x) = some (.bool x) := rfl
@[simp] theorem res_sl {i o l : Nat} : resV (.sl i o l) = some (.sl i o l) := rfl
@[simp] theorem res_nilsl : resV .nilsl = some .nilsl := rfl
@[simp] theorem res_ptr {i o : Nat} : resV (.ptr i o) = some (.ptr i o) := rfl
@[simp] theorem pv_some' {v : PV} : pv h (some v) = some (v, h) := rfl
@[simp] theorem ptr_ptr {i o : Nat} : ptrP (.ptr i o) = some (.ptr i o) := rfl
@[simp] theorem extract_tup {l : List PV} {i : Nat} : extractP (.tup l) i = l[i]? := rfl
@[simp] theorem fold_nil {f : PV → PV → Option PV} {x : PV} : foldP f x [] = some x := rfl
@[simp] theorem fold_cons {f : PV → PV → Option PV} {x y : PV} {ys : List PV} : foldP f x (y :: ys) = (f x y).bind fun z => foldP f z ys := rfl
@[simp] theorem max2_int {k' : IntKind} : maxP2 (.int k a) (.int k' b) = some (.int k (if b > a then b else a)) := rfl
@[simp] theorem min2_int {k' : IntKind} : minP2 (.int k a) (.int k' b) = some (.int k (if b < a then b else a)) := rfl
theorem wr {x : Int} (hx : -9223372036854775808 ≤ x ∧ x ≤ 9223372036854775807) : IntKind.i64.wrap x = x := by rw [IntKind.wrap_i64]; omega

theorem bin_eqlB {x y : Bool} (ht : isBoolT P t = true) : binP P .eql t (.bool x) (.bool y) = some (.bool (x == y)) := by simp [binP, ht]
theorem bin_neqB {x y : Bool} (ht : isBoolT P t = true) : binP P .neq t (.bool x) (.bool y) = some (.bool (!(x == y))) := by simp [binP, ht]
end

@[simp] theorem ty_bool : isBoolT Tryd.prog 4 = true := by kernel_rfl
@[simp] theorem neqB {x y : Bool} : binP Tryd.prog .neq 4 (.bool x) (.bool y) = some (.bool (!(x == y))) := bin_neqB ty_bool
@[simp] theorem eqlB {x y : Bool} : binP Tryd.prog .eql 4 (.bool x) (.bool y) = some (.bool (x == y)) := bin_eqlB ty_bool

end Go.Proofs.YtlefknibddkjpabDoor

/- Slices of integers on the interpreter's heap: how they are read, made, written and appended to. -/
set_option maxRecDepth 20000
namespace Go.Proofs.YtlefknibddkjpabDoor
open Go Go.Ip G

def kLoop (f : St → (PX → St → Res) → Res) (n : Nat) (k : PX → St → Res) : PX → St → Res := fun x s => match x with | .normal => loopK f n s k | x => k x s
theorem loopK_succ (f : St → (PX → St → Res) → Res) (n : Nat) (s : St) (k : PX → St → Res) : loopK f (n + 1) s k = f s (kLoop f n k) := rfl
@[simp] theorem kLoop_normal (f : St → (PX → St → Res) → Res) (n : Nat) (s : St) (k : PX → St → Res) : kLoop f n k .normal s = loopK f n s k := rfl
@[simp] theorem kLoop_exit (f : St → (PX → St → Res) → Res) (n i : Nat) (s : St) (k : PX → St → Res) : kLoop f n k (.exit i) s = k (.exit i) s := rfl
@[simp] theorem kLoop_ret (f : St → (PX → St → Res) → Res) (n : Nat) (s : St) (k : PX → St → Res) : kLoop f n k .ret s = k .ret s := rfl

/-- The first n objects are as they were. -/
def Keep (n : Nat) (h h' : PHeap) : Prop := h.length ≤ h'.length ∧ ∀ i, i < n → h'[i]? = h[i]?

theorem Keep.refl (n : Nat) (h : PHeap) : Keep n h h := ⟨Nat.le_refl _, fun _ _ => rfl⟩
theorem Keep.trans {n : Nat} {a b c : PHeap} (h : Keep n a b) (k : Keep n b c) : Keep n a c := ⟨Nat.le_trans h.1 k.1, fun i hi => (k.2 i hi).trans (h.2 i hi)⟩
theorem Keep.mono {n m : Nat} {a b : PHeap} (h : Keep n a b) (hm : m ≤ n) : Keep m a b := ⟨h.1, fun i hi => h.2 i (by omega)⟩
theorem Keep.append (n : Nat) (h E : PHeap) (hn : n ≤ h.length) : Keep n h (h ++ E) := ⟨by simp, fun i hi => List.getElem?_append_left (by omega)⟩
theorem Keep.set (n : Nat) (h : PHeap) (i : Nat) (o : PObj) (hi : n ≤ i) : Keep n h (h.set i o) := ⟨by simp, fun j hj => List.getElem?_set_ne (by omega)⟩

theorem cellsAt_keep {n : Nat} {h h' : PHeap} (k : Keep n h h') {id : Nat} (hi : id < n) : cellsAt h' id = cellsAt h id := by
  unfold cellsAt; rw [k.2 id hi]

theorem lt_of_cell {h : PHeap} {id j : Nat} {v : PV} (hv : (cellsAt h id)[j]? = some v) : id < h.length := by
  unfold cellsAt at hv
  cases ho : h[id]? with
  | none => rw [ho] at hv; simp at hv
  | some o => exact (List.getElem?_eq_some_iff.1 ho).1

theorem IntSl.keep {k : IntKind} {h h' : PHeap} {p : PV} {xs : List Int} (s : IntSl k h p xs) (hk : Keep h.length h h') : IntSl k h' p xs := by
  rcases s with s | ⟨id, off, hp, hc⟩
  · exact .inl s
  · exact .inr ⟨id, off, hp, fun i x hx => by rw [cellsAt_keep hk (lt_of_cell (hc i x hx))]; exact hc i x hx⟩

theorem IntSl.nil (k : IntKind) (h : PHeap) : IntSl k h .nilsl [] := .inl ⟨rfl, rfl⟩

section
variable {P : Program} {T I : TypeId}

theorem IntSl.len {k : IntKind} {h : PHeap} {p : PV} {xs : List Int} (s : IntSl k h p xs) (hT : P.underlying T = some (.slice I)) : lenP P T p = some (.int .i64 xs.length) := by
  rcases s with ⟨rfl, rfl⟩ | ⟨id, off, rfl, hc⟩ <;> simp [lenP, hT]

theorem IntSl.at {k : IntKind} {h : PHeap} {p : PV} {xs : List Int} (s : IntSl k h p xs) (hT : P.underlying T = some (.slice I)) (hS : sizeT P I = some 1) (hA : isAggT P I = some false) {i : Nat} (hi : i < xs.length) :
    ∃ a, indexAddrP P T p (.int .i64 i) = some a ∧ loadP P I a h = some (.int k xs[i]) := by
  rcases s with ⟨rfl, rfl⟩ | ⟨id, off, rfl, hc⟩
  · simp at hi
  · refine ⟨.ptr id (off + i), ?_, ?_⟩
    · simp [indexAddrP, hT, hS, hi]
    · simp only [loadP, hA]
      exact hc i _ (List.getElem?_eq_getElem hi)
end

/-- A slice of integers that the call itself made, from object n on. -/
def OwnSl (n : Nat) (h : PHeap) (p : PV) (xs : List Int) : Prop :=
  (p = .nilsl ∧ xs = []) ∨ ∃ id, n ≤ id ∧ p = .sl id 0 xs.length ∧ h[id]? = some (.own 1 (xs.map (.int .i64)))

theorem OwnSl.int {n : Nat} {h : PHeap} {p : PV} {xs : List Int} (s : OwnSl n h p xs) : IntSl .i64 h p xs := by
  rcases s with s | ⟨id, _, hp, ho⟩
  · exact .inl s
  · refine .inr ⟨id, 0, hp, fun i x hx => ?_⟩
    simp [cellsAt, ho, PObj.get, hx]

theorem OwnSl.mono {n m : Nat} {h : PHeap} {p : PV} {xs : List Int} (s : OwnSl n h p xs) (hm : m ≤ n) : OwnSl m h p xs := by
  rcases s with s | ⟨id, h1, h2⟩
  · exact .inl s
  · exact .inr ⟨id, by omega, h2⟩

theorem OwnSl.keep {n : Nat} {h h' : PHeap} {p : PV} {xs : List Int} (s : OwnSl n h p xs) (hk : Keep h.length h h') : OwnSl n h' p xs := by
  rcases s with s | ⟨id, h1, h2, h3⟩
  · exact .inl s
  · exact .inr ⟨id, h1, h2, by rw [hk.2 id (List.getElem?_eq_some_iff.1 h3).1]; exact h3⟩

theorem OwnSl.nil (n : Nat) (h : PHeap) : OwnSl n h .nilsl [] := .inl ⟨rfl, rfl⟩

theorem tyS : Tryd.prog.underlying 26 = some (.slice 3) := by kernel_rfl
theorem tySize : sizeT Tryd.prog 3 = some 1 := by kernel_rfl
theorem tyAgg : isAggT Tryd.prog 3 = some false := by kernel_rfl
theorem tyElem : elemT Tryd.prog 26 = some 3 := by kernel_rfl
theorem tyZero : zeroCellsT Tryd.prog 3 = some [.int .i64 0] := by kernel_rfl
theorem tySmall : smallT Tryd.prog 3 = true := by kernel_rfl

theorem IntSl.len' {k : IntKind} {h : PHeap} {p : PV} {xs : List Int} (s : IntSl k h p xs) : lenP Tryd.prog 26 p = some (.int .i64 xs.length) := s.len tyS
theorem IntSl.at' {k : IntKind} {h : PHeap} {p : PV} {xs : List Int} (s : IntSl k h p xs) {i : Nat} (hi : i < xs.length) :
    ∃ a, indexAddrP Tryd.prog 26 p (.int .i64 i) = some a ∧ loadP Tryd.prog 3 a h = some (.int k xs[i]) := s.at tyS tySize tyAgg hi

theorem OwnSl.store {n : Nat} {h : PHeap} {p : PV} {xs : List Int} (s : OwnSl n h p xs) {i : Nat} (hi : i < xs.length) (x : Int) :
    ∃ a h', indexAddrP Tryd.prog 26 p (.int .i64 i) = some a ∧ storeP Tryd.prog 3 a (.int .i64 x) h = some h' ∧ OwnSl n h' p (xs.set i x) ∧ Keep n h h' ∧ h'.length = h.length := by
  rcases s with ⟨rfl, rfl⟩ | ⟨id, h1, rfl, h3⟩
  · simp at hi
  · have hid : id < h.length := (List.getElem?_eq_some_iff.1 h3).1
    refine ⟨.ptr id (0 + i), h.set id (.own 1 ((xs.set i x).map (.int .i64))), by simp [indexAddrP, tySize, hi], ?_, .inr ⟨id, h1, by simp, by rw [List.getElem?_set_self hid]⟩, Keep.set _ _ _ _ h1, by simp⟩
    simp only [storeP, h3, PV.cells, tySize, Nat.zero_add]
    rw [if_pos ⟨rfl, by simp; omega⟩]
    simp [setCells, List.map_set]

/-- One element more. -/
theorem OwnSl.append {n : Nat} {h : PHeap} {p : PV} {xs : List Int} (s : OwnSl n h p xs) (hn : n ≤ h.length) (x : Int) (hl : xs.length + 1 ≤ 2 ^ 36) :
    ∃ v p' h', buildSliceP Tryd.prog 26 1 [(0, .int .i64 x)] h = some v ∧ appendP Tryd.prog 26 26 p v.1 v.2 = some (p', h') ∧ OwnSl n h' p' (xs ++ [x]) ∧ Keep n h h' := by
  have hb : buildSliceP Tryd.prog 26 1 [(0, .int .i64 x)] h = some (.sl h.length 0 1, h ++ [.own 1 [.int .i64 x]]) := by
    simp [buildSliceP, tyElem, tySize, tyZero, repeatCells, fillP, PV.cells, setCells]
  have hsrc : srcP (h ++ [.own 1 [.int .i64 x]]) 1 (.sl h.length 0 1) = some (1, [.int .i64 x]) := by
    simp [srcP, cellsAt, PObj.get]
  rcases s with ⟨rfl, rfl⟩ | ⟨id, h1, rfl, h3⟩
  · refine ⟨_, .sl (h.length + 1) 0 1, h ++ [.own 1 [.int .i64 x]] ++ [.own 1 [.int .i64 x]], hb, ?_, .inr ⟨h.length + 1, by omega, rfl, ?_⟩, ?_⟩
    · simp [appendP, tyElem, tySize, tySmall, hsrc]
    · rw [List.getElem?_append_right (by simp)]; simp
    · rw [List.append_assoc]; exact Keep.append _ _ _ hn
  · have hid : id < h.length := (List.getElem?_eq_some_iff.1 h3).1
    have h3' : (h ++ [PObj.own 1 [.int .i64 x]])[id]? = some (.own 1 (xs.map (.int .i64))) := by rw [List.getElem?_append_left hid]; exact h3
    refine ⟨_, .sl (h.length + 1) 0 (xs.length + 1), ((h ++ [PObj.own 1 [.int .i64 x]]).set id .dead ++ [PObj.own 1 (xs.map (.int .i64) ++ [.int .i64 x])]), hb, ?_, .inr ⟨h.length + 1, by omega, by simp, ?_⟩, ?_⟩
    · simp [appendP, tyElem, tySize, tySmall, hsrc, h3', hl]
    · rw [List.getElem?_append_right (by simp)]; simp
    · exact ((Keep.append n h _ hn).trans (Keep.set n _ id .dead h1)).trans (Keep.append _ _ _ (by simp; omega))

/-- An empty literal. -/
theorem empty_lit {h : PHeap} : ∃ p h', buildSliceP Tryd.prog 26 0 [] h = some (p, h') ∧ OwnSl h.length h' p [] ∧ Keep h.length h h' := by
  refine ⟨.sl h.length 0 0, h ++ [.own 1 []], by simp [buildSliceP, tyElem, tySize, tyZero, repeatCells, fillP], .inr ⟨h.length, Nat.le_refl _, rfl, by simp⟩, Keep.append _ _ _ (Nat.le_refl _)⟩

theorem nx {i : Nat} (hi : i < 2 ^ 40) : IntKind.i64.wrap ((i : Int) + 1) = ((i + 1 : Nat) : Int) := by
  rw [wr (by omega)]; rfl

end Go.Proofs.YtlefknibddkjpabDoor

/- Of each function of this seat's program its plain form over the interpreter, written by program; each equation is the kernel's. -/
set_option linter.unusedVariables false
set_option maxRecDepth 100000
namespace Go.Proofs.YtlefknibddkjpabDoor.G
open Go Go.Ip Go.Proofs

namespace laws_FnExactTriangleWins
noncomputable def main (E : Env) (x0 x1 : PV) (h : PHeap) : Res :=
    (E.C fn_spec_TriangleWins [x0, x1] h).bind fun v1 =>
    (E.C fn_impl_TriangleWins [x0, x1] v1.2).bind fun v2 =>
    (E.p.bin .neq 3 v2.1 v1.1).bind fun v3 =>
    condP v3
     (
      (resV (.bool false)).bind fun v4 =>
      some (v4, v2.2))
     (
      (resV (.bool true)).bind fun v5 =>
      some (v5, v2.2))
theorem main_eq (E : Env) (x0 x1 : PV) (h : PHeap) : runBody (E.cx Tryd.prog kl) Tryd.f3 [x0, x1] h = main E x0 x1 h := by kernel_rfl
theorem call_eq (g : Nat → PV) (lf n : Nat) (x0 x1 : PV) (h : PHeap) : CL g lf (n + 1) fn_laws_FnExactTriangleWins [x0, x1] h = main (env g lf n) x0 x1 h := by
  rw [← main_eq]
  show (match Tryd.prog.funcs[3]? with | some fn => if fn.body.isSome then runBody ⟨Tryd.prog, g, call Tryd.prog g KL lf n, KL 3, lf, std Tryd.prog⟩ fn [x0, x1] h else none | none => none) = _
  rw [Tryd.func3]
  kernel_rfl
end laws_FnExactTriangleWins
namespace spec_TriangleWins
noncomputable def lp0 : Code := (codeAt (bodyOf Tryd.f4) [1, 1, 1, 0, 1, 0, 0])
def st0 (x0 x1 x5 x6 : PV) (h : PHeap) : St := ⟨[x0, x1, .junk, .junk, .junk, x5, x6, .junk, .junk, .junk, .junk, .junk, .junk, .junk, .junk, .junk, .junk, .junk, .junk, .junk, .junk, .junk, .junk, .junk, .junk, .junk, .junk, .junk, .junk, .junk, .junk, .junk, .junk, .junk, .junk, .junk, .junk, .junk, .junk, .junk, .junk, .junk, .junk, .junk, .junk, .junk, .junk, .junk, .junk, .junk, .junk, .junk], h⟩
noncomputable def lp1 : Code := (codeAt (bodyOf Tryd.f4) [1, 1, 1, 0, 1, 0, 0, 1, 0, 0, 1, 1, 0, 1, 0, 0])
def st1 (x0 x1 x5 x6 x7 x8 : PV) (h : PHeap) : St := ⟨[x0, x1, .junk, .junk, .junk, x5, x6, x7, x8, .junk, .junk, .junk, .junk, .junk, .junk, .junk, .junk, .junk, .junk, .junk, .junk, .junk, .junk, .junk, .junk, .junk, .junk, .junk, .junk, .junk, .junk, .junk, .junk, .junk, .junk, .junk, .junk, .junk, .junk, .junk, .junk, .junk, .junk, .junk, .junk, .junk, .junk, .junk, .junk, .junk, .junk, .junk], h⟩
def se0_0_1_5_6_23 (x0 x1 x5 x6 x23 : PV) (h : PHeap) : St := ⟨[x0, x1, .junk, .junk, .junk, x5, x6, .junk, .junk, .junk, .junk, .junk, .junk, .junk, .junk, .junk, .junk, .junk, .junk, .junk, .junk, .junk, .junk, x23, .junk, .junk, .junk, .junk, .junk, .junk, .junk, .junk, .junk, .junk, .junk, .junk, .junk, .junk, .junk, .junk, .junk, .junk, .junk, .junk, .junk, .junk, .junk, .junk, .junk, .junk, .junk, .junk], h⟩
def se2_0_1_5_6_7_8_34 (x0 x1 x5 x6 x7 x8 x34 : PV) (h : PHeap) : St := ⟨[x0, x1, .junk, .junk, .junk, x5, x6, x7, x8, .junk, .junk, .junk, .junk, .junk, .junk, .junk, .junk, .junk, .junk, .junk, .junk, .junk, .junk, .junk, .junk, .junk, .junk, .junk, .junk, .junk, .junk, .junk, .junk, .junk, x34, .junk, .junk, .junk, .junk, .junk, .junk, .junk, .junk, .junk, .junk, .junk, .junk, .junk, .junk, .junk, .junk, .junk], h⟩
noncomputable def K0 (E : Env) (K : PX → St → Res) : PX → St → Res := (kBlock 0 (kSeq (ev (E.cx Tryd.prog kl) (codeAt (bodyOf Tryd.f4) [1, 1, 1, 1])) K))
@[simp] theorem K0_ret (E : Env) (K : PX → St → Res) (s : St) : K0 E K .ret s = K .ret s := by kernel_rfl
noncomputable def K1 (E : Env) (K : PX → St → Res) : PX → St → Res := (kBlock 2 (kSeq (ev (E.cx Tryd.prog kl) (codeAt (bodyOf Tryd.f4) [1, 1, 1, 0, 1, 0, 0, 1, 0, 0, 1, 1, 1])) (kBlock 1 (kSeq (ev (E.cx Tryd.prog kl) (codeAt (bodyOf Tryd.f4) [1, 1, 1, 0, 1, 0, 0, 1, 1])) K))))
@[simp] theorem K1_ret (E : Env) (K : PX → St → Res) (s : St) : K1 E K .ret s = K .ret s := by kernel_rfl
noncomputable def body0 (E : Env) (K : PX → St → Res) (x0 x1 x5 x6 : PV) (h : PHeap) : Res :=
    (E.C fn_spec_l7Cells [x0] h).bind fun v36 =>
    (E.p.bin .shl 3 (.int .i64 1) v36.1).bind fun v37 =>
    (E.p.bin .lss 3 x6 v37).bind fun v38 =>
    condP v38
     (
      (E.C fn_spec_l6Size [x6] v36.2).bind fun v39 =>
      (E.p.bin .neq 3 v39.1 x1).bind fun v40 =>
      condP v40
       (
        (E.p.bin .add 3 x6 (.int .i64 1)).bind fun v41 =>
        K .normal (st0 x0 x1 x5 v41 v39.2))
       (
        (E.p.buildSlice 26 0 [] v39.2).bind fun v42 =>
        loopK (ev (E.cx Tryd.prog spec_TriangleWins.kl) spec_TriangleWins.lp1) E.lf (spec_TriangleWins.st1 x0 x1 x5 x6 v42.1 (.int .i64 0) v42.2) (spec_TriangleWins.K1 E K)))
     (
      K (.exit 0) (se0_0_1_5_6_23 x0 x1 x5 x6 v38 v36.2))
theorem body0_eq (E : Env) (K : PX → St → Res) (x0 x1 x5 x6 : PV) (h : PHeap) : ev (E.cx Tryd.prog kl) lp0 (st0 x0 x1 x5 x6 h) K = body0 E K x0 x1 x5 x6 h := by kernel_rfl
noncomputable def body1 (E : Env) (K : PX → St → Res) (x0 x1 x5 x6 x7 x8 : PV) (h : PHeap) : Res :=
    (E.C fn_spec_l7Cells [x0] h).bind fun v43 =>
    (E.p.bin .lss 3 x8 v43.1).bind fun v44 =>
    condP v44
     (
      (E.p.bin .shr 3 x6 x8).bind fun v45 =>
      (E.p.bin .rem 3 v45 (.int .i64 2)).bind fun v46 =>
      (E.p.bin .sub 3 (.int .i64 2) v46).bind fun v47 =>
      (E.p.buildSlice 26 1 [(0, v47)] v43.2).bind fun v48 =>
      (E.p.append 26 26 x7 v48.1 v48.2).bind fun v49 =>
      (E.p.bin .add 3 x8 (.int .i64 1)).bind fun v50 =>
      K .normal (st1 x0 x1 x5 x6 v49.1 v50 v49.2))
     (
      K (.exit 2) (se2_0_1_5_6_7_8_34 x0 x1 x5 x6 x7 x8 v44 v43.2))
theorem body1_eq (E : Env) (K : PX → St → Res) (x0 x1 x5 x6 x7 x8 : PV) (h : PHeap) : ev (E.cx Tryd.prog kl) lp1 (st1 x0 x1 x5 x6 x7 x8 h) K = body1 E K x0 x1 x5 x6 x7 x8 h := by kernel_rfl
theorem after0_se0_0_1_5_6_23 (E : Env) (x0 x1 x5 x6 x23 : PV) (h : PHeap) : K0 E (kTop Tryd.prog Tryd.f4) (.exit 0) (se0_0_1_5_6_23 x0 x1 x5 x6 x23 h) =
    (resV x5).bind fun v30 =>
    some (v30, h) := by kernel_rfl
theorem after1_se2_0_1_5_6_7_8_34 (E : Env) (K : PX → St → Res) (x0 x1 x5 x6 x7 x8 x34 : PV) (h : PHeap) : K1 E K (.exit 2) (se2_0_1_5_6_7_8_34 x0 x1 x5 x6 x7 x8 x34 h) =
    (E.C fn_spec_LastCell [x0, x7] h).bind fun v31 =>
    (E.p.bin .eql 3 v31.1 (.int .i64 1)).bind fun v32 =>
    condP v32
     (
      (E.p.bin .add 3 x5 (.int .i64 1)).bind fun v33 =>
      (E.p.bin .add 3 x6 (.int .i64 1)).bind fun v34 =>
      K .normal (st0 x0 x1 v33 v34 v31.2))
     (
      (E.p.bin .add 3 x6 (.int .i64 1)).bind fun v35 =>
      K .normal (st0 x0 x1 x5 v35 v31.2)) := by kernel_rfl
noncomputable def main (E : Env) (x0 x1 : PV) (h : PHeap) : Res :=
    (E.C fn_spec_l1In [x0, (.int .i64 1), (.int .i64 4)] h).bind fun v1 =>
    (E.p.un .not v1.1).bind fun v2 =>
    (wantV v2 false).bind fun v3 =>
    (bif v3 then some (x1, v1.2) else some (.tup [], v1.2)).bind fun v4 =>
    (wantV v2 false).bind fun v5 =>
    (bif v5 then some (x0, v4.2) else some (.tup [], v4.2)).bind fun v6 =>
    (wantV v2 false).bind fun v7 =>
    (bif v7 then E.C fn_spec_l7Cells [v6.1] v6.2 else some (.tup [], v6.2)).bind fun v8 =>
    (wantV v2 false).bind fun v9 =>
    (bif v9 then E.C fn_spec_l1In [v4.1, (.int .i64 0), v8.1] v8.2 else some (.tup [], v8.2)).bind fun v10 =>
    (wantV v2 false).bind fun v11 =>
    (bif v11 then pv v10.2 (E.p.un .not v10.1) else some (.tup [], v10.2)).bind fun v12 =>
    (E.p.pick v2 (.bool true) v12.1).bind fun v13 =>
    condP v13
     (
      (resV (.int .i64 (-1))).bind fun v14 =>
      some (v14, v12.2))
     (
      loopK (ev (E.cx Tryd.prog spec_TriangleWins.kl) spec_TriangleWins.lp0) E.lf (spec_TriangleWins.st0 x0 x1 (.int .i64 0) (.int .i64 0) v12.2) (spec_TriangleWins.K0 E (kTop Tryd.prog Tryd.f4)))
theorem main_eq (E : Env) (x0 x1 : PV) (h : PHeap) : runBody (E.cx Tryd.prog kl) Tryd.f4 [x0, x1] h = main E x0 x1 h := by kernel_rfl
theorem call_eq (g : Nat → PV) (lf n : Nat) (x0 x1 : PV) (h : PHeap) : CL g lf (n + 1) fn_spec_TriangleWins [x0, x1] h = main (env g lf n) x0 x1 h := by
  rw [← main_eq]
  show (match Tryd.prog.funcs[4]? with | some fn => if fn.body.isSome then runBody ⟨Tryd.prog, g, call Tryd.prog g KL lf n, KL 4, lf, std Tryd.prog⟩ fn [x0, x1] h else none | none => none) = _
  rw [Tryd.func4]
  kernel_rfl
end spec_TriangleWins
namespace impl_TriangleWins
noncomputable def lp0 : Code := (codeAt (bodyOf Tryd.f5) [1, 1, 1, 0, 1, 0, 0])
def st0 (x0 x1 x5 x22 x23 : PV) (h : PHeap) : St := ⟨[x0, x1, .junk, .junk, .junk, x5, .junk, .junk, .junk, .junk, .junk, .junk, .junk, .junk, .junk, .junk, .junk, .junk, .junk, .junk, .junk, .junk, x22, x23, .junk, .junk, .junk, .junk, .junk, .junk, .junk, .junk, .junk, .junk, .junk, .junk, .junk, .junk, .junk], h⟩
def se0_0_1_5_22_23_24 (x0 x1 x5 x22 x23 x24 : PV) (h : PHeap) : St := ⟨[x0, x1, .junk, .junk, .junk, x5, .junk, .junk, .junk, .junk, .junk, .junk, .junk, .junk, .junk, .junk, .junk, .junk, .junk, .junk, .junk, .junk, x22, x23, x24, .junk, .junk, .junk, .junk, .junk, .junk, .junk, .junk, .junk, .junk, .junk, .junk, .junk, .junk], h⟩
noncomputable def K0 (E : Env) (K : PX → St → Res) : PX → St → Res := (kBlock 0 (kSeq (ev (E.cx Tryd.prog kl) (codeAt (bodyOf Tryd.f5) [1, 1, 1, 1])) K))
@[simp] theorem K0_ret (E : Env) (K : PX → St → Res) (s : St) : K0 E K .ret s = K .ret s := by kernel_rfl
noncomputable def body0 (E : Env) (K : PX → St → Res) (x0 x1 x5 x22 x23 : PV) (h : PHeap) : Res :=
    (E.p.bin .lss 3 x23 x22).bind fun v34 =>
    condP v34
     (
      (E.C fn_impl_countIn [x23] h).bind fun v35 =>
      (E.p.bin .eql 3 v35.1 x1).bind fun v36 =>
      (wantV v36 true).bind fun v37 =>
      (bif v37 then some (x0, v35.2) else some (.tup [], v35.2)).bind fun v38 =>
      (wantV v36 true).bind fun v39 =>
      (bif v39 then some (x23, v38.2) else some (.tup [], v38.2)).bind fun v40 =>
      (wantV v36 true).bind fun v41 =>
      (bif v41 then E.C fn_impl_touchesAll [v38.1, v40.1] v40.2 else some (.tup [], v40.2)).bind fun v42 =>
      (E.p.pick v36 v42.1 (.bool false)).bind fun v43 =>
      condP v43
       (
        (E.p.bin .add 3 x5 (.int .i64 1)).bind fun v44 =>
        (E.p.bin .add 3 x23 (.int .i64 1)).bind fun v45 =>
        K .normal (st0 x0 x1 v44 x22 v45 v42.2))
       (
        (E.p.bin .add 3 x23 (.int .i64 1)).bind fun v46 =>
        K .normal (st0 x0 x1 x5 x22 v46 v42.2)))
     (
      K (.exit 0) (se0_0_1_5_22_23_24 x0 x1 x5 x22 x23 v34 h))
theorem body0_eq (E : Env) (K : PX → St → Res) (x0 x1 x5 x22 x23 : PV) (h : PHeap) : ev (E.cx Tryd.prog kl) lp0 (st0 x0 x1 x5 x22 x23 h) K = body0 E K x0 x1 x5 x22 x23 h := by kernel_rfl
theorem after0_se0_0_1_5_22_23_24 (E : Env) (x0 x1 x5 x22 x23 x24 : PV) (h : PHeap) : K0 E (kTop Tryd.prog Tryd.f5) (.exit 0) (se0_0_1_5_22_23_24 x0 x1 x5 x22 x23 x24 h) =
    (resV x5).bind fun v33 =>
    some (v33, h) := by kernel_rfl
noncomputable def main (E : Env) (x0 x1 : PV) (h : PHeap) : Res :=
    (E.C fn_impl_triangleSideOk [x0] h).bind fun v1 =>
    (E.p.un .not v1.1).bind fun v2 =>
    (wantV v2 false).bind fun v3 =>
    (bif v3 then some (x1, v1.2) else some (.tup [], v1.2)).bind fun v4 =>
    (wantV v2 false).bind fun v5 =>
    (bif v5 then pv v4.2 (E.p.bin .lss 3 v4.1 (.int .i64 0)) else some (.tup [], v4.2)).bind fun v6 =>
    (E.p.pick v2 (.bool true) v6.1).bind fun v7 =>
    (wantV v7 false).bind fun v8 =>
    (bif v8 then some (x1, v6.2) else some (.tup [], v6.2)).bind fun v9 =>
    (wantV v7 false).bind fun v10 =>
    (bif v10 then some (x0, v9.2) else some (.tup [], v9.2)).bind fun v11 =>
    (wantV v7 false).bind fun v12 =>
    (bif v12 then E.C fn_impl_triangleSize [v11.1] v11.2 else some (.tup [], v11.2)).bind fun v13 =>
    (wantV v7 false).bind fun v14 =>
    (bif v14 then pv v13.2 (E.p.bin .gtr 3 v9.1 v13.1) else some (.tup [], v13.2)).bind fun v15 =>
    (E.p.pick v7 (.bool true) v15.1).bind fun v16 =>
    condP v16
     (
      (resV (.int .i64 (-1))).bind fun v17 =>
      some (v17, v15.2))
     (
      (E.C fn_impl_triangleSize [x0] v15.2).bind fun v18 =>
      (E.p.bin .shl 3 (.int .i64 1) v18.1).bind fun v19 =>
      loopK (ev (E.cx Tryd.prog impl_TriangleWins.kl) impl_TriangleWins.lp0) E.lf (impl_TriangleWins.st0 x0 x1 (.int .i64 0) v19 (.int .i64 0) v18.2) (impl_TriangleWins.K0 E (kTop Tryd.prog Tryd.f5)))
theorem main_eq (E : Env) (x0 x1 : PV) (h : PHeap) : runBody (E.cx Tryd.prog kl) Tryd.f5 [x0, x1] h = main E x0 x1 h := by kernel_rfl
theorem call_eq (g : Nat → PV) (lf n : Nat) (x0 x1 : PV) (h : PHeap) : CL g lf (n + 1) fn_impl_TriangleWins [x0, x1] h = main (env g lf n) x0 x1 h := by
  rw [← main_eq]
  show (match Tryd.prog.funcs[5]? with | some fn => if fn.body.isSome then runBody ⟨Tryd.prog, g, call Tryd.prog g KL lf n, KL 5, lf, std Tryd.prog⟩ fn [x0, x1] h else none | none => none) = _
  rw [Tryd.func5]
  kernel_rfl
end impl_TriangleWins
namespace spec_l1In
noncomputable def main (E : Env) (x0 x1 x2 : PV) (h : PHeap) : Res :=
    (E.p.bin .geq 3 x0 x1).bind fun v1 =>
    (wantV v1 true).bind fun v2 =>
    (bif v2 then some (x0, h) else some (.tup [], h)).bind fun v3 =>
    (wantV v1 true).bind fun v4 =>
    (bif v4 then some (x2, v3.2) else some (.tup [], v3.2)).bind fun v5 =>
    (wantV v1 true).bind fun v6 =>
    (bif v6 then pv v5.2 (E.p.bin .leq 3 v3.1 v5.1) else some (.tup [], v5.2)).bind fun v7 =>
    (E.p.pick v1 v7.1 (.bool false)).bind fun v8 =>
    (resV v8).bind fun v9 =>
    some (v9, v7.2)
theorem main_eq (E : Env) (x0 x1 x2 : PV) (h : PHeap) : runBody (E.cx Tryd.prog kl) Tryd.f6 [x0, x1, x2] h = main E x0 x1 x2 h := by kernel_rfl
theorem call_eq (g : Nat → PV) (lf n : Nat) (x0 x1 x2 : PV) (h : PHeap) : CL g lf (n + 1) fn_spec_l1In [x0, x1, x2] h = main (env g lf n) x0 x1 x2 h := by
  rw [← main_eq]
  show (match Tryd.prog.funcs[6]? with | some fn => if fn.body.isSome then runBody ⟨Tryd.prog, g, call Tryd.prog g KL lf n, KL 6, lf, std Tryd.prog⟩ fn [x0, x1, x2] h else none | none => none) = _
  rw [Tryd.func6]
  kernel_rfl
end spec_l1In
namespace spec_l7Cells
noncomputable def main (E : Env) (x0 : PV) (h : PHeap) : Res :=
    (E.p.bin .add 3 x0 (.int .i64 1)).bind fun v1 =>
    (E.p.bin .mul 3 x0 v1).bind fun v2 =>
    (E.p.bin .quo 3 v2 (.int .i64 2)).bind fun v3 =>
    (resV v3).bind fun v4 =>
    some (v4, h)
theorem main_eq (E : Env) (x0 : PV) (h : PHeap) : runBody (E.cx Tryd.prog kl) Tryd.f7 [x0] h = main E x0 h := by kernel_rfl
theorem call_eq (g : Nat → PV) (lf n : Nat) (x0 : PV) (h : PHeap) : CL g lf (n + 1) fn_spec_l7Cells [x0] h = main (env g lf n) x0 h := by
  rw [← main_eq]
  show (match Tryd.prog.funcs[7]? with | some fn => if fn.body.isSome then runBody ⟨Tryd.prog, g, call Tryd.prog g KL lf n, KL 7, lf, std Tryd.prog⟩ fn [x0] h else none | none => none) = _
  rw [Tryd.func7]
  kernel_rfl
end spec_l7Cells
namespace spec_l6Size
noncomputable def main (E : Env) (x0 : PV) (h : PHeap) : Res :=
    (E.C fn_spec_l2List [x0] h).bind fun v1 =>
    (E.p.len 26 v1.1).bind fun v2 =>
    (resV v2).bind fun v3 =>
    some (v3, v1.2)
theorem main_eq (E : Env) (x0 : PV) (h : PHeap) : runBody (E.cx Tryd.prog kl) Tryd.f8 [x0] h = main E x0 h := by kernel_rfl
theorem call_eq (g : Nat → PV) (lf n : Nat) (x0 : PV) (h : PHeap) : CL g lf (n + 1) fn_spec_l6Size [x0] h = main (env g lf n) x0 h := by
  rw [← main_eq]
  show (match Tryd.prog.funcs[8]? with | some fn => if fn.body.isSome then runBody ⟨Tryd.prog, g, call Tryd.prog g KL lf n, KL 8, lf, std Tryd.prog⟩ fn [x0] h else none | none => none) = _
  rw [Tryd.func8]
  kernel_rfl
end spec_l6Size
namespace spec_LastCell
noncomputable def lp0 : Code := (codeAt (bodyOf Tryd.f9) [1, 1, 1, 0, 1, 0, 0])
def st0 (x5 x6 : PV) (h : PHeap) : St := ⟨[.junk, .junk, .junk, .junk, .junk, x5, x6, .junk, .junk, .junk, .junk, .junk, .junk, .junk, .junk, .junk, .junk, .junk, .junk, .junk, .junk, .junk, .junk, .junk, .junk], h⟩
def se0_5_6_16 (x5 x6 x16 : PV) (h : PHeap) : St := ⟨[.junk, .junk, .junk, .junk, .junk, x5, x6, .junk, .junk, .junk, .junk, .junk, .junk, .junk, .junk, .junk, x16, .junk, .junk, .junk, .junk, .junk, .junk, .junk, .junk], h⟩
noncomputable def K0 (E : Env) (K : PX → St → Res) : PX → St → Res := (kBlock 0 (kSeq (ev (E.cx Tryd.prog kl) (codeAt (bodyOf Tryd.f9) [1, 1, 1, 1])) K))
@[simp] theorem K0_ret (E : Env) (K : PX → St → Res) (s : St) : K0 E K .ret s = K .ret s := by kernel_rfl
noncomputable def body0 (E : Env) (K : PX → St → Res) (x5 x6 : PV) (h : PHeap) : Res :=
    (E.p.bin .gtr 3 x6 (.int .i64 1)).bind fun v12 =>
    condP v12
     (
      (E.C fn_spec_Shrunk [x6, x5] h).bind fun v13 =>
      (E.p.bin .sub 3 x6 (.int .i64 1)).bind fun v14 =>
      K .normal (st0 v13.1 v14 v13.2))
     (
      K (.exit 0) (se0_5_6_16 x5 x6 v12 h))
theorem body0_eq (E : Env) (K : PX → St → Res) (x5 x6 : PV) (h : PHeap) : ev (E.cx Tryd.prog kl) lp0 (st0 x5 x6 h) K = body0 E K x5 x6 h := by kernel_rfl
theorem after0_se0_5_6_16 (E : Env) (x5 x6 x16 : PV) (h : PHeap) : K0 E (kTop Tryd.prog Tryd.f9) (.exit 0) (se0_5_6_16 x5 x6 x16 h) =
    (E.p.indexAddr 26 x5 (.int .i64 0)).bind fun v9 =>
    (E.p.load 3 v9 h).bind fun v10 =>
    (resV v10).bind fun v11 =>
    some (v11, h) := by kernel_rfl
noncomputable def main (E : Env) (x0 x1 : PV) (h : PHeap) : Res :=
    (E.C fn_spec_TriangleOk [x0, x1] h).bind fun v1 =>
    (E.p.un .not v1.1).bind fun v2 =>
    condP v2
     (
      (resV (.int .i64 0)).bind fun v3 =>
      some (v3, v1.2))
     (
      (E.p.buildSlice 26 0 [] v1.2).bind fun v4 =>
      (E.p.append 26 26 v4.1 x1 v4.2).bind fun v5 =>
      loopK (ev (E.cx Tryd.prog spec_LastCell.kl) spec_LastCell.lp0) E.lf (spec_LastCell.st0 v5.1 x0 v5.2) (spec_LastCell.K0 E (kTop Tryd.prog Tryd.f9)))
theorem main_eq (E : Env) (x0 x1 : PV) (h : PHeap) : runBody (E.cx Tryd.prog kl) Tryd.f9 [x0, x1] h = main E x0 x1 h := by kernel_rfl
theorem call_eq (g : Nat → PV) (lf n : Nat) (x0 x1 : PV) (h : PHeap) : CL g lf (n + 1) fn_spec_LastCell [x0, x1] h = main (env g lf n) x0 x1 h := by
  rw [← main_eq]
  show (match Tryd.prog.funcs[9]? with | some fn => if fn.body.isSome then runBody ⟨Tryd.prog, g, call Tryd.prog g KL lf n, KL 9, lf, std Tryd.prog⟩ fn [x0, x1] h else none | none => none) = _
  rw [Tryd.func9]
  kernel_rfl
end spec_LastCell
namespace impl_triangleSideOk
noncomputable def main (E : Env) (x0 : PV) (h : PHeap) : Res :=
    (E.p.bin .geq 3 x0 (.int .i64 1)).bind fun v1 =>
    (wantV v1 true).bind fun v2 =>
    (bif v2 then some (x0, h) else some (.tup [], h)).bind fun v3 =>
    (wantV v1 true).bind fun v4 =>
    (bif v4 then pv v3.2 (E.p.bin .leq 3 v3.1 (.int .i64 4)) else some (.tup [], v3.2)).bind fun v5 =>
    (E.p.pick v1 v5.1 (.bool false)).bind fun v6 =>
    (resV v6).bind fun v7 =>
    some (v7, v5.2)
theorem main_eq (E : Env) (x0 : PV) (h : PHeap) : runBody (E.cx Tryd.prog kl) Tryd.f10 [x0] h = main E x0 h := by kernel_rfl
theorem call_eq (g : Nat → PV) (lf n : Nat) (x0 : PV) (h : PHeap) : CL g lf (n + 1) fn_impl_triangleSideOk [x0] h = main (env g lf n) x0 h := by
  rw [← main_eq]
  show (match Tryd.prog.funcs[10]? with | some fn => if fn.body.isSome then runBody ⟨Tryd.prog, g, call Tryd.prog g KL lf n, KL 10, lf, std Tryd.prog⟩ fn [x0] h else none | none => none) = _
  rw [Tryd.func10]
  kernel_rfl
end impl_triangleSideOk
namespace impl_triangleSize
noncomputable def main (E : Env) (x0 : PV) (h : PHeap) : Res :=
    (E.C fn_impl_triangleCell [x0, (.int .i64 0)] h).bind fun v1 =>
    (resV v1.1).bind fun v2 =>
    some (v2, v1.2)
theorem main_eq (E : Env) (x0 : PV) (h : PHeap) : runBody (E.cx Tryd.prog kl) Tryd.f11 [x0] h = main E x0 h := by kernel_rfl
theorem call_eq (g : Nat → PV) (lf n : Nat) (x0 : PV) (h : PHeap) : CL g lf (n + 1) fn_impl_triangleSize [x0] h = main (env g lf n) x0 h := by
  rw [← main_eq]
  show (match Tryd.prog.funcs[11]? with | some fn => if fn.body.isSome then runBody ⟨Tryd.prog, g, call Tryd.prog g KL lf n, KL 11, lf, std Tryd.prog⟩ fn [x0] h else none | none => none) = _
  rw [Tryd.func11]
  kernel_rfl
end impl_triangleSize
namespace impl_countIn
noncomputable def main (E : Env) (x0 : PV) (h : PHeap) : Res :=
    (E.p.conv 3 33 x0).bind fun v1 =>
    (E.C fn_bits_OnesCount [v1] h).bind fun v2 =>
    (resV v2.1).bind fun v3 =>
    some (v3, v2.2)
theorem main_eq (E : Env) (x0 : PV) (h : PHeap) : runBody (E.cx Tryd.prog kl) Tryd.f12 [x0] h = main E x0 h := by kernel_rfl
theorem call_eq (g : Nat → PV) (lf n : Nat) (x0 : PV) (h : PHeap) : CL g lf (n + 1) fn_impl_countIn [x0] h = main (env g lf n) x0 h := by
  rw [← main_eq]
  show (match Tryd.prog.funcs[12]? with | some fn => if fn.body.isSome then runBody ⟨Tryd.prog, g, call Tryd.prog g KL lf n, KL 12, lf, std Tryd.prog⟩ fn [x0] h else none | none => none) = _
  rw [Tryd.func12]
  kernel_rfl
end impl_countIn
namespace impl_touchesAll
noncomputable def lp0 : Code := (codeAt (bodyOf Tryd.f13) [1, 1, 0, 1, 0, 0])
def st0 (x0 x5 x10 x11 : PV) (h : PHeap) : St := ⟨[x0, .junk, .junk, .junk, .junk, x5, .junk, .junk, .junk, .junk, x10, x11, .junk, .junk, .junk, .junk, .junk, .junk, .junk, .junk, .junk, .junk, .junk], h⟩
def se0_0_5_10_11_12 (x0 x5 x10 x11 x12 : PV) (h : PHeap) : St := ⟨[x0, .junk, .junk, .junk, .junk, x5, .junk, .junk, .junk, .junk, x10, x11, x12, .junk, .junk, .junk, .junk, .junk, .junk, .junk, .junk, .junk, .junk], h⟩
noncomputable def K0 (E : Env) (K : PX → St → Res) : PX → St → Res := (kBlock 0 (kSeq (ev (E.cx Tryd.prog kl) (codeAt (bodyOf Tryd.f13) [1, 1, 1])) K))
@[simp] theorem K0_ret (E : Env) (K : PX → St → Res) (s : St) : K0 E K .ret s = K .ret s := by kernel_rfl
noncomputable def body0 (E : Env) (K : PX → St → Res) (x0 x5 x10 x11 : PV) (h : PHeap) : Res :=
    (E.p.bin .lss 3 x11 (.int .i64 3)).bind fun v9 =>
    condP v9
     (
      (E.p.index 34 x10 x11).bind fun v10 =>
      (E.p.bin .and 3 v10 x5).bind fun v11 =>
      (E.C fn_impl_triangleWave [x0, v11, x5] h).bind fun v12 =>
      (E.p.bin .add 3 x11 (.int .i64 1)).bind fun v13 =>
      K .normal (st0 x0 v12.1 x10 v13 v12.2))
     (
      K (.exit 0) (se0_0_5_10_11_12 x0 x5 x10 x11 v9 h))
theorem body0_eq (E : Env) (K : PX → St → Res) (x0 x5 x10 x11 : PV) (h : PHeap) : ev (E.cx Tryd.prog kl) lp0 (st0 x0 x5 x10 x11 h) K = body0 E K x0 x5 x10 x11 h := by kernel_rfl
theorem after0_se0_0_5_10_11_12 (E : Env) (x0 x5 x10 x11 x12 : PV) (h : PHeap) : K0 E (kTop Tryd.prog Tryd.f13) (.exit 0) (se0_0_5_10_11_12 x0 x5 x10 x11 x12 h) =
    (E.p.bin .neq 3 x5 (.int .i64 0)).bind fun v7 =>
    (resV v7).bind fun v8 =>
    some (v8, h) := by kernel_rfl
noncomputable def main (E : Env) (x0 x1 : PV) (h : PHeap) : Res :=
    (E.C fn_impl_triangleEdges [x0] h).bind fun v1 =>
    loopK (ev (E.cx Tryd.prog impl_touchesAll.kl) impl_touchesAll.lp0) E.lf (impl_touchesAll.st0 x0 x1 v1.1 (.int .i64 0) v1.2) (impl_touchesAll.K0 E (kTop Tryd.prog Tryd.f13))
theorem main_eq (E : Env) (x0 x1 : PV) (h : PHeap) : runBody (E.cx Tryd.prog kl) Tryd.f13 [x0, x1] h = main E x0 x1 h := by kernel_rfl
theorem call_eq (g : Nat → PV) (lf n : Nat) (x0 x1 : PV) (h : PHeap) : CL g lf (n + 1) fn_impl_touchesAll [x0, x1] h = main (env g lf n) x0 x1 h := by
  rw [← main_eq]
  show (match Tryd.prog.funcs[13]? with | some fn => if fn.body.isSome then runBody ⟨Tryd.prog, g, call Tryd.prog g KL lf n, KL 13, lf, std Tryd.prog⟩ fn [x0, x1] h else none | none => none) = _
  rw [Tryd.func13]
  kernel_rfl
end impl_touchesAll
namespace spec_l2List
noncomputable def lp0 : Code := (codeAt (bodyOf Tryd.f14) [1, 1, 0, 1, 0, 0])
def st0 (x0 x3 x4 : PV) (h : PHeap) : St := ⟨[x0, .junk, .junk, x3, x4, .junk, .junk, .junk, .junk, .junk, .junk, .junk, .junk, .junk, .junk, .junk, .junk, .junk, .junk, .junk, .junk, .junk], h⟩
def se0_0_3_4_9 (x0 x3 x4 x9 : PV) (h : PHeap) : St := ⟨[x0, .junk, .junk, x3, x4, .junk, .junk, .junk, .junk, x9, .junk, .junk, .junk, .junk, .junk, .junk, .junk, .junk, .junk, .junk, .junk, .junk], h⟩
noncomputable def K0 (E : Env) (K : PX → St → Res) : PX → St → Res := (kBlock 0 (kSeq (ev (E.cx Tryd.prog kl) (codeAt (bodyOf Tryd.f14) [1, 1, 1])) K))
@[simp] theorem K0_ret (E : Env) (K : PX → St → Res) (s : St) : K0 E K .ret s = K .ret s := by kernel_rfl
noncomputable def body0 (E : Env) (K : PX → St → Res) (x0 x3 x4 : PV) (h : PHeap) : Res :=
    (E.p.bin .shr 3 x0 x4).bind fun v12 =>
    (E.p.bin .gtr 3 v12 (.int .i64 0)).bind fun v13 =>
    condP v13
     (
      (E.p.bin .shr 3 x0 x4).bind fun v14 =>
      (E.p.bin .rem 3 v14 (.int .i64 2)).bind fun v15 =>
      (E.p.bin .eql 3 v15 (.int .i64 1)).bind fun v16 =>
      condP v16
       (
        (E.p.buildSlice 26 1 [(0, x4)] h).bind fun v17 =>
        (E.p.append 26 26 x3 v17.1 v17.2).bind fun v18 =>
        (E.p.bin .add 3 x4 (.int .i64 1)).bind fun v19 =>
        K .normal (st0 x0 v18.1 v19 v18.2))
       (
        (E.p.bin .add 3 x4 (.int .i64 1)).bind fun v20 =>
        K .normal (st0 x0 x3 v20 h)))
     (
      K (.exit 0) (se0_0_3_4_9 x0 x3 x4 v13 h))
theorem body0_eq (E : Env) (K : PX → St → Res) (x0 x3 x4 : PV) (h : PHeap) : ev (E.cx Tryd.prog kl) lp0 (st0 x0 x3 x4 h) K = body0 E K x0 x3 x4 h := by kernel_rfl
theorem after0_se0_0_3_4_9 (E : Env) (x0 x3 x4 x9 : PV) (h : PHeap) : K0 E (kTop Tryd.prog Tryd.f14) (.exit 0) (se0_0_3_4_9 x0 x3 x4 x9 h) =
    (resV x3).bind fun v11 =>
    some (v11, h) := by kernel_rfl
noncomputable def main (E : Env) (x0 : PV) (h : PHeap) : Res :=
    (E.p.buildSlice 26 0 [] h).bind fun v1 =>
    loopK (ev (E.cx Tryd.prog spec_l2List.kl) spec_l2List.lp0) E.lf (spec_l2List.st0 x0 v1.1 (.int .i64 0) v1.2) (spec_l2List.K0 E (kTop Tryd.prog Tryd.f14))
theorem main_eq (E : Env) (x0 : PV) (h : PHeap) : runBody (E.cx Tryd.prog kl) Tryd.f14 [x0] h = main E x0 h := by kernel_rfl
theorem call_eq (g : Nat → PV) (lf n : Nat) (x0 : PV) (h : PHeap) : CL g lf (n + 1) fn_spec_l2List [x0] h = main (env g lf n) x0 h := by
  rw [← main_eq]
  show (match Tryd.prog.funcs[14]? with | some fn => if fn.body.isSome then runBody ⟨Tryd.prog, g, call Tryd.prog g KL lf n, KL 14, lf, std Tryd.prog⟩ fn [x0] h else none | none => none) = _
  rw [Tryd.func14]
  kernel_rfl
end spec_l2List
namespace spec_TriangleOk
noncomputable def lp0 : Code := (codeAt (bodyOf Tryd.f15) [1, 0, 1, 0, 0])
def st0 (x0 x1 x5 : PV) (h : PHeap) : St := ⟨[x0, x1, .junk, .junk, .junk, x5, .junk, .junk, .junk, .junk, .junk, .junk, .junk, .junk, .junk, .junk, .junk, .junk, .junk, .junk, .junk, .junk, .junk, .junk, .junk, .junk, .junk], h⟩
def sr_4 (x4 : PV) (h : PHeap) : St := ⟨[.junk, .junk, .junk, .junk, x4, .junk, .junk, .junk, .junk, .junk, .junk, .junk, .junk, .junk, .junk, .junk, .junk, .junk, .junk, .junk, .junk, .junk, .junk, .junk, .junk, .junk, .junk], h⟩
def se0_0_1_5_9 (x0 x1 x5 x9 : PV) (h : PHeap) : St := ⟨[x0, x1, .junk, .junk, .junk, x5, .junk, .junk, .junk, x9, .junk, .junk, .junk, .junk, .junk, .junk, .junk, .junk, .junk, .junk, .junk, .junk, .junk, .junk, .junk, .junk, .junk], h⟩
noncomputable def K0 (E : Env) (K : PX → St → Res) : PX → St → Res := (kBlock 0 (kSeq (ev (E.cx Tryd.prog kl) (codeAt (bodyOf Tryd.f15) [1, 1])) K))
@[simp] theorem K0_ret (E : Env) (K : PX → St → Res) (s : St) : K0 E K .ret s = K .ret s := by kernel_rfl
noncomputable def body0 (E : Env) (K : PX → St → Res) (x0 x1 x5 : PV) (h : PHeap) : Res :=
    (E.p.len 26 x1).bind fun v21 =>
    (E.p.bin .lss 3 x5 v21).bind fun v22 =>
    condP v22
     (
      (E.p.indexAddr 26 x1 x5).bind fun v23 =>
      (E.p.load 3 v23 h).bind fun v24 =>
      (E.C fn_spec_l1In [v24, (.int .i64 1), (.int .i64 2)] h).bind fun v25 =>
      (E.p.un .not v25.1).bind fun v26 =>
      condP v26
       (
        K .ret (sr_4 (.bool false) v25.2))
       (
        (E.p.bin .add 3 x5 (.int .i64 1)).bind fun v27 =>
        K .normal (st0 x0 x1 v27 v25.2)))
     (
      K (.exit 0) (se0_0_1_5_9 x0 x1 x5 v22 h))
theorem body0_eq (E : Env) (K : PX → St → Res) (x0 x1 x5 : PV) (h : PHeap) : ev (E.cx Tryd.prog kl) lp0 (st0 x0 x1 x5 h) K = body0 E K x0 x1 x5 h := by kernel_rfl
theorem after0_se0_0_1_5_9 (E : Env) (x0 x1 x5 x9 : PV) (h : PHeap) : K0 E (kTop Tryd.prog Tryd.f15) (.exit 0) (se0_0_1_5_9 x0 x1 x5 x9 h) =
    (E.C fn_spec_l1In [x0, (.int .i64 1), (.int .i64 4)] h).bind fun v8 =>
    (wantV v8.1 true).bind fun v9 =>
    (bif v9 then some (x1, v8.2) else some (.tup [], v8.2)).bind fun v10 =>
    (wantV v8.1 true).bind fun v11 =>
    (bif v11 then pv v10.2 (E.p.len 26 v10.1) else some (.tup [], v10.2)).bind fun v12 =>
    (wantV v8.1 true).bind fun v13 =>
    (bif v13 then some (x0, v12.2) else some (.tup [], v12.2)).bind fun v14 =>
    (wantV v8.1 true).bind fun v15 =>
    (bif v15 then E.C fn_spec_l7Cells [v14.1] v14.2 else some (.tup [], v14.2)).bind fun v16 =>
    (wantV v8.1 true).bind fun v17 =>
    (bif v17 then pv v16.2 (E.p.bin .eql 3 v12.1 v16.1) else some (.tup [], v16.2)).bind fun v18 =>
    (E.p.pick v8.1 v18.1 (.bool false)).bind fun v19 =>
    (resV v19).bind fun v20 =>
    some (v20, v18.2) := by kernel_rfl
theorem top_sr_4 (x4 : PV) (h : PHeap) : kTop Tryd.prog Tryd.f15 .ret (sr_4 x4 h) =
    (resV x4).bind fun v28 =>
    some (v28, h) := by kernel_rfl
noncomputable def main (E : Env) (x0 x1 : PV) (h : PHeap) : Res :=
    loopK (ev (E.cx Tryd.prog spec_TriangleOk.kl) spec_TriangleOk.lp0) E.lf (spec_TriangleOk.st0 x0 x1 (.int .i64 0) h) (spec_TriangleOk.K0 E (kTop Tryd.prog Tryd.f15))
theorem main_eq (E : Env) (x0 x1 : PV) (h : PHeap) : runBody (E.cx Tryd.prog kl) Tryd.f15 [x0, x1] h = main E x0 x1 h := by kernel_rfl
theorem call_eq (g : Nat → PV) (lf n : Nat) (x0 x1 : PV) (h : PHeap) : CL g lf (n + 1) fn_spec_TriangleOk [x0, x1] h = main (env g lf n) x0 x1 h := by
  rw [← main_eq]
  show (match Tryd.prog.funcs[15]? with | some fn => if fn.body.isSome then runBody ⟨Tryd.prog, g, call Tryd.prog g KL lf n, KL 15, lf, std Tryd.prog⟩ fn [x0, x1] h else none | none => none) = _
  rw [Tryd.func15]
  kernel_rfl
end spec_TriangleOk
namespace spec_Shrunk
noncomputable def lp0 : Code := (codeAt (bodyOf Tryd.f16) [1, 1, 1, 0, 1, 0, 0])
def st0 (x0 x1 x5 x6 : PV) (h : PHeap) : St := ⟨[x0, x1, .junk, .junk, .junk, x5, x6, .junk, .junk, .junk, .junk, .junk, .junk, .junk, .junk, .junk, .junk, .junk, .junk, .junk, .junk, .junk, .junk, .junk, .junk, .junk, .junk, .junk, .junk, .junk, .junk, .junk, .junk, .junk, .junk, .junk, .junk, .junk, .junk, .junk, .junk, .junk, .junk, .junk, .junk, .junk, .junk, .junk, .junk, .junk, .junk, .junk, .junk, .junk, .junk, .junk, .junk, .junk, .junk, .junk, .junk, .junk], h⟩
def se0_0_1_5_6_25 (x0 x1 x5 x6 x25 : PV) (h : PHeap) : St := ⟨[x0, x1, .junk, .junk, .junk, x5, x6, .junk, .junk, .junk, .junk, .junk, .junk, .junk, .junk, .junk, .junk, .junk, .junk, .junk, .junk, .junk, .junk, .junk, .junk, x25, .junk, .junk, .junk, .junk, .junk, .junk, .junk, .junk, .junk, .junk, .junk, .junk, .junk, .junk, .junk, .junk, .junk, .junk, .junk, .junk, .junk, .junk, .junk, .junk, .junk, .junk, .junk, .junk, .junk, .junk, .junk, .junk, .junk, .junk, .junk, .junk], h⟩
noncomputable def K0 (E : Env) (K : PX → St → Res) : PX → St → Res := (kBlock 0 (kSeq (ev (E.cx Tryd.prog kl) (codeAt (bodyOf Tryd.f16) [1, 1, 1, 1])) K))
@[simp] theorem K0_ret (E : Env) (K : PX → St → Res) (s : St) : K0 E K .ret s = K .ret s := by kernel_rfl
noncomputable def body0 (E : Env) (K : PX → St → Res) (x0 x1 x5 x6 : PV) (h : PHeap) : Res :=
    (E.p.bin .sub 3 x0 (.int .i64 1)).bind fun v36 =>
    (E.C fn_spec_l7Cells [v36] h).bind fun v37 =>
    (E.p.bin .lss 3 x6 v37.1).bind fun v38 =>
    condP v38
     (
      (E.C fn_spec_l7Place [x6] v37.2).bind fun v39 =>
      (E.p.extract v39.1 0).bind fun v40 =>
      (E.p.extract v39.1 1).bind fun v41 =>
      (E.p.bin .add 3 v40 (.int .i64 1)).bind fun v42 =>
      (E.C fn_spec_l7Cells [v42] v39.2).bind fun v43 =>
      (E.p.bin .add 3 v43.1 v41).bind fun v44 =>
      (E.p.indexAddr 26 x1 x6).bind fun v45 =>
      (E.p.load 3 v45 v43.2).bind fun v46 =>
      (E.p.indexAddr 26 x1 v44).bind fun v47 =>
      (E.p.load 3 v47 v43.2).bind fun v48 =>
      (E.p.bin .add 3 v46 v48).bind fun v49 =>
      (E.p.bin .add 3 v44 (.int .i64 1)).bind fun v50 =>
      (E.p.indexAddr 26 x1 v50).bind fun v51 =>
      (E.p.load 3 v51 v43.2).bind fun v52 =>
      (E.p.bin .add 3 v49 v52).bind fun v53 =>
      (E.p.bin .leq 3 v53 (.int .i64 4)).bind fun v54 =>
      condP v54
       (
        (E.p.buildSlice 26 1 [(0, (.int .i64 1))] v43.2).bind fun v55 =>
        (E.p.append 26 26 x5 v55.1 v55.2).bind fun v56 =>
        (E.p.bin .add 3 x6 (.int .i64 1)).bind fun v57 =>
        K .normal (st0 x0 x1 v56.1 v57 v56.2))
       (
        (E.p.buildSlice 26 1 [(0, (.int .i64 2))] v43.2).bind fun v58 =>
        (E.p.append 26 26 x5 v58.1 v58.2).bind fun v59 =>
        (E.p.bin .add 3 x6 (.int .i64 1)).bind fun v60 =>
        K .normal (st0 x0 x1 v59.1 v60 v59.2)))
     (
      K (.exit 0) (se0_0_1_5_6_25 x0 x1 x5 x6 v38 v37.2))
theorem body0_eq (E : Env) (K : PX → St → Res) (x0 x1 x5 x6 : PV) (h : PHeap) : ev (E.cx Tryd.prog kl) lp0 (st0 x0 x1 x5 x6 h) K = body0 E K x0 x1 x5 x6 h := by kernel_rfl
theorem after0_se0_0_1_5_6_25 (E : Env) (x0 x1 x5 x6 x25 : PV) (h : PHeap) : K0 E (kTop Tryd.prog Tryd.f16) (.exit 0) (se0_0_1_5_6_25 x0 x1 x5 x6 x25 h) =
    (resV x5).bind fun v35 =>
    some (v35, h) := by kernel_rfl
noncomputable def main (E : Env) (x0 x1 : PV) (h : PHeap) : Res :=
    (E.p.buildSlice 26 0 [] h).bind fun v1 =>
    (E.C fn_spec_TriangleOk [x0, x1] v1.2).bind fun v2 =>
    (E.p.un .not v2.1).bind fun v3 =>
    (wantV v3 false).bind fun v4 =>
    (bif v4 then some (x0, v2.2) else some (.tup [], v2.2)).bind fun v5 =>
    (wantV v3 false).bind fun v6 =>
    (bif v6 then pv v5.2 (E.p.bin .lss 3 v5.1 (.int .i64 2)) else some (.tup [], v5.2)).bind fun v7 =>
    (E.p.pick v3 (.bool true) v7.1).bind fun v8 =>
    condP v8
     (
      (resV v1.1).bind fun v9 =>
      some (v9, v7.2))
     (
      loopK (ev (E.cx Tryd.prog spec_Shrunk.kl) spec_Shrunk.lp0) E.lf (spec_Shrunk.st0 x0 x1 v1.1 (.int .i64 0) v7.2) (spec_Shrunk.K0 E (kTop Tryd.prog Tryd.f16)))
theorem main_eq (E : Env) (x0 x1 : PV) (h : PHeap) : runBody (E.cx Tryd.prog kl) Tryd.f16 [x0, x1] h = main E x0 x1 h := by kernel_rfl
theorem call_eq (g : Nat → PV) (lf n : Nat) (x0 x1 : PV) (h : PHeap) : CL g lf (n + 1) fn_spec_Shrunk [x0, x1] h = main (env g lf n) x0 x1 h := by
  rw [← main_eq]
  show (match Tryd.prog.funcs[16]? with | some fn => if fn.body.isSome then runBody ⟨Tryd.prog, g, call Tryd.prog g KL lf n, KL 16, lf, std Tryd.prog⟩ fn [x0, x1] h else none | none => none) = _
  rw [Tryd.func16]
  kernel_rfl
end spec_Shrunk
namespace impl_triangleCell
noncomputable def main (E : Env) (x0 x1 : PV) (h : PHeap) : Res :=
    (E.p.bin .add 3 x0 (.int .i64 1)).bind fun v1 =>
    (E.p.bin .mul 3 x0 v1).bind fun v2 =>
    (E.p.bin .quo 3 v2 (.int .i64 2)).bind fun v3 =>
    (E.p.bin .add 3 v3 x1).bind fun v4 =>
    (resV v4).bind fun v5 =>
    some (v5, h)
theorem main_eq (E : Env) (x0 x1 : PV) (h : PHeap) : runBody (E.cx Tryd.prog kl) Tryd.f17 [x0, x1] h = main E x0 x1 h := by kernel_rfl
theorem call_eq (g : Nat → PV) (lf n : Nat) (x0 x1 : PV) (h : PHeap) : CL g lf (n + 1) fn_impl_triangleCell [x0, x1] h = main (env g lf n) x0 x1 h := by
  rw [← main_eq]
  show (match Tryd.prog.funcs[17]? with | some fn => if fn.body.isSome then runBody ⟨Tryd.prog, g, call Tryd.prog g KL lf n, KL 17, lf, std Tryd.prog⟩ fn [x0, x1] h else none | none => none) = _
  rw [Tryd.func17]
  kernel_rfl
end impl_triangleCell
namespace bits_OnesCount
noncomputable def main (E : Env) (x0 : PV) (h : PHeap) : Res :=
    condP (.bool false)
     (
      (E.p.conv 33 40 x0).bind fun v1 =>
      (E.C 22 [v1] h).bind fun v2 =>
      (resV v2.1).bind fun v3 =>
      some (v3, v2.2))
     (
      (E.C fn_bits_OnesCount64 [x0] h).bind fun v4 =>
      (resV v4.1).bind fun v5 =>
      some (v5, v4.2))
theorem main_eq (E : Env) (x0 : PV) (h : PHeap) : runBody (E.cx Tryd.prog kl) Tryd.f18 [x0] h = main E x0 h := by kernel_rfl
theorem call_eq (g : Nat → PV) (lf n : Nat) (x0 : PV) (h : PHeap) : CL g lf (n + 1) fn_bits_OnesCount [x0] h = main (env g lf n) x0 h := by
  rw [← main_eq]
  show (match Tryd.prog.funcs[18]? with | some fn => if fn.body.isSome then runBody ⟨Tryd.prog, g, call Tryd.prog g KL lf n, KL 18, lf, std Tryd.prog⟩ fn [x0] h else none | none => none) = _
  rw [Tryd.func18]
  kernel_rfl
end bits_OnesCount
namespace impl_triangleEdges
noncomputable def lp0 : Code := (codeAt (bodyOf Tryd.f19) [1, 1, 0, 1, 0, 0])
def st0 (x0 x2 x3 x5 x6 : PV) (h : PHeap) : St := ⟨[x0, .junk, x2, x3, .junk, x5, x6, .junk, .junk, .junk, .junk, .junk, .junk, .junk, .junk, .junk, .junk, .junk, .junk, .junk, .junk, .junk, .junk, .junk, .junk, .junk, .junk, .junk, .junk, .junk, .junk, .junk, .junk, .junk, .junk], h⟩
def se0_0_2_3_5_6_7 (x0 x2 x3 x5 x6 x7 : PV) (h : PHeap) : St := ⟨[x0, .junk, x2, x3, .junk, x5, x6, x7, .junk, .junk, .junk, .junk, .junk, .junk, .junk, .junk, .junk, .junk, .junk, .junk, .junk, .junk, .junk, .junk, .junk, .junk, .junk, .junk, .junk, .junk, .junk, .junk, .junk, .junk, .junk], h⟩
noncomputable def K0 (E : Env) (K : PX → St → Res) : PX → St → Res := (kBlock 0 (kSeq (ev (E.cx Tryd.prog kl) (codeAt (bodyOf Tryd.f19) [1, 1, 1])) K))
@[simp] theorem K0_ret (E : Env) (K : PX → St → Res) (s : St) : K0 E K .ret s = K .ret s := by kernel_rfl
noncomputable def body0 (E : Env) (K : PX → St → Res) (x0 x2 x3 x5 x6 : PV) (h : PHeap) : Res :=
    (E.p.bin .lss 3 x6 x5).bind fun v33 =>
    condP v33
     (
      (E.p.indexAddr 34 x3 (.int .i64 0)).bind fun v34 =>
      (E.p.load 3 v34 h).bind fun v35 =>
      (E.C fn_impl_triangleCell [x6, (.int .i64 0)] h).bind fun v36 =>
      (E.p.load 3 v34 v36.2).bind fun v37 =>
      ckP (plainEq v35 v37) (
      (E.p.bin .shl 3 (.int .i64 1) v36.1).bind fun v38 =>
      (E.p.bin .or 3 v35 v38).bind fun v39 =>
      (E.p.indexAddr 34 x3 (.int .i64 0)).bind fun v40 =>
      (E.p.store 3 v40 v39 v36.2).bind fun v41 =>
      (E.p.indexAddr 34 x3 (.int .i64 1)).bind fun v42 =>
      (E.p.load 3 v42 v41).bind fun v43 =>
      (E.C fn_impl_triangleCell [x6, x6] v41).bind fun v44 =>
      (E.p.load 3 v42 v44.2).bind fun v45 =>
      ckP (plainEq v43 v45) (
      (E.p.bin .shl 3 (.int .i64 1) v44.1).bind fun v46 =>
      (E.p.bin .or 3 v43 v46).bind fun v47 =>
      (E.p.indexAddr 34 x3 (.int .i64 1)).bind fun v48 =>
      (E.p.store 3 v48 v47 v44.2).bind fun v49 =>
      (E.p.indexAddr 34 x3 (.int .i64 2)).bind fun v50 =>
      (E.p.bin .sub 3 x0 (.int .i64 1)).bind fun v51 =>
      (E.p.load 3 v50 v49).bind fun v52 =>
      (E.C fn_impl_triangleCell [v51, x6] v49).bind fun v53 =>
      (E.p.load 3 v50 v53.2).bind fun v54 =>
      ckP (plainEq v52 v54) (
      (E.p.bin .shl 3 (.int .i64 1) v53.1).bind fun v55 =>
      (E.p.bin .or 3 v52 v55).bind fun v56 =>
      (E.p.indexAddr 34 x3 (.int .i64 2)).bind fun v57 =>
      (E.p.store 3 v57 v56 v53.2).bind fun v58 =>
      (E.p.bin .add 3 x6 (.int .i64 1)).bind fun v59 =>
      K .normal (st0 x0 x2 x3 x5 v59 v58)))))
     (
      K (.exit 0) (se0_0_2_3_5_6_7 x0 x2 x3 x5 x6 v33 h))
theorem body0_eq (E : Env) (K : PX → St → Res) (x0 x2 x3 x5 x6 : PV) (h : PHeap) : ev (E.cx Tryd.prog kl) lp0 (st0 x0 x2 x3 x5 x6 h) K = body0 E K x0 x2 x3 x5 x6 h := by kernel_rfl
theorem after0_se0_0_2_3_5_6_7 (E : Env) (x0 x2 x3 x5 x6 x7 : PV) (h : PHeap) : K0 E (kTop Tryd.prog Tryd.f19) (.exit 0) (se0_0_2_3_5_6_7 x0 x2 x3 x5 x6 x7 h) =
    (E.p.load 34 x3 h).bind fun v30 =>
    (E.p.store 34 x2 v30 h).bind fun v31 =>
    (loadP Tryd.prog 34 x2 v31).bind fun v32 =>
    some (v32, v31) := by kernel_rfl
noncomputable def main (E : Env) (x0 : PV) (h : PHeap) : Res :=
    (E.p.alloc 34 h).bind fun v1 =>
    (E.p.alloc 34 v1.2).bind fun v2 =>
    loopK (ev (E.cx Tryd.prog impl_triangleEdges.kl) impl_triangleEdges.lp0) E.lf (impl_triangleEdges.st0 x0 v1.1 v2.1 x0 (.int .i64 0) v2.2) (impl_triangleEdges.K0 E (kTop Tryd.prog Tryd.f19))
theorem main_eq (E : Env) (x0 : PV) (h : PHeap) : runBody (E.cx Tryd.prog kl) Tryd.f19 [x0] h = main E x0 h := by kernel_rfl
theorem call_eq (g : Nat → PV) (lf n : Nat) (x0 : PV) (h : PHeap) : CL g lf (n + 1) fn_impl_triangleEdges [x0] h = main (env g lf n) x0 h := by
  rw [← main_eq]
  show (match Tryd.prog.funcs[19]? with | some fn => if fn.body.isSome then runBody ⟨Tryd.prog, g, call Tryd.prog g KL lf n, KL 19, lf, std Tryd.prog⟩ fn [x0] h else none | none => none) = _
  rw [Tryd.func19]
  kernel_rfl
end impl_triangleEdges
namespace impl_triangleWave
noncomputable def lp0 : Code := (codeAt (bodyOf Tryd.f20) [1, 0, 1, 0, 0])
def st0 (x0 x1 x2 x7 : PV) (h : PHeap) : St := ⟨[x0, x1, x2, .junk, .junk, .junk, .junk, x7, .junk, .junk, .junk, .junk, .junk, .junk, .junk, .junk, .junk, .junk, .junk, .junk, .junk, .junk], h⟩
def se0_0_1_2_7_10 (x0 x1 x2 x7 x10 : PV) (h : PHeap) : St := ⟨[x0, x1, x2, .junk, .junk, .junk, .junk, x7, .junk, .junk, x10, .junk, .junk, .junk, .junk, .junk, .junk, .junk, .junk, .junk, .junk, .junk], h⟩
noncomputable def K0 (E : Env) (K : PX → St → Res) : PX → St → Res := (kBlock 0 (kSeq (ev (E.cx Tryd.prog kl) (codeAt (bodyOf Tryd.f20) [1, 1])) K))
@[simp] theorem K0_ret (E : Env) (K : PX → St → Res) (s : St) : K0 E K .ret s = K .ret s := by kernel_rfl
noncomputable def body0 (E : Env) (K : PX → St → Res) (x0 x1 x2 x7 : PV) (h : PHeap) : Res :=
    (E.p.bin .neq 3 x7 (.int .i64 0)).bind fun v7 =>
    condP v7
     (
      (E.C fn_impl_triangleAround [x0, x7] h).bind fun v8 =>
      (E.p.bin .and 3 v8.1 x2).bind fun v9 =>
      (E.p.bin .andNot 3 v9 x1).bind fun v10 =>
      (E.p.bin .or 3 x1 v10).bind fun v11 =>
      K .normal (st0 x0 v11 x2 v10 v8.2))
     (
      K (.exit 0) (se0_0_1_2_7_10 x0 x1 x2 x7 v7 h))
theorem body0_eq (E : Env) (K : PX → St → Res) (x0 x1 x2 x7 : PV) (h : PHeap) : ev (E.cx Tryd.prog kl) lp0 (st0 x0 x1 x2 x7 h) K = body0 E K x0 x1 x2 x7 h := by kernel_rfl
theorem after0_se0_0_1_2_7_10 (E : Env) (x0 x1 x2 x7 x10 : PV) (h : PHeap) : K0 E (kTop Tryd.prog Tryd.f20) (.exit 0) (se0_0_1_2_7_10 x0 x1 x2 x7 x10 h) =
    (resV x1).bind fun v6 =>
    some (v6, h) := by kernel_rfl
noncomputable def main (E : Env) (x0 x1 x2 : PV) (h : PHeap) : Res :=
    loopK (ev (E.cx Tryd.prog impl_triangleWave.kl) impl_triangleWave.lp0) E.lf (impl_triangleWave.st0 x0 x1 x2 x1 h) (impl_triangleWave.K0 E (kTop Tryd.prog Tryd.f20))
theorem main_eq (E : Env) (x0 x1 x2 : PV) (h : PHeap) : runBody (E.cx Tryd.prog kl) Tryd.f20 [x0, x1, x2] h = main E x0 x1 x2 h := by kernel_rfl
theorem call_eq (g : Nat → PV) (lf n : Nat) (x0 x1 x2 : PV) (h : PHeap) : CL g lf (n + 1) fn_impl_triangleWave [x0, x1, x2] h = main (env g lf n) x0 x1 x2 h := by
  rw [← main_eq]
  show (match Tryd.prog.funcs[20]? with | some fn => if fn.body.isSome then runBody ⟨Tryd.prog, g, call Tryd.prog g KL lf n, KL 20, lf, std Tryd.prog⟩ fn [x0, x1, x2] h else none | none => none) = _
  rw [Tryd.func20]
  kernel_rfl
end impl_triangleWave
namespace spec_l7Place
noncomputable def lp0 : Code := (codeAt (bodyOf Tryd.f21) [1, 1, 0, 0, 0])
def st0 (x0 x4 : PV) (h : PHeap) : St := ⟨[x0, .junk, .junk, .junk, x4, .junk, .junk, .junk, .junk, .junk, .junk, .junk, .junk, .junk, .junk, .junk], h⟩
def se0_0_4_7 (x0 x4 x7 : PV) (h : PHeap) : St := ⟨[x0, .junk, .junk, .junk, x4, .junk, .junk, x7, .junk, .junk, .junk, .junk, .junk, .junk, .junk, .junk], h⟩
noncomputable def K0 (E : Env) (K : PX → St → Res) : PX → St → Res := (kBlock 0 (kSeq (ev (E.cx Tryd.prog kl) (codeAt (bodyOf Tryd.f21) [1, 1, 1])) K))
@[simp] theorem K0_ret (E : Env) (K : PX → St → Res) (s : St) : K0 E K .ret s = K .ret s := by kernel_rfl
noncomputable def body0 (E : Env) (K : PX → St → Res) (x0 x4 : PV) (h : PHeap) : Res :=
    (E.p.bin .gtr 3 x0 x4).bind fun v7 =>
    condP v7
     (
      (E.p.bin .sub 3 x0 x4).bind fun v8 =>
      (E.p.bin .sub 3 v8 (.int .i64 1)).bind fun v9 =>
      (E.p.bin .add 3 x4 (.int .i64 1)).bind fun v10 =>
      K .normal (st0 v9 v10 h))
     (
      K (.exit 0) (se0_0_4_7 x0 x4 v7 h))
theorem body0_eq (E : Env) (K : PX → St → Res) (x0 x4 : PV) (h : PHeap) : ev (E.cx Tryd.prog kl) lp0 (st0 x0 x4 h) K = body0 E K x0 x4 h := by kernel_rfl
theorem after0_se0_0_4_7 (E : Env) (x0 x4 x7 : PV) (h : PHeap) : K0 E (kTop Tryd.prog Tryd.f21) (.exit 0) (se0_0_4_7 x0 x4 x7 h) =
    (resV x4).bind fun v5 =>
    (resV x0).bind fun v6 =>
    some (.tup [v5, v6], h) := by kernel_rfl
noncomputable def main (E : Env) (x0 : PV) (h : PHeap) : Res :=
    loopK (ev (E.cx Tryd.prog spec_l7Place.kl) spec_l7Place.lp0) E.lf (spec_l7Place.st0 x0 (.int .i64 0) h) (spec_l7Place.K0 E (kTop Tryd.prog Tryd.f21))
theorem main_eq (E : Env) (x0 : PV) (h : PHeap) : runBody (E.cx Tryd.prog kl) Tryd.f21 [x0] h = main E x0 h := by kernel_rfl
theorem call_eq (g : Nat → PV) (lf n : Nat) (x0 : PV) (h : PHeap) : CL g lf (n + 1) fn_spec_l7Place [x0] h = main (env g lf n) x0 h := by
  rw [← main_eq]
  show (match Tryd.prog.funcs[21]? with | some fn => if fn.body.isSome then runBody ⟨Tryd.prog, g, call Tryd.prog g KL lf n, KL 21, lf, std Tryd.prog⟩ fn [x0] h else none | none => none) = _
  rw [Tryd.func21]
  kernel_rfl
end spec_l7Place
namespace bits_OnesCount64
noncomputable def main (E : Env) (x0 : PV) (h : PHeap) : Res :=
    (E.p.bin .shr 42 x0 (.int .u64 1)).bind fun v1 =>
    (E.p.bin .and 42 v1 (.int .u64 6148914691236517205)).bind fun v2 =>
    (E.p.bin .and 42 x0 (.int .u64 6148914691236517205)).bind fun v3 =>
    (E.p.bin .add 42 v2 v3).bind fun v4 =>
    (E.p.bin .shr 42 v4 (.int .u64 2)).bind fun v5 =>
    (E.p.bin .and 42 v5 (.int .u64 3689348814741910323)).bind fun v6 =>
    (E.p.bin .and 42 v4 (.int .u64 3689348814741910323)).bind fun v7 =>
    (E.p.bin .add 42 v6 v7).bind fun v8 =>
    (E.p.bin .shr 42 v8 (.int .u64 4)).bind fun v9 =>
    (E.p.bin .add 42 v9 v8).bind fun v10 =>
    (E.p.bin .and 42 v10 (.int .u64 1085102592571150095)).bind fun v11 =>
    (E.p.bin .shr 42 v11 (.int .u64 8)).bind fun v12 =>
    (E.p.bin .add 42 v11 v12).bind fun v13 =>
    (E.p.bin .shr 42 v13 (.int .u64 16)).bind fun v14 =>
    (E.p.bin .add 42 v13 v14).bind fun v15 =>
    (E.p.bin .shr 42 v15 (.int .u64 32)).bind fun v16 =>
    (E.p.bin .add 42 v15 v16).bind fun v17 =>
    (E.p.conv 42 3 v17).bind fun v18 =>
    (E.p.bin .and 3 v18 (.int .i64 127)).bind fun v19 =>
    (resV v19).bind fun v20 =>
    some (v20, h)
theorem main_eq (E : Env) (x0 : PV) (h : PHeap) : runBody (E.cx Tryd.prog kl) Tryd.f23 [x0] h = main E x0 h := by kernel_rfl
theorem call_eq (g : Nat → PV) (lf n : Nat) (x0 : PV) (h : PHeap) : CL g lf (n + 1) fn_bits_OnesCount64 [x0] h = main (env g lf n) x0 h := by
  rw [← main_eq]
  show (match Tryd.prog.funcs[23]? with | some fn => if fn.body.isSome then runBody ⟨Tryd.prog, g, call Tryd.prog g KL lf n, KL 23, lf, std Tryd.prog⟩ fn [x0] h else none | none => none) = _
  rw [Tryd.func23]
  kernel_rfl
end bits_OnesCount64
namespace impl_triangleAround
noncomputable def lp0 : Code := (codeAt (bodyOf Tryd.f24) [1, 1, 0, 1, 0, 0])
def st0 (x0 x5 x6 : PV) (h : PHeap) : St := ⟨[x0, .junk, .junk, .junk, .junk, x5, x6, .junk, .junk, .junk, .junk, .junk, .junk, .junk, .junk, .junk, .junk, .junk, .junk, .junk, .junk, .junk, .junk, .junk, .junk, .junk, .junk, .junk, .junk, .junk, .junk], h⟩
noncomputable def lp1 : Code := (codeAt (bodyOf Tryd.f24) [1, 1, 0, 1, 0, 0, 1, 0, 0, 1, 0, 0])
def st1 (x0 x5 x6 x19 x20 x21 : PV) (h : PHeap) : St := ⟨[x0, .junk, .junk, .junk, .junk, x5, x6, .junk, .junk, .junk, .junk, .junk, .junk, .junk, .junk, .junk, .junk, .junk, .junk, x19, x20, x21, .junk, .junk, .junk, .junk, .junk, .junk, .junk, .junk, .junk], h⟩
def se0_0_5_6_11 (x0 x5 x6 x11 : PV) (h : PHeap) : St := ⟨[x0, .junk, .junk, .junk, .junk, x5, x6, .junk, .junk, .junk, .junk, x11, .junk, .junk, .junk, .junk, .junk, .junk, .junk, .junk, .junk, .junk, .junk, .junk, .junk, .junk, .junk, .junk, .junk, .junk, .junk], h⟩
def se2_0_5_6_19_20_21_22 (x0 x5 x6 x19 x20 x21 x22 : PV) (h : PHeap) : St := ⟨[x0, .junk, .junk, .junk, .junk, x5, x6, .junk, .junk, .junk, .junk, .junk, .junk, .junk, .junk, .junk, .junk, .junk, .junk, x19, x20, x21, x22, .junk, .junk, .junk, .junk, .junk, .junk, .junk, .junk], h⟩
noncomputable def K0 (E : Env) (K : PX → St → Res) : PX → St → Res := (kBlock 0 (kSeq (ev (E.cx Tryd.prog kl) (codeAt (bodyOf Tryd.f24) [1, 1, 1])) K))
@[simp] theorem K0_ret (E : Env) (K : PX → St → Res) (s : St) : K0 E K .ret s = K .ret s := by kernel_rfl
noncomputable def K1 (E : Env) (K : PX → St → Res) : PX → St → Res := (kBlock 2 (kBlock 1 (kSeq (ev (E.cx Tryd.prog kl) (codeAt (bodyOf Tryd.f24) [1, 1, 0, 1, 0, 0, 1, 1])) K)))
@[simp] theorem K1_ret (E : Env) (K : PX → St → Res) (s : St) : K1 E K .ret s = K .ret s := by kernel_rfl
noncomputable def body0 (E : Env) (K : PX → St → Res) (x0 x5 x6 : PV) (h : PHeap) : Res :=
    (E.p.bin .neq 3 x6 (.int .i64 0)).bind fun v14 =>
    condP v14
     (
      (E.C fn_impl_leastIn [x6] h).bind fun v15 =>
      (E.C fn_impl_TriangleNear [x0, v15.1] v15.2).bind fun v16 =>
      (E.p.len 26 v16.1).bind fun v17 =>
      loopK (ev (E.cx Tryd.prog impl_triangleAround.kl) impl_triangleAround.lp1) E.lf (impl_triangleAround.st1 x0 x5 x6 v16.1 v17 (.int .i64 0) v16.2) (impl_triangleAround.K1 E K))
     (
      K (.exit 0) (se0_0_5_6_11 x0 x5 x6 v14 h))
theorem body0_eq (E : Env) (K : PX → St → Res) (x0 x5 x6 : PV) (h : PHeap) : ev (E.cx Tryd.prog kl) lp0 (st0 x0 x5 x6 h) K = body0 E K x0 x5 x6 h := by kernel_rfl
noncomputable def body1 (E : Env) (K : PX → St → Res) (x0 x5 x6 x19 x20 x21 : PV) (h : PHeap) : Res :=
    (E.p.bin .lss 3 x21 x20).bind fun v18 =>
    condP v18
     (
      (E.p.indexAddr 26 x19 x21).bind fun v19 =>
      (E.p.load 3 v19 h).bind fun v20 =>
      (E.p.bin .shl 3 (.int .i64 1) v20).bind fun v21 =>
      (E.p.bin .or 3 x5 v21).bind fun v22 =>
      (E.p.bin .add 3 x21 (.int .i64 1)).bind fun v23 =>
      K .normal (st1 x0 v22 x6 x19 x20 v23 h))
     (
      K (.exit 2) (se2_0_5_6_19_20_21_22 x0 x5 x6 x19 x20 x21 v18 h))
theorem body1_eq (E : Env) (K : PX → St → Res) (x0 x5 x6 x19 x20 x21 : PV) (h : PHeap) : ev (E.cx Tryd.prog kl) lp1 (st1 x0 x5 x6 x19 x20 x21 h) K = body1 E K x0 x5 x6 x19 x20 x21 h := by kernel_rfl
theorem after0_se0_0_5_6_11 (E : Env) (x0 x5 x6 x11 : PV) (h : PHeap) : K0 E (kTop Tryd.prog Tryd.f24) (.exit 0) (se0_0_5_6_11 x0 x5 x6 x11 h) =
    (resV x5).bind fun v11 =>
    some (v11, h) := by kernel_rfl
theorem after1_se2_0_5_6_19_20_21_22 (E : Env) (K : PX → St → Res) (x0 x5 x6 x19 x20 x21 x22 : PV) (h : PHeap) : K1 E K (.exit 2) (se2_0_5_6_19_20_21_22 x0 x5 x6 x19 x20 x21 x22 h) =
    (E.p.bin .sub 3 x6 (.int .i64 1)).bind fun v12 =>
    (E.p.bin .and 3 x6 v12).bind fun v13 =>
    K .normal (st0 x0 x5 v13 h) := by kernel_rfl
noncomputable def main (E : Env) (x0 x1 : PV) (h : PHeap) : Res :=
    loopK (ev (E.cx Tryd.prog impl_triangleAround.kl) impl_triangleAround.lp0) E.lf (impl_triangleAround.st0 x0 (.int .i64 0) x1 h) (impl_triangleAround.K0 E (kTop Tryd.prog Tryd.f24))
theorem main_eq (E : Env) (x0 x1 : PV) (h : PHeap) : runBody (E.cx Tryd.prog kl) Tryd.f24 [x0, x1] h = main E x0 x1 h := by kernel_rfl
theorem call_eq (g : Nat → PV) (lf n : Nat) (x0 x1 : PV) (h : PHeap) : CL g lf (n + 1) fn_impl_triangleAround [x0, x1] h = main (env g lf n) x0 x1 h := by
  rw [← main_eq]
  show (match Tryd.prog.funcs[24]? with | some fn => if fn.body.isSome then runBody ⟨Tryd.prog, g, call Tryd.prog g KL lf n, KL 24, lf, std Tryd.prog⟩ fn [x0, x1] h else none | none => none) = _
  rw [Tryd.func24]
  kernel_rfl
end impl_triangleAround
namespace impl_TriangleNear
noncomputable def lp0 : Code := (codeAt (bodyOf Tryd.f25) [1, 1, 1, 1, 0, 1, 0, 0])
def st0 (x0 x5 x6 x7 x30 x31 : PV) (h : PHeap) : St := ⟨[x0, .junk, .junk, .junk, .junk, x5, x6, x7, .junk, .junk, .junk, .junk, .junk, .junk, .junk, .junk, .junk, .junk, .junk, .junk, .junk, .junk, .junk, .junk, .junk, .junk, .junk, .junk, .junk, .junk, x30, x31, .junk, .junk, .junk, .junk, .junk, .junk, .junk, .junk, .junk, .junk, .junk, .junk, .junk, .junk, .junk, .junk, .junk, .junk, .junk, .junk, .junk, .junk, .junk, .junk, .junk, .junk, .junk, .junk, .junk, .junk], h⟩
def se0_0_5_6_7_30_31_32 (x0 x5 x6 x7 x30 x31 x32 : PV) (h : PHeap) : St := ⟨[x0, .junk, .junk, .junk, .junk, x5, x6, x7, .junk, .junk, .junk, .junk, .junk, .junk, .junk, .junk, .junk, .junk, .junk, .junk, .junk, .junk, .junk, .junk, .junk, .junk, .junk, .junk, .junk, .junk, x30, x31, x32, .junk, .junk, .junk, .junk, .junk, .junk, .junk, .junk, .junk, .junk, .junk, .junk, .junk, .junk, .junk, .junk, .junk, .junk, .junk, .junk, .junk, .junk, .junk, .junk, .junk, .junk, .junk, .junk, .junk], h⟩
noncomputable def K0 (E : Env) (K : PX → St → Res) : PX → St → Res := (kBlock 0 (kSeq (ev (E.cx Tryd.prog kl) (codeAt (bodyOf Tryd.f25) [1, 1, 1, 1, 1])) K))
@[simp] theorem K0_ret (E : Env) (K : PX → St → Res) (s : St) : K0 E K .ret s = K .ret s := by kernel_rfl
noncomputable def body0 (E : Env) (K : PX → St → Res) (x0 x5 x6 x7 x30 x31 : PV) (h : PHeap) : Res :=
    (E.p.bin .lss 3 x31 (.int .i64 6)).bind fun v51 =>
    condP v51
     (
      (E.p.index 45 x30 x31).bind fun v52 =>
      (E.p.alloc 44 h).bind fun v53 =>
      (E.p.store 44 v53.1 v52 v53.2).bind fun v54 =>
      (E.p.indexAddr 44 v53.1 (.int .i64 0)).bind fun v55 =>
      (E.p.load 3 v55 v54).bind fun v56 =>
      (E.p.bin .add 3 x5 v56).bind fun v57 =>
      (E.p.indexAddr 44 v53.1 (.int .i64 1)).bind fun v58 =>
      (E.p.load 3 v58 v54).bind fun v59 =>
      (E.p.bin .add 3 x6 v59).bind fun v60 =>
      (E.p.bin .lss 3 v57 x0).bind fun v61 =>
      (wantV v61 true).bind fun v62 =>
      (bif v62 then some (v60, v54) else some (.tup [], v54)).bind fun v63 =>
      (wantV v61 true).bind fun v64 =>
      (bif v64 then pv v63.2 (E.p.bin .geq 3 v63.1 (.int .i64 0)) else some (.tup [], v63.2)).bind fun v65 =>
      (E.p.pick v61 v65.1 (.bool false)).bind fun v66 =>
      (wantV v66 true).bind fun v67 =>
      (bif v67 then some (v60, v65.2) else some (.tup [], v65.2)).bind fun v68 =>
      (wantV v66 true).bind fun v69 =>
      (bif v69 then some (v57, v68.2) else some (.tup [], v68.2)).bind fun v70 =>
      (wantV v66 true).bind fun v71 =>
      (bif v71 then pv v70.2 (E.p.bin .leq 3 v68.1 v70.1) else some (.tup [], v70.2)).bind fun v72 =>
      (E.p.pick v66 v72.1 (.bool false)).bind fun v73 =>
      condP v73
       (
        (E.C fn_impl_triangleCell [v57, v60] v72.2).bind fun v74 =>
        (E.p.buildSlice 26 1 [(0, v74.1)] v74.2).bind fun v75 =>
        (E.p.append 26 26 x7 v75.1 v75.2).bind fun v76 =>
        (E.p.bin .add 3 x31 (.int .i64 1)).bind fun v77 =>
        K .normal (st0 x0 x5 x6 v76.1 x30 v77 v76.2))
       (
        (E.p.bin .add 3 x31 (.int .i64 1)).bind fun v78 =>
        K .normal (st0 x0 x5 x6 x7 x30 v78 v72.2)))
     (
      K (.exit 0) (se0_0_5_6_7_30_31_32 x0 x5 x6 x7 x30 x31 v51 h))
theorem body0_eq (E : Env) (K : PX → St → Res) (x0 x5 x6 x7 x30 x31 : PV) (h : PHeap) : ev (E.cx Tryd.prog kl) lp0 (st0 x0 x5 x6 x7 x30 x31 h) K = body0 E K x0 x5 x6 x7 x30 x31 h := by kernel_rfl
theorem after0_se0_0_5_6_7_30_31_32 (E : Env) (x0 x5 x6 x7 x30 x31 x32 : PV) (h : PHeap) : K0 E (kTop Tryd.prog Tryd.f25) (.exit 0) (se0_0_5_6_7_30_31_32 x0 x5 x6 x7 x30 x31 x32 h) =
    (resV x7).bind fun v50 =>
    some (v50, h) := by kernel_rfl
noncomputable def main (E : Env) (x0 x1 : PV) (h : PHeap) : Res :=
    (E.C fn_impl_triangleSideOk [x0] h).bind fun v1 =>
    (E.p.un .not v1.1).bind fun v2 =>
    (wantV v2 false).bind fun v3 =>
    (bif v3 then some (x1, v1.2) else some (.tup [], v1.2)).bind fun v4 =>
    (wantV v2 false).bind fun v5 =>
    (bif v5 then pv v4.2 (E.p.bin .lss 3 v4.1 (.int .i64 0)) else some (.tup [], v4.2)).bind fun v6 =>
    (E.p.pick v2 (.bool true) v6.1).bind fun v7 =>
    (wantV v7 false).bind fun v8 =>
    (bif v8 then some (x1, v6.2) else some (.tup [], v6.2)).bind fun v9 =>
    (wantV v7 false).bind fun v10 =>
    (bif v10 then some (x0, v9.2) else some (.tup [], v9.2)).bind fun v11 =>
    (wantV v7 false).bind fun v12 =>
    (bif v12 then E.C fn_impl_triangleSize [v11.1] v11.2 else some (.tup [], v11.2)).bind fun v13 =>
    (wantV v7 false).bind fun v14 =>
    (bif v14 then pv v13.2 (E.p.bin .geq 3 v9.1 v13.1) else some (.tup [], v13.2)).bind fun v15 =>
    (E.p.pick v7 (.bool true) v15.1).bind fun v16 =>
    condP v16
     (
      (resV .nilsl).bind fun v17 =>
      some (v17, v15.2))
     (
      (E.C fn_impl_trianglePlace [x1] v15.2).bind fun v18 =>
      (E.p.extract v18.1 0).bind fun v19 =>
      (E.p.extract v18.1 1).bind fun v20 =>
      (E.p.load 45 (E.g 0) v18.2).bind fun v21 =>
      loopK (ev (E.cx Tryd.prog impl_TriangleNear.kl) impl_TriangleNear.lp0) E.lf (impl_TriangleNear.st0 x0 v19 v20 .nilsl v21 (.int .i64 0) v18.2) (impl_TriangleNear.K0 E (kTop Tryd.prog Tryd.f25)))
theorem main_eq (E : Env) (x0 x1 : PV) (h : PHeap) : runBody (E.cx Tryd.prog kl) Tryd.f25 [x0, x1] h = main E x0 x1 h := by kernel_rfl
theorem call_eq (g : Nat → PV) (lf n : Nat) (x0 x1 : PV) (h : PHeap) : CL g lf (n + 1) fn_impl_TriangleNear [x0, x1] h = main (env g lf n) x0 x1 h := by
  rw [← main_eq]
  show (match Tryd.prog.funcs[25]? with | some fn => if fn.body.isSome then runBody ⟨Tryd.prog, g, call Tryd.prog g KL lf n, KL 25, lf, std Tryd.prog⟩ fn [x0, x1] h else none | none => none) = _
  rw [Tryd.func25]
  kernel_rfl
end impl_TriangleNear
namespace impl_leastIn
noncomputable def main (E : Env) (x0 : PV) (h : PHeap) : Res :=
    (E.p.conv 3 33 x0).bind fun v1 =>
    (E.C fn_bits_TrailingZeros [v1] h).bind fun v2 =>
    (resV v2.1).bind fun v3 =>
    some (v3, v2.2)
theorem main_eq (E : Env) (x0 : PV) (h : PHeap) : runBody (E.cx Tryd.prog kl) Tryd.f26 [x0] h = main E x0 h := by kernel_rfl
theorem call_eq (g : Nat → PV) (lf n : Nat) (x0 : PV) (h : PHeap) : CL g lf (n + 1) fn_impl_leastIn [x0] h = main (env g lf n) x0 h := by
  rw [← main_eq]
  show (match Tryd.prog.funcs[26]? with | some fn => if fn.body.isSome then runBody ⟨Tryd.prog, g, call Tryd.prog g KL lf n, KL 26, lf, std Tryd.prog⟩ fn [x0] h else none | none => none) = _
  rw [Tryd.func26]
  kernel_rfl
end impl_leastIn
namespace impl_trianglePlace
noncomputable def lp0 : Code := (codeAt (bodyOf Tryd.f27) [1, 1, 0, 0, 0])
def st0 (x0 x4 : PV) (h : PHeap) : St := ⟨[x0, .junk, .junk, .junk, x4, .junk, .junk, .junk, .junk, .junk, .junk, .junk, .junk, .junk, .junk, .junk, .junk], h⟩
def se0_0_4_9 (x0 x4 x9 : PV) (h : PHeap) : St := ⟨[x0, .junk, .junk, .junk, x4, .junk, .junk, .junk, .junk, x9, .junk, .junk, .junk, .junk, .junk, .junk, .junk], h⟩
noncomputable def K0 (E : Env) (K : PX → St → Res) : PX → St → Res := (kBlock 0 (kSeq (ev (E.cx Tryd.prog kl) (codeAt (bodyOf Tryd.f27) [1, 1, 1])) K))
@[simp] theorem K0_ret (E : Env) (K : PX → St → Res) (s : St) : K0 E K .ret s = K .ret s := by kernel_rfl
noncomputable def body0 (E : Env) (K : PX → St → Res) (x0 x4 : PV) (h : PHeap) : Res :=
    (E.p.bin .add 3 x4 (.int .i64 1)).bind fun v9 =>
    (E.C fn_impl_triangleSize [v9] h).bind fun v10 =>
    (E.p.bin .leq 3 v10.1 x0).bind fun v11 =>
    condP v11
     (
      (E.p.bin .add 3 x4 (.int .i64 1)).bind fun v12 =>
      K .normal (st0 x0 v12 v10.2))
     (
      K (.exit 0) (se0_0_4_9 x0 x4 v11 v10.2))
theorem body0_eq (E : Env) (K : PX → St → Res) (x0 x4 : PV) (h : PHeap) : ev (E.cx Tryd.prog kl) lp0 (st0 x0 x4 h) K = body0 E K x0 x4 h := by kernel_rfl
theorem after0_se0_0_4_9 (E : Env) (x0 x4 x9 : PV) (h : PHeap) : K0 E (kTop Tryd.prog Tryd.f27) (.exit 0) (se0_0_4_9 x0 x4 x9 h) =
    (E.C fn_impl_triangleSize [x4] h).bind fun v5 =>
    (E.p.bin .sub 3 x0 v5.1).bind fun v6 =>
    (resV x4).bind fun v7 =>
    (resV v6).bind fun v8 =>
    some (.tup [v7, v8], v5.2) := by kernel_rfl
noncomputable def main (E : Env) (x0 : PV) (h : PHeap) : Res :=
    loopK (ev (E.cx Tryd.prog impl_trianglePlace.kl) impl_trianglePlace.lp0) E.lf (impl_trianglePlace.st0 x0 (.int .i64 0) h) (impl_trianglePlace.K0 E (kTop Tryd.prog Tryd.f27))
theorem main_eq (E : Env) (x0 : PV) (h : PHeap) : runBody (E.cx Tryd.prog kl) Tryd.f27 [x0] h = main E x0 h := by kernel_rfl
theorem call_eq (g : Nat → PV) (lf n : Nat) (x0 : PV) (h : PHeap) : CL g lf (n + 1) fn_impl_trianglePlace [x0] h = main (env g lf n) x0 h := by
  rw [← main_eq]
  show (match Tryd.prog.funcs[27]? with | some fn => if fn.body.isSome then runBody ⟨Tryd.prog, g, call Tryd.prog g KL lf n, KL 27, lf, std Tryd.prog⟩ fn [x0] h else none | none => none) = _
  rw [Tryd.func27]
  kernel_rfl
end impl_trianglePlace
namespace bits_TrailingZeros
noncomputable def main (E : Env) (x0 : PV) (h : PHeap) : Res :=
    condP (.bool false)
     (
      (E.p.conv 33 40 x0).bind fun v1 =>
      (E.C fn_bits_TrailingZeros32 [v1] h).bind fun v2 =>
      (resV v2.1).bind fun v3 =>
      some (v3, v2.2))
     (
      (E.C fn_bits_TrailingZeros64 [x0] h).bind fun v4 =>
      (resV v4.1).bind fun v5 =>
      some (v5, v4.2))
theorem main_eq (E : Env) (x0 : PV) (h : PHeap) : runBody (E.cx Tryd.prog kl) Tryd.f28 [x0] h = main E x0 h := by kernel_rfl
theorem call_eq (g : Nat → PV) (lf n : Nat) (x0 : PV) (h : PHeap) : CL g lf (n + 1) fn_bits_TrailingZeros [x0] h = main (env g lf n) x0 h := by
  rw [← main_eq]
  show (match Tryd.prog.funcs[28]? with | some fn => if fn.body.isSome then runBody ⟨Tryd.prog, g, call Tryd.prog g KL lf n, KL 28, lf, std Tryd.prog⟩ fn [x0] h else none | none => none) = _
  rw [Tryd.func28]
  kernel_rfl
end bits_TrailingZeros
namespace bits_TrailingZeros32
noncomputable def main (E : Env) (x0 : PV) (h : PHeap) : Res :=
    (E.p.bin .eql 40 x0 (.int .u32 0)).bind fun v1 =>
    condP v1
     (
      (resV (.int .i64 32)).bind fun v2 =>
      some (v2, h))
     (
      (E.p.un .neg x0).bind fun v3 =>
      (E.p.bin .and 40 x0 v3).bind fun v4 =>
      (E.p.bin .mul 40 v4 (.int .u32 125613361)).bind fun v5 =>
      (E.p.bin .shr 40 v5 (.int .u64 27)).bind fun v6 =>
      (E.p.indexAddr 46 (E.g 1) v6).bind fun v7 =>
      (E.p.load 5 v7 h).bind fun v8 =>
      (E.p.conv 5 3 v8).bind fun v9 =>
      (resV v9).bind fun v10 =>
      some (v10, h))
theorem main_eq (E : Env) (x0 : PV) (h : PHeap) : runBody (E.cx Tryd.prog kl) Tryd.f29 [x0] h = main E x0 h := by kernel_rfl
theorem call_eq (g : Nat → PV) (lf n : Nat) (x0 : PV) (h : PHeap) : CL g lf (n + 1) fn_bits_TrailingZeros32 [x0] h = main (env g lf n) x0 h := by
  rw [← main_eq]
  show (match Tryd.prog.funcs[29]? with | some fn => if fn.body.isSome then runBody ⟨Tryd.prog, g, call Tryd.prog g KL lf n, KL 29, lf, std Tryd.prog⟩ fn [x0] h else none | none => none) = _
  rw [Tryd.func29]
  kernel_rfl
end bits_TrailingZeros32
namespace bits_TrailingZeros64
noncomputable def main (E : Env) (x0 : PV) (h : PHeap) : Res :=
    (E.p.bin .eql 42 x0 (.int .u64 0)).bind fun v1 =>
    condP v1
     (
      (resV (.int .i64 64)).bind fun v2 =>
      some (v2, h))
     (
      (E.p.un .neg x0).bind fun v3 =>
      (E.p.bin .and 42 x0 v3).bind fun v4 =>
      (E.p.bin .mul 42 v4 (.int .u64 285870213051353865)).bind fun v5 =>
      (E.p.bin .shr 42 v5 (.int .u64 58)).bind fun v6 =>
      (E.p.indexAddr 47 (E.g 2) v6).bind fun v7 =>
      (E.p.load 5 v7 h).bind fun v8 =>
      (E.p.conv 5 3 v8).bind fun v9 =>
      (resV v9).bind fun v10 =>
      some (v10, h))
theorem main_eq (E : Env) (x0 : PV) (h : PHeap) : runBody (E.cx Tryd.prog kl) Tryd.f30 [x0] h = main E x0 h := by kernel_rfl
theorem call_eq (g : Nat → PV) (lf n : Nat) (x0 : PV) (h : PHeap) : CL g lf (n + 1) fn_bits_TrailingZeros64 [x0] h = main (env g lf n) x0 h := by
  rw [← main_eq]
  show (match Tryd.prog.funcs[30]? with | some fn => if fn.body.isSome then runBody ⟨Tryd.prog, g, call Tryd.prog g KL lf n, KL 30, lf, std Tryd.prog⟩ fn [x0] h else none | none => none) = _
  rw [Tryd.func30]
  kernel_rfl
end bits_TrailingZeros64
end Go.Proofs.YtlefknibddkjpabDoor.G

/- Which boards there are: what the program's and the model's functions on a board's sides compute. -/
set_option maxRecDepth 20000
namespace Go.Proofs.YtlefknibddkjpabDoor
open Go Go.Ip G

def boardB (r c : Int) : Bool := decide (1 ≤ r ∧ r ≤ 4 ∧ 1 ≤ c ∧ c ≤ 4 ∧ r * c ≤ 9)

variable (g : Nat → PV) (lf n : Nat) (h : PHeap)

theorem l1In_calls (a lo hi : Int) : CL g lf (n + 1) fn_spec_l1In [.int .i64 a, .int .i64 lo, .int .i64 hi] h = some (.bool (decide (lo ≤ a ∧ a ≤ hi)), h) := by
  rw [spec_l1In.call_eq]
  by_cases h1 : lo ≤ a <;> simp [spec_l1In.main, h1]

end Go.Proofs.YtlefknibddkjpabDoor

/- What the laws' helpers on slices of integers, and both functions that check a position, compute. -/
set_option maxRecDepth 20000
namespace Go.Proofs.YtlefknibddkjpabDoor
open Go Go.Ip G

variable (g : Nat → PV) (lf n : Nat)

/-! ### toIntS: a copy -/
/-! ### eqIntS: are two lists equal? -/
/-! ### positions -/
def contentB (x : Int) : Bool := decide (0 ≤ x ∧ x ≤ 2)
def posB (r c : Int) (xs : List Int) : Bool := boardB r c && decide ((xs.length : Int) = r * c) && xs.all contentB

end Go.Proofs.YtlefknibddkjpabDoor

/- The exact law on positions. -/
set_option maxRecDepth 20000
namespace Go.Proofs.YtlefknibddkjpabDoor
open Go Go.Ip G

variable (g : Nat → PV) (lf n : Nat)

end Go.Proofs.YtlefknibddkjpabDoor

/- The marks that the exact laws lay and look for, and the lists that both programs make of a position. -/
set_option maxRecDepth 20000
namespace Go.Proofs.YtlefknibddkjpabDoor
open Go Go.Ip G

/-- A slice of the call's own, among the objects from n up to m. -/
def OwnB (n m : Nat) (h : PHeap) (p : PV) (xs : List Int) : Prop :=
  (p = .nilsl ∧ xs = []) ∨ ∃ id, n ≤ id ∧ id < m ∧ p = .sl id 0 xs.length ∧ h[id]? = some (.own 1 (xs.map (.int .i64)))

theorem OwnSl.b {n : Nat} {h : PHeap} {p : PV} {xs : List Int} (s : OwnSl n h p xs) : OwnB n h.length h p xs := by
  rcases s with s | ⟨id, h1, h2, h3⟩
  · exact .inl s
  · exact .inr ⟨id, h1, (List.getElem?_eq_some_iff.1 h3).1, h2, h3⟩

theorem OwnB.sl {n m : Nat} {h : PHeap} {p : PV} {xs : List Int} (s : OwnB n m h p xs) : OwnSl n h p xs := by
  rcases s with s | ⟨id, h1, _, h2, h3⟩
  · exact .inl s
  · exact .inr ⟨id, h1, h2, h3⟩

theorem OwnB.int {n m : Nat} {h : PHeap} {p : PV} {xs : List Int} (s : OwnB n m h p xs) : IntSl .i64 h p xs := s.sl.int

/-- Only the objects from n up to m may have been written to. -/
def Only (n m : Nat) (h h' : PHeap) : Prop := h'.length = h.length ∧ ∀ i, (i < n ∨ m ≤ i) → h'[i]? = h[i]?

theorem Only.refl (n m : Nat) (h : PHeap) : Only n m h h := ⟨rfl, fun _ _ => rfl⟩
theorem Only.trans {n m : Nat} {a b c : PHeap} (h : Only n m a b) (k : Only n m b c) : Only n m a c := ⟨k.1.trans h.1, fun i hi => (k.2 i hi).trans (h.2 i hi)⟩
theorem Only.keep {n m : Nat} {a b : PHeap} (h : Only n m a b) : Keep n a b := ⟨by rw [h.1]; exact Nat.le_refl _, fun i hi => h.2 i (.inl hi)⟩

theorem OwnB.keep {n m : Nat} {h h' : PHeap} {p : PV} {xs : List Int} (s : OwnB n m h p xs) (k : Keep m h h') : OwnB n m h' p xs := by
  rcases s with s | ⟨id, h1, h2, h3, h4⟩
  · exact .inl s
  · exact .inr ⟨id, h1, h2, h3, by rw [k.2 id h2]; exact h4⟩

theorem OwnB.only {n m n' m' : Nat} {h h' : PHeap} {p : PV} {xs : List Int} (s : OwnB n m h p xs) (k : Only n' m' h h') (hd : m ≤ n' ∨ m' ≤ n) : OwnB n m h' p xs := by
  rcases s with s | ⟨id, h1, h2, h3, h4⟩
  · exact .inl s
  · exact .inr ⟨id, h1, h2, h3, by rw [k.2 id (by omega)]; exact h4⟩

theorem OwnB.store {n m : Nat} {h : PHeap} {p : PV} {xs : List Int} (s : OwnB n m h p xs) {i : Nat} (hi : i < xs.length) (x : Int) :
    ∃ a h', indexAddrP Tryd.prog 26 p (.int .i64 i) = some a ∧ storeP Tryd.prog 3 a (.int .i64 x) h = some h' ∧ OwnB n m h' p (xs.set i x) ∧ Only n m h h' := by
  rcases s with ⟨rfl, rfl⟩ | ⟨id, h1, h2, rfl, h3⟩
  · simp at hi
  · have hid : id < h.length := (List.getElem?_eq_some_iff.1 h3).1
    refine ⟨.ptr id (0 + i), h.set id (.own 1 ((xs.set i x).map (.int .i64))), by simp [indexAddrP, tySize, hi], ?_, .inr ⟨id, h1, h2, by simp, by rw [List.getElem?_set_self hid]⟩, ⟨by simp, fun j hj => List.getElem?_set_ne (by omega)⟩⟩
    simp only [storeP, h3, PV.cells, tySize, Nat.zero_add]
    rw [if_pos ⟨rfl, by simp; omega⟩]
    simp [setCells, List.map_set]

variable (g : Nat → PV) (lf n : Nat)

end Go.Proofs.YtlefknibddkjpabDoor

/- The cells of one kind, and a position turned by half a turn: both programs, and their exact laws. -/
set_option maxRecDepth 20000
namespace Go.Proofs.YtlefknibddkjpabDoor
open Go Go.Ip G

variable (g : Nat → PV) (lf n : Nat)

theorem OwnSl.res {n : Nat} {h : PHeap} {p : PV} {xs : List Int} (s : OwnSl n h p xs) : resV p = some p := by
  rcases s with ⟨rfl, _⟩ | ⟨id, _, rfl, _⟩ <;> rfl

end Go.Proofs.YtlefknibddkjpabDoor

/- A position turned by half a turn: both programs, and the exact law. -/
set_option maxRecDepth 20000
namespace Go.Proofs.YtlefknibddkjpabDoor
open Go Go.Ip G

variable (g : Nat → PV) (lf n : Nat)

end Go.Proofs.YtlefknibddkjpabDoor

/- The reader from which the model draws: what a pick may come to. -/
set_option maxRecDepth 20000
namespace Go.Proofs.YtlefknibddkjpabDoor
open Go Go.Ip Go.RowKit G

/-- A slice of bytes that came in, as the interpreter's heap holds it: the first object. -/
def Arg (h : PHeap) (p : PV) (xs : List Int) : Prop :=
  (∀ h', Keep 1 h h' → IntSl .u8 h' p xs) ∧ 1 ≤ h.length ∧ (∀ id off len, p = .sl id off len → 0 < len → id = 0 ∧ eszAt h id = 1) ∧ ∀ b ∈ xs, 0 ≤ b ∧ b ≤ 255

/-- The reader: object id, over a code of at most 2000 bytes, at most m picks behind. -/
def Rd (h : PHeap) (id m : Nat) : Prop :=
  ∃ bp bs pos, h[id]? = some (.own 1 [bp, .int .i64 pos]) ∧ (∀ h', Keep id h h' → IntSl .u8 h' bp bs) ∧ (∀ b ∈ bs, (0 : Int) ≤ b ∧ b ≤ 255) ∧ bs.length ≤ 2000 ∧ 0 ≤ pos ∧ pos ≤ (m : Int)

theorem Rd.keep {h h' : PHeap} {id m n : Nat} (r : Rd h id m) (hk : Keep n h h') (hn : id < n) : Rd h' id m := by
  obtain ⟨bp, bs, pos, h1, h2, rest⟩ := r
  exact ⟨bp, bs, pos, by rw [hk.2 id hn]; exact h1, fun h3 hk3 => h2 h3 ((hk.mono (by omega)).trans hk3), rest⟩

theorem Rd.lt {h : PHeap} {id m : Nat} (r : Rd h id m) : id < h.length := by
  obtain ⟨bp, bs, pos, h1, _⟩ := r
  exact (List.getElem?_eq_some_iff.1 h1).1

variable (g : Nat → PV) (lf n : Nat)

end Go.Proofs.YtlefknibddkjpabDoor

/- What a pick and a chance come to. -/
set_option maxRecDepth 20000
namespace Go.Proofs.YtlefknibddkjpabDoor
open Go Go.Ip Go.RowKit G

variable (g : Nat → PV) (lf n : Nat)

theorem bd {α β : Type} {x : Option α} {v : α} {f : α → Option β} {r : Option β} (hx : x = some v) (hf : f v = r) : x.bind f = r := by rw [hx]; exact hf
theorem cdT {x y r : Res} (h : x = r) : condP (.bool true) x y = r := h
theorem cdF {x y r : Res} (h : y = r) : condP (.bool false) x y = r := h
end Go.Proofs.YtlefknibddkjpabDoor

/- The board that the model draws: small numbers, whatever they are. -/
set_option maxRecDepth 20000
namespace Go.Proofs.YtlefknibddkjpabDoor
open Go Go.Ip Go.RowKit G

/-- Below n nothing has turned but the object id. -/
def KeepX (id n : Nat) (h h' : PHeap) : Prop := h.length ≤ h'.length ∧ ∀ i, i < n → i ≠ id → h'[i]? = h[i]?

theorem KeepX.refl (id n : Nat) (h : PHeap) : KeepX id n h h := ⟨Nat.le_refl _, fun _ _ _ => rfl⟩
theorem KeepX.trans {id n : Nat} {a b c : PHeap} (h : KeepX id n a b) (k : KeepX id n b c) : KeepX id n a c := ⟨Nat.le_trans h.1 k.1, fun i hi hn => (k.2 i hi hn).trans (h.2 i hi hn)⟩
theorem KeepX.mono {id n m : Nat} {a b : PHeap} (h : KeepX id n a b) (hm : m ≤ n) : KeepX id m a b := ⟨h.1, fun i hi hn => h.2 i (by omega) hn⟩
theorem Keep.x {id n : Nat} {a b : PHeap} (h : Keep n a b) : KeepX id n a b := ⟨h.1, fun i hi _ => h.2 i hi⟩
theorem Only.x {id n : Nat} {a b : PHeap} (h : Only id (id + 1) a b) : KeepX id n a b := ⟨by rw [h.1]; exact Nat.le_refl _, fun i _ hn => h.2 i (by omega)⟩
theorem KeepX.keep {id n : Nat} {a b : PHeap} (h : KeepX id n a b) (hn : id ≤ n) : Keep id a b := ⟨h.1, fun i hi => h.2 i (by omega) (by omega)⟩

theorem Rd.mono {h : PHeap} {id m m' : Nat} (r : Rd h id m) (hm : m ≤ m') : Rd h id m' := by
  obtain ⟨bp, bs, pos, h1, h2, h3, h4, h5, h6⟩ := r
  exact ⟨bp, bs, pos, h1, h2, h3, h4, h5, by omega⟩

variable (g : Nat → PV) (lf n : Nat)

end Go.Proofs.YtlefknibddkjpabDoor

/- Promise 1: boards are turned. -/
set_option maxRecDepth 20000
namespace Go.Proofs.YtlefknibddkjpabDoor
open Go Go.Ip Go.RowKit G

variable (g : Nat → PV) (lf n : Nat)

end Go.Proofs.YtlefknibddkjpabDoor

/- The position that the model draws: at most ten numbers, whatever they are. -/
set_option maxRecDepth 20000
namespace Go.Proofs.YtlefknibddkjpabDoor
open Go Go.Ip Go.RowKit G

variable (g : Nat → PV) (lf n : Nat)

end Go.Proofs.YtlefknibddkjpabDoor

/- Promise 3: free boards are positions. -/
set_option maxRecDepth 20000
namespace Go.Proofs.YtlefknibddkjpabDoor
open Go Go.Ip Go.RowKit G

variable (g : Nat → PV) (lf n : Nat)

end Go.Proofs.YtlefknibddkjpabDoor

/- Promise 5: turned by half a turn twice it is as before. -/
set_option maxRecDepth 20000
namespace Go.Proofs.YtlefknibddkjpabDoor
open Go Go.Ip Go.RowKit G

variable (g : Nat → PV) (lf n : Nat)

/-! ### sameInts: are two lists equal? -/
end Go.Proofs.YtlefknibddkjpabDoor

/- Promise 4: each cell is of one kind. -/
set_option maxRecDepth 20000
namespace Go.Proofs.YtlefknibddkjpabDoor
open Go Go.Ip Go.RowKit G

variable (g : Nat → PV) (lf n : Nat)

/-! ### what is listed -/
/-! ### ascend -/
/-! ### the law's own loops -/
end Go.Proofs.YtlefknibddkjpabDoor

/- What both functions that mirror a position compute, and the exact law on them. -/
set_option maxRecDepth 20000
namespace Go.Proofs.YtlefknibddkjpabDoor
open Go Go.Ip Go.RowKit G

variable (g : Nat → PV) (lf n : Nat)

/-- Where the mirrored position's cell k comes from: of a board of R rows and C columns. -/
def sig (R C k : Nat) : Nat := k % R * C + k / R
/-- A board's sides, as numbers. -/
def Sides (r c : Int) (R C : Nat) (xs : List Int) : Prop := r = (R : Int) ∧ c = (C : Int) ∧ 1 ≤ R ∧ R ≤ 4 ∧ 1 ≤ C ∧ C ≤ 4 ∧ R * C ≤ 9 ∧ xs.length = R * C ∧ xs.all contentB = true

theorem f_rem (i R : Nat) (hR : 1 ≤ R) : binP Tryd.prog .rem 3 (.int .i64 (i : Int)) (.int .i64 (R : Int)) = some (.int .i64 ((i % R : Nat) : Int)) := by
  rw [bin_rem (show (R : Int) ≠ 0 by omega)]; rfl
end Go.Proofs.YtlefknibddkjpabDoor

/- The neighbours of a cell: the program's loop over its table of steps, the model's two loops, and the exact law. -/
set_option maxRecDepth 20000
namespace Go.Proofs.YtlefknibddkjpabDoor
open Go Go.Ip G

/-! ### the table of steps -/
def steps : List (Int × Int) := [(-1, 0), (-1, 1), (0, -1), (0, 1), (1, -1), (1, 0)]
def tab64N : List Nat := [0, 1, 56, 2, 57, 49, 28, 3, 61, 58, 42, 50, 38, 29, 17, 4, 62, 47, 59, 36, 45, 43, 51, 22, 53, 39, 33, 30, 24, 18, 12, 5, 63, 55, 48, 27, 60, 41, 37, 16, 46, 35, 44, 21, 52, 32, 23, 11, 54, 26, 40, 15, 34, 20, 31, 10, 25, 14, 19, 9, 13, 8, 7, 6]
def tab64Cells : List PV := tab64N.map fun n : Nat => .int .u8 (n : Int)
/-- Where the library's table of 64 bytes is known to lie, it reads so. -/
def Tab64 (g : Nat → PV) (h : PHeap) : Prop := ∀ id, g 2 = .ptr id 0 → h[id]? = some (.ro 1 tab64Cells)
theorem Tab64.keep {g : Nat → PV} {h h' : PHeap} (t : Tab64 g h) (k : Keep h.length h h') : Tab64 g h' := fun id e => by have ho := t id e; rw [k.2 id (List.getElem?_eq_some_iff.1 ho).1]; exact ho

theorem tyTabAgg : isAggT Tryd.prog 45 = some true := by kernel_rfl
theorem tyTabSize : sizeT Tryd.prog 45 = some 12 := by kernel_rfl
theorem tyPairZ : zeroCellsT Tryd.prog 44 = some [.int .i64 0, .int .i64 0] := by kernel_rfl
theorem tyPairSize : sizeT Tryd.prog 44 = some 2 := by kernel_rfl
theorem tyPairU : Tryd.prog.underlying 44 = some (.array 2 3) := by kernel_rfl

theorem pair_alloc (h : PHeap) : allocP Tryd.prog 44 h = some (.ptr h.length 0, h ++ [.own 1 [.int .i64 0, .int .i64 0]]) := by simp [allocP, tyPairZ]
theorem pair_addr0 (id : Nat) : indexAddrP Tryd.prog 44 (.ptr id 0) (.int .i64 0) = some (.ptr id 0) := by simp [indexAddrP, tySize]
theorem pair_addr1 (id : Nat) : indexAddrP Tryd.prog 44 (.ptr id 0) (.int .i64 1) = some (.ptr id 1) := by simp [indexAddrP, tySize]
/-! ### what is meant -/
def rowAt (C k : Nat) (s : Int × Int) : Int := ((k / C : Nat) : Int) + s.1
def colAt (C k : Nat) (s : Int × Int) : Int := ((k % C : Nat) : Int) + s.2
def inB (R C k : Nat) (s : Int × Int) : Bool := decide (0 ≤ rowAt C k s) && decide (rowAt C k s < R) && decide (0 ≤ colAt C k s) && decide (colAt C k s < C)
def nearFrom (R C k : Nat) (ss : List (Int × Int)) : List Int := (ss.filter (inB R C k)).map fun s => rowAt C k s * C + colAt C k s
def nearN (R C k : Nat) : List Int := nearFrom R C k steps
/-- An operation under a guard. -/
theorem gd {α β : Type} {b t : Bool} {x y : Option α} {f : α → Option β} {r : Option β} (hb : b = t) (hx : x.bind f = r) : ((wantV (.bool b) t).bind fun v => (bif v then x else y).bind f) = r := by
  subst hb; simpa using hx
variable (g : Nat → PV) (lf n : Nat)

/-! ### the program -/
end Go.Proofs.YtlefknibddkjpabDoor

/- The model's neighbours, 'is a number in a list', and the exact law on neighbours. -/
set_option maxRecDepth 20000
namespace Go.Proofs.YtlefknibddkjpabDoor
open Go Go.Ip G

variable (g : Nat → PV) (lf n : Nat)

theorem l1In_N (N : Nat) (hN : 1 ≤ N) (h : PHeap) (a lo hi : Int) : CL g lf N fn_spec_l1In [.int .i64 a, .int .i64 lo, .int .i64 hi] h = some (.bool (decide (lo ≤ a ∧ a ≤ hi)), h) := by
  obtain ⟨n, rfl⟩ : ∃ n, N = n + 1 := ⟨N - 1, by omega⟩
  exact l1In_calls g lf n h a lo hi

/-! ### hasInt -/
/-! ### the exact law -/
end Go.Proofs.YtlefknibddkjpabDoor

/- Promises 2 and 8: neighbours are so both ways; all neighbours are counted by rows and columns. -/
set_option maxRecDepth 20000
namespace Go.Proofs.YtlefknibddkjpabDoor
open Go Go.Ip G

/-! ### of all cells of all boards -/
variable (g : Nat → PV) (lf n : Nat)

/-! ### promise 8 -/
end Go.Proofs.YtlefknibddkjpabDoor

/- Promise 7 and the exact law on it: how far cells are from each other. -/
set_option maxRecDepth 20000
namespace Go.Proofs.YtlefknibddkjpabDoor
open Go Go.Ip G

/-! ### sets of cells as numbers -/
theorem f_shr (a i : Nat) (hi : i ≤ 60) : binP Tryd.prog .shr 3 (.int .i64 (a : Int)) (.int .i64 (i : Int)) = some (.int .i64 ((a >>> i : Nat) : Int)) := by
  have h0 : ¬ ((i : Int) < 0) := by omega
  have hm : min ((i : Int).toNat) (IntKind.i64.bits) = i := by
    have : IntKind.i64.bits = 64 := rfl
    rw [this]; omega
  simp only [binP, shI, if_neg h0, hm]
  congr 2
  rw [Nat.shiftRight_eq_div_pow]
  have : ((2 : Int) ^ i) = ((2 ^ i : Nat) : Int) := by simp
  rw [this, ← Int.ofNat_fdiv]

theorem f_shl (i : Nat) (hi : i ≤ 30) : binP Tryd.prog .shl 3 (.int .i64 1) (.int .i64 (i : Int)) = some (.int .i64 ((1 <<< i : Nat) : Int)) := by
  have h0 : ¬ ((i : Int) < 0) := by omega
  have hm : min ((i : Int).toNat) (IntKind.i64.bits) = i := by
    have : IntKind.i64.bits = 64 := rfl
    rw [this]; omega
  simp only [binP, shI, if_neg h0, hm]
  congr 2
  rw [Nat.one_shiftLeft]
  have : ((2 : Int) ^ i) = ((2 ^ i : Nat) : Int) := by simp
  rw [Int.one_mul, this]
  have hle : 2 ^ i ≤ 2 ^ 30 := Nat.pow_le_pow_right (by decide) hi
  obtain ⟨z, hz⟩ : ∃ z : Nat, z = 2 ^ i := ⟨_, rfl⟩
  rw [← hz] at hle ⊢
  exact wr (by omega)

theorem natEq (y k : Nat) : ((y : Int) == (k : Int)) = decide (y = k) := by rw [Bool.eq_iff_iff, beq_iff_eq, decide_eq_true_iff, Int.ofNat_inj]

theorem f_and {a b : Nat} (ha : a < 2 ^ 62) (hb : b < 2 ^ 62) : binP Tryd.prog .and 3 (.int .i64 (a : Int)) (.int .i64 (b : Int)) = some (.int .i64 ((a &&& b : Nat) : Int)) := by
  have hz : a &&& b < 2 ^ 62 := Nat.and_lt_two_pow a hb
  have e : (BitVec.ofInt IntKind.i64.bits (a : Int) &&& BitVec.ofInt IntKind.i64.bits (b : Int)).toNat = a &&& b := by
    have hbits : IntKind.i64.bits = 64 := rfl
    rw [BitVec.toNat_and, BitVec.toNat_ofInt, BitVec.toNat_ofInt, hbits]
    congr 1 <;> omega
  have : binP Tryd.prog .and 3 (.int .i64 (a : Int)) (.int .i64 (b : Int)) = some (.int .i64 (IntKind.i64.wrap ((BitVec.ofInt IntKind.i64.bits (a : Int) &&& BitVec.ofInt IntKind.i64.bits (b : Int)).toNat : Int))) := by simp only [binP, binI, if_true]
  rw [this, e, wr (by omega)]

theorem f_or {a b : Nat} (ha : a < 2 ^ 62) (hb : b < 2 ^ 62) : binP Tryd.prog .or 3 (.int .i64 (a : Int)) (.int .i64 (b : Int)) = some (.int .i64 ((a ||| b : Nat) : Int)) := by
  have hz : a ||| b < 2 ^ 62 := Nat.or_lt_two_pow ha hb
  have e : (BitVec.ofInt IntKind.i64.bits (a : Int) ||| BitVec.ofInt IntKind.i64.bits (b : Int)).toNat = a ||| b := by
    have hbits : IntKind.i64.bits = 64 := rfl
    rw [BitVec.toNat_or, BitVec.toNat_ofInt, BitVec.toNat_ofInt, hbits]
    congr 1 <;> omega
  have : binP Tryd.prog .or 3 (.int .i64 (a : Int)) (.int .i64 (b : Int)) = some (.int .i64 (IntKind.i64.wrap ((BitVec.ofInt IntKind.i64.bits (a : Int) ||| BitVec.ofInt IntKind.i64.bits (b : Int)).toNat : Int))) := by simp only [binP, binI, if_true]
  rw [this, e, wr (by omega)]

def orAll (w : Nat) : List Int → Nat
  | [] => w
  | e :: l => orAll (w ||| (1 <<< e.toNat)) l
/-! ### what the model says -/
variable (g : Nat → PV) (lf n : Nat)

/-! ### the program -/
end Go.Proofs.YtlefknibddkjpabDoor

/- Sets of cells as bits: what grows, what is reached, and at what cost. No program text. -/
set_option maxRecDepth 20000
namespace Go.Proofs.YtlefknibddkjpabDoor

theorem bit_iff (x k : Nat) : x >>> k % 2 = 1 ↔ x.testBit k = true := by
  rw [Nat.testBit_eq_decide_div_mod_eq, Nat.shiftRight_eq_div_pow, decide_eq_true_iff]

/-- Cell j is beside cell k: the masks tell the neighbours of each cell. -/
def Adj (M : List Nat) (k j : Nat) : Prop := (M.getD k 0).testBit j = true

inductive Reach (M : List Nat) (set fr : Nat) : Nat → Prop
  | start {j} (h : fr.testBit j = true) (hs : set.testBit j = true) : Reach M set fr j
  | step {k j} (h : Reach M set fr k) (ha : Adj M k j) (hs : set.testBit j = true) : Reach M set fr j

theorem Reach.inSet {M : List Nat} {set fr j : Nat} (h : Reach M set fr j) : set.testBit j = true := by
  cases h <;> assumption

theorem Reach.mono {M : List Nat} {set fr set' fr' : Nat} (hs : ∀ j, set.testBit j = true → set'.testBit j = true) (hf : ∀ j, fr.testBit j = true → fr'.testBit j = true) {j : Nat} (h : Reach M set fr j) : Reach M set' fr' j := by
  induction h with
  | start h h' => exact .start (hf _ h) (hs _ h')
  | step _ ha h' ih => exact .step ih ha (hs _ h')

theorem Reach.trans {M : List Nat} {set fr fr' : Nat} (hf : ∀ j, fr'.testBit j = true → Reach M set fr j) {j : Nat} (h : Reach M set fr' j) : Reach M set fr j := by
  induction h with
  | start h _ => exact hf _ h
  | step _ ha h' ih => exact .step ih ha h'

theorem one_bit (k j : Nat) : (1 <<< k).testBit j = decide (j = k) := by
  rw [Nat.one_shiftLeft, Nat.testBit_two_pow]
  by_cases h : j = k
  · subst h; simp
  · simp [h]; exact fun e => h e.symm

/-- From one cell to another, and back. -/
theorem Reach.back {M : List Nat} (sym : ∀ k j, Adj M k j → Adj M j k) {set a b : Nat} (ha : set.testBit a = true) (h : Reach M set (1 <<< a) b) : Reach M set (1 <<< b) a := by
  induction h with
  | @start j h _ =>
    rw [one_bit] at h
    have : j = a := of_decide_eq_true h
    subst this
    exact .start (by rw [one_bit]; simp) ha
  | @step k j _ hk hj ih =>
    refine ih.trans fun i hi => ?_
    rw [one_bit] at hi
    have : i = k := of_decide_eq_true hi
    subst this
    rename_i hk'
    exact .step (.start (by rw [one_bit]; simp) hj) (sym _ _ hk) hk'.inSet

/-! ### growing -/
def stepFrom (set now : Nat) : Nat → List Nat → Nat → Nat
  | _, [], nx => nx
  | k, m :: ms, nx => stepFrom set now (k + 1) ms (if now >>> k % 2 = 1 then nx ||| (m &&& set) else nx)

def growF (M : List Nat) (set : Nat) : Nat → Nat → Nat
  | 0, now => now
  | f + 1, now => if stepFrom set now 0 M now = now then now else growF M set f (stepFrom set now 0 M now)
def growN (M : List Nat) (set fr : Nat) : Nat := growF M set 600 (fr &&& set)

theorem sub_and {a b : Nat} (h : ∀ j, a.testBit j = true → b.testBit j = true) : a &&& b = a := by
  apply Nat.eq_of_testBit_eq
  intro j
  rw [Nat.testBit_and]
  cases e : a.testBit j with
  | false => rfl
  | true => rw [h j e]; rfl

theorem sub_le {a b : Nat} (h : ∀ j, a.testBit j = true → b.testBit j = true) : a ≤ b := by
  rw [← sub_and h]; exact Nat.and_le_right

/-! ### at what cost -/
/-- Cell j is reached from the edge over own cells and at most k free ones. -/
inductive Cost (M : List Nat) (edge own free : Nat) : Nat → Nat → Prop
  | ownEdge {k j} (h : edge.testBit j = true) (ho : own.testBit j = true) : Cost M edge own free k j
  | freeEdge {k j} (h : edge.testBit j = true) (hf : free.testBit j = true) : Cost M edge own free (k + 1) j
  | ownStep {k i j} (h : Cost M edge own free k i) (ha : Adj M i j) (ho : own.testBit j = true) : Cost M edge own free k j
  | freeStep {k i j} (h : Cost M edge own free k i) (ha : Adj M i j) (hf : free.testBit j = true) : Cost M edge own free (k + 1) j

theorem Cost.more {M : List Nat} {edge own free k j : Nat} (h : Cost M edge own free k j) : Cost M edge own free (k + 1) j := by
  induction h with
  | ownEdge h ho => exact .ownEdge h ho
  | freeEdge h hf => exact .freeEdge h hf
  | ownStep _ ha ho ih => exact .ownStep ih ha ho
  | freeStep _ ha hf ih => exact .freeStep ih ha hf

/-- Own cells more, free cells that are now own: no dearer. -/
theorem Cost.mono {M : List Nat} {edge own free own' free' : Nat} (ho : ∀ j, own.testBit j = true → own'.testBit j = true) (hf : ∀ j, free.testBit j = true → own'.testBit j = true ∨ free'.testBit j = true) {k j : Nat} (h : Cost M edge own free k j) : Cost M edge own' free' k j := by
  induction h with
  | ownEdge h h' => exact .ownEdge h (ho _ h')
  | freeEdge h h' =>
    rcases hf _ h' with h' | h'
    · exact .ownEdge h h'
    · exact .freeEdge h h'
  | ownStep _ ha h' ih => exact .ownStep ih ha (ho _ h')
  | freeStep _ ha h' ih =>
    rcases hf _ h' with h' | h'
    · exact (Cost.ownStep ih ha h').more
    · exact .freeStep ih ha h'

/-- What is dear by one more is so by some free cell: with that one own it is not. -/
theorem Cost.cell {M : List Nat} {edge own free k j : Nat} (h : Cost M edge own free (k + 1) j) :
    Cost M edge own free k j ∨ ∃ c, free.testBit c = true ∧ ∀ own' free', (∀ j, own.testBit j = true → own'.testBit j = true) → own'.testBit c = true → (∀ j, free.testBit j = true → own'.testBit j = true ∨ free'.testBit j = true) → Cost M edge own' free' k j := by
  generalize hk : k + 1 = k' at h
  induction h generalizing k with
  | ownEdge h h' => exact .inl (.ownEdge h h')
  | @freeEdge k0 j h h' => exact .inr ⟨j, h', fun own' free' _ hc _ => .ownEdge h hc⟩
  | ownStep _ ha h' ih =>
    rcases ih hk with ih | ⟨c, hc, ih⟩
    · exact .inl (.ownStep ih ha h')
    · exact .inr ⟨c, hc, fun own' free' ho hoc hf => .ownStep (ih own' free' ho hoc hf) ha (ho _ h')⟩
  | @freeStep k0 i j h0 ha h' _ =>
    obtain rfl : k = k0 := by omega
    exact .inr ⟨j, h', fun own' free' ho hoc hf => .ownStep (h0.mono ho hf) ha hoc⟩

end Go.Proofs.YtlefknibddkjpabDoor

/- Gaps: waves of cost tell the least number of free cells. No program text. -/
set_option maxRecDepth 20000
namespace Go.Proofs.YtlefknibddkjpabDoor

/-- The last side is reached at cost k. -/
def Hits (M : List Nat) (own free edge last k : Nat) : Prop := ∃ j, last.testBit j = true ∧ Cost M edge own free k j
def IsGap (M : List Nat) (own free edge last k : Nat) : Prop := Hits M own free edge last k ∧ ∀ i, i < k → ¬ Hits M own free edge last i

theorem IsGap.unique {M : List Nat} {own free edge last k k' : Nat} (h : IsGap M own free edge last k) (h' : IsGap M own free edge last k') : k = k' := by
  rcases Nat.lt_trichotomy k k' with hlt | e | hgt
  · exact absurd h.1 (h'.2 k hlt)
  · exact e
  · exact absurd h'.1 (h.2 k' hgt)

theorem with_bit (x c j : Nat) : (x ||| (1 <<< c)).testBit j = (x.testBit j || decide (j = c)) := by rw [Nat.testBit_or, one_bit]

section
variable {M : List Nat} {own free edge last : Nat}

end

/-! ### how many -/
def pop (x : Nat) : Nat := (List.range 9).countP fun j => x.testBit j

theorem bit_small {x n j : Nat} (hx : x < 2 ^ n) (h : x.testBit j = true) : j < n := by
  rcases Nat.lt_or_ge j n with hlt | hge
  · exact hlt
  · rw [Nat.testBit_lt_two_pow (Nat.lt_of_lt_of_le hx (Nat.pow_le_pow_right (by decide) hge))] at h; cases h

/-! ### the waves -/
section
variable {M : List Nat} {own free edge last : Nat}

end

end Go.Proofs.YtlefknibddkjpabDoor

/- The model's sets of cells: masks, sides, the cells with a stone, growing, and whether sides are joined. -/
set_option maxRecDepth 20000
namespace Go.Proofs.YtlefknibddkjpabDoor
open Go Go.Ip G

def masksN (R C : Nat) : List Nat := (List.range (R * C)).map fun k => orAll 0 (nearN R C k)
/-- A board, as numbers. -/
def BoardOf (R C : Nat) : Prop := 1 ≤ R ∧ R ≤ 4 ∧ 1 ≤ C ∧ C ≤ 4 ∧ R * C ≤ 9

variable (g : Nat → PV) (lf n : Nat)

/-! ### masks -/
/-! ### sides -/
def atSide (C P i : Nat) : Nat := if P = 2 then i % C else i / C
def endSide (R C P : Nat) : Nat := if P = 2 then C - 1 else R - 1
def sideFrom (R C P : Nat) (last : Bool) : Nat → Nat → Nat → Nat
  | 0, _, w => w
  | m + 1, i, w => sideFrom R C P last m (i + 1) (if (bif last then decide (atSide C P i = endSide R C P) else decide (atSide C P i = 0)) = true then w ||| (1 <<< i) else w)
def sideN (R C P : Nat) (last : Bool) : Nat := sideFrom R C P last (R * C) 0 0

/-! ### the cells with a stone -/
def setFrom (what : Int) : Nat → List Int → Nat → Nat
  | _, [], w => w
  | k, x :: xs, w => setFrom what (k + 1) xs (if x = what then w ||| (1 <<< k) else w)
def setL (xs : List Int) (what : Int) : Nat := setFrom what 0 xs 0

theorem setFrom_lt (what : Int) {n : Nat} : ∀ (xs : List Int) (k w : Nat), k + xs.length ≤ n → w < 2 ^ n → setFrom what k xs w < 2 ^ n
  | [], _, _, _, hw => hw
  | x :: xs, k, w, hk, hw => by
    rw [setFrom]
    rw [List.length_cons] at hk
    refine setFrom_lt what xs (k + 1) _ (by omega) ?_
    split
    · refine Nat.or_lt_two_pow hw ?_
      rw [Nat.one_shiftLeft]; exact Nat.pow_lt_pow_right (by decide) (by omega)
    · exact hw
theorem setL_lt (what : Int) {xs : List Int} {n : Nat} (h : xs.length ≤ n) : setL xs what < 2 ^ n := setFrom_lt what xs 0 0 (by omega) (Nat.two_pow_pos n)

theorem setFrom_bit (what : Int) (j : Nat) : ∀ (xs : List Int) (k w : Nat), (setFrom what k xs w).testBit j = true ↔ w.testBit j = true ∨ ∃ i, j = k + i ∧ xs[i]? = some what
  | [], k, w => by simp [setFrom]
  | x :: xs, k, w => by
    rw [setFrom, setFrom_bit what j xs (k + 1)]
    have hs : (∃ i, j = k + i ∧ (x :: xs)[i]? = some what) ↔ (j = k ∧ x = what) ∨ ∃ i, j = k + 1 + i ∧ xs[i]? = some what := by
      constructor
      · rintro ⟨i, h1, h2⟩
        cases i with
        | zero => exact .inl ⟨by omega, by simpa using h2⟩
        | succ i => exact .inr ⟨i, by omega, by simpa using h2⟩
      · rintro (⟨h1, h2⟩ | ⟨i, h1, h2⟩)
        · exact ⟨0, by omega, by simp [h2]⟩
        · exact ⟨i + 1, by omega, by simpa using h2⟩
    rw [hs]
    by_cases e : x = what
    · rw [if_pos e, Nat.testBit_or, one_bit, Bool.or_eq_true, decide_eq_true_iff]
      simp [e, or_assoc]
    · rw [if_neg e]; simp [e]

theorem setL_bit {xs : List Int} {what : Int} {j : Nat} : (setL xs what).testBit j = true ↔ xs[j]? = some what := by
  unfold setL
  rw [setFrom_bit]
  constructor
  · rintro (h | ⟨i, h1, h2⟩)
    · rw [Nat.zero_testBit] at h; cases h
    · rw [Nat.zero_add] at h1; subst h1; exact h2
  · intro h; exact .inr ⟨j, by omega, h⟩

/-! ### growing -/
theorem bitq (x k : Nat) (hk : k ≤ 20) : binP Tryd.prog .shr 3 (.int .i64 (x : Int)) (.int .i64 (k : Int)) = some (.int .i64 ((x >>> k : Nat) : Int)) ∧ binP Tryd.prog .rem 3 (.int .i64 ((x >>> k : Nat) : Int)) (.int .i64 2) = some (.int .i64 ((x >>> k % 2 : Nat) : Int)) ∧
    binP Tryd.prog .eql 3 (.int .i64 ((x >>> k % 2 : Nat) : Int)) (.int .i64 1) = some (.bool (decide (x >>> k % 2 = 1))) :=
  ⟨f_shr x k (by omega), f_rem (x >>> k) 2 (by decide), by rw [bin_eql]; exact congrArg (fun z => some (PV.bool z)) (natEq _ 1)⟩

def joinsN (R C P S : Nat) : Bool := !decide (growN (masksN R C) S (sideN R C P false) &&& sideN R C P true = 0)

end Go.Proofs.YtlefknibddkjpabDoor

/- The model's chapter 2: what Joins, GroupOf, GapOf, Filled and GapCells of it compute. -/
set_option maxRecDepth 20000
namespace Go.Proofs.YtlefknibddkjpabDoor
open Go Go.Ip G

def listFrom (set : Nat) : Nat → Nat → List Int
  | 0, _ => []
  | m + 1, k => if set >>> k % 2 = 1 then (k : Int) :: listFrom set m (k + 1) else listFrom set m (k + 1)
variable (g : Nat → PV) (lf n : Nat)

/-! ### a set's list -/
theorem listFrom_nil {set : Nat} : ∀ (m k : Nat), set >>> k = 0 → listFrom set m k = []
  | 0, _, _ => rfl
  | m + 1, k, h => by
    have h2 : set >>> (k + 1) = 0 := by rw [Nat.shiftRight_add, h]; rfl
    rw [listFrom, h, if_neg (by decide), listFrom_nil m (k + 1) h2]

/-! ### gaps -/
/-! ### the functions -/
end Go.Proofs.YtlefknibddkjpabDoor

/- The model's Filled and GapCells. -/
set_option maxRecDepth 20000
namespace Go.Proofs.YtlefknibddkjpabDoor
open Go Go.Ip G

variable (g : Nat → PV) (lf n : Nat)

/-- An empty literal, and a whole list appended: a copy. -/
theorem copy_all {xs : List Int} {p : PV} {h : PHeap} (hp : IntSl .i64 h p xs) (hx : 0 < xs.length) (hl : xs.length ≤ 2 ^ 36) :
    ∃ v q h', buildSliceP Tryd.prog 26 0 [] h = some v ∧ appendP Tryd.prog 26 26 v.1 p v.2 = some (q, h') ∧ OwnSl h.length h' q xs ∧ Keep h.length h h' := by
  rcases hp with ⟨rfl, rfl⟩ | ⟨id, off, rfl, hc⟩
  · simp at hx
  have hid : id < h.length := lt_of_cell (hc 0 _ (List.getElem?_eq_getElem hx))
  have hb : buildSliceP Tryd.prog 26 0 [] h = some (.sl h.length 0 0, h ++ [.own 1 []]) := by
    simp [buildSliceP, tyElem, tySize, tyZero, repeatCells, fillP]
  have hcells : ((cellsAt (h ++ [PObj.own 1 []]) id).drop off).take (xs.length * 1) = xs.map (.int .i64) := by
    rw [Nat.mul_one]
    apply List.ext_getElem?
    intro j
    have e : cellsAt (h ++ [PObj.own 1 []]) id = cellsAt h id := by unfold cellsAt; rw [List.getElem?_append_left hid]
    rw [e]
    by_cases hj : j < xs.length
    · rw [List.getElem?_take_of_lt hj, List.getElem?_drop, hc j _ (List.getElem?_eq_getElem hj), List.getElem?_map, List.getElem?_eq_getElem hj]; rfl
    · rw [List.getElem?_eq_none (by rw [List.length_take]; omega), List.getElem?_eq_none (by simp; omega)]
  have hfit : off + xs.length * 1 ≤ (cellsAt (h ++ [PObj.own 1 []]) id).length := by
    have := congrArg List.length hcells
    simp only [List.length_take, List.length_drop, List.length_map, Nat.mul_one] at this ⊢
    omega
  have hsrc : srcP (h ++ [PObj.own 1 []]) 1 (.sl id off xs.length) = some (xs.length, xs.map (.int .i64)) := by
    simp only [srcP]
    rw [if_pos hfit, hcells]
  refine ⟨_, .sl (h.length + 1) 0 (0 + xs.length), ((h ++ [PObj.own 1 []]).set h.length .dead ++ [PObj.own 1 ([] ++ xs.map (.int .i64))]), hb, ?_, .inr ⟨h.length + 1, by omega, by simp, ?_⟩, ?_⟩
  · simp only [appendP, tyElem, tySize, tySmall, bne_self_eq_false, Bool.not_true, Bool.or_self, Bool.false_eq_true, if_false, hsrc, Option.bind_some]
    have h3 : (h ++ [PObj.own 1 []])[h.length]? = some (.own 1 []) := by simp
    rw [h3]
    have : 0 + xs.length ≤ 2 ^ 36 := by omega
    simp only [List.length_nil, Nat.zero_mul, true_and, if_pos this]
    simp
  · rw [List.getElem?_append_right (by simp)]; simp
  · exact (((Keep.append _ h _ (Nat.le_refl _)).trans (Keep.set _ _ h.length .dead (Nat.le_refl _))).trans (Keep.append _ _ _ (by simp)))

/-! ### the cells that close a gap -/
end Go.Proofs.YtlefknibddkjpabDoor

/- Of all boards and all sets of cells: exactly one has joined on a full board; turned, and mirrored. No program text. -/
set_option maxRecDepth 20000
namespace Go.Proofs.YtlefknibddkjpabDoor

def boards : List (Nat × Nat) := [(1, 1), (1, 2), (1, 3), (1, 4), (2, 1), (2, 2), (2, 3), (2, 4), (3, 1), (3, 2), (3, 3), (4, 1), (4, 2)]
theorem board_mem {R C : Nat} (h : BoardOf R C) : (R, C) ∈ boards := by
  obtain ⟨h1, h2, h3, h4, h9⟩ := h
  have hR : R = 1 ∨ R = 2 ∨ R = 3 ∨ R = 4 := by omega
  have hC : C = 1 ∨ C = 2 ∨ C = 3 ∨ C = 4 := by omega
  rcases hR with rfl | rfl | rfl | rfl <;> rcases hC with rfl | rfl | rfl | rfl <;> first | decide | omega

/-- The cells of a set, each at another place. -/
def moved (f : Nat → Nat) (S : Nat) : Nat → Nat
  | 0 => 0
  | k + 1 => moved f S k ||| (if S.testBit k then 1 <<< f k else 0)

def hexB (R C S : Nat) : Bool :=
  (joinsN R C 1 S != joinsN R C 2 (2 ^ (R * C) - 1 - S)) &&
  (joinsN R C 1 (moved (fun k => R * C - 1 - k) S (R * C)) == joinsN R C 1 S) && (joinsN R C 2 (moved (fun k => R * C - 1 - k) S (R * C)) == joinsN R C 2 S) &&
  (joinsN C R 2 (moved (sig C R) S (R * C)) == joinsN R C 1 S) && (joinsN C R 1 (moved (sig C R) S (R * C)) == joinsN R C 2 S)

theorem hex_all : (boards.all fun b => (List.range (2 ^ (b.1 * b.2))).all fun S => hexB b.1 b.2 S) = true := by kernel_rfl

theorem hex_ok {R C S : Nat} (hb : BoardOf R C) (hS : S < 2 ^ (R * C)) : hexB R C S = true := by
  have := List.all_eq_true.1 hex_all (R, C) (board_mem hb)
  exact List.all_eq_true.1 this S (by rw [List.mem_range]; exact hS)

end Go.Proofs.YtlefknibddkjpabDoor

/- Promise 6: mirrored twice it is as before. -/
set_option maxRecDepth 20000
namespace Go.Proofs.YtlefknibddkjpabDoor
open Go Go.Ip Go.RowKit G

variable (g : Nat → PV) (lf n : Nat)

end Go.Proofs.YtlefknibddkjpabDoor

/- What the laws of chapter 2 say of positions, as facts on sets of cells. No program text. -/
set_option maxRecDepth 20000
namespace Go.Proofs.YtlefknibddkjpabDoor

/-! ### joined sides -/
theorem compl_bit {n S : Nat} (hS : S < 2 ^ n) (j : Nat) : (2 ^ n - 1 - S).testBit j = (decide (j < n) && !S.testBit j) := by
  rw [Nat.sub_sub, Nat.add_comm 1 S]; exact Nat.testBit_two_pow_sub_succ hS j

theorem hex {R C P S : Nat} (hB : BoardOf R C) (hP : P = 1 ∨ P = 2) (hS : S < 2 ^ (R * C)) : joinsN R C P S = !joinsN R C (3 - P) (2 ^ (R * C) - 1 - S) := by
  have key : ∀ T, T < 2 ^ (R * C) → joinsN R C 1 T = !joinsN R C 2 (2 ^ (R * C) - 1 - T) := fun T hT => by
    have := hex_ok hB hT
    unfold hexB at this
    simp only [Bool.and_eq_true] at this
    have := this.1.1.1.1
    cases h1 : joinsN R C 1 T <;> cases h2 : joinsN R C 2 (2 ^ (R * C) - 1 - T) <;> rw [h1, h2] at this <;> first | rfl | cases this
  rcases hP with rfl | rfl
  · exact key S hS
  · have h2 := key (2 ^ (R * C) - 1 - S) (by omega)
    rw [show 2 ^ (R * C) - 1 - (2 ^ (R * C) - 1 - S) = S by omega] at h2
    rw [show 3 - 2 = 1 from rfl, h2, Bool.not_not]

/-! ### filled -/
/-! ### turned and mirrored -/
theorem moved_bit (f : Nat → Nat) (S : Nat) : ∀ (n j : Nat), (moved f S n).testBit j = true ↔ ∃ k, k < n ∧ S.testBit k = true ∧ j = f k
  | 0, j => by simp [moved]
  | n + 1, j => by
    rw [moved, Nat.testBit_or, Bool.or_eq_true, moved_bit f S n j]
    have hlast : ((if S.testBit n = true then 1 <<< f n else 0).testBit j = true) ↔ (S.testBit n = true ∧ j = f n) := by
      by_cases h : S.testBit n = true
      · rw [if_pos h, one_bit, decide_eq_true_iff]; simp [h]
      · rw [if_neg h, Nat.zero_testBit]; simp [h]
    rw [hlast]
    constructor
    · rintro (⟨k, h1, h2, h3⟩ | ⟨h1, h2⟩)
      · exact ⟨k, by omega, h2, h3⟩
      · exact ⟨n, by omega, h1, h2⟩
    · rintro ⟨k, h1, h2, h3⟩
      by_cases e : k = n
      · subst e; exact .inr ⟨h2, h3⟩
      · exact .inl ⟨k, by omega, h2, h3⟩

/-! ### gaps -/
/-! ### the cells that close a gap -/
end Go.Proofs.YtlefknibddkjpabDoor

/- Who wins, told by the sets of both players' stones: what it is, that a stone more never harms, that to move never harms, and that turned and mirrored it is the same. No program text. -/
set_option maxRecDepth 20000
namespace Go.Proofs.YtlefknibddkjpabDoor
open Go Go.Ip G

/-- A stone of the one to move. -/
def putA (t k a : Nat) : Nat := if t = 1 then a ||| (1 <<< k) else a
def putB (t k b : Nat) : Nat := if t = 1 then b else b ||| (1 <<< k)

def winF (R C : Nat) : Nat → Nat → Nat → Nat → Nat
  | 0, a, b, t => if joinsN R C 1 a = true then 1 else if joinsN R C 2 b = true then 2 else 3 - t
  | f + 1, a, b, t => if joinsN R C 1 a = true then 1 else if joinsN R C 2 b = true then 2 else
      if ((List.range (R * C)).any fun k => !(a ||| b).testBit k && decide (winF R C f (putA t k a) (putB t k b) (3 - t) = t)) = true then t else 3 - t

def winN (R C a b t : Nat) : Nat := winF R C (R * C) a b t

theorem put_bit (t k a b j : Nat) : (putA t k a ||| putB t k b).testBit j = ((a ||| b).testBit j || decide (j = k)) := by
  unfold putA putB
  split
  · rw [Nat.testBit_or, with_bit, Nat.testBit_or]; cases a.testBit j <;> cases b.testBit j <;> simp
  · rw [Nat.testBit_or, with_bit, Nat.testBit_or, Bool.or_assoc]

/-- A position, by its two sets. -/
def Pos (R C a b : Nat) : Prop := a < 2 ^ (R * C) ∧ b < 2 ^ (R * C) ∧ ∀ j, a.testBit j = true → b.testBit j = true → False

theorem Pos.put {R C a b t k : Nat} (h : Pos R C a b) (hk : k < R * C) (hf : (a ||| b).testBit k = false) : Pos R C (putA t k a) (putB t k b) := by
  rw [Nat.testBit_or, Bool.or_eq_false_iff] at hf
  have hl : 1 <<< k < 2 ^ (R * C) := by rw [Nat.one_shiftLeft]; exact Nat.pow_lt_pow_right (by decide) hk
  unfold putA putB
  split
  · refine ⟨Nat.or_lt_two_pow h.1 hl, h.2.1, fun j h1 h2 => ?_⟩
    rw [with_bit, Bool.or_eq_true, decide_eq_true_eq] at h1
    rcases h1 with h1 | rfl
    · exact h.2.2 j h1 h2
    · rw [hf.2] at h2; cases h2
  · refine ⟨h.1, Nat.or_lt_two_pow h.2.1 hl, fun j h1 h2 => ?_⟩
    rw [with_bit, Bool.or_eq_true, decide_eq_true_eq] at h2
    rcases h2 with h2 | rfl
    · exact h.2.2 j h1 h2
    · rw [hf.1] at h1; cases h1

/-- If nobody has joined there is a free cell. -/
theorem Pos.free {R C a b : Nat} (hB : BoardOf R C) (h : Pos R C a b) (h1 : joinsN R C 1 a = false) (h2 : joinsN R C 2 b = false) : ∃ k, k < R * C ∧ (a ||| b).testBit k = false := by
  apply Classical.byContradiction
  intro hn
  have hall : ∀ k, k < R * C → (a ||| b).testBit k = true := fun k hk => by
    cases e : (a ||| b).testBit k with
    | true => rfl
    | false => exact (hn ⟨k, hk, e⟩).elim
  have hb : 2 ^ (R * C) - 1 - a = b := by
    apply Nat.eq_of_testBit_eq
    intro j
    rw [compl_bit h.1]
    by_cases hj : j < R * C
    · have := hall j hj
      rw [Nat.testBit_or, Bool.or_eq_true] at this
      cases ea : a.testBit j with
      | true =>
        cases eb : b.testBit j with
        | false => simp
        | true => exact (h.2.2 j ea eb).elim
      | false =>
        rw [ea] at this
        simp at this
        simp [hj, this]
    · cases eb : b.testBit j with
      | true => exact (hj (bit_small h.2.1 eb)).elim
      | false => simp [hj]
  have h3 := hex hB (.inl rfl) h.1
  rw [show 3 - 1 = 2 from rfl, hb, h1, h2] at h3
  cases h3

/-! ### turned and mirrored -/
/-- Each place is taken by just one. -/
structure Perm (f : Nat → Nat) (n : Nat) : Prop where
  lt : ∀ k, k < n → f k < n
  inj : ∀ i k, i < n → k < n → f i = f k → i = k
  onto : ∀ j, j < n → ∃ k, k < n ∧ f k = j

theorem moved_at {f : Nat → Nat} {S n k : Nat} (hf : Perm f n) (hk : k < n) : (moved f S n).testBit (f k) = S.testBit k := by
  rw [Bool.eq_iff_iff, moved_bit]
  constructor
  · rintro ⟨i, hi, h, e⟩
    rw [hf.inj k i hk hi e]; exact h
  · intro h; exact ⟨k, hk, h, rfl⟩

theorem moved_lt {f : Nat → Nat} {S n : Nat} (hf : Perm f n) : moved f S n < 2 ^ n := by
  apply Nat.lt_pow_two_of_testBit
  intro i hi
  cases e : (moved f S n).testBit i with
  | false => rfl
  | true =>
    obtain ⟨k, hk, _, rfl⟩ := (moved_bit f S n i).1 e
    have := hf.lt k hk
    omega

theorem Pos.moved {R C R' C' a b : Nat} {f : Nat → Nat} (hn : R' * C' = R * C) (hf : Perm f (R * C)) (h : Pos R C a b) : Pos R' C' (moved f a (R * C)) (moved f b (R * C)) := by
  refine ⟨by rw [hn]; exact moved_lt hf, by rw [hn]; exact moved_lt hf, fun j h1 h2 => ?_⟩
  obtain ⟨i, hi, ha, rfl⟩ := (moved_bit _ _ _ _).1 h1
  rw [moved_at hf hi] at h2
  exact h.2.2 i ha h2

end Go.Proofs.YtlefknibddkjpabDoor

/- Rules to walk through a function's plain form with what is to hold in the end: binds, conditions, guards, comparisons, numbers, calls and loops. -/
set_option maxRecDepth 20000
namespace Go.Proofs.YtlefknibddkjpabDoor
open Go Go.Ip G

/-- The result is there, and Q holds of it. -/
def W (x : Res) (Q : PV → PHeap → Prop) : Prop := ∃ v h', x = some (v, h') ∧ Q v h'

section
variable {α : Type} {Q Q' : PV → PHeap → Prop} {P : Program} {t : TypeId} {k : IntKind}

theorem W.ret {v : PV} {h : PHeap} (hq : Q v h) : W (some (v, h)) Q := ⟨v, h, rfl, hq⟩
theorem W.mono {x : Res} (hx : W x Q') (hf : ∀ v h, Q' v h → Q v h) : W x Q := by
  obtain ⟨v, h, e, q⟩ := hx; exact ⟨v, h, e, hf v h q⟩
theorem W.of {x : Res} {v : PV} {h : PHeap} (hx : x = some (v, h)) (hq : Q v h) : W x Q := ⟨v, h, hx, hq⟩
theorem wbd {x : Option α} {v : α} {f : α → Res} (hx : x = some v) (hf : W (f v) Q) : W (x.bind f) Q := by rw [hx]; exact hf
theorem wcall {x : Res} {f : PV × PHeap → Res} (hx : W x Q') (hf : ∀ v h, Q' v h → W (f (v, h)) Q) : W (x.bind f) Q := by
  obtain ⟨v, h, e, q⟩ := hx; rw [e]; exact hf v h q
theorem wT {x y : Res} (h : W x Q) : W (condP (.bool true) x y) Q := h
theorem wF {x y : Res} (h : W y Q) : W (condP (.bool false) x y) Q := h
theorem wg1 {b u : Bool} {x y : Option α} {f : α → Res} (hb : b = u) (hx : W (x.bind f) Q) : W ((wantV (.bool b) u).bind fun v => (bif v then x else y).bind f) Q := by
  subst hb; simpa using hx
theorem wg0 {b u : Bool} {x y : Option α} {f : α → Res} (hb : b = !u) (hy : W (y.bind f) Q) : W ((wantV (.bool b) u).bind fun v => (bif v then x else y).bind f) Q := by
  subst hb; cases u <;> simpa using hy
theorem wpT {u v : PV} {f : PV → Res} (h : W (f u) Q) : W ((pickP (.bool true) u v).bind f) Q := h
theorem wpF {u v : PV} {f : PV → Res} (h : W (f v) Q) : W ((pickP (.bool false) u v).bind f) Q := h
theorem wnT {f : PV → Res} (h : W (f (.bool false)) Q) : W ((unP .not (.bool true)).bind f) Q := h
theorem wnF {f : PV → Res} (h : W (f (.bool true)) Q) : W ((unP .not (.bool false)).bind f) Q := h
theorem wpv {x : Option PV} {h : PHeap} {f : PV × PHeap → Res} (hx : W (x.bind fun v => f (v, h)) Q) : W ((pv h x).bind f) Q := by
  cases x <;> exact hx
theorem wsm {v : α} {f : α → Res} (h : W (f v) Q) : W ((some v).bind f) Q := h
theorem wrI {a : Int} {f : PV → Res} (h : W (f (.int k a)) Q) : W ((resV (.int k a)).bind f) Q := h
theorem wrB {a : Bool} {f : PV → Res} (h : W (f (.bool a)) Q) : W ((resV (.bool a)).bind f) Q := h
theorem wrN {f : PV → Res} (h : W (f .nilsl) Q) : W ((resV .nilsl).bind f) Q := h
theorem wx0 {a : PV} {l : List PV} {f : PV → Res} (h : W (f a) Q) : W ((extractP (.tup (a :: l)) 0).bind f) Q := h
theorem wx1 {a b : PV} {l : List PV} {f : PV → Res} (h : W (f b) Q) : W ((extractP (.tup (a :: b :: l)) 1).bind f) Q := h
theorem wck {b : Bool} {x : Res} (hb : b = true) (h : W x Q) : W (ckP b x) Q := by rw [hb]; exact h
/-! ### comparisons -/
section
variable {a b : Int} {f : PV → Res}
theorem wlssT (h : a < b) (hf : W (f (.bool true)) Q) : W ((binP P .lss t (.int k a) (.int k b)).bind f) Q := wbd (by rw [bin_lss, decide_eq_true h]) hf
theorem wlssF (h : ¬ a < b) (hf : W (f (.bool false)) Q) : W ((binP P .lss t (.int k a) (.int k b)).bind f) Q := wbd (by rw [bin_lss, decide_eq_false h]) hf
theorem wleqT (h : a ≤ b) (hf : W (f (.bool true)) Q) : W ((binP P .leq t (.int k a) (.int k b)).bind f) Q := wbd (by rw [bin_leq, decide_eq_true h]) hf
theorem wleqF (h : ¬ a ≤ b) (hf : W (f (.bool false)) Q) : W ((binP P .leq t (.int k a) (.int k b)).bind f) Q := wbd (by rw [bin_leq, decide_eq_false h]) hf
theorem wgtrT (h : b < a) (hf : W (f (.bool true)) Q) : W ((binP P .gtr t (.int k a) (.int k b)).bind f) Q := wbd (by rw [bin_gtr, decide_eq_true h]) hf
theorem wgtrF (h : ¬ b < a) (hf : W (f (.bool false)) Q) : W ((binP P .gtr t (.int k a) (.int k b)).bind f) Q := wbd (by rw [bin_gtr, decide_eq_false h]) hf
theorem wgeqT (h : b ≤ a) (hf : W (f (.bool true)) Q) : W ((binP P .geq t (.int k a) (.int k b)).bind f) Q := wbd (by rw [bin_geq, decide_eq_true h]) hf
theorem wgeqF (h : ¬ b ≤ a) (hf : W (f (.bool false)) Q) : W ((binP P .geq t (.int k a) (.int k b)).bind f) Q := wbd (by rw [bin_geq, decide_eq_false h]) hf
theorem weqlT (h : a = b) (hf : W (f (.bool true)) Q) : W ((binP P .eql t (.int k a) (.int k b)).bind f) Q := wbd (by rw [bin_eql, beq_iff_eq.2 h]) hf
theorem weqlF (h : ¬ a = b) (hf : W (f (.bool false)) Q) : W ((binP P .eql t (.int k a) (.int k b)).bind f) Q := wbd (by rw [bin_eql, beq_eq_false_iff_ne.2 h]) hf
theorem wneqT (h : ¬ a = b) (hf : W (f (.bool true)) Q) : W ((binP P .neq t (.int k a) (.int k b)).bind f) Q := wbd (by rw [bin_neq, bne, beq_eq_false_iff_ne.2 h]; rfl) hf
theorem wneqF (h : a = b) (hf : W (f (.bool false)) Q) : W ((binP P .neq t (.int k a) (.int k b)).bind f) Q := wbd (by rw [bin_neq, bne, beq_iff_eq.2 h]; rfl) hf
end

/-! ### numbers -/
section
variable {a b : Int} {x y : Nat} {f : PV → Res}
theorem wadd (h : -4611686018427387904 ≤ a + b ∧ a + b ≤ 4611686018427387904) (hf : W (f (.int .i64 (a + b))) Q) : W ((binP P .add t (.int .i64 a) (.int .i64 b)).bind f) Q := wbd (by rw [bin_add, wr (by omega)]) hf
theorem wsub (h : -4611686018427387904 ≤ a - b ∧ a - b ≤ 4611686018427387904) (hf : W (f (.int .i64 (a - b))) Q) : W ((binP P .sub t (.int .i64 a) (.int .i64 b)).bind f) Q := wbd (by rw [bin_sub, wr (by omega)]) hf
theorem wadd1 (h : x < 4611686018427387904) (hf : W (f (.int .i64 ((x + 1 : Nat) : Int))) Q) : W ((binP P .add t (.int .i64 (x : Int)) (.int .i64 1)).bind f) Q := wbd (by rw [bin_add, wr (by omega)]; rfl) hf
theorem waddN (h : x + y < 4611686018427387904) (hf : W (f (.int .i64 ((x + y : Nat) : Int))) Q) : W ((binP P .add t (.int .i64 (x : Int)) (.int .i64 (y : Int))).bind f) Q := wbd (by rw [bin_add, wr (by omega)]; rfl) hf
theorem wsub1 (h : 1 ≤ x) (h2 : x < 4611686018427387904) (hf : W (f (.int .i64 ((x - 1 : Nat) : Int))) Q) : W ((binP P .sub t (.int .i64 (x : Int)) (.int .i64 1)).bind f) Q := wbd (by rw [bin_sub, wr (by omega), show (x : Int) - 1 = ((x - 1 : Nat) : Int) by omega]) hf
theorem wmulN (h : x * y < 4611686018427387904) (hf : W (f (.int .i64 ((x * y : Nat) : Int))) Q) : W ((binP P .mul t (.int .i64 (x : Int)) (.int .i64 (y : Int))).bind f) Q := wbd (by rw [bin_mul, ← Int.natCast_mul, wr (by omega)]) hf
end
end

section
variable {Q : PV → PHeap → Prop} {x y : Nat} {f : PV → Res}
theorem wrem2 (hf : W (f (.int .i64 ((x % 2 : Nat) : Int))) Q) : W ((binP Tryd.prog .rem 3 (.int .i64 (x : Int)) (.int .i64 2)).bind f) Q := wbd (f_rem x 2 (by decide)) hf
theorem wshl (h : y ≤ 30) (hf : W (f (.int .i64 ((1 <<< y : Nat) : Int))) Q) : W ((binP Tryd.prog .shl 3 (.int .i64 1) (.int .i64 (y : Int))).bind f) Q := wbd (f_shl y h) hf
theorem wshr (h : y ≤ 60) (hf : W (f (.int .i64 ((x >>> y : Nat) : Int))) Q) : W ((binP Tryd.prog .shr 3 (.int .i64 (x : Int)) (.int .i64 (y : Int))).bind f) Q := wbd (f_shr x y h) hf
theorem wand (hx : x < 2 ^ 62) (hy : y < 2 ^ 62) (hf : W (f (.int .i64 ((x &&& y : Nat) : Int))) Q) : W ((binP Tryd.prog .and 3 (.int .i64 (x : Int)) (.int .i64 (y : Int))).bind f) Q := wbd (f_and hx hy) hf
theorem wor (hx : x < 2 ^ 62) (hy : y < 2 ^ 62) (hf : W (f (.int .i64 ((x ||| y : Nat) : Int))) Q) : W ((binP Tryd.prog .or 3 (.int .i64 (x : Int)) (.int .i64 (y : Int))).bind f) Q := wbd (f_or hx hy) hf

/-- What is in x, and not in y. -/
def minusN (x y : Nat) : Nat := x ^^^ (x &&& y)
theorem minusN_bit (x y j : Nat) : (minusN x y).testBit j = (x.testBit j && !y.testBit j) := by
  unfold minusN; rw [Nat.testBit_xor, Nat.testBit_and]; cases x.testBit j <;> cases y.testBit j <;> rfl
theorem minusN_lt {x y n : Nat} (hx : x < 2 ^ n) : minusN x y < 2 ^ n := Nat.lt_of_le_of_lt (sub_le fun j hj => by rw [minusN_bit, Bool.and_eq_true] at hj; exact hj.1) hx
theorem f_andNot (hx : x < 2 ^ 62) (hy : y < 2 ^ 62) : binP Tryd.prog .andNot 3 (.int .i64 (x : Int)) (.int .i64 (y : Int)) = some (.int .i64 ((minusN x y : Nat) : Int)) := by
  have e1 : BitVec.ofInt 64 (x : Int) = BitVec.ofNat 64 x := by rw [BitVec.ofInt_natCast]
  have e2 : BitVec.ofInt 64 (y : Int) = BitVec.ofNat 64 y := by rw [BitVec.ofInt_natCast]
  have e3 : (BitVec.ofNat 64 x &&& ~~~(BitVec.ofNat 64 y)).toNat = minusN x y := by
    apply Nat.eq_of_testBit_eq
    intro j
    rw [minusN_bit, ← BitVec.getLsbD, BitVec.getLsbD_and, BitVec.getLsbD_not, BitVec.getLsbD_ofNat, BitVec.getLsbD_ofNat]
    by_cases hj : j < 64
    · simp [hj]
    · have : x.testBit j = false := Nat.testBit_lt_two_pow (Nat.lt_of_lt_of_le hx (Nat.pow_le_pow_right (by decide) (by omega)))
      simp [hj, this]
  show binI .andNot .i64 (x : Int) (y : Int) = _
  have hl : minusN x y < 2 ^ 62 := minusN_lt hx
  show some (PV.int .i64 (IntKind.i64.wrap ((BitVec.ofInt 64 (x : Int) &&& ~~~(BitVec.ofInt 64 (y : Int))).toNat))) = _
  rw [e1, e2, e3, wr (by omega)]
theorem wandNot (hx : x < 2 ^ 62) (hy : y < 2 ^ 62) (hf : W (f (.int .i64 ((minusN x y : Nat) : Int))) Q) : W ((binP Tryd.prog .andNot 3 (.int .i64 (x : Int)) (.int .i64 (y : Int))).bind f) Q := wbd (f_andNot hx hy) hf

/-! ### slices of integers -/
variable {h : PHeap} {p : PV} {xs : List Int}
/-- One element is appended. -/
theorem wap {n : Nat} (s : OwnSl n h p xs) (hn : n ≤ h.length) {x : Int} (hl : xs.length + 1 ≤ 2 ^ 36) {F : PV × PHeap → Res}
    (hf : ∀ p' h', OwnSl n h' p' (xs ++ [x]) → Keep n h h' → W (F (p', h')) Q) :
    W ((buildSliceP Tryd.prog 26 1 [(0, .int .i64 x)] h).bind fun v => (appendP Tryd.prog 26 26 p v.1 v.2).bind F) Q := by
  obtain ⟨v, p', h', e1, e2, o, k⟩ := s.append hn x hl
  exact wbd e1 (wbd e2 (hf p' h' o k))
theorem wempty {F : PV × PHeap → Res} (hf : ∀ p h', OwnSl h.length h' p [] → Keep h.length h h' → W (F (p, h')) Q) : W ((buildSliceP Tryd.prog 26 0 [] h).bind F) Q := by
  obtain ⟨p, h', e, o, k⟩ := empty_lit (h := h); exact wbd e (hf p h' o k)
end

/-! ### loops -/
theorem loopW {f : St → (PX → St → Res) → Res} {k : PX → St → Res} {Q : PV → PHeap → Prop} (I : Nat → St → Prop)
    (step : ∀ n m s, I m s → (∀ m' s', m' < m → I m' s' → W (kLoop f n k .normal s') Q) → W (f s (kLoop f n k)) Q) : ∀ (fuel m : Nat) (s : St), m < fuel → I m s → W (loopK f fuel s k) Q
  | 0, m, s, hm, _ => by omega
  | n + 1, m, s, hm, hI => by
    rw [loopK_succ]
    exact step n m s hI fun m' s' hm' hI' => by rw [kLoop_normal]; exact loopW I step n m' s' (by omega) hI'

/-- A list that whatever changes behind mark b leaves as it is. -/
def Fix (b : Nat) (h : PHeap) (p : PV) (xs : List Int) : Prop := ∀ h', Keep b h h' → IntSl .i64 h' p xs
theorem Fix.now {b : Nat} {h : PHeap} {p : PV} {xs : List Int} (s : Fix b h p xs) : IntSl .i64 h p xs := s h (Keep.refl _ _)
theorem Fix.keep {b : Nat} {h h' : PHeap} {p : PV} {xs : List Int} (s : Fix b h p xs) (k : Keep b h h') : Fix b h' p xs := fun h2 k2 => s h2 (k.trans k2)
theorem Fix.mono {b b' : Nat} {h : PHeap} {p : PV} {xs : List Int} (s : Fix b h p xs) (hb : b ≤ b') : Fix b' h p xs := fun h2 k2 => s h2 (k2.mono hb)

end Go.Proofs.YtlefknibddkjpabDoor

/- The laws of chapter 2 over what the program's functions are asked to compute: the draws, the exact laws, and promise 9. -/
set_option maxRecDepth 20000
namespace Go.Proofs.YtlefknibddkjpabDoor
open Go Go.Ip G

/-- What the program's functions may read besides: the table of steps, where there is one. -/
def triCells : List PV := [.int .i64 (-1), .int .i64 (-1), .int .i64 (-1), .int .i64 0, .int .i64 0, .int .i64 (-1), .int .i64 0, .int .i64 1, .int .i64 1, .int .i64 0, .int .i64 1, .int .i64 1]
def TabT (g : Nat → PV) (h : PHeap) : Prop := (∃ id, g 0 = .ptr id 0 ∧ h[id]? = some (.ro 1 triCells)) ∧ Tab64 g h
theorem TabT.keep {g : Nat → PV} {h h' : PHeap} (t : TabT g h) (k : Keep h.length h h') : TabT g h' := ⟨by obtain ⟨id, e, ho⟩ := t.1; exact ⟨id, e, by rw [k.2 id (List.getElem?_eq_some_iff.1 ho).1]; exact ho⟩, Tab64.keep t.2 k⟩
def TabOk (g : Nat → PV) (h : PHeap) : Prop := TabT g h
theorem TabOk.keep {g : Nat → PV} {h h' : PHeap} (t : TabOk g h) (k : Keep h.length h h') : TabOk g h' := TabT.keep t k

variable (g : Nat → PV) (lf n : Nat)

/-! ### the exact laws -/
/-! ### the draws -/
end Go.Proofs.YtlefknibddkjpabDoor

/- Promises 11, 12, 13 and 14 over what the program's functions are asked to compute. -/
set_option maxRecDepth 20000
namespace Go.Proofs.YtlefknibddkjpabDoor
open Go Go.Ip G

/-! ### more facts on positions -/
variable (g : Nat → PV) (lf n : Nat)

/-! ### promise 12 -/
end Go.Proofs.YtlefknibddkjpabDoor

/- Promises 13 and 14 over what the program's functions are asked to compute. -/
set_option maxRecDepth 20000
namespace Go.Proofs.YtlefknibddkjpabDoor
open Go Go.Ip G

/-! ### the cells that close a gap -/
variable (g : Nat → PV) (lf n : Nat)

/-! ### gaps of free boards, and mirrored -/
end Go.Proofs.YtlefknibddkjpabDoor

/- Promises 10 and 15 over what the program's functions are asked to compute. -/
set_option maxRecDepth 20000
namespace Go.Proofs.YtlefknibddkjpabDoor
open Go Go.Ip G

/-! ### lists of sets -/
theorem listFrom_mem (S : Nat) (e : Int) : ∀ (m k : Nat), e ∈ listFrom S m k ↔ ∃ j : Nat, e = (j : Int) ∧ k ≤ j ∧ j < k + m ∧ S.testBit j = true
  | 0, k => by
    rw [listFrom]
    constructor
    · intro h; simp at h
    · rintro ⟨j, _, h1, h2, _⟩; omega
  | m + 1, k => by
    have ih := listFrom_mem S e m (k + 1)
    rw [listFrom]
    by_cases hb : S >>> k % 2 = 1
    · rw [if_pos hb, List.mem_cons, ih]
      constructor
      · rintro (h | ⟨j, h1, h2, h3, h4⟩)
        · exact ⟨k, h, Nat.le_refl _, by omega, (bit_iff S k).1 hb⟩
        · exact ⟨j, h1, by omega, by omega, h4⟩
      · rintro ⟨j, h1, h2, h3, h4⟩
        by_cases e2 : j = k
        · exact .inl (by rw [h1, e2])
        · exact .inr ⟨j, h1, by omega, by omega, h4⟩
    · rw [if_neg hb, ih]
      constructor
      · rintro ⟨j, h1, h2, h3, h4⟩
        exact ⟨j, h1, by omega, by omega, h4⟩
      · rintro ⟨j, h1, h2, h3, h4⟩
        by_cases e2 : j = k
        · subst e2; exact absurd ((bit_iff S j).2 h4) hb
        · exact ⟨j, h1, by omega, by omega, h4⟩

/-! ### masks -/
/-! ### groups -/
variable (g : Nat → PV) (lf n : Nat)

theorem loadAt {xs : List Int} {p a : PV} {h : PHeap} {i : Nat} (hp : IntSl .i64 h p xs) (hi : i < xs.length) (ha : indexAddrP Tryd.prog 26 p (.int .i64 (i : Int)) = some a) : loadP Tryd.prog 3 a h = some (.int .i64 xs[i]) := by
  obtain ⟨a', ha', hla⟩ := hp.at' hi
  obtain rfl : a = a' := Option.some.inj (ha.symm.trans ha')
  exact hla

end Go.Proofs.YtlefknibddkjpabDoor

/- Promise 15 over what the program's functions are asked to compute. -/
set_option maxRecDepth 20000
namespace Go.Proofs.YtlefknibddkjpabDoor
open Go Go.Ip G

/-! ### sides -/
variable (g : Nat → PV) (lf n : Nat)

end Go.Proofs.YtlefknibddkjpabDoor

/- What chapter 3's functions tell of a position (moveL, playedL, winL, winCellsL, lineL), and what holds of them. No program text. -/
set_option maxRecDepth 20000
namespace Go.Proofs.YtlefknibddkjpabDoor
open Go Go.Ip G

/-! ### none -/
/-! ### sets -/
section
variable {R C : Nat} {xs : List Int} (hb : posB (R : Int) (C : Int) xs = true) (hS : Sides (R : Int) (C : Int) R C xs)
include hS
omit hS
include hb
include hS
end

/-! ### turned, mirrored -/
section
variable {R C : Nat} {xs : List Int} (hb : posB (R : Int) (C : Int) xs = true) (hS : Sides (R : Int) (C : Int) R C xs)
include hb hS
end

/-! ### moves -/
/-! ### winning cells -/
section
variable {R C : Nat} {xs : List Int} (hb : posB (R : Int) (C : Int) xs = true) (hS : Sides (R : Int) (C : Int) R C xs)
include hb hS
omit hb hS
include hb hS
end

/-! ### played on -/
section
variable {R C : Nat} {xs : List Int} (hb : posB (R : Int) (C : Int) xs = true) (hS : Sides (R : Int) (C : Int) R C xs)
include hb hS
end

end Go.Proofs.YtlefknibddkjpabDoor

/- The model's table of who wins: each position has a place of its own in it. No program text. -/
set_option maxRecDepth 20000
namespace Go.Proofs.YtlefknibddkjpabDoor
open Go Go.Ip G

/-- The place of a position, from its first k cells: the same number as the model reckons. -/
def keyF (a b : Nat) : Nat → Nat
  | 0 => 0
  | k + 1 => 3 * keyF a b k + (a >>> k % 2) + 2 * (b >>> k % 2)

theorem digit_le {R C a b : Nat} (h : Pos R C a b) (k : Nat) : a >>> k % 2 + 2 * (b >>> k % 2) ≤ 2 := by
  have h1 := bit_iff a k
  have h2 := bit_iff b k
  rcases Nat.mod_two_eq_zero_or_one (a >>> k) with e1 | e1 <;> rcases Nat.mod_two_eq_zero_or_one (b >>> k) with e2 | e2
  · omega
  · omega
  · omega
  · exact (h.2.2 k (h1.1 e1) (h2.1 e2)).elim
theorem key_lt {R C a b : Nat} (h : Pos R C a b) : ∀ k, keyF a b k < 3 ^ k
  | 0 => Nat.zero_lt_one
  | k + 1 => by
    have ih := key_lt h k
    have hd := digit_le h k
    rw [keyF, Nat.pow_succ]; omega
theorem key_inj {R C a b a' b' : Nat} (h : Pos R C a b) (h' : Pos R C a' b') : ∀ k, keyF a b k = keyF a' b' k → ∀ i, i < k → a.testBit i = a'.testBit i ∧ b.testBit i = b'.testBit i
  | 0, _, i, hi => by omega
  | k + 1, he, i, hi => by
    have hd := digit_le h k
    have hd' := digit_le h' k
    rw [keyF, keyF] at he
    have e1 : keyF a b k = keyF a' b' k := by omega
    have e2 : a >>> k % 2 = a' >>> k % 2 ∧ b >>> k % 2 = b' >>> k % 2 := by
      have := Nat.mod_two_eq_zero_or_one (a >>> k); have := Nat.mod_two_eq_zero_or_one (a' >>> k); omega
    by_cases hik : i = k
    · subst hik
      have t : ∀ x y : Nat, x >>> i % 2 = y >>> i % 2 → x.testBit i = y.testBit i := fun x y e => by
        rw [Bool.eq_iff_iff, ← bit_iff, ← bit_iff, e]
      exact ⟨t _ _ e2.1, t _ _ e2.2⟩
    · exact key_inj h h' k e1 i (by omega)
theorem key_pos {R C a b a' b' : Nat} (h : Pos R C a b) (h' : Pos R C a' b') (he : keyF a b (R * C) = keyF a' b' (R * C)) : a = a' ∧ b = b' := by
  have hk := key_inj h h' _ he
  have t : ∀ x y : Nat, x < 2 ^ (R * C) → y < 2 ^ (R * C) → (∀ i, i < R * C → x.testBit i = y.testBit i) → x = y := fun x y hx hy hxy => by
    apply Nat.eq_of_testBit_eq
    intro j
    by_cases hj : j < R * C
    · exact hxy j hj
    · have e1 : x.testBit j = false := Nat.testBit_lt_two_pow (Nat.lt_of_lt_of_le hx (Nat.pow_le_pow_right (by decide) (by omega)))
      have e2 : y.testBit j = false := Nat.testBit_lt_two_pow (Nat.lt_of_lt_of_le hy (Nat.pow_le_pow_right (by decide) (by omega)))
      rw [e1, e2]
  exact ⟨t _ _ h.1 h'.1 fun i hi => (hk i hi).1, t _ _ h.2.1 h'.2.1 fun i hi => (hk i hi).2⟩

def keyN (R C a b t : Nat) : Nat := 2 * keyF a b (R * C) + (t - 1)
/-- What the table holds: nothing, or who wins. -/
def Inv (R C : Nat) (T : List Int) : Prop := T.length = 2 * 3 ^ (R * C) ∧ ∀ a b t, Pos R C a b → (t = 1 ∨ t = 2) → T[keyN R C a b t]? = some 0 ∨ T[keyN R C a b t]? = some ((winN R C a b t : Nat) : Int)

theorem keyN_lt {R C a b t : Nat} (h : Pos R C a b) (ht : t = 1 ∨ t = 2) : keyN R C a b t < 2 * 3 ^ (R * C) := by
  have := key_lt h (R * C); unfold keyN; omega
theorem Inv.new (R C : Nat) : Inv R C (List.replicate (2 * 3 ^ (R * C)) 0) := by
  refine ⟨List.length_replicate, fun a b t h ht => .inl ?_⟩
  rw [List.getElem?_replicate, if_pos (keyN_lt h ht)]
theorem Inv.put {R C a b t : Nat} {T : List Int} (hi : Inv R C T) (h : Pos R C a b) (ht : t = 1 ∨ t = 2) : Inv R C (T.set (keyN R C a b t) ((winN R C a b t : Nat) : Int)) := by
  refine ⟨by rw [List.length_set]; exact hi.1, fun a' b' t' h' ht' => ?_⟩
  rw [List.getElem?_set]
  by_cases e : keyN R C a b t = keyN R C a' b' t'
  · right
    rw [if_pos e, if_pos (by rw [hi.1]; exact keyN_lt h ht)]
    unfold keyN at e
    have e1 : keyF a b (R * C) = keyF a' b' (R * C) := by omega
    have e2 : t = t' := by omega
    obtain ⟨rfl, rfl⟩ := key_pos h h' e1
    rw [e2]
  · rw [if_neg e]; exact hi.2 a' b' t' h' ht'
theorem Inv.get {R C a b t : Nat} {T : List Int} (hi : Inv R C T) (h : Pos R C a b) (ht : t = 1 ∨ t = 2) : ∃ hl : keyN R C a b t < T.length, T[keyN R C a b t] = 0 ∨ T[keyN R C a b t] = ((winN R C a b t : Nat) : Int) := by
  have hl : keyN R C a b t < T.length := by rw [hi.1]; exact keyN_lt h ht
  refine ⟨hl, ?_⟩
  have := hi.2 a b t h ht
  rw [List.getElem?_eq_getElem hl] at this
  exact this.imp Option.some.inj Option.some.inj

end Go.Proofs.YtlefknibddkjpabDoor

/- The model's chapter 3: what MoveOk, Played, WinnerOf, WinningCells and LinePlayed of it compute. -/
set_option maxRecDepth 20000
namespace Go.Proofs.YtlefknibddkjpabDoor
open Go Go.Ip G

variable (g : Nat → PV) (lf n : Nat)

/-! ### the solver -/
end Go.Proofs.YtlefknibddkjpabDoor

/- The model's chapter 3, on: the winning cells and the moves played on. -/
set_option maxRecDepth 20000
namespace Go.Proofs.YtlefknibddkjpabDoor
open Go Go.Ip G

/-! ### two lists at once: one between two marks, that is written to, and one apart from it, that grows -/
def Apart (b0 b1 b2 : Nat) (h : PHeap) (q : PV) (ys : List Int) : Prop := ∃ n m, OwnB n m h q ys ∧ b0 ≤ n ∧ (m ≤ b1 ∨ b2 ≤ n) ∧ m ≤ h.length
theorem Apart.keep {b0 b1 b2 : Nat} {h h' : PHeap} {q : PV} {ys : List Int} (s : Apart b0 b1 b2 h q ys) (k : Keep h.length h h') : Apart b0 b1 b2 h' q ys := by
  obtain ⟨n, m, o, h1, h2, h3⟩ := s
  exact ⟨n, m, o.keep (k.mono h3), h1, h2, Nat.le_trans h3 k.1⟩
theorem Apart.only {b0 b1 b2 : Nat} {h h' : PHeap} {q : PV} {ys : List Int} (s : Apart b0 b1 b2 h q ys) (k : Only b1 b2 h h') : Apart b0 b1 b2 h' q ys := by
  obtain ⟨n, m, o, h1, h2, h3⟩ := s
  exact ⟨n, m, o.only k (h2.imp id id), h1, h2, by rw [k.1]; exact h3⟩
theorem Apart.sl {b0 b1 b2 : Nat} {h : PHeap} {q : PV} {ys : List Int} (s : Apart b0 b1 b2 h q ys) : OwnSl b0 h q ys := by
  obtain ⟨n, m, o, h1, h2, h3⟩ := s
  exact o.sl.mono h1

theorem OwnB.append {n m : Nat} {h : PHeap} {p : PV} {xs : List Int} (s : OwnB n m h p xs) (hn : n ≤ h.length) (x : Int) (hl : xs.length + 1 ≤ 2 ^ 36) :
    ∃ v p' h', buildSliceP Tryd.prog 26 1 [(0, .int .i64 x)] h = some v ∧ appendP Tryd.prog 26 26 p v.1 v.2 = some (p', h') ∧ OwnSl h.length h' p' (xs ++ [x]) ∧ Keep n h h' ∧
      ∀ a b r zs, OwnB a b h r zs → (b ≤ n ∨ m ≤ a) → OwnB a b h' r zs := by
  have hb : buildSliceP Tryd.prog 26 1 [(0, .int .i64 x)] h = some (.sl h.length 0 1, h ++ [.own 1 [.int .i64 x]]) := by
    simp [buildSliceP, tyElem, tySize, tyZero, repeatCells, fillP, PV.cells, setCells]
  have hsrc : srcP (h ++ [.own 1 [.int .i64 x]]) 1 (.sl h.length 0 1) = some (1, [.int .i64 x]) := by
    simp [srcP, cellsAt, PObj.get]
  rcases s with ⟨rfl, rfl⟩ | ⟨id, h1, h2, rfl, h3⟩
  · refine ⟨_, .sl (h.length + 1) 0 1, h ++ [.own 1 [.int .i64 x]] ++ [.own 1 [.int .i64 x]], hb, ?_, .inr ⟨h.length + 1, by omega, rfl, ?_⟩, ?_, ?_⟩
    · simp [appendP, tyElem, tySize, tySmall, hsrc]
    · rw [List.getElem?_append_right (by simp)]; simp
    · rw [List.append_assoc]; exact Keep.append _ _ _ hn
    · rintro a b r zs (⟨rfl, rfl⟩ | ⟨i, i1, i2, rfl, i3⟩) _
      · exact .inl ⟨rfl, rfl⟩
      · refine .inr ⟨i, i1, i2, rfl, ?_⟩
        have hi : i < h.length := (List.getElem?_eq_some_iff.1 i3).1
        rw [List.append_assoc, List.getElem?_append_left hi]; exact i3
  · have hid : id < h.length := (List.getElem?_eq_some_iff.1 h3).1
    have h3' : (h ++ [PObj.own 1 [.int .i64 x]])[id]? = some (.own 1 (xs.map (.int .i64))) := by rw [List.getElem?_append_left hid]; exact h3
    refine ⟨_, .sl (h.length + 1) 0 (xs.length + 1), ((h ++ [PObj.own 1 [.int .i64 x]]).set id .dead ++ [PObj.own 1 (xs.map (.int .i64) ++ [.int .i64 x])]), hb, ?_, .inr ⟨h.length + 1, by omega, by simp, ?_⟩, ?_, ?_⟩
    · simp [appendP, tyElem, tySize, tySmall, hsrc, h3', hl]
    · rw [List.getElem?_append_right (by simp)]; simp
    · exact ((Keep.append n h _ hn).trans (Keep.set n _ id .dead h1)).trans (Keep.append _ _ _ (by simp; omega))
    · rintro a b r zs (⟨rfl, rfl⟩ | ⟨i, i1, i2, rfl, i3⟩) hd
      · exact .inl ⟨rfl, rfl⟩
      · refine .inr ⟨i, i1, i2, rfl, ?_⟩
        have hi : i < h.length := (List.getElem?_eq_some_iff.1 i3).1
        rw [List.getElem?_append_left (by simp; omega), List.getElem?_set_ne (by omega), List.getElem?_append_left hi]; exact i3

section
variable {Q : PV → PHeap → Prop} {h : PHeap} {p r : PV} {xs zs : List Int} {b0 b1 b2 : Nat}
end

/-! ### winning cells -/
variable (g : Nat → PV) (lf n : Nat)

/-! ### played on -/
end Go.Proofs.YtlefknibddkjpabDoor

/- Chapter 3's laws over what the program's functions are asked to compute: the draws, and the exact laws. -/
set_option maxRecDepth 20000
namespace Go.Proofs.YtlefknibddkjpabDoor
open Go Go.Ip G

theorem W.yes {x : Res} (hx : W x fun v _ => v = .bool true) : ∃ h', x = some (.bool true, h') := by
  obtain ⟨_, h', e, rfl⟩ := hx; exact ⟨h', e⟩
section
variable {Q : PV → PHeap → Prop} {b : Bool} {f : PV → Res}
end
theorem Fix.re {m : Nat} {h h' : PHeap} {p : PV} {xs : List Int} (s : Fix m h p xs) (k : Keep m h h') (hm : m ≤ h.length) : Fix h'.length h' p xs := fun h2 k2 => s h2 (k.trans (k2.mono (Nat.le_trans hm k.1)))
variable (g : Nat → PV) (lf n : Nat)

/-! ### the draws -/
end Go.Proofs.YtlefknibddkjpabDoor

/- The laws of chapter 3 over what the program's functions are asked to compute: promises 16, 17, 18 and 21. -/
set_option maxRecDepth 20000
namespace Go.Proofs.YtlefknibddkjpabDoor
open Go Go.Ip G

variable (g : Nat → PV) (lf n : Nat)

end Go.Proofs.YtlefknibddkjpabDoor

/- The laws of chapter 3 over what the program's functions are asked to compute: promises 18, 19, 20 and 22. -/
set_option maxRecDepth 20000
namespace Go.Proofs.YtlefknibddkjpabDoor
open Go Go.Ip G

theorem Fix.get {b : Nat} {h h' : PHeap} {p : PV} {xs : List Int} (s : Fix b h p xs) (k : Keep b h h') : IntSl .i64 h' p xs := s h' k
variable (g : Nat → PV) (lf n : Nat)

end Go.Proofs.YtlefknibddkjpabDoor

/- The boards that the model draws for chapters 4 and 5, and the draws. -/
set_option maxRecDepth 20000
namespace Go.Proofs.YtlefknibddkjpabDoor
open Go Go.Ip Go.RowKit G

variable (g : Nat → PV) (lf n : Nat)

end Go.Proofs.YtlefknibddkjpabDoor

/- Stolen plans and pairs that answer: what chapter 4's functions tell, and what holds of it. No program text. -/
set_option maxRecDepth 20000
namespace Go.Proofs.YtlefknibddkjpabDoor
open Go Go.Ip G

/-! ### pairs -/
/-! ### pairs that are shared -/
/-! ### openings -/
end Go.Proofs.YtlefknibddkjpabDoor

/- Fillings: how many of them a player wins, which cells matter, and that stones on cells that do not matter change nothing. No program text. -/
set_option maxRecDepth 20000
namespace Go.Proofs.YtlefknibddkjpabDoor
open Go Go.Ip G

/-! ### counting over all fillings of some cells -/
/-! ### what a stone more is worth -/
/-! ### each filling is won by one -/
/-- A position whose free cells are those of a list. -/
structure Cover (R C a b : Nat) (l : List Nat) : Prop where
  pos : Pos R C a b
  nodup : l.Nodup
  free : ∀ j, j ∈ l ↔ j < R * C ∧ (a ||| b).testBit j = false
theorem Cover.put {R C a b c : Nat} {l : List Nat} (h : Cover R C a b (c :: l)) (t : Nat) : Cover R C (putA t c a) (putB t c b) l := by
  have hc := (h.free c).1 (List.mem_cons_self ..)
  have hnd := List.nodup_cons.1 h.nodup
  refine ⟨h.pos.put hc.1 hc.2, hnd.2, fun j => ?_⟩
  rw [put_bit, Bool.or_eq_false_iff, decide_eq_false_iff_not]
  constructor
  · intro hj
    have := (h.free j).1 (List.mem_cons_of_mem _ hj)
    exact ⟨this.1, this.2, fun e => hnd.1 (e ▸ hj)⟩
  · rintro ⟨h1, h2, h3⟩
    exact (List.mem_cons.1 ((h.free j).2 ⟨h1, h2⟩)).resolve_left h3
/-! ### the free cells of a set, as a list -/
/-! ### played to the last cell -/
end Go.Proofs.YtlefknibddkjpabDoor

/- What chapter 5's functions tell of a position (countL, pivotL, mattersL, deadL), and what holds of them. No program text. -/
set_option maxRecDepth 20000
namespace Go.Proofs.YtlefknibddkjpabDoor
open Go Go.Ip G

section
variable {R C : Nat} {xs : List Int} (hb : posB (R : Int) (C : Int) xs = true) (hS : Sides (R : Int) (C : Int) R C xs)
include hS
omit hS
include hb
include hS
/-! ### turned and mirrored -/
/-! ### dead cells -/
end

end Go.Proofs.YtlefknibddkjpabDoor

/- Carriers and threats: what holds of positions whose free cells outside a set are given to the other player. No program text. -/
set_option maxRecDepth 20000
namespace Go.Proofs.YtlefknibddkjpabDoor
open Go Go.Ip G

section
variable {R C : Nat} {xs ys : List Int} (hb : posB (R : Int) (C : Int) xs = true) (hb' : posB (R : Int) (C : Int) ys = true)
include hb
include hb'
end

section
variable {xs : List Int} {P : Nat} (hP : P = 1 ∨ P = 2)
include hP
end
section
variable {R C P : Nat} {xs : List Int} (hb : posB (R : Int) (C : Int) xs = true) (hP : P = 1 ∨ P = 2)
include hb hP
end

end Go.Proofs.YtlefknibddkjpabDoor

/- The program's sets of cells: the cells with a stone, the sides, growing and gaps, walked through with the rules of XW. -/
set_option maxRecDepth 20000
namespace Go.Proofs.YtlefknibddkjpabDoor
open Go Go.Ip G

/-! ### sets, without program text -/
variable (g : Nat → PV) (lf n : Nat)

/-! ### the program -/
end Go.Proofs.YtlefknibddkjpabDoor

/- The model's chapters 4 and 5: what Openings, PairCell, PairFilled, MattersAt, DeadCells, FillCount and PivotCount of it compute. -/
set_option maxRecDepth 20000
namespace Go.Proofs.YtlefknibddkjpabDoor
open Go Go.Ip G

section
variable {Q : PV → PHeap → Prop} {x y : Nat} {f : PV → Res}
theorem wquo2 (h2 : x < 9223372036854775808) (hf : W (f (.int .i64 ((x / 2 : Nat) : Int))) Q) : W ((binP Tryd.prog .quo 3 (.int .i64 (x : Int)) (.int .i64 2)).bind f) Q :=
  wbd (by
    rw [bin_quo (by decide)]
    have : (x : Int).tdiv 2 = ((x / 2 : Nat) : Int) := rfl
    rw [this]
    have : IntKind.i64.wrap ((x / 2 : Nat) : Int) = ((x / 2 : Nat) : Int) := wr (by omega)
    rw [this]) hf
end

variable (g : Nat → PV) (lf n : Nat)

/-! ### pairs -/
/-! ### fillings -/
/-! ### what one cell decides -/
end Go.Proofs.YtlefknibddkjpabDoor

/- The laws of chapter 4 over what the program's functions are asked to compute. -/
set_option maxRecDepth 20000
namespace Go.Proofs.YtlefknibddkjpabDoor
open Go Go.Ip G

variable (g : Nat → PV) (lf n : Nat)

/-! ### the exact laws -/
end Go.Proofs.YtlefknibddkjpabDoor

/- The laws of chapter 5 over what the program's functions are asked to compute. -/
set_option maxRecDepth 20000
namespace Go.Proofs.YtlefknibddkjpabDoor
open Go Go.Ip G

section
variable {R C : Nat} {xs : List Int} (hb : posB (R : Int) (C : Int) xs = true)
include hb
end

variable (g : Nat → PV) (lf n : Nat)

/-! ### the exact laws -/
end Go.Proofs.YtlefknibddkjpabDoor

/- The draws of chapter 6. -/
set_option maxRecDepth 20000
namespace Go.Proofs.YtlefknibddkjpabDoor
open Go Go.Ip G

section
variable {Q : PV → PHeap → Prop} {x : Nat} {f : PV → Res}
end

variable (g : Nat → PV) (lf n : Nat)

end Go.Proofs.YtlefknibddkjpabDoor

/- Least sets of cells, cells that must be taken, and bridges. No program text. -/
set_option maxRecDepth 20000
namespace Go.Proofs.YtlefknibddkjpabDoor
open Go Go.Ip G

/-! ### every set of free cells is told by a number -/
/-! ### the least one -/
section
variable {R C P : Nat} {xs : List Int} (hb : posB (R : Int) (C : Int) xs = true) (hP : P = 1 ∨ P = 2)
include hb
include hP
end

/-! ### cells that must be taken -/
end Go.Proofs.YtlefknibddkjpabDoor

/- Bridges. No program text. -/
set_option maxRecDepth 20000
namespace Go.Proofs.YtlefknibddkjpabDoor
open Go Go.Ip G

/-! ### the count that the law makes -/
/-! ### the list that grows -/
end Go.Proofs.YtlefknibddkjpabDoor

/- The model's chapter 6: what CarrierOk, ThreatOk, LeastCarrier, LeastThreat, BridgesOf and MustCells of it compute. -/
set_option maxRecDepth 20000
namespace Go.Proofs.YtlefknibddkjpabDoor
open Go Go.Ip G

/-! ### lists, while they are written -/
variable (g : Nat → PV) (lf n : Nat)

/-! ### what is left to a player -/
/-! ### sets that may carry -/
/-! ### least sets -/
/-! ### bridges -/
/-! ### cells that must be taken -/
end Go.Proofs.YtlefknibddkjpabDoor

/- The laws of chapter 6 over what the program's functions are asked to compute. -/
set_option maxRecDepth 20000
namespace Go.Proofs.YtlefknibddkjpabDoor
open Go Go.Ip G

variable (g : Nat → PV) (lf n : Nat)

/-! ### the exact laws -/
end Go.Proofs.YtlefknibddkjpabDoor

/- The laws of chapter 6 over what the program's functions are asked to compute, continued. -/
set_option maxRecDepth 20000
namespace Go.Proofs.YtlefknibddkjpabDoor
open Go Go.Ip G

variable (g : Nat → PV) (lf n : Nat)

end Go.Proofs.YtlefknibddkjpabDoor

/- The laws of chapter 6 over what the program's functions are asked to compute, continued. -/
set_option maxRecDepth 20000
namespace Go.Proofs.YtlefknibddkjpabDoor
open Go Go.Ip G

variable (g : Nat → PV) (lf n : Nat)

end Go.Proofs.YtlefknibddkjpabDoor

/- Triangles: cells, neighbours, shrinking, turning; what holds of all fillings of at most four rows, told by the kernel. -/
set_option maxRecDepth 20000
namespace Go.Proofs.YtlefknibddkjpabDoor
open Go Go.Ip

def cellsT (s : Nat) : Nat := s * (s + 1) / 2
def placeF : Nat → Nat → Nat → Nat × Nat
  | 0, r, c => (r, c)
  | f + 1, r, c => if r < c then placeF f (r + 1) (c - r - 1) else (r, c)
def rowT (k : Nat) : Nat := (placeF 10 0 k).1
def plT (k : Nat) : Nat := (placeF 10 0 k).2
def adjT (a b : Nat) : Bool :=
  (rowT b == rowT a && (plT b + 1 == plT a || plT b == plT a + 1)) || (rowT b + 1 == rowT a && (plT b + 1 == plT a || plT b == plT a)) || (rowT b == rowT a + 1 && (plT b == plT a || plT b == plT a + 1))
def maskF (a : Nat) : Nat → Nat → Nat → Nat
  | 0, _, w => w
  | m + 1, b, w => maskF a m (b + 1) (if adjT a b = true then w ||| (1 <<< b) else w)
def maskT (s a : Nat) : Nat := maskF a (cellsT s) 0 0
/-- A set, bit by bit. -/
def bitsF (f : Nat → Bool) : Nat → Nat
  | 0 => 0
  | m + 1 => bif f m then bitsF f m ||| (1 <<< m) else bitsF f m
def twoOf (a b c : Bool) : Bool := (a && b) || (a && c) || (b && c)
def belowT (k : Nat) : Nat := cellsT (rowT k + 1) + plT k
def shrT (s A : Nat) : Nat := bitsF (fun k => twoOf (A.testBit k) (A.testBit (belowT k)) (A.testBit (belowT k + 1))) (cellsT (s - 1))
def lastT : Nat → Nat → Bool
  | 0, _ => false
  | 1, A => A.testBit 0
  | s + 2, A => lastT (s + 1) (shrT (s + 2) A)
def otherT (s A : Nat) : Nat := 2 ^ cellsT s - 1 - A

def allTri (P : Nat → Nat → Bool) : Bool := (List.range 5).all fun s => (List.range (2 ^ cellsT s)).all fun A => s == 0 || P s A
theorem allTri_at {P : Nat → Nat → Bool} (h : allTri P = true) {s A : Nat} (h1 : 1 ≤ s) (h2 : s ≤ 4) (hA : A < 2 ^ cellsT s) : P s A = true := by
  have h3 := List.all_eq_true.1 (List.all_eq_true.1 h s (List.mem_range.2 (by omega))) A (List.mem_range.2 hA)
  rcases Bool.or_eq_true_iff.1 h3 with e | e
  · have := beq_iff_eq.1 e; omega
  · exact e

theorem shr_all : allTri (fun s A => s == 1 || (shrT s (otherT s A) == otherT (s - 1) (shrT s A) && decide (shrT s A < 2 ^ cellsT (s - 1)))) = true := by kernel_rfl
def popT (x : Nat) : Nat := (List.range 10).countP fun j => x.testBit j
def winsT (s f : Nat) : Nat := (List.range (2 ^ cellsT s)).countP fun A => popT A == f && lastT s A
end Go.Proofs.YtlefknibddkjpabDoor

/- Triangles as lists: fillings and their sets; what the functions of chapter 7 are, and what holds of them. -/
set_option maxRecDepth 20000
namespace Go.Proofs.YtlefknibddkjpabDoor
open Go Go.Ip

def fillT (n A : Nat) : List Int := (List.range n).map fun k => if A.testBit k = true then 1 else 2
def triB (side : Int) (xs : List Int) : Bool := (xs.all fun x => decide (1 ≤ x ∧ x ≤ 2)) && (decide (1 ≤ side ∧ side ≤ 4) && decide (xs.length = cellsT side.toNat))
def shrunkL (side : Int) (xs : List Int) : List Int := if (triB side xs && decide (2 ≤ side)) = true then fillT (cellsT (side.toNat - 1)) (shrT side.toNat (setL xs 1)) else []
def lastL (side : Int) (xs : List Int) : Int := if triB side xs = true then (if lastT side.toNat (setL xs 1) = true then 1 else 2) else 0
def winsL (side f : Int) : Int := if (decide (1 ≤ side ∧ side ≤ 4) && decide (0 ≤ f ∧ f ≤ (cellsT side.toNat : Int))) = true then (winsT side.toNat f.toNat : Int) else -1

theorem fillT_length (n A : Nat) : (fillT n A).length = n := by simp [fillT]
theorem fillT_get {n A k : Nat} (hk : k < n) : (fillT n A)[k]? = some (if A.testBit k = true then 1 else 2) := by
  unfold fillT; rw [List.getElem?_map, List.getElem?_range hk]; rfl
theorem fillT_all (n A : Nat) : ((fillT n A).all fun x => decide (1 ≤ x ∧ x ≤ 2)) = true := by
  rw [List.all_eq_true]
  intro x hx
  unfold fillT at hx
  rw [List.mem_map] at hx
  obtain ⟨k, _, rfl⟩ := hx
  split <;> decide
theorem set_fill1 {n A : Nat} (hA : A < 2 ^ n) : setL (fillT n A) 1 = A := by
  apply Nat.eq_of_testBit_eq
  intro j
  rw [Bool.eq_iff_iff, setL_bit]
  by_cases hj : j < n
  · rw [fillT_get hj]
    cases A.testBit j <;> simp
  · rw [List.getElem?_eq_none (by rw [fillT_length]; omega), Nat.testBit_lt_two_pow (Nat.lt_of_lt_of_le hA (Nat.pow_le_pow_right (by decide) (by omega)))]
    simp
theorem not_bit {n A j : Nat} (hA : A < 2 ^ n) : (2 ^ n - 1 - A).testBit j = (decide (j < n) && !A.testBit j) := by
  rw [show 2 ^ n - 1 - A = 2 ^ n - (A + 1) by omega, Nat.testBit_two_pow_sub_succ hA]
theorem set_fill2 {n A : Nat} (hA : A < 2 ^ n) : setL (fillT n A) 2 = 2 ^ n - 1 - A := by
  apply Nat.eq_of_testBit_eq
  intro j
  rw [Bool.eq_iff_iff, setL_bit, not_bit hA]
  by_cases hj : j < n
  · rw [fillT_get hj]
    cases A.testBit j <;> simp [hj]
  · rw [List.getElem?_eq_none (by rw [fillT_length]; omega)]
    simp [hj]
/-- A full triangle is one of the fillings. -/
theorem fill_of {xs : List Int} (h : (xs.all fun x => decide (1 ≤ x ∧ x ≤ 2)) = true) : xs = fillT xs.length (setL xs 1) := by
  apply List.ext_getElem?
  intro j
  by_cases hj : j < xs.length
  · rw [fillT_get hj, List.getElem?_eq_getElem hj]
    have h1 := of_decide_eq_true (List.all_eq_true.1 h _ (List.getElem_mem hj))
    by_cases e : xs[j] = 1
    · rw [setL_bit.2 (by rw [List.getElem?_eq_getElem hj, e]), if_pos rfl, e]
    · have : (setL xs 1).testBit j = false := by
        cases hb : (setL xs 1).testBit j with
        | false => rfl
        | true => rw [setL_bit, List.getElem?_eq_getElem hj] at hb; exact absurd (Option.some.inj hb) e
      rw [this, if_neg (by decide)]
      congr 1; omega
  · rw [List.getElem?_eq_none (by omega), List.getElem?_eq_none (by rw [fillT_length]; omega)]
/-- What is known of a full triangle. -/
def Tri (side : Int) (xs : List Int) (s A : Nat) : Prop := side = (s : Int) ∧ 1 ≤ s ∧ s ≤ 4 ∧ A < 2 ^ cellsT s ∧ xs = fillT (cellsT s) A ∧ xs.length = cellsT s ∧ setL xs 1 = A ∧ setL xs 2 = otherT s A
theorem tri_of {side : Int} {xs : List Int} (h : triB side xs = true) : ∃ s A, Tri side xs s A := by
  unfold triB at h
  simp only [Bool.and_eq_true, decide_eq_true_eq] at h
  obtain ⟨h1, h2, h3⟩ := h
  obtain ⟨s, rfl⟩ := Int.eq_ofNat_of_zero_le (show 0 ≤ side by omega)
  have h3 : xs.length = cellsT s := h3
  have hx := fill_of h1
  have hlt : setL xs 1 < 2 ^ cellsT s := setL_lt 1 (by omega)
  rw [h3] at hx
  refine ⟨s, setL xs 1, rfl, by omega, by omega, hlt, hx, h3, rfl, ?_⟩
  have := set_fill2 hlt
  rw [← hx] at this
  exact this
theorem tri_fill {s A : Nat} (h1 : 1 ≤ s) (h2 : s ≤ 4) (hA : A < 2 ^ cellsT s) : triB (s : Int) (fillT (cellsT s) A) = true := by
  unfold triB
  rw [fillT_all, decide_eq_true (by omega), fillT_length]
  simp
theorem Tri.ok {side : Int} {xs : List Int} {s A : Nat} (h : Tri side xs s A) : triB side xs = true := by
  obtain ⟨rfl, h1, h2, h3, rfl, _⟩ := h; exact tri_fill h1 h2 h3
theorem Tri.fill {s A : Nat} (h1 : 1 ≤ s) (h2 : s ≤ 4) (hA : A < 2 ^ cellsT s) : Tri (s : Int) (fillT (cellsT s) A) s A :=
  ⟨rfl, h1, h2, hA, rfl, fillT_length _ _, set_fill1 hA, set_fill2 hA⟩
section
variable {side : Int} {xs : List Int} {s A : Nat} (h : Tri side xs s A)
include h
theorem tri_last : lastL side xs = if lastT s A = true then 1 else 2 := by
  have ok := h.ok
  obtain ⟨rfl, h1, h2, h3, rfl, _, h5, h6⟩ := h
  unfold lastL; rw [ok, if_pos rfl, h5]; rfl
theorem tri_shrunk (h2' : 2 ≤ s) : shrunkL side xs = fillT (cellsT (s - 1)) (shrT s A) := by
  have ok := h.ok
  obtain ⟨rfl, h1, h2, h3, rfl, _, h5, h6⟩ := h
  unfold shrunkL; rw [ok, decide_eq_true (by omega), h5]; rfl
theorem shr_lt (h2' : 2 ≤ s) : shrT s A < 2 ^ cellsT (s - 1) ∧ shrT s (otherT s A) = otherT (s - 1) (shrT s A) := by
  obtain ⟨rfl, h1, h2, h3, rfl, _⟩ := h
  have := allTri_at shr_all h1 h2 h3
  simp only [Bool.or_eq_true, Bool.and_eq_true, beq_iff_eq, decide_eq_true_eq] at this
  rcases this with e | ⟨e1, e2⟩
  · omega
  · exact ⟨e2, e1⟩
end
theorem last_shr {s A : Nat} (h : 2 ≤ s) : lastT s A = lastT (s - 1) (shrT s A) := by
  match s, h with
  | s + 2, _ => rfl

end Go.Proofs.YtlefknibddkjpabDoor

/- The model's chapter 7: triangles; growing and listing sets of ten cells. -/
set_option maxRecDepth 20000
namespace Go.Proofs.YtlefknibddkjpabDoor
open Go Go.Ip G

def listT (set : Nat) : List Int := listFrom set 10 0

variable (g : Nat → PV) (lf n : Nat)

theorem listT_loop {set : Nat} (hs : set < 2 ^ 10) : ∀ (m k fuel : Nat) (q : PV) (ys : List Int) (h : PHeap) (b : Nat), k + m = 10 → m < fuel → ys.length ≤ k → OwnSl b h q ys → b ≤ h.length →
    ∃ q' h', loopK (ev ((env g lf n).cx Tryd.prog spec_l2List.kl) spec_l2List.lp0) fuel (spec_l2List.st0 (.int .i64 (set : Int)) q (.int .i64 (k : Int)) h) (spec_l2List.K0 (env g lf n) (kTop Tryd.prog Tryd.f14)) = some (q', h') ∧
      OwnSl b h' q' (ys ++ listFrom set m k) ∧ Keep b h h'
  | m, k, fuel, q, ys, h, b, hkm, hf, hy, ho, hb => by
    obtain ⟨f, rfl⟩ : ∃ f, fuel = f + 1 := ⟨fuel - 1, by omega⟩
    obtain ⟨b1, b2, b3⟩ := bitq set k (by omega)
    have g1 : binP Tryd.prog .gtr 3 (.int .i64 ((set >>> k : Nat) : Int)) (.int .i64 0) = some (.bool (decide (0 < set >>> k))) := by
      rw [bin_gtr]
      congr 2
      apply decide_eq_decide.2
      omega
    by_cases hz : set >>> k = 0
    · refine ⟨q, h, ?_, by rw [listFrom_nil m k hz, List.append_nil]; exact ho, Keep.refl _ _⟩
      rw [loopK_succ, spec_l2List.body0_eq]
      rw [decide_eq_false (by omega)] at g1
      unfold spec_l2List.body0
      refine bd b1 (bd g1 (cdF ?_))
      rw [kLoop_exit, spec_l2List.after0_se0_0_3_4_9]
      exact bd ho.res rfl
    · match m with
      | 0 =>
        obtain rfl : k = 10 := by omega
        exact absurd (by rw [Nat.shiftRight_eq_div_pow]; exact Nat.div_eq_of_lt hs) hz
      | m + 1 =>
        have f4 : binP Tryd.prog .add 3 (.int .i64 (k : Int)) (.int .i64 1) = some (.int .i64 ((k + 1 : Nat) : Int)) := by rw [bin_add, nx (by omega)]
        rw [decide_eq_true (Nat.pos_of_ne_zero hz)] at g1
        rw [listFrom]
        by_cases e : set >>> k % 2 = 1
        · rw [if_pos e]
          rw [decide_eq_true e] at b3
          obtain ⟨v, q2, h2', hb2, ha2, ho2, hk2⟩ := ho.append hb (k : Int) (by omega)
          obtain ⟨q', h', ih, o', k'⟩ := listT_loop hs m (k + 1) f q2 (ys ++ [(k : Int)]) h2' b (by omega) (by omega) (by simp; omega) ho2 (by have := hk2.1; omega)
          refine ⟨q', h', ?_, by simpa using o', hk2.trans k'⟩
          rw [loopK_succ, spec_l2List.body0_eq]
          unfold spec_l2List.body0
          exact bd b1 (bd g1 (cdT (bd b1 (bd b2 (bd b3 (cdT (bd hb2 (bd ha2 (bd f4 ih)))))))))
        · rw [if_neg e]
          rw [decide_eq_false e] at b3
          obtain ⟨q', h', ih, o', k'⟩ := listT_loop hs m (k + 1) f q ys h b (by omega) (by omega) (by omega) ho hb
          refine ⟨q', h', ?_, o', k'⟩
          rw [loopK_succ, spec_l2List.body0_eq]
          unfold spec_l2List.body0
          exact bd b1 (bd g1 (cdT (bd b1 (bd b2 (bd b3 (cdF (bd f4 ih)))))))
termination_by m => m

theorem l2ListT_calls {set : Nat} (hs : set < 2 ^ 10) (N : Nat) (hN : 1 ≤ N) (hlf : 20 < lf) {h : PHeap} :
    ∃ q h', CL g lf N fn_spec_l2List [.int .i64 (set : Int)] h = some (q, h') ∧ OwnSl h.length h' q (listT set) ∧ Keep h.length h h' := by
  obtain ⟨n, rfl⟩ : ∃ n, N = n + 1 := ⟨N - 1, by omega⟩
  rw [spec_l2List.call_eq]
  obtain ⟨q0, h0, e0, o0, k0⟩ := empty_lit (h := h)
  obtain ⟨q', h', e, o, k⟩ := listT_loop g lf n hs 10 0 lf q0 [] h0 h.length (by omega) (by omega) (by simp) o0 k0.1
  refine ⟨q', h', ?_, by simpa [listT] using o, k0.trans k⟩
  unfold spec_l2List.main
  exact bd e0 e


end Go.Proofs.YtlefknibddkjpabDoor

/- The model's chapter 7: cells, places and neighbours in triangles; which fillings are full. -/
set_option maxRecDepth 20000
namespace Go.Proofs.YtlefknibddkjpabDoor
open Go Go.Ip G

theorem cellsT_le {s : Nat} (h : s ≤ 4) : cellsT s ≤ 10 := by
  have : s = 0 ∨ s = 1 ∨ s = 2 ∨ s = 3 ∨ s = 4 := by omega
  rcases this with rfl | rfl | rfl | rfl | rfl <;> decide
theorem place_ok : ((List.range 10).all fun k => decide (rowT k ≤ 3) && decide (plT k ≤ rowT k)) = true := by kernel_rfl
theorem place_le {k : Nat} (h : k < 10) : rowT k ≤ 3 ∧ plT k ≤ rowT k := by
  have := List.all_eq_true.1 place_ok k (List.mem_range.2 h)
  simpa using this
variable (g : Nat → PV) (lf n : Nat)

theorem l7Cells_N {s : Nat} (hs : s ≤ 100) (N : Nat) (hN : 1 ≤ N) (h : PHeap) : CL g lf N fn_spec_l7Cells [.int .i64 (s : Int)] h = some (.int .i64 (cellsT s : Int), h) := by
  obtain ⟨n, rfl⟩ : ∃ n, N = n + 1 := ⟨N - 1, by omega⟩
  have hm : s * (s + 1) < 4611686018427387904 := Nat.lt_of_le_of_lt (Nat.mul_le_mul hs (by omega : s + 1 ≤ 101)) (by decide)
  have : W (CL g lf (n + 1) fn_spec_l7Cells [.int .i64 (s : Int)] h) fun v h' => v = .int .i64 (cellsT s : Int) ∧ h' = h := by
    rw [spec_l7Cells.call_eq]
    unfold spec_l7Cells.main
    simp only [env_bin]
    repeat (first | with_reducible refine wrI ?_ | (with_reducible refine wmulN hm ?_) | (with_reducible refine wquo2 (by omega) ?_) | with_reducible refine wadd1 (by omega) ?_)
    exact W.ret ⟨rfl, rfl⟩
  obtain ⟨_, h', e, rfl, rfl⟩ := this
  exact e

theorem specTriangleOk_N {xs : List Int} {p : PV} {h : PHeap} (N : Nat) (hN : 2 ≤ N) (side : Int) (hp : IntSl .i64 h p xs) (hl : xs.length ≤ 2 ^ 35) (hf : xs.length < lf) :
    CL g lf N fn_spec_TriangleOk [.int .i64 side, p] h = some (.bool (triB side xs), h) := by
  obtain ⟨n, rfl⟩ : ∃ n, N = n + 1 := ⟨N - 1, by omega⟩
  have : W (CL g lf (n + 1) fn_spec_TriangleOk [.int .i64 side, p] h) fun v h' => v = .bool (triB side xs) ∧ h' = h := by
    rw [spec_TriangleOk.call_eq]
    unfold spec_TriangleOk.main
    simp only [env_lf]
    refine loopW (fun m s => ∃ (k : Nat), s = spec_TriangleOk.st0 (.int .i64 side) p (.int .i64 (k : Int)) h ∧ k + m = xs.length ∧ ∀ i (hi : i < xs.length), i < k → 1 ≤ xs[i] ∧ xs[i] ≤ 2) ?_ lf xs.length _ hf ⟨0, rfl, by omega, fun i _ h => by omega⟩
    rintro n1 m s ⟨k, rfl, hkm, hall⟩ next
    have hlen := hp.len'
    rw [spec_TriangleOk.body0_eq]
    unfold spec_TriangleOk.body0
    simp only [env_C, env_load, env_bin, env_un, env_indexAddr, env_len]
    cases m with
    | zero =>
      have hxs : (xs.all fun x => decide (1 ≤ x ∧ x ≤ 2)) = true := by
        rw [List.all_eq_true]
        intro x hx
        obtain ⟨i, hi, rfl⟩ := List.mem_iff_getElem.1 hx
        exact decide_eq_true (hall i hi (by omega))
      have e1 := l1In_N g lf n (by omega) h side 1 4
      unfold triB
      rw [hxs, Bool.true_and]
      by_cases hs : 1 ≤ side ∧ side ≤ 4
      · rw [decide_eq_true hs] at e1 ⊢
        obtain ⟨s, rfl⟩ := Int.eq_ofNat_of_zero_le (show 0 ≤ side by omega)
        have e2 := l7Cells_N g lf (s := s) (by omega) n (by omega) h
        rw [Bool.true_and, Int.toNat_natCast]
        by_cases hc : xs.length = cellsT s
        · rw [decide_eq_true hc]
          have hc' : (xs.length : Int) = (cellsT s : Int) := by omega
          repeat (first | with_reducible refine wF ?_ | with_reducible refine wg1 rfl ?_ | with_reducible refine wpT ?_ | with_reducible refine wpv ?_ | with_reducible refine wsm ?_ | with_reducible refine wrB ?_ | with_reducible refine wbd (by assumption) ?_ | with_reducible refine wlssF (by omega) ?_ | with_reducible refine weqlT (by omega) ?_ | rw [kLoop_exit] | rw [spec_TriangleOk.after0_se0_0_1_5_9] | dsimp only | simp only [env_C, env_g, env_lf, env_pick, env_alloc, env_box, env_build, env_buildSlice, env_load, env_store, env_ptr, env_bin, env_un, env_conv, env_make, env_slice, env_fieldAddr, env_field, env_indexAddr, env_index, env_extract, env_len, env_append, env_max, env_min, env_makeMap, env_lookup, env_update])
          exact W.ret ⟨rfl, rfl⟩
        · rw [decide_eq_false hc]
          have hc' : ¬ (xs.length : Int) = (cellsT s : Int) := by omega
          repeat (first | with_reducible refine wF ?_ | with_reducible refine wg1 rfl ?_ | with_reducible refine wpT ?_ | with_reducible refine wpv ?_ | with_reducible refine wsm ?_ | with_reducible refine wrB ?_ | with_reducible refine wbd (by assumption) ?_ | with_reducible refine wlssF (by omega) ?_ | with_reducible refine weqlF (by omega) ?_ | rw [kLoop_exit] | rw [spec_TriangleOk.after0_se0_0_1_5_9] | dsimp only | simp only [env_C, env_g, env_lf, env_pick, env_alloc, env_box, env_build, env_buildSlice, env_load, env_store, env_ptr, env_bin, env_un, env_conv, env_make, env_slice, env_fieldAddr, env_field, env_indexAddr, env_index, env_extract, env_len, env_append, env_max, env_min, env_makeMap, env_lookup, env_update])
          exact W.ret ⟨rfl, rfl⟩
      · rw [decide_eq_false hs] at e1 ⊢
        repeat (first | with_reducible refine wF ?_ | with_reducible refine wg0 rfl ?_ | with_reducible refine wpF ?_ | with_reducible refine wsm ?_ | with_reducible refine wrB ?_ | with_reducible refine wbd (by assumption) ?_ | with_reducible refine wlssF (by omega) ?_ | rw [kLoop_exit] | rw [spec_TriangleOk.after0_se0_0_1_5_9] | dsimp only | simp only [env_C, env_g, env_lf, env_pick, env_alloc, env_box, env_build, env_buildSlice, env_load, env_store, env_ptr, env_bin, env_un, env_conv, env_make, env_slice, env_fieldAddr, env_field, env_indexAddr, env_index, env_extract, env_len, env_append, env_max, env_min, env_makeMap, env_lookup, env_update])
        exact W.ret ⟨rfl, rfl⟩
    | succ m =>
      have hk : k < xs.length := by omega
      obtain ⟨a, ea, la⟩ := hp.at' hk
      have e1 := l1In_N g lf n (by omega) h xs[k] 1 2
      by_cases hx : 1 ≤ xs[k] ∧ xs[k] ≤ 2
      · rw [decide_eq_true hx] at e1
        repeat (first | with_reducible refine wT ?_ | with_reducible refine wF ?_ | with_reducible refine wnT ?_ | with_reducible refine wbd (by assumption) ?_ | with_reducible refine wadd1 (by omega) ?_ | with_reducible refine wlssT (by omega) ?_ | dsimp only)
        refine next _ _ (Nat.lt_succ_self m) ⟨k + 1, rfl, by omega, fun i hi hlt => ?_⟩
        by_cases e : i = k
        · subst e; exact hx
        · exact hall i hi (by omega)
      · rw [decide_eq_false hx] at e1
        have hno : triB side xs = false := by
          unfold triB
          have : (xs.all fun x => decide (1 ≤ x ∧ x ≤ 2)) = false := by
            rw [List.all_eq_false]
            exact ⟨xs[k], List.getElem_mem hk, by rw [decide_eq_false hx]; decide⟩
          rw [this]; rfl
        rw [hno]
        repeat (first | with_reducible refine wT ?_ | with_reducible refine wnF ?_ | with_reducible refine wrB ?_ | with_reducible refine wbd (by assumption) ?_ | with_reducible refine wlssT (by omega) ?_ | rw [kLoop_ret] | rw [spec_TriangleOk.K0_ret] | rw [spec_TriangleOk.top_sr_4] | dsimp only)
        exact W.ret ⟨rfl, rfl⟩
  obtain ⟨_, h', e, rfl, rfl⟩ := this
  exact e

theorem l7Place_N {k : Nat} (hk : k < 10) (N : Nat) (hN : 1 ≤ N) (hlf : 20 < lf) (h : PHeap) : CL g lf N fn_spec_l7Place [.int .i64 (k : Int)] h = some (.tup [.int .i64 (rowT k : Int), .int .i64 (plT k : Int)], h) := by
  obtain ⟨n, rfl⟩ : ∃ n, N = n + 1 := ⟨N - 1, by omega⟩
  have : W (CL g lf (n + 1) fn_spec_l7Place [.int .i64 (k : Int)] h) fun v h' => v = .tup [.int .i64 (rowT k : Int), .int .i64 (plT k : Int)] ∧ h' = h := by
    rw [spec_l7Place.call_eq]
    unfold spec_l7Place.main
    simp only [env_lf]
    refine loopW (fun m s => ∃ (c r : Nat), s = spec_l7Place.st0 (.int .i64 (c : Int)) (.int .i64 (r : Int)) h ∧ c ≤ m ∧ r + m ≤ 10 ∧ placeF m r c = placeF 10 0 k) ?_ lf 10 _ (by omega) ⟨k, 0, rfl, by omega, by omega, rfl⟩
    rintro n1 m s ⟨c, r, rfl, hcm, hrm, hpl⟩ next
    rw [spec_l7Place.body0_eq]
    unfold spec_l7Place.body0
    simp only [env_bin]
    by_cases hlt : r < c
    · cases m with
      | zero => omega
      | succ m =>
        rw [placeF, if_pos hlt] at hpl
        have hsb : -4611686018427387904 ≤ (c : Int) - (r : Int) ∧ (c : Int) - (r : Int) ≤ 4611686018427387904 := by omega
        have hsub : (c : Int) - (r : Int) = ((c - r : Nat) : Int) := by omega
        have h1 : 1 ≤ c - r := by omega
        repeat (first | with_reducible refine wT ?_ | (with_reducible refine wsub hsb ?_) | (rw [hsub]) | (with_reducible refine wsub1 h1 (by omega) ?_) | with_reducible refine wadd1 (by omega) ?_ | with_reducible refine wgtrT (by omega) ?_)
        exact next _ _ (Nat.lt_succ_self m) ⟨c - r - 1, r + 1, rfl, by omega, by omega, hpl⟩
    · have hrc : placeF m r c = (r, c) := by
        cases m with
        | zero => rfl
        | succ m => rw [placeF, if_neg hlt]
      rw [hrc] at hpl
      have e1 : rowT k = r := by unfold rowT; rw [← hpl]
      have e2 : plT k = c := by unfold plT; rw [← hpl]
      rw [e1, e2]
      repeat (first | with_reducible refine wF ?_ | with_reducible refine wrI ?_ | with_reducible refine wgtrF (by omega) ?_ | rw [kLoop_exit] | rw [spec_l7Place.after0_se0_0_4_7])
      exact W.ret ⟨rfl, rfl⟩
  obtain ⟨_, h', e, rfl, rfl⟩ := this
  exact e

theorem maskF_lt {a : Nat} : ∀ (m b w : Nat), b + m ≤ 10 → w < 2 ^ 10 → maskF a m b w < 2 ^ 10
  | 0, _, _, _, h => h
  | m + 1, b, w, h, hw => by
    rw [maskF]
    refine maskF_lt m (b + 1) _ (by omega) ?_
    split
    · exact Nat.or_lt_two_pow hw (by rw [Nat.one_shiftLeft]; exact Nat.pow_lt_pow_right (by decide) (by omega))
    · exact hw
theorem maskT_lt {s a : Nat} (hs : s ≤ 4) : maskT s a < 2 ^ 10 := maskF_lt _ 0 0 (by have := cellsT_le hs; omega) (by decide)
end Go.Proofs.YtlefknibddkjpabDoor

/- The model's chapter 7, continued: neighbours, shrinking, turning, the last cell. -/
set_option maxRecDepth 20000
namespace Go.Proofs.YtlefknibddkjpabDoor
open Go Go.Ip G

def nearTL (side cell : Int) : List Int := if (decide (1 ≤ side ∧ side ≤ 4) && decide (0 ≤ cell ∧ cell < (cellsT side.toNat : Int))) = true then listT (maskT side.toNat cell.toNat) else []
theorem bitsF_bit {f : Nat → Bool} {j : Nat} : ∀ {m : Nat}, (bitsF f m).testBit j = (decide (j < m) && f j)
  | 0 => by rw [bitsF, Nat.zero_testBit]; simp
  | m + 1 => by
    rw [bitsF]
    cases e : f m with
    | true =>
      show (bitsF f m ||| (1 <<< m)).testBit j = _
      rw [with_bit, bitsF_bit]
      by_cases h : j = m
      · subst h; simp [e]
      · by_cases h2 : j < m
        · simp [h, h2, show j < m + 1 by omega]
        · simp [h, h2, show ¬ j < m + 1 by omega]
    | false =>
      show (bitsF f m).testBit j = _
      rw [bitsF_bit]
      by_cases h : j = m
      · subst h; simp [e]
      · by_cases h2 : j < m
        · simp [h2, show j < m + 1 by omega]
        · simp [h2, show ¬ j < m + 1 by omega]
theorem below_all : ((List.range 5).all fun s => (List.range (cellsT (s - 1))).all fun k => decide (belowT k + 1 < cellsT s) && decide (k < cellsT s)) = true := by kernel_rfl
theorem below_lt {s k : Nat} (hs : s ≤ 4) (hk : k < cellsT (s - 1)) : belowT k + 1 < cellsT s ∧ k < cellsT s := by
  have := List.all_eq_true.1 (List.all_eq_true.1 below_all s (List.mem_range.2 (by omega))) k (List.mem_range.2 hk)
  simpa using this
theorem fillT_take {n A k : Nat} (hk : k < n) : (fillT n A).take (k + 1) = (fillT n A).take k ++ [if A.testBit k = true then 1 else 2] := by
  rw [List.take_add_one, fillT_get hk]; rfl
theorem fillT_at {n A k : Nat} {xs : List Int} (hx : xs = fillT n A) (hk : k < n) (hk' : k < xs.length) : xs[k] = if A.testBit k = true then 1 else 2 := by
  have := fillT_get (A := A) hk
  rw [← hx, List.getElem?_eq_getElem hk'] at this
  exact Option.some.inj this
theorem two_sum {a b c : Bool} : twoOf a b c = true ↔ ((if a = true then 1 else 2 : Int) + (if b = true then 1 else 2) + (if c = true then 1 else 2)) ≤ 4 := by
  cases a <;> cases b <;> cases c <;> decide

variable (g : Nat → PV) (lf n : Nat)

theorem specShrunk_calls {xs : List Int} {p : PV} {h : PHeap} (N : Nat) (hN : 3 ≤ N) (side : Int) (hp : IntSl .i64 h p xs) (hl : xs.length ≤ 2 ^ 35) (hf : xs.length < lf) (hlf : 20 < lf) :
    ∃ q h', CL g lf N fn_spec_Shrunk [.int .i64 side, p] h = some (q, h') ∧ OwnSl h.length h' q (shrunkL side xs) ∧ Keep h.length h h' := by
  obtain ⟨n, rfl⟩ : ∃ n, N = n + 1 := ⟨N - 1, by omega⟩
  suffices this : W (CL g lf (n + 1) fn_spec_Shrunk [.int .i64 side, p] h) fun q h' => OwnSl h.length h' q (shrunkL side xs) ∧ Keep h.length h h' by
    obtain ⟨q, h', e, o, k⟩ := this
    exact ⟨q, h', e, o, k⟩
  rw [spec_Shrunk.call_eq]
  unfold spec_Shrunk.main
  simp only [env_C, env_lf, env_pick, env_buildSlice, env_bin, env_un]
  refine wempty fun q h1 o1 k1 => ?_
  have hp1 := hp.keep k1
  have eT := specTriangleOk_N g lf n (by omega) side hp1 hl hf
  cases hb : triB side xs with
  | false =>
    rw [hb] at eT
    have hno : shrunkL side xs = [] := by unfold shrunkL; rw [hb]; rfl
    rw [hno]
    have hr := o1.res
    repeat (first | with_reducible refine wT ?_ | with_reducible refine wg0 rfl ?_ | with_reducible refine wpT ?_ | with_reducible refine wnF ?_ | with_reducible refine wsm ?_ | with_reducible refine wbd (by assumption) ?_ | dsimp only)
    exact W.ret ⟨o1, k1⟩
  | true =>
    rw [hb] at eT
    obtain ⟨s, A, hT⟩ := tri_of hb
    obtain ⟨rfl, s1, s4, hA, hx, hlen, _, _⟩ := id hT
    by_cases h2 : 2 ≤ s
    · rw [tri_shrunk hT h2]
      have hc10 := cellsT_le (s := s - 1) (by omega)
      have hs10 := cellsT_le s4
      obtain ⟨T, hT'⟩ : ∃ T, T = cellsT (s - 1) := ⟨_, rfl⟩
      have eC := fun hh => l7Cells_N g lf (s := s - 1) (by omega) n (by omega) hh
      rw [← hT'] at eC hc10
      have hs1 : 1 ≤ s := s1
      repeat (first | with_reducible refine wF ?_ | with_reducible refine wg1 rfl ?_ | with_reducible refine wpF ?_ | with_reducible refine wnT ?_ | with_reducible refine wpv ?_ | with_reducible refine wsm ?_ | with_reducible refine wbd (by assumption) ?_ | with_reducible refine wlssF (by omega) ?_ | dsimp only)
      refine loopW (fun m st => ∃ (k : Nat) (q : PV) (h2 : PHeap), st = spec_Shrunk.st0 (.int .i64 (s : Int)) p q (.int .i64 (k : Int)) h2 ∧ k + m = T ∧ OwnSl h.length h2 q ((fillT T (shrT s A)).take k) ∧ Keep h.length h h2) ?_ lf T _ (by omega) ⟨0, q, h1, rfl, by omega, o1, k1⟩
      rintro n1 m st ⟨k, q, h2', rfl, hkm, o2, k2⟩ next
      have hp2 := hp.keep k2
      rw [spec_Shrunk.body0_eq]
      unfold spec_Shrunk.body0
      simp only [env_C, env_buildSlice, env_load, env_bin, env_indexAddr, env_extract, env_append]
      cases m with
      | zero =>
        have hkT : k = T := by omega
        have hr := o2.res
        repeat (first | with_reducible refine wF ?_ | with_reducible refine wbd (by assumption) ?_ | (with_reducible refine wsub1 hs1 (by omega) ?_) | (with_reducible refine wbd (eC _) ?_) | with_reducible refine wlssF (by omega) ?_ | rw [kLoop_exit] | rw [spec_Shrunk.after0_se0_0_1_5_6_25] | dsimp only)
        rw [hkT, List.take_of_length_le (by rw [fillT_length]; exact Nat.le_refl _), hT'] at o2
        exact W.ret ⟨o2, k2⟩
      | succ m =>
        have hk : k < T := by omega
        obtain ⟨b1, b2⟩ := below_lt (s := s) (k := k) s4 (by omega)
        have eP := fun hh => l7Place_N g lf (k := k) (by omega) n (by omega) hlf hh
        obtain ⟨r1, r2⟩ := place_le (k := k) (by omega)
        have eC2 := fun hh => l7Cells_N g lf (s := rowT k + 1) (by omega) n (by omega) hh
        have hbel : cellsT (rowT k + 1) + plT k = belowT k := rfl
        obtain ⟨B, hB⟩ : ∃ B, B = belowT k := ⟨_, rfl⟩
        rw [← hB] at hbel b1
        obtain ⟨a1, ea1, la1⟩ := hp2.at' (i := k) (by omega)
        obtain ⟨a2, ea2, la2⟩ := hp2.at' (i := B) (by omega)
        obtain ⟨a3, ea3, la3⟩ := hp2.at' (i := B + 1) (by omega)
        have v1 := fillT_at hx (k := k) (by omega) (by omega)
        have v2 := fillT_at hx (k := B) (by omega) (by omega)
        have v3 := fillT_at hx (k := B + 1) (by omega) (by omega)
        have hts := two_sum (a := A.testBit k) (b := A.testBit B) (c := A.testBit (B + 1))
        rw [← v1, ← v2, ← v3] at hts
        have u1 : xs[k]'(by omega) = 1 ∨ xs[k]'(by omega) = 2 := by rw [v1]; split <;> simp
        have u2 : xs[B]'(by omega) = 1 ∨ xs[B]'(by omega) = 2 := by rw [v2]; split <;> simp
        have u3 : xs[B + 1]'(by omega) = 1 ∨ xs[B + 1]'(by omega) = 2 := by rw [v3]; split <;> simp
        obtain ⟨x1, hx1⟩ : ∃ x, x = xs[k]'(by omega) := ⟨_, rfl⟩
        obtain ⟨x2, hx2⟩ : ∃ x, x = xs[B]'(by omega) := ⟨_, rfl⟩
        obtain ⟨x3, hx3⟩ : ∃ x, x = xs[B + 1]'(by omega) := ⟨_, rfl⟩
        rw [← hx1] at la1 u1 hts
        rw [← hx2] at la2 u2 hts
        rw [← hx3] at la3 u3 hts
        have hbit : (shrT s A).testBit k = twoOf (A.testBit k) (A.testBit B) (A.testBit (B + 1)) := by
          unfold shrT; rw [bitsF_bit, decide_eq_true (by omega : k < cellsT (s - 1)), Bool.true_and, hB]
        have hz : ((fillT T (shrT s A)).take k).length + 1 ≤ 2 ^ 36 := by rw [List.length_take, fillT_length]; omega
        have hw1 : -4611686018427387904 ≤ x1 + x2 ∧ x1 + x2 ≤ 4611686018427387904 := by omega
        have hw2 : -4611686018427387904 ≤ x1 + x2 + x3 ∧ x1 + x2 + x3 ≤ 4611686018427387904 := by omega
        clear hx1 hx2 hx3 v1 v2 v3
        have hBb : B + 1 < 20 := by omega
        have hcb : cellsT (rowT k + 1) + plT k < 4611686018427387904 := by omega
        by_cases hle : x1 + x2 + x3 ≤ 4
        · have ht := hts.2 hle
          repeat (first | with_reducible refine wT ?_ | with_reducible refine wx0 ?_ | with_reducible refine wx1 ?_ | with_reducible refine wbd (by assumption) ?_ | (with_reducible refine wsub1 hs1 (by omega) ?_) | (with_reducible refine wbd (eC _) ?_) | (with_reducible refine wbd (eP _) ?_) | (with_reducible refine wbd (eC2 _) ?_) | (with_reducible refine waddN hcb ?_) | (rw [hbel]) | (with_reducible refine wadd hw1 ?_) | (with_reducible refine wadd hw2 ?_) | with_reducible refine wadd1 (by omega) ?_ | with_reducible refine wlssT (by omega) ?_ | with_reducible refine wleqT (by omega) ?_ | dsimp only)
          repeat (first | (refine wap o2 k2.1 hz fun p' h6 o6 k6 => ?_) | with_reducible refine wadd1 (by omega) ?_ | dsimp only)
          refine next _ _ (Nat.lt_succ_self m) ⟨k + 1, p', h6, rfl, by omega, ?_, k2.trans k6⟩
          rw [fillT_take hk, hbit, ht]; exact o6
        · have ht : twoOf (A.testBit k) (A.testBit B) (A.testBit (B + 1)) = false := by
            cases e : twoOf (A.testBit k) (A.testBit B) (A.testBit (B + 1)) with
            | false => rfl
            | true => exact (hle (hts.1 e)).elim
          repeat (first | with_reducible refine wT ?_ | with_reducible refine wF ?_ | with_reducible refine wx0 ?_ | with_reducible refine wx1 ?_ | with_reducible refine wbd (by assumption) ?_ | (with_reducible refine wsub1 hs1 (by omega) ?_) | (with_reducible refine wbd (eC _) ?_) | (with_reducible refine wbd (eP _) ?_) | (with_reducible refine wbd (eC2 _) ?_) | (with_reducible refine waddN hcb ?_) | (rw [hbel]) | (with_reducible refine wadd hw1 ?_) | (with_reducible refine wadd hw2 ?_) | with_reducible refine wadd1 (by omega) ?_ | with_reducible refine wlssT (by omega) ?_ | with_reducible refine wleqF (by omega) ?_ | dsimp only)
          repeat (first | (refine wap o2 k2.1 hz fun p' h6 o6 k6 => ?_) | with_reducible refine wadd1 (by omega) ?_ | dsimp only)
          refine next _ _ (Nat.lt_succ_self m) ⟨k + 1, p', h6, rfl, by omega, ?_, k2.trans k6⟩
          rw [fillT_take hk, hbit, ht]; exact o6
    · have hno : shrunkL (s : Int) xs = [] := by unfold shrunkL; rw [hb, decide_eq_false (by omega : ¬ 2 ≤ (s : Int))]; rfl
      rw [hno]
      have hr := o1.res
      repeat (first | with_reducible refine wT ?_ | with_reducible refine wg1 rfl ?_ | with_reducible refine wpF ?_ | with_reducible refine wnT ?_ | with_reducible refine wpv ?_ | with_reducible refine wsm ?_ | with_reducible refine wbd (by assumption) ?_ | with_reducible refine wlssT (by omega) ?_ | dsimp only)
      exact W.ret ⟨o1, k1⟩

end Go.Proofs.YtlefknibddkjpabDoor

/- The model's chapter 7, continued: the last cell, turned triangles. -/
set_option maxRecDepth 20000
namespace Go.Proofs.YtlefknibddkjpabDoor
open Go Go.Ip G

variable (g : Nat → PV) (lf n : Nat)

theorem specLastCell_calls {xs : List Int} {p : PV} {h : PHeap} (N : Nat) (hN : 4 ≤ N) (side : Int) (hp : IntSl .i64 h p xs) (hl : xs.length ≤ 2 ^ 35) (hf : xs.length < lf) (hlf : 20 < lf) :
    ∃ h', CL g lf N fn_spec_LastCell [.int .i64 side, p] h = some (.int .i64 (lastL side xs), h') ∧ Keep h.length h h' := by
  obtain ⟨n, rfl⟩ : ∃ n, N = n + 1 := ⟨N - 1, by omega⟩
  have : W (CL g lf (n + 1) fn_spec_LastCell [.int .i64 side, p] h) fun v h' => v = .int .i64 (lastL side xs) ∧ Keep h.length h h' := by
    have eT := specTriangleOk_N g lf n (by omega) side hp hl hf
    rw [spec_LastCell.call_eq]
    unfold spec_LastCell.main
    simp only [env_C, env_lf, env_buildSlice, env_un, env_append]
    cases hb : triB side xs with
    | false =>
      rw [hb] at eT
      have hno : lastL side xs = 0 := by unfold lastL; rw [hb]; rfl
      rw [hno]
      repeat (first | with_reducible refine wT ?_ | with_reducible refine wnF ?_ | with_reducible refine wrI ?_ | with_reducible refine wbd (by assumption) ?_ | dsimp only)
      exact W.ret ⟨rfl, Keep.refl _ _⟩
    | true =>
      rw [hb] at eT
      obtain ⟨s, A, hT⟩ := tri_of hb
      rw [tri_last hT]
      obtain ⟨rfl, s1, s4, hA, hx, hlen, _, _⟩ := id hT
      have hc1 : 0 < cellsT s := by
        have : s = 1 ∨ s = 2 ∨ s = 3 ∨ s = 4 := by omega
        rcases this with rfl | rfl | rfl | rfl <;> decide
      obtain ⟨v, q, h2, e2, e3, o2, k2⟩ := copy_all hp (by omega) (by omega)
      repeat (first | with_reducible refine wF ?_ | with_reducible refine wnT ?_ | with_reducible refine wbd (by assumption) ?_ | dsimp only)
      refine loopW (fun m st => ∃ (s' A' : Nat) (q : PV) (h2 : PHeap), st = spec_LastCell.st0 q (.int .i64 (s' : Int)) h2 ∧ s' = m ∧ 1 ≤ s' ∧ s' ≤ 4 ∧ A' < 2 ^ cellsT s' ∧ lastT s' A' = lastT s A ∧ IntSl .i64 h2 q (fillT (cellsT s') A') ∧ Keep h.length h h2) ?_ lf s _ (by omega) ⟨s, A, q, h2, rfl, rfl, s1, s4, hA, rfl, by rw [← hx]; exact o2.int, k2⟩
      rintro n1 m st ⟨s', A', q', h3, rfl, rfl, t1, t4, hA', hL, o3, k3⟩ next
      have hc10 := cellsT_le t4
      rw [spec_LastCell.body0_eq]
      unfold spec_LastCell.body0
      simp only [env_C, env_bin]
      by_cases hs1 : s' = 1
      · subst hs1
        have hat : (0 : Nat) < (fillT (cellsT 1) A').length := by rw [fillT_length]; decide
        obtain ⟨a, ea, la⟩ := o3.at' (i := 0) hat
        have v1 := fillT_at (n := cellsT 1) (A := A') (k := 0) rfl (by decide) hat
        rw [v1] at la
        have hl1 : lastT 1 A' = A'.testBit 0 := rfl
        rw [← hL, hl1]
        have ea : indexAddrP Tryd.prog 26 q' (.int .i64 0) = some a := ea
        obtain ⟨x, hx'⟩ : ∃ x : Int, x = (if A'.testBit 0 = true then 1 else 2) := ⟨_, rfl⟩
        rw [← hx'] at la ⊢
        repeat (first | with_reducible refine wF ?_ | with_reducible refine wrI ?_ | with_reducible refine wbd (by assumption) ?_ | with_reducible refine wgtrF (by omega) ?_ | rw [kLoop_exit] | rw [spec_LastCell.after0_se0_5_6_16] | simp only [env_C, env_g, env_lf, env_pick, env_alloc, env_box, env_build, env_buildSlice, env_load, env_store, env_ptr, env_bin, env_un, env_conv, env_make, env_slice, env_fieldAddr, env_field, env_indexAddr, env_index, env_extract, env_len, env_append, env_max, env_min, env_makeMap, env_lookup, env_update])
        exact W.ret ⟨rfl, k3⟩
      · have h2' : 2 ≤ s' := by omega
        have hf' : (fillT (cellsT s') A').length < lf := by rw [fillT_length]; omega
        have hl' : (fillT (cellsT s') A').length ≤ 2 ^ 35 := by rw [fillT_length]; omega
        have hT' := Tri.fill t1 t4 hA'
        obtain ⟨q4, h4, e4, o4, k4⟩ := specShrunk_calls g lf n (by omega) (s' : Int) o3 hl' hf' hlf
        rw [tri_shrunk hT' h2'] at o4
        have hsl := (shr_lt hT' h2').1
        have hs1' : 1 ≤ s' := t1
        repeat (first | with_reducible refine wT ?_ | with_reducible refine wbd (by assumption) ?_ | (with_reducible refine wsub1 hs1' (by omega) ?_) | with_reducible refine wgtrT (by omega) ?_ | dsimp only)
        exact next _ _ (by omega) ⟨s' - 1, shrT s' A', q4, h4, rfl, rfl, by omega, by omega, hsl, by rw [← last_shr h2']; exact hL, o4.int, k3.trans (k4.mono k3.1)⟩
  obtain ⟨_, h', e, rfl, k⟩ := this
  exact ⟨h', e, k⟩

end Go.Proofs.YtlefknibddkjpabDoor

/- The model's chapter 7, continued: who has joined all sides. -/
set_option maxRecDepth 20000
namespace Go.Proofs.YtlefknibddkjpabDoor
open Go Go.Ip G

variable (g : Nat → PV) (lf n : Nat)

end Go.Proofs.YtlefknibddkjpabDoor

/- The model's chapter 7, continued: how many triangles are won. -/
set_option maxRecDepth 20000
namespace Go.Proofs.YtlefknibddkjpabDoor
open Go Go.Ip G

theorem listFrom_pop (S : Nat) : ∀ (m k : Nat), (listFrom S m k).length = (List.range' k m).countP S.testBit
  | 0, _ => rfl
  | m + 1, k => by
    rw [listFrom, List.range'_succ, List.countP_cons]
    have hb := bit_iff S k
    by_cases h : S >>> k % 2 = 1
    · rw [if_pos h, List.length_cons, listFrom_pop S m (k + 1), if_pos (hb.1 h)]
    · rw [if_neg h, listFrom_pop S m (k + 1), if_neg (fun e => h (hb.2 e))]; omega
theorem listT_length (S : Nat) : (listT S).length = popT S := by
  unfold listT popT
  rw [listFrom_pop, List.range_eq_range']

variable (g : Nat → PV) (lf n : Nat)

theorem l6SizeT_calls {S : Nat} (hS : S < 2 ^ 10) (N : Nat) (hN : 2 ≤ N) (hlf : 20 < lf) (h : PHeap) :
    ∃ h', CL g lf N fn_spec_l6Size [.int .i64 (S : Int)] h = some (.int .i64 (popT S : Int), h') ∧ Keep h.length h h' := by
  obtain ⟨n, rfl⟩ : ∃ n, N = n + 1 := ⟨N - 1, by omega⟩
  obtain ⟨q, h1, e1, o1, k1⟩ := l2ListT_calls g lf hS n (by omega) (by omega) (h := h)
  have hlen := o1.int.len'
  rw [listT_length] at hlen
  have : W (CL g lf (n + 1) fn_spec_l6Size [.int .i64 (S : Int)] h) fun v h' => v = .int .i64 (popT S : Int) ∧ Keep h.length h h' := by
    rw [spec_l6Size.call_eq]
    unfold spec_l6Size.main
    simp only [env_C, env_len]
    repeat (first | with_reducible refine wrI ?_ | with_reducible refine wbd (by assumption) ?_ | dsimp only)
    exact W.ret ⟨rfl, k1⟩
  obtain ⟨_, h', e, rfl, k⟩ := this
  exact ⟨h', e, k⟩

set_option maxHeartbeats 1000000 in
theorem specTriangleWins_calls (N : Nat) (hN : 6 ≤ N) (hlf : 2000 < lf) (h : PHeap) (side f : Int) :
    ∃ h', CL g lf N fn_spec_TriangleWins [.int .i64 side, .int .i64 f] h = some (.int .i64 (winsL side f), h') ∧ Keep h.length h h' := by
  obtain ⟨n, rfl⟩ : ∃ n, N = n + 1 := ⟨N - 1, by omega⟩
  have : W (CL g lf (n + 1) fn_spec_TriangleWins [.int .i64 side, .int .i64 f] h) fun v h' => v = .int .i64 (winsL side f) ∧ Keep h.length h h' := by
    have e1 := l1In_N g lf n (by omega) h side 1 4
    unfold winsL
    rw [spec_TriangleWins.call_eq]
    unfold spec_TriangleWins.main
    simp only [env_C, env_lf, env_pick, env_un]
    by_cases hs : 1 ≤ side ∧ side ≤ 4
    case neg =>
      rw [decide_eq_false hs] at e1 ⊢
      rw [Bool.false_and, if_neg (by decide)]
      repeat (first | with_reducible refine wT ?_ | with_reducible refine wg0 rfl ?_ | with_reducible refine wpT ?_ | with_reducible refine wnF ?_ | with_reducible refine wsm ?_ | with_reducible refine wrI ?_ | with_reducible refine wbd (by assumption) ?_ | dsimp only)
      exact W.ret ⟨rfl, Keep.refl _ _⟩
    rw [decide_eq_true hs] at e1 ⊢
    obtain ⟨s, rfl⟩ := Int.eq_ofNat_of_zero_le (show 0 ≤ side by omega)
    have s1 : 1 ≤ s := by omega
    have s4 : s ≤ 4 := by omega
    have hc10 := cellsT_le s4
    rw [Bool.true_and, Int.toNat_natCast]
    have eC := fun hh => l7Cells_N g lf (s := s) (by omega) n (by omega) hh
    have e2 := l1In_N g lf n (by omega) h f 0 (cellsT s : Int)
    by_cases hf : 0 ≤ f ∧ f ≤ (cellsT s : Int)
    case neg =>
      rw [decide_eq_false hf] at e2 ⊢
      rw [if_neg (by decide)]
      repeat (first | with_reducible refine wT ?_ | with_reducible refine wg1 rfl ?_ | with_reducible refine wpF ?_ | with_reducible refine wnT ?_ | with_reducible refine wnF ?_ | with_reducible refine wpv ?_ | with_reducible refine wsm ?_ | with_reducible refine wrI ?_ | with_reducible refine wbd (by assumption) ?_ | (with_reducible refine wbd (eC _) ?_) | dsimp only)
      exact W.ret ⟨rfl, Keep.refl _ _⟩
    rw [decide_eq_true hf] at e2 ⊢
    rw [if_pos rfl]
    obtain ⟨F, rfl⟩ := Int.eq_ofNat_of_zero_le hf.1
    rw [Int.toNat_natCast]
    have hwd : winsT s F = (List.range (2 ^ cellsT s)).countP fun A => popT A == F && lastT s A := rfl
    rw [hwd]
    have hcs : ∀ A, A < 2 ^ cellsT s → Tri (s : Int) (fillT (cellsT s) A) s A := fun A hA => Tri.fill s1 s4 hA
    obtain ⟨T, hT⟩ : ∃ T, T = cellsT s := ⟨_, rfl⟩
    rw [← hT] at eC hc10 hcs e2 ⊢
    have hT30 : T ≤ 30 := by omega
    obtain ⟨M, hM⟩ : ∃ M, M = 2 ^ T := ⟨_, rfl⟩
    have hM' : 1 <<< T = M := by rw [Nat.one_shiftLeft, hM]
    have hM10 : M ≤ 2 ^ 10 := by rw [hM]; exact Nat.pow_le_pow_right (by decide) hc10
    rw [← hM] at hcs ⊢
    repeat (first | with_reducible refine wF ?_ | with_reducible refine wg1 rfl ?_ | with_reducible refine wpF ?_ | with_reducible refine wnT ?_ | with_reducible refine wpv ?_ | with_reducible refine wsm ?_ | with_reducible refine wbd (by assumption) ?_ | (with_reducible refine wbd (eC _) ?_) | dsimp only)
    refine loopW (fun m st => ∃ (A c : Nat) (h2 : PHeap), st = spec_TriangleWins.st0 (.int .i64 (s : Int)) (.int .i64 (F : Int)) (.int .i64 (c : Int)) (.int .i64 (A : Int)) h2 ∧ A + m = M ∧ c ≤ A ∧ c = ((List.range A).countP fun A => popT A == F && lastT s A) ∧ Keep h.length h h2) ?_ lf M _ (by omega) ⟨0, 0, h, rfl, by omega, by omega, rfl, Keep.refl _ _⟩
    rintro n1 m st ⟨A, c, h2, rfl, hAm, hcA, hc, k2⟩ next
    rw [spec_TriangleWins.body0_eq]
    unfold spec_TriangleWins.body0
    simp only [env_C, env_lf, env_buildSlice, env_bin]
    cases m with
    | zero =>
      have hAM : A = M := by omega
      repeat (first | with_reducible refine wF ?_ | with_reducible refine wrI ?_ | (with_reducible refine wbd (eC _) ?_) | (with_reducible refine wshl hT30 ?_) | (rw [hM']) | with_reducible refine wlssF (by omega) ?_ | rw [kLoop_exit] | rw [spec_TriangleWins.after0_se0_0_1_5_6_23] | dsimp only)
      rw [← hAM, ← hc]
      exact W.ret ⟨rfl, k2⟩
    | succ m =>
    have hA : A < M := by omega
    have hA10 : A < 2 ^ 10 := by omega
    obtain ⟨h3, e3, k3⟩ := l6SizeT_calls g lf hA10 n (by omega) (by omega) h2
    have kk := k2.trans (k3.mono k2.1)
    have hsucc : ((List.range (A + 1)).countP fun A => popT A == F && lastT s A) = c + if (popT A == F && lastT s A) = true then 1 else 0 := by
      rw [List.range_succ, List.countP_append, ← hc]; simp
    by_cases hp : popT A = F
    case neg =>
      have hne : ¬ (popT A : Int) = (F : Int) := by omega
      have hno : (popT A == F && lastT s A) = false := by rw [beq_eq_false_iff_ne.2 hp]; rfl
      rw [hno] at hsucc
      repeat (first | with_reducible refine wT ?_ | with_reducible refine wbd (by assumption) ?_ | (with_reducible refine wbd (eC _) ?_) | (with_reducible refine wshl hT30 ?_) | (rw [hM']) | with_reducible refine wadd1 (by omega) ?_ | with_reducible refine wlssT (by omega) ?_ | with_reducible refine wneqT (by omega) ?_ | dsimp only)
      exact next _ _ (Nat.lt_succ_self m) ⟨A + 1, c, h3, rfl, by omega, by omega, by rw [hsucc]; rfl, kk⟩
    have hpe : (popT A : Int) = (F : Int) := by omega
    repeat (first | with_reducible refine wT ?_ | with_reducible refine wF ?_ | with_reducible refine wbd (by assumption) ?_ | (with_reducible refine wbd (eC _) ?_) | (with_reducible refine wshl hT30 ?_) | (rw [hM']) | with_reducible refine wlssT (by omega) ?_ | with_reducible refine wneqF (by omega) ?_ | dsimp only)
    refine wempty fun q h4 o4 k4 => ?_
    have kk4 : Keep h3.length h3 h3 := Keep.refl _ _
    refine loopW (fun m2 st => ∃ (k : Nat) (q : PV) (h5 : PHeap), st = spec_TriangleWins.st1 (.int .i64 (s : Int)) (.int .i64 (F : Int)) (.int .i64 (c : Int)) (.int .i64 (A : Int)) q (.int .i64 (k : Int)) h5 ∧ k + m2 = T ∧ OwnSl h3.length h5 q ((fillT T A).take k) ∧ Keep h3.length h3 h5) ?_ lf T _ (by omega) ⟨0, q, h4, rfl, by omega, o4, k4⟩
    rintro n2 m2 st ⟨k, q5, h5, rfl, hkm, o5, k5⟩ next2
    rw [spec_TriangleWins.body1_eq]
    unfold spec_TriangleWins.body1
    simp only [env_C, env_buildSlice, env_bin, env_append]
    cases m2 with
    | succ m2 =>
      have hk : k < T := by omega
      obtain ⟨m1, hm⟩ : ∃ m1, m1 = A >>> k % 2 := ⟨_, rfl⟩
      have hm2 : m1 < 2 := by rw [hm]; exact Nat.mod_lt _ (by decide)
      have hbi := bit_iff A k
      rw [← hm] at hbi
      have hv : (2 : Int) - (m1 : Int) = if A.testBit k = true then 1 else 2 := by
        by_cases hm1 : m1 = 1
        · rw [if_pos (hbi.1 hm1)]; omega
        · rw [if_neg (fun e => hm1 (hbi.2 e))]; omega
      have hsb : -4611686018427387904 ≤ (2 : Int) - (m1 : Int) ∧ (2 : Int) - (m1 : Int) ≤ 4611686018427387904 := by omega
      have hz : ((fillT T A).take k).length + 1 ≤ 2 ^ 36 := by rw [List.length_take, fillT_length]; omega
      repeat (first | with_reducible refine wT ?_ | (with_reducible refine wbd (eC _) ?_) | (rw [← hm]) | (with_reducible refine wsub hsb ?_) | with_reducible refine wrem2 ?_ | with_reducible refine wshr (by omega) ?_ | with_reducible refine wlssT (by omega) ?_ | dsimp only)
      repeat (first | (refine wap o5 k5.1 hz fun p' h6 o6 k6 => ?_) | with_reducible refine wadd1 (by omega) ?_ | dsimp only)
      refine next2 _ _ (Nat.lt_succ_self m2) ⟨k + 1, p', h6, rfl, by omega, ?_, k5.trans k6⟩
      rw [fillT_take hk, ← hv]; exact o6
    | zero =>
      have hkT : k = T := by omega
      rw [hkT, List.take_of_length_le (by rw [fillT_length]; exact Nat.le_refl _)] at o5
      have hl5 : (fillT T A).length ≤ 2 ^ 35 := by rw [fillT_length]; omega
      have hf5 : (fillT T A).length < lf := by rw [fillT_length]; omega
      obtain ⟨h6, e6, k6⟩ := specLastCell_calls g lf n (by omega) (s : Int) o5.int hl5 hf5 (by omega)
      rw [tri_last (hcs A hA)] at e6
      have kk6 := kk.trans ((k5.trans (k6.mono k5.1)).mono kk.1)
      cases hlast : lastT s A with
      | true =>
        rw [hlast] at e6
        have hyes : (popT A == F && lastT s A) = true := by rw [hlast, beq_iff_eq.2 hp]; rfl
        rw [if_pos hyes] at hsucc
        have e6 : CL g lf n fn_spec_LastCell [.int .i64 (s : Int), q5] h5 = some (.int .i64 1, h6) := e6
        repeat (first | with_reducible refine wT ?_ | with_reducible refine wF ?_ | with_reducible refine wbd (by assumption) ?_ | (with_reducible refine wbd (eC _) ?_) | with_reducible refine wadd1 (by omega) ?_ | with_reducible refine wlssF (by omega) ?_ | with_reducible refine weqlT (by omega) ?_ | rw [kLoop_exit] | rw [spec_TriangleWins.after1_se2_0_1_5_6_7_8_34] | dsimp only | simp only [env_C, env_g, env_lf, env_pick, env_alloc, env_box, env_build, env_buildSlice, env_load, env_store, env_ptr, env_bin, env_un, env_conv, env_make, env_slice, env_fieldAddr, env_field, env_indexAddr, env_index, env_extract, env_len, env_append, env_max, env_min, env_makeMap, env_lookup, env_update])
        exact next _ _ (Nat.lt_succ_self m) ⟨A + 1, c + 1, h6, rfl, by omega, by omega, hsucc.symm, kk6⟩
      | false =>
        rw [hlast] at e6
        have hno : (popT A == F && lastT s A) = false := by rw [hlast, Bool.and_false]
        rw [hno] at hsucc
        have e6 : CL g lf n fn_spec_LastCell [.int .i64 (s : Int), q5] h5 = some (.int .i64 2, h6) := e6
        repeat (first | with_reducible refine wF ?_ | with_reducible refine wbd (by assumption) ?_ | (with_reducible refine wbd (eC _) ?_) | with_reducible refine wadd1 (by omega) ?_ | with_reducible refine wlssF (by omega) ?_ | with_reducible refine weqlF (by omega) ?_ | rw [kLoop_exit] | rw [spec_TriangleWins.after1_se2_0_1_5_6_7_8_34] | dsimp only | simp only [env_C, env_g, env_lf, env_pick, env_alloc, env_box, env_build, env_buildSlice, env_load, env_store, env_ptr, env_bin, env_un, env_conv, env_make, env_slice, env_fieldAddr, env_field, env_indexAddr, env_index, env_extract, env_len, env_append, env_max, env_min, env_makeMap, env_lookup, env_update])
        exact next _ _ (Nat.lt_succ_self m) ⟨A + 1, c, h6, rfl, by omega, by omega, by rw [hsucc]; rfl, kk6⟩
  obtain ⟨_, h', e, rfl, k⟩ := this
  exact ⟨h', e, k⟩

end Go.Proofs.YtlefknibddkjpabDoor

/- The draws of chapter 7. -/
set_option maxRecDepth 20000
namespace Go.Proofs.YtlefknibddkjpabDoor
open Go Go.Ip G

variable (g : Nat → PV) (lf n : Nat)

section
variable {Q : PV → PHeap → Prop} {x : Nat} {f : PV → Res}
end

end Go.Proofs.YtlefknibddkjpabDoor

/- The exact laws of chapter 7 over what the program's functions are asked to compute. -/
set_option maxRecDepth 20000
namespace Go.Proofs.YtlefknibddkjpabDoor
open Go Go.Ip G

def TriangleWinsOk7 (g : Nat → PV) (lf : Nat) : Prop := ∀ (N : Nat), 40 ≤ N → ∀ (side f : Int) {h : PHeap}, TabOk g h →
  ∃ h', CL g lf N fn_impl_TriangleWins [.int .i64 side, .int .i64 f] h = some (.int .i64 (winsL side f), h') ∧ Keep h.length h h'

theorem listT_len (S : Nat) : (listT S).length ≤ 10 := by
  rw [listT_length]; unfold popT
  have := List.countP_le_length (p := fun j => S.testBit j) (l := List.range 10)
  rwa [List.length_range] at this
variable (g : Nat → PV) (lf n : Nat)

theorem exactTriangleWins_calls (hok : TriangleWinsOk7 g lf) {h : PHeap} (N : Nat) (hN : 41 ≤ N) (side f : Int) (ht : TabOk g h) (hf : 1048576 < lf) :
    ∃ h', CL g lf N fn_laws_FnExactTriangleWins [.int .i64 side, .int .i64 f] h = some (.bool true, h') := by
  obtain ⟨n, rfl⟩ : ∃ n, N = n + 1 := ⟨N - 1, by omega⟩
  apply W.yes
  obtain ⟨h1, e1, k1⟩ := specTriangleWins_calls g lf n (by omega) (by omega) h side f
  obtain ⟨h2, e2, k2⟩ := hok n (by omega) side f (ht.keep k1)
  rw [laws_FnExactTriangleWins.call_eq]
  unfold laws_FnExactTriangleWins.main
  simp only [env_C, env_bin]
  repeat (first | with_reducible refine wF ?_ | with_reducible refine wrB ?_ | with_reducible refine wbd (by assumption) ?_ | with_reducible refine wneqF (by omega) ?_ | dsimp only)
  exact W.ret rfl

end Go.Proofs.YtlefknibddkjpabDoor

/- The laws of chapter 7 over what the program's functions are asked to compute: fillings that are turned, shrunk and joined. -/
set_option maxRecDepth 20000
namespace Go.Proofs.YtlefknibddkjpabDoor
open Go Go.Ip G

section
variable {Q : PV → PHeap → Prop} {h : PHeap}
end

section
variable {side : Int} {xs : List Int} {s A : Nat} (h : Tri side xs s A)
include h
end
variable (g : Nat → PV) (lf n : Nat)

end Go.Proofs.YtlefknibddkjpabDoor

/- The laws of chapter 7, continued: triangles that shrink, last cells, a stone more, neighbours and how many are won. -/
set_option maxRecDepth 20000
namespace Go.Proofs.YtlefknibddkjpabDoor
open Go Go.Ip G

theorem listT_mem {S : Nat} (hS : S < 2 ^ 10) (e : Int) : e ∈ listT S ↔ ∃ j : Nat, e = (j : Int) ∧ S.testBit j = true := by
  unfold listT
  rw [listFrom_mem]
  constructor
  · rintro ⟨j, h1, _, _, h4⟩; exact ⟨j, h1, h4⟩
  · rintro ⟨j, h1, h4⟩; exact ⟨j, h1, Nat.zero_le _, by have := bit_small hS h4; omega, h4⟩
section
variable {Q : PV → PHeap → Prop} {x y : Nat} {t : Nat} {P : Program} {f : PV → Res}
end

variable (g : Nat → PV) (lf n : Nat)

end Go.Proofs.YtlefknibddkjpabDoor

/- The program's chapter 2: Joins, GapOf, GroupOf, Filled and GapCells compute what the model's do. -/
set_option maxRecDepth 20000
namespace Go.Proofs.YtlefknibddkjpabDoor
open Go Go.Ip G

variable (g : Nat → PV) (lf n : Nat)

end Go.Proofs.YtlefknibddkjpabDoor

/- The program's chapter 7: cells and places of triangles; full, shrunk and turned triangles, the last cell. -/
set_option maxRecDepth 20000
namespace Go.Proofs.YtlefknibddkjpabDoor
open Go Go.Ip G

theorem placeT_all : ((List.range 10).all fun k => (List.range 4).all fun r => !(decide (cellsT r ≤ k) && decide (k < cellsT (r + 1))) || (rowT k == r && plT k == k - cellsT r)) = true := by kernel_rfl
theorem place_at {k r : Nat} (hk : k < 10) (hr : r < 4) (h1 : cellsT r ≤ k) (h2 : k < cellsT (r + 1)) : rowT k = r ∧ plT k = k - cellsT r := by
  have h := List.all_eq_true.1 (List.all_eq_true.1 placeT_all k (List.mem_range.2 hk)) r (List.mem_range.2 hr)
  rw [decide_eq_true h1, decide_eq_true h2] at h
  simpa using h
theorem wsubK {Q : PV → PHeap → Prop} {x y : Nat} {P : Program} {t : TypeId} {f : PV → Res} (h : y ≤ x) (h2 : x < 4611686018427387904) (hf : W (f (.int .i64 ((x - y : Nat) : Int))) Q) : W ((binP P .sub t (.int .i64 (x : Int)) (.int .i64 (y : Int))).bind f) Q :=
  wbd (by rw [bin_sub, wr (by omega), show (x : Int) - (y : Int) = ((x - y : Nat) : Int) by omega]) hf
variable (g : Nat → PV) (lf n : Nat)

theorem triCell_N {r p : Nat} (hr : r ≤ 100) (hp : p ≤ 100) (N : Nat) (hN : 1 ≤ N) (h : PHeap) : CL g lf N fn_impl_triangleCell [.int .i64 (r : Int), .int .i64 (p : Int)] h = some (.int .i64 ((cellsT r + p : Nat) : Int), h) := by
  obtain ⟨n, rfl⟩ : ∃ n, N = n + 1 := ⟨N - 1, by omega⟩
  have hm : r * (r + 1) < 1000000 := Nat.lt_of_le_of_lt (Nat.mul_le_mul hr (by omega : r + 1 ≤ 101)) (by decide)
  have hm2 : r * (r + 1) < 4611686018427387904 := by omega
  have : W (CL g lf (n + 1) fn_impl_triangleCell [.int .i64 (r : Int), .int .i64 (p : Int)] h) fun v h' => v = .int .i64 ((cellsT r + p : Nat) : Int) ∧ h' = h := by
    rw [impl_triangleCell.call_eq]
    unfold impl_triangleCell.main
    simp only [env_bin]
    repeat (first | with_reducible refine wrI ?_ | (with_reducible refine wmulN hm2 ?_) | (with_reducible refine wquo2 (by omega) ?_) | with_reducible refine wadd1 (by omega) ?_ | with_reducible refine waddN (by omega) ?_)
    exact W.ret ⟨rfl, rfl⟩
  obtain ⟨_, h', e, rfl, rfl⟩ := this
  exact e

theorem triCell0_N {r : Nat} (hr : r ≤ 100) (N : Nat) (hN : 1 ≤ N) (h : PHeap) : CL g lf N fn_impl_triangleCell [.int .i64 (r : Int), .int .i64 0] h = some (.int .i64 (cellsT r : Int), h) := triCell_N g lf hr (Nat.zero_le 100) N hN h

theorem triSize_N {s : Nat} (hs : s ≤ 100) (N : Nat) (hN : 2 ≤ N) (h : PHeap) : CL g lf N fn_impl_triangleSize [.int .i64 (s : Int)] h = some (.int .i64 (cellsT s : Int), h) := by
  obtain ⟨n, rfl⟩ : ∃ n, N = n + 1 := ⟨N - 1, by omega⟩
  have e1 := triCell0_N g lf hs n (by omega) h
  have : W (CL g lf (n + 1) fn_impl_triangleSize [.int .i64 (s : Int)] h) fun v h' => v = .int .i64 (cellsT s : Int) ∧ h' = h := by
    rw [impl_triangleSize.call_eq]
    unfold impl_triangleSize.main
    simp only [env_C]
    repeat (first | with_reducible refine wrI ?_ | with_reducible refine wbd (by assumption) ?_ | dsimp only)
    exact W.ret ⟨rfl, rfl⟩
  obtain ⟨_, h', e, rfl, rfl⟩ := this
  exact e

theorem triPlace_N {k : Nat} (hk : k < 10) (N : Nat) (hN : 3 ≤ N) (hlf : 20 < lf) (h : PHeap) : CL g lf N fn_impl_trianglePlace [.int .i64 (k : Int)] h = some (.tup [.int .i64 (rowT k : Int), .int .i64 (plT k : Int)], h) := by
  obtain ⟨n, rfl⟩ : ∃ n, N = n + 1 := ⟨N - 1, by omega⟩
  have : W (CL g lf (n + 1) fn_impl_trianglePlace [.int .i64 (k : Int)] h) fun v h' => v = .tup [.int .i64 (rowT k : Int), .int .i64 (plT k : Int)] ∧ h' = h := by
    rw [impl_trianglePlace.call_eq]
    unfold impl_trianglePlace.main
    simp only [env_lf]
    refine loopW (fun m st => ∃ r : Nat, st = impl_trianglePlace.st0 (.int .i64 (k : Int)) (.int .i64 (r : Int)) h ∧ r + m = 4 ∧ 1 ≤ m ∧ cellsT r ≤ k) ?_ lf 4 _ (by omega) ⟨0, rfl, by omega, by omega, Nat.zero_le _⟩
    rintro n1 m st ⟨r, rfl, hrm, hm1, hc⟩ next
    have eS := triSize_N g lf (s := r + 1) (by omega) n (by omega) h
    have eS0 := triSize_N g lf (s := r) (by omega) n (by omega) h
    have h10 := cellsT_le (s := r + 1) (by omega)
    have hr4 : r + 1 = 4 → cellsT (r + 1) = 10 := fun e => by rw [e]; rfl
    obtain ⟨c1, hc1⟩ : ∃ c1, c1 = cellsT (r + 1) := ⟨_, rfl⟩
    have hpl := fun h2 => place_at (k := k) (r := r) hk (by omega) hc h2
    rw [← hc1] at eS h10 hr4 hpl
    obtain ⟨c0, hc0⟩ : ∃ c0, c0 = cellsT r := ⟨_, rfl⟩
    rw [← hc0] at eS0 hc hpl
    rw [impl_trianglePlace.body0_eq]
    unfold impl_trianglePlace.body0
    simp only [env_C, env_bin]
    by_cases hle : c1 ≤ k
    · repeat (first | with_reducible refine wT ?_ | with_reducible refine wbd (by assumption) ?_ | with_reducible refine wadd1 (by omega) ?_ | with_reducible refine wleqT (by omega) ?_ | dsimp only)
      refine next (m - 1) _ (by omega) ⟨r + 1, rfl, by omega, ?_, by rw [← hc1]; exact hle⟩
      have := fun e => hr4 e
      omega
    · obtain ⟨e1, e2⟩ := hpl (by omega)
      repeat (first | with_reducible refine wF ?_ | with_reducible refine wrI ?_ | with_reducible refine wbd (by assumption) ?_ | (with_reducible refine wsubK (by omega) (by omega) ?_) | with_reducible refine wadd1 (by omega) ?_ | with_reducible refine wleqF (by omega) ?_ | rw [kLoop_exit] | rw [impl_trianglePlace.after0_se0_0_4_9] | dsimp only | simp only [env_C, env_g, env_lf, env_pick, env_alloc, env_box, env_build, env_buildSlice, env_load, env_store, env_ptr, env_bin, env_un, env_conv, env_make, env_slice, env_fieldAddr, env_field, env_indexAddr, env_index, env_extract, env_len, env_append, env_max, env_min, env_makeMap, env_lookup, env_update])
      rw [e1, e2]
      exact W.ret ⟨rfl, rfl⟩
  obtain ⟨_, h', e, rfl, rfl⟩ := this
  exact e

theorem triSide_N (N : Nat) (hN : 1 ≤ N) (h : PHeap) (side : Int) : CL g lf N fn_impl_triangleSideOk [.int .i64 side] h = some (.bool (decide (1 ≤ side ∧ side ≤ 4)), h) := by
  obtain ⟨n, rfl⟩ : ∃ n, N = n + 1 := ⟨N - 1, by omega⟩
  have : W (CL g lf (n + 1) fn_impl_triangleSideOk [.int .i64 side] h) fun v h' => v = .bool (decide (1 ≤ side ∧ side ≤ 4)) ∧ h' = h := by
    rw [impl_triangleSideOk.call_eq]
    unfold impl_triangleSideOk.main
    simp only [env_pick, env_bin]
    by_cases h1 : 1 ≤ side
    · by_cases h2 : side ≤ 4
      · rw [decide_eq_true (⟨h1, h2⟩ : 1 ≤ side ∧ side ≤ 4)]
        repeat (first | with_reducible refine wg1 rfl ?_ | with_reducible refine wpT ?_ | with_reducible refine wpv ?_ | with_reducible refine wsm ?_ | with_reducible refine wrB ?_ | with_reducible refine wleqT (by omega) ?_ | with_reducible refine wgeqT (by omega) ?_ | dsimp only)
        exact W.ret ⟨rfl, rfl⟩
      · rw [decide_eq_false (show ¬ (1 ≤ side ∧ side ≤ 4) by omega)]
        repeat (first | with_reducible refine wg1 rfl ?_ | with_reducible refine wpT ?_ | with_reducible refine wpv ?_ | with_reducible refine wsm ?_ | with_reducible refine wrB ?_ | with_reducible refine wleqF (by omega) ?_ | with_reducible refine wgeqT (by omega) ?_ | dsimp only)
        exact W.ret ⟨rfl, rfl⟩
    · rw [decide_eq_false (show ¬ (1 ≤ side ∧ side ≤ 4) by omega)]
      repeat (first | with_reducible refine wg0 rfl ?_ | with_reducible refine wpF ?_ | with_reducible refine wsm ?_ | with_reducible refine wrB ?_ | with_reducible refine wgeqF (by omega) ?_ | dsimp only)
      exact W.ret ⟨rfl, rfl⟩
  obtain ⟨_, h', e, rfl, rfl⟩ := this
  exact e

end Go.Proofs.YtlefknibddkjpabDoor

/- The least cell of a set, as the library finds it by its table of 64 bytes; and comparing a slice with nil, copying it. -/
set_option maxRecDepth 20000
namespace Go.Proofs.YtlefknibddkjpabDoor
open Go Go.Ip G

/-- What the library computes, step by step. -/
def isU (o : Option PV) (a : Nat) : Bool := match o with | some (.int .u64 (.ofNat b)) => b == a | _ => false
theorem isU_eq {o : Option PV} {a : Nat} (h : isU o a = true) : o = some (.int .u64 (a : Int)) := by
  unfold isU at h
  split at h
  · have := beq_iff_eq.1 h; subst this; rfl
  · cases h
theorem tyTzU : Tryd.prog.underlying 47 = some (.array 64 5) := by kernel_rfl
theorem tyTz1 : sizeT Tryd.prog 5 = some 1 := by kernel_rfl
theorem tyTzA : isAggT Tryd.prog 5 = some false := by kernel_rfl
variable (g : Nat → PV) (lf n : Nat)

/-- The library's table is known to lie somewhere. -/
def Big (g : Nat → PV) : Prop := ∃ id, g 2 = .ptr id 0

/-! ### slices.Clone -/
end Go.Proofs.YtlefknibddkjpabDoor

/- Triangles by waves: what the program walks from side to side, as sets; sets of ten cells: the least cell, and how many there are. -/
set_option maxRecDepth 20000
namespace Go.Proofs.YtlefknibddkjpabDoor
open Go Go.Ip G

/-! ### waves -/
def lowT (x : Nat) : Nat := ((List.range 10).find? fun k => x.testBit k).getD 10
def aroundF (s : Nat) : Nat → Nat → Nat → Nat
  | 0, _, acc => acc
  | f + 1, rest, acc => if rest = 0 then acc else aroundF s f (rest &&& (rest - 1)) (acc ||| maskT s (lowT rest))
def aroundT (s X : Nat) : Nat := aroundF s 1024 X 0
def waveF (s thr : Nat) : Nat → Nat → Nat → Nat
  | 0, _, set => set
  | f + 1, wave, set => if wave = 0 then set else waveF s thr f (minusN (aroundT s wave &&& thr) set) (set ||| minusN (aroundT s wave &&& thr) set)
def waveT (s set thr : Nat) : Nat := waveF s thr 3000 set set
def edgeF (f : Nat → Nat) : Nat → Nat
  | 0 => 0
  | m + 1 => edgeF f m ||| (1 <<< f m)
def edgeK (s : Nat) : Nat → Nat → Nat
  | 0, r => cellsT r
  | 1, r => cellsT r + r
  | _, r => cellsT (s - 1) + r
def edgeT (s i : Nat) : Nat := edgeF (edgeK s i) s
def grpT (s own : Nat) : Nat → Nat
  | 0 => own
  | i + 1 => waveT s (edgeT s i &&& grpT s own i) (grpT s own i)
def touchT (s own : Nat) : Bool := !decide (grpT s own 3 = 0)
theorem touch_all : allTri (fun s A => touchT s A == lastT s A) = true := by kernel_rfl

theorem waveF_lt {s thr n : Nat} (ht : thr < 2 ^ n) : ∀ (f wave set : Nat), set < 2 ^ n → waveF s thr f wave set < 2 ^ n
  | 0, _, _, h => h
  | f + 1, wave, set, h => by
    rw [waveF]
    split
    · exact h
    · exact waveF_lt ht f _ _ (Nat.or_lt_two_pow h (minusN_lt (Nat.lt_of_le_of_lt Nat.and_le_right ht)))
theorem grpT_lt {s own n : Nat} (ho : own < 2 ^ n) : ∀ i, grpT s own i < 2 ^ n
  | 0 => ho
  | i + 1 => waveF_lt (grpT_lt ho i) _ _ _ (Nat.lt_of_le_of_lt Nat.and_le_right (grpT_lt ho i))
/-- A wave that is not empty brings cells. -/
theorem wave_more {set w thr : Nat} (h : minusN thr set ≠ 0) (hw : w = set ||| minusN thr set) : set < w := by
  have hle : set ≤ w := by rw [hw]; exact Nat.left_le_or
  rcases Nat.lt_or_ge set w with h1 | h1
  · exact h1
  · have he : set ||| minusN thr set = set := by omega
    exfalso
    apply h
    apply Nat.eq_of_testBit_eq
    intro j
    rw [Nat.zero_testBit]
    have := congrArg (fun x => x.testBit j) he
    simp only [Nat.testBit_or, minusN_bit] at this ⊢
    cases e1 : set.testBit j <;> cases e2 : thr.testBit j <;> rw [e1, e2] at this <;> first | rfl | (exact absurd this (by decide))

/-! ### sets of ten -/
def lsBT (x : Nat) : Bool := x.testBit (lowT x) && decide (lowT x < 10)
theorem lsT_all : ((List.range 1024).all fun x => x == 0 || lsBT x) = true := by kernel_rfl
theorem lowT_ok {x : Nat} (hx : x < 2 ^ 10) (h0 : x ≠ 0) : x.testBit (lowT x) = true ∧ lowT x < 10 := by
  have h := List.all_eq_true.1 lsT_all x (List.mem_range.2 hx)
  have h1 : lsBT x = true := by
    rcases Bool.or_eq_true_iff.1 h with h | h
    · exact absurd (by simpa using h) h0
    · exact h
  unfold lsBT at h1
  simpa using h1
def tz5T (x : Nat) : Nat := ((1 <<< lowT x) * 285870213051353865) % 2 ^ 64
def tz6T (x : Nat) : Nat := tz5T x / 2 ^ 58
noncomputable def tzBT (x : Nat) : Bool := isU (unP .neg (.int .u64 (x : Int))) (2 ^ 64 - x) && (isU (binP Tryd.prog .and 42 (.int .u64 (x : Int)) (.int .u64 ((2 ^ 64 - x : Nat) : Int))) (1 <<< lowT x) &&
  (isU (binP Tryd.prog .mul 42 (.int .u64 ((1 <<< lowT x : Nat) : Int)) (.int .u64 285870213051353865)) (tz5T x) && (isU (binP Tryd.prog .shr 42 (.int .u64 (tz5T x : Int)) (.int .u64 58)) (tz6T x) && tab64N[tz6T x]? == some (lowT x))))
theorem tzT_all : ((List.range 32).all fun a => (List.range 32).all fun b => (a == 0 && b == 0) || tzBT (a * 32 + b)) = true := by kernel_rfl
theorem tzT_one {x : Nat} (hx : x < 2 ^ 10) (h0 : x ≠ 0) : tzBT x = true := by
  have h := List.all_eq_true.1 (List.all_eq_true.1 tzT_all (x / 32) (List.mem_range.2 (by omega))) (x % 32) (List.mem_range.2 (by omega))
  rcases Bool.or_eq_true_iff.1 h with h | h
  · rw [Bool.and_eq_true, beq_iff_eq, beq_iff_eq] at h; omega
  · rw [show x / 32 * 32 + x % 32 = x by omega] at h; exact h
theorem tzT_steps {x : Nat} (hx : x < 2 ^ 10) (h0 : x ≠ 0) : ∃ v3 v4 v5, ∃ i : Nat, unP .neg (.int .u64 (x : Int)) = some v3 ∧ binP Tryd.prog .and 42 (.int .u64 (x : Int)) v3 = some v4 ∧ binP Tryd.prog .mul 42 v4 (.int .u64 285870213051353865) = some v5 ∧
    binP Tryd.prog .shr 42 v5 (.int .u64 58) = some (.int .u64 (i : Int)) ∧ tab64N[i]? = some (lowT x) := by
  have h1 := tzT_one hx h0
  unfold tzBT at h1
  obtain ⟨a, h1⟩ := Bool.and_eq_true_iff.1 h1
  obtain ⟨b, h1⟩ := Bool.and_eq_true_iff.1 h1
  obtain ⟨c, h1⟩ := Bool.and_eq_true_iff.1 h1
  obtain ⟨d, h1⟩ := Bool.and_eq_true_iff.1 h1
  exact ⟨_, _, _, _, isU_eq a, isU_eq b, isU_eq c, isU_eq d, beq_iff_eq.1 h1⟩
theorem tzConvT (l : Nat) (hl : l < 10) : convP Tryd.prog 5 3 (.int .u8 (l : Int)) = some (.int .i64 (l : Int)) := by
  have : convP Tryd.prog 5 3 (.int .u8 (l : Int)) = some (.int .i64 (IntKind.i64.wrap (l : Int))) := by kernel_rfl
  rw [this, wr (by omega)]
theorem tzConvT2 (x : Nat) (hx : x < 2 ^ 10) : convP Tryd.prog 3 33 (.int .i64 (x : Int)) = some (.int .u64 (x : Int)) := by
  have : convP Tryd.prog 3 33 (.int .i64 (x : Int)) = some (.int .u64 (IntKind.u64.wrap (x : Int))) := by kernel_rfl
  rw [this]
  have : IntKind.u64.wrap (x : Int) = (x : Int) := by unfold IntKind.wrap; simp [IntKind.bits, IntKind.signed]; omega
  rw [this]

variable (g : Nat → PV) (lf n : Nat)

theorem tz64T_W {x : Nat} (hx : x < 2 ^ 10) (h0 : x ≠ 0) (hb : Big g) {h : PHeap} (ht : Tab64 g h) (N : Nat) (hN : 1 ≤ N) : CL g lf N fn_bits_TrailingZeros64 [.int .u64 (x : Int)] h = some (.int .i64 (lowT x : Int), h) := by
  obtain ⟨n, rfl⟩ : ∃ n, N = n + 1 := ⟨N - 1, by omega⟩
  obtain ⟨id, hg⟩ := hb
  have ho := ht id hg
  obtain ⟨v3, v4, v5, i, e3, e4, e5, e6, hi⟩ := tzT_steps hx h0
  have hi64 : i < 64 := (List.getElem?_eq_some_iff.1 hi).1
  have e7 : indexAddrP Tryd.prog 47 (.ptr id 0) (.int .u64 (i : Int)) = some (.ptr id i) := by simp [indexAddrP, tyTzU, tyTz1]; omega
  have e8 : loadP Tryd.prog 5 (.ptr id i) h = some (.int .u8 (lowT x : Int)) := by
    simp [loadP, tyTzA, cellsAt, ho, PObj.get, tab64Cells, hi]
  have e9 := tzConvT (lowT x) (lowT_ok hx h0).2
  have : W (CL g lf (n + 1) fn_bits_TrailingZeros64 [.int .u64 (x : Int)] h) fun v h' => v = .int .i64 (lowT x : Int) ∧ h' = h := by
    rw [bits_TrailingZeros64.call_eq]
    unfold bits_TrailingZeros64.main
    simp only [env_g, env_load, env_bin, env_un, env_conv, env_indexAddr]
    refine weqlF (by omega) ?_
    rw [hg]
    repeat (first | with_reducible refine wF ?_ | with_reducible refine wrI ?_ | with_reducible refine wbd (by assumption) ?_)
    exact W.ret ⟨rfl, rfl⟩
  obtain ⟨_, _, e, rfl, rfl⟩ := this
  exact e

theorem leastInT_W {x : Nat} (hx : x < 2 ^ 10) (h0 : x ≠ 0) (hb : Big g) {h : PHeap} (ht : Tab64 g h) (N : Nat) (hN : 3 ≤ N) : CL g lf N fn_impl_leastIn [.int .i64 (x : Int)] h = some (.int .i64 (lowT x : Int), h) := by
  obtain ⟨n, rfl⟩ : ∃ n, N = n + 1 := ⟨N - 1, by omega⟩
  obtain ⟨n, rfl⟩ : ∃ m, n = m + 1 := ⟨n - 1, by omega⟩
  have e1 := tzConvT2 x hx
  have e2 := tz64T_W g lf hx h0 hb ht n (by omega)
  have e3 : CL g lf (n + 1) fn_bits_TrailingZeros [.int .u64 (x : Int)] h = some (.int .i64 (lowT x : Int), h) := by
    have : W (CL g lf (n + 1) fn_bits_TrailingZeros [.int .u64 (x : Int)] h) fun v h' => v = .int .i64 (lowT x : Int) ∧ h' = h := by
      rw [bits_TrailingZeros.call_eq]
      unfold bits_TrailingZeros.main
      simp only [env_C, env_conv]
      repeat (first | with_reducible refine wF ?_ | with_reducible refine wrI ?_ | with_reducible refine wbd (by assumption) ?_ | dsimp only)
      exact W.ret ⟨rfl, rfl⟩
    obtain ⟨_, _, e, rfl, rfl⟩ := this
    exact e
  have : W (CL g lf (n + 1 + 1) fn_impl_leastIn [.int .i64 (x : Int)] h) fun v h' => v = .int .i64 (lowT x : Int) ∧ h' = h := by
    rw [impl_leastIn.call_eq]
    unfold impl_leastIn.main
    simp only [env_C, env_conv]
    repeat (first | with_reducible refine wrI ?_ | with_reducible refine wbd (by assumption) ?_ | dsimp only)
    exact W.ret ⟨rfl, rfl⟩
  obtain ⟨_, _, e, rfl, rfl⟩ := this
  exact e

theorem onesT_all (h : PHeap) : ((List.range 32).map fun a => (List.range 32).map fun b => bits_OnesCount64.main (env g lf n) (.int .u64 ((a * 32 + b : Nat) : Int)) h) = (List.range 32).map fun a => (List.range 32).map fun b => some (PV.int .i64 ((popT (a * 32 + b) : Nat) : Int), h) := by kernel_rfl
theorem onesT_at (h : PHeap) {x : Nat} (hx : x < 1024) : bits_OnesCount64.main (env g lf n) (.int .u64 (x : Int)) h = some (.int .i64 ((popT x : Nat) : Int), h) := by
  have h1 := congrArg (fun l => (l[x / 32]?).bind fun r => r[x % 32]?) (onesT_all g lf n h)
  simp only [List.getElem?_map, List.getElem?_range (show x / 32 < 32 by omega), List.getElem?_range (show x % 32 < 32 by omega), Option.map_some, Option.bind_some, Option.some.injEq] at h1
  rw [show x / 32 * 32 + x % 32 = x by omega] at h1
  exact h1
theorem countInT_W (N : Nat) (hN : 3 ≤ N) (h : PHeap) {x : Nat} (hx : x < 1024) : CL g lf N fn_impl_countIn [.int .i64 (x : Int)] h = some (.int .i64 ((popT x : Nat) : Int), h) := by
  obtain ⟨n, rfl⟩ : ∃ n, N = n + 3 := ⟨N - 3, by omega⟩
  have e64 : CL g lf (n + 1) fn_bits_OnesCount64 [.int .u64 (x : Int)] h = some (.int .i64 ((popT x : Nat) : Int), h) := by
    rw [bits_OnesCount64.call_eq]; exact onesT_at g lf n h hx
  have e1 : CL g lf (n + 2) fn_bits_OnesCount [.int .u64 (x : Int)] h = some (.int .i64 ((popT x : Nat) : Int), h) := by
    rw [bits_OnesCount.call_eq]
    unfold bits_OnesCount.main
    simp only [env_C]
    rw [e64]
    rfl
  rw [impl_countIn.call_eq]
  unfold impl_countIn.main
  simp only [env_C, env_conv]
  rw [tzConvT2 x (by omega)]
  simp only [Option.bind_some]
  rw [e1]
  rfl

end Go.Proofs.YtlefknibddkjpabDoor

/- The program's search: structs and a map on the interpreter's heap; the sets' joining; what stands after a move. -/
set_option maxRecDepth 20000
namespace Go.Proofs.YtlefknibddkjpabDoor
open Go Go.Ip G

/-! ### objects by themselves, and what keeps all but one -/
def At (h : PHeap) (id : Nat) (l : List PV) : Prop := h[id]? = some (.own 1 l)
theorem At.lt {h : PHeap} {id : Nat} {l : List PV} (a : At h id l) : id < h.length := (List.getElem?_eq_some_iff.1 a).1
/-- All is as it was but the object m, and what is behind. -/
def KB (m : Nat) (h h' : PHeap) : Prop := h.length ≤ h'.length ∧ ∀ i, i < h.length → i ≠ m → h'[i]? = h[i]?
theorem KB.refl (m : Nat) (h : PHeap) : KB m h h := ⟨Nat.le_refl _, fun _ _ _ => rfl⟩
theorem KB.trans {m : Nat} {a b c : PHeap} (h : KB m a b) (k : KB m b c) : KB m a c := ⟨Nat.le_trans h.1 k.1, fun i hi hn => (k.2 i (Nat.lt_of_lt_of_le hi h.1) hn).trans (h.2 i hi hn)⟩
theorem Keep.kb {m : Nat} {a b : PHeap} (h : Keep a.length a b) : KB m a b := ⟨h.1, fun i hi _ => h.2 i hi⟩
theorem KB.keep {m n : Nat} {a b : PHeap} (h : KB m a b) (hm : n ≤ m) (hn : n ≤ a.length) : Keep n a b := ⟨h.1, fun i hi => h.2 i (Nat.lt_of_lt_of_le hi hn) (by omega)⟩
theorem At.keep {h h' : PHeap} {id : Nat} {l : List PV} (a : At h id l) (k : Keep h.length h h') : At h' id l := by unfold At; rw [k.2 id a.lt]; exact a
theorem At.kb {h h' : PHeap} {id m : Nat} {l : List PV} (a : At h id l) (k : KB m h h') (hn : id ≠ m) : At h' id l := by unfold At; rw [k.2 id a.lt hn]; exact a
def MapAt (h : PHeap) (m : Nat) (es : List (PV × PV)) : Prop := h[m]? = some (.mp es)
theorem MapAt.lt {h : PHeap} {m : Nat} {es : List (PV × PV)} (a : MapAt h m es) : m < h.length := (List.getElem?_eq_some_iff.1 a).1
theorem MapAt.keep {h h' : PHeap} {m : Nat} {es : List (PV × PV)} (a : MapAt h m es) (k : Keep h.length h h') : MapAt h' m es := by unfold MapAt; rw [k.2 m a.lt]; exact a
theorem MapAt.kb {h h' : PHeap} {id m : Nat} {es : List (PV × PV)} (a : MapAt h m es) (k : KB id h h') (hn : m ≠ id) : MapAt h' m es := by unfold MapAt; rw [k.2 m a.lt hn]; exact a
theorem Fix.kb {b m : Nat} {h h' : PHeap} {p : PV} {xs : List Int} (s : Fix b h p xs) (k : KB m h h') (hb : b ≤ m) (hb2 : b ≤ h.length) : Fix b h' p xs := s.keep (k.keep hb hb2)

section
variable {Q : PV → PHeap → Prop} {h : PHeap}
/-- A new object. -/
theorem wnew {l : List PV} {x : Res} {f : PV × PHeap → Res} (hx : x = some (.ptr h.length 0, h ++ [.own 1 l])) (hf : ∀ h' id, At h' id l → Keep h.length h h' → h.length ≤ id → W (f (.ptr id 0, h')) Q) : W (x.bind f) Q := by
  rw [hx]
  exact hf _ _ (by unfold At; simp) (Keep.append _ _ _ (Nat.le_refl _)) (Nat.le_refl _)
/-- An object is written to. -/
theorem put_at {id : Nat} {l l' : List PV} (a : At h id l) : At (h.set id (.own 1 l')) id l' ∧ KB id h (h.set id (.own 1 l')) := by
  refine ⟨by unfold At; rw [List.getElem?_set_self a.lt], by simp, fun i _ hn => List.getElem?_set_ne (by omega)⟩
end

/-! ### types -/
theorem tyA3 : Tryd.prog.underlying 34 = some (.array 3 3) := by kernel_rfl
theorem ia3 (id o i : Nat) (hi : i < 3) : indexAddrP Tryd.prog 34 (.ptr id o) (.int .i64 (i : Int)) = some (.ptr id (o + i)) := by simp [indexAddrP, tyA3, tySize]; omega
theorem ld1 {h : PHeap} {id i : Nat} {l : List PV} {v : PV} (a : At h id l) (hv : l[i]? = some v) : loadP Tryd.prog 3 (.ptr id i) h = some v := by
  simp [loadP, tyAgg, cellsAt, show h[id]? = some (.own 1 l) from a, PObj.get, hv]
theorem st1 {h : PHeap} {id i : Nat} {l : List PV} {x : Int} (a : At h id l) (hi : i < l.length) : storeP Tryd.prog 3 (.ptr id i) (.int .i64 x) h = some (h.set id (.own 1 (l.set i (.int .i64 x)))) := by
  simp [storeP, show h[id]? = some (.own 1 l) from a, PV.cells, tySize, setCells]; omega

/-! ### what stands -/
section
variable {Q : PV → PHeap → Prop} {h : PHeap} {id f a b t : Nat}
theorem wst1 {i : Nat} {l : List PV} {x : Int} (o : At h id l) (hi : i < l.length) {F : PHeap → Res} (hf : ∀ h', At h' id (l.set i (.int .i64 x)) → KB id h h' → W (F h') Q) : W ((storeP Tryd.prog 3 (.ptr id i) (.int .i64 x) h).bind F) Q := by
  rw [st1 o hi]; exact hf _ (put_at o).1 (put_at o).2
end

variable (g : Nat → PV) (lf n : Nat)

theorem Keep.kbs {n m : Nat} {a b c : PHeap} (k : Keep n a b) (hn : n ≤ a.length) (k' : KB m b c) (hm : n ≤ m) : Keep n a c := k.trans (k'.keep hm (Nat.le_trans hn k.1))
/-! ### a board's search -/
end Go.Proofs.YtlefknibddkjpabDoor

