/- Texts of this seat, in their order, put together by program. -/
import Derived.Test.YtpaehbfknlpkbadDoorK1
import Derived.Laws.AppendOwn
import Derived.Laws.MakeOwn
import Derived.RangeFuncRecord
set_option linter.unusedSimpArgs false
set_option linter.unusedVariables false
set_option linter.unusedSectionVars false
/- The relation between the interpreter's values and heap and the machine's, and what keeps it: a new block, a write to a row of the call's own, an object that goes on under a new name. -/
set_option maxRecDepth 20000
namespace Go.Ip
open Go Go.RowKit

def All2 {α β : Type} (R : α → β → Prop) : List α → List β → Prop
  | [], [] => True
  | a :: as, b :: bs => R a b ∧ All2 R as bs
  | _, _ => False

theorem All2.length {α β : Type} {R : α → β → Prop} : ∀ {as : List α} {bs : List β}, All2 R as bs → as.length = bs.length
  | [], [], _ => rfl
  | _ :: _, _ :: _, h => by simp [All2.length h.2]
  | [], _ :: _, h => h.elim
  | _ :: _, [], h => h.elim

theorem All2.get {α β : Type} {R : α → β → Prop} : ∀ {as : List α} {bs : List β}, All2 R as bs → ∀ {i : Nat} {a : α}, as[i]? = some a → ∃ b, bs[i]? = some b ∧ R a b
  | [], [], _, i, a, h => by simp at h
  | x :: xs, y :: ys, h, 0, a, ha => by simp at ha; subst ha; exact ⟨y, by simp, h.1⟩
  | x :: xs, y :: ys, h, i + 1, a, ha => by
    obtain ⟨b, hb, r⟩ := All2.get h.2 (i := i) (a := a) (by simpa using ha)
    exact ⟨b, by simpa using hb, r⟩
  | [], _ :: _, h, _, _, _ => h.elim
  | _ :: _, [], h, _, _, _ => h.elim

theorem All2.of_get {α β : Type} {R : α → β → Prop} : ∀ {as : List α} {bs : List β}, as.length = bs.length → (∀ (i : Nat) a, as[i]? = some a → ∃ b, bs[i]? = some b ∧ R a b) → All2 R as bs
  | [], [], _, _ => trivial
  | x :: xs, y :: ys, hl, h => by
    refine ⟨?_, All2.of_get (by simpa using hl) (fun i a ha => ?_)⟩
    · obtain ⟨b, hb, r⟩ := h 0 x (by simp)
      simp at hb; subst hb; exact r
    · obtain ⟨b, hb, r⟩ := h (i + 1) a (by simpa using ha)
      exact ⟨b, by simpa using hb, r⟩
  | [], _ :: _, hl, _ => by simp at hl
  | _ :: _, [], hl, _ => by simp at hl

theorem All2.mono {α β : Type} {R R' : α → β → Prop} (hr : ∀ a b, R a b → R' a b) : ∀ {as : List α} {bs : List β}, All2 R as bs → All2 R' as bs
  | [], [], _ => trivial
  | _ :: _, _ :: _, h => ⟨hr _ _ h.1, All2.mono hr h.2⟩
  | [], _ :: _, h => h.elim
  | _ :: _, [], h => h.elim

theorem All2.set {α β : Type} {R : α → β → Prop} : ∀ {as : List α} {bs : List β}, All2 R as bs → ∀ (i : Nat) {a : α} {b : β}, R a b → All2 R (as.set i a) (bs.set i b)
  | [], [], _, i, _, _, _ => by simp [All2]
  | _ :: _, _ :: _, h, 0, _, _, r => ⟨r, h.2⟩
  | _ :: _, _ :: _, h, i + 1, _, _, r => ⟨h.1, All2.set h.2 i r⟩
  | [], _ :: _, h, _, _, _, _ => h.elim
  | _ :: _, [], h, _, _, _, _ => h.elim

theorem All2.append {α β : Type} {R : α → β → Prop} : ∀ {as : List α} {bs : List β}, All2 R as bs → ∀ {cs : List α} {ds : List β}, All2 R cs ds → All2 R (as ++ cs) (bs ++ ds)
  | [], [], _, _, _, h => h
  | _ :: _, _ :: _, h, _, _, h' => ⟨h.1, All2.append h.2 h'⟩
  | [], _ :: _, h, _, _, _ => h.elim
  | _ :: _, [], h, _, _, _ => h.elim

theorem All2.map {α β γ : Type} {R : α → β → Prop} (f : γ → α) (g : γ → β) : ∀ (l : List γ), (∀ x ∈ l, R (f x) (g x)) → All2 R (l.map f) (l.map g)
  | [], _ => trivial
  | x :: xs, h => ⟨h x (by simp), All2.map f g xs (fun y hy => h y (by simp [hy]))⟩

theorem All2.replicate {α β : Type} {R : α → β → Prop} {a : α} {b : β} (r : R a b) : ∀ n, All2 R (List.replicate n a) (List.replicate n b)
  | 0 => trivial
  | n + 1 => ⟨r, All2.replicate r n⟩

theorem All2.take {α β : Type} {R : α → β → Prop} : ∀ {as : List α} {bs : List β}, All2 R as bs → ∀ n, All2 R (as.take n) (bs.take n)
  | [], [], _, n => by simp [All2]
  | _ :: _, _ :: _, _, 0 => by simp [All2]
  | _ :: _, _ :: _, h, n + 1 => ⟨h.1, All2.take h.2 n⟩
  | [], _ :: _, h, _ => h.elim
  | _ :: _, [], h, _ => h.elim

theorem All2.drop {α β : Type} {R : α → β → Prop} : ∀ {as : List α} {bs : List β}, All2 R as bs → ∀ n, All2 R (as.drop n) (bs.drop n)
  | [], [], _, n => by simp [All2]
  | _ :: _, _ :: _, h, 0 => h
  | _ :: _, _ :: _, h, n + 1 => All2.drop h.2 n
  | [], _ :: _, h, _ => h.elim
  | _ :: _, [], h, _ => h.elim

/-- Where an object lies: its block, where in it, how many cells of the block it may reach, and the cells of an element. -/
structure Loc where
  block : Nat
  off : Nat
  size : Nat
  esz : Nat

/-- The world that is told from, and blocks that are nobody's. -/
structure Base extends World where
  F : Nat → Prop
instance : Coe World Base := ⟨fun w => { toWorld := w, F := fun _ => False }⟩
/-- The same blocks, another world. -/
abbrev Base.at (W : Base) (w : World) : Base := { toWorld := w, F := W.F }

/-- What a slice's address and room are, by the object's place, where its cells begin there: its cells up to the object's end; an empty one without room may have come in from outside, its address told by the place (of no cells), or be the end of another one (then of its address nothing is known). -/
def SlOk (l : Loc) (off cap : Nat) (ad : Addr) : Prop :=
  (ad = ⟨l.block, l.off + off, none⟩ ∧ l.off + off + cap * l.esz = l.size ∧ 0 < l.esz) ∨ (cap = 0 ∧ (off = 0 → l.esz = 0 ∧ ad = ⟨l.block, l.off, if l.size = 0 then none else some (l.size - 1)⟩))
theorem SlOk.weak {l : Loc} {off cap : Nat} {ad : Addr} (h : SlOk l off cap ad) : cap = 0 ∨ (ad = ⟨l.block, l.off + off, none⟩ ∧ l.off + off + cap * l.esz ≤ l.size) := by
  rcases h with ⟨h1, h2, _⟩ | ⟨h, _⟩
  · exact .inr ⟨h1, Nat.le_of_eq h2⟩
  · exact .inl h
/-- Where it begins with its object, or is not empty, a slice's address and room are told by its object, its place and its length. -/
theorem SlOk.same {l : Loc} {off cap cap' len : Nat} {ad ad' : Addr} (h : SlOk l off cap ad) (h' : SlOk l off cap' ad') (h1 : len ≤ cap) (h2 : len ≤ cap') (h0 : off = 0 ∨ 0 < len) : ad = ad' ∧ cap = cap' := by
  rcases h with ⟨a1, a2, a3⟩ | ⟨a1, a2⟩ <;> rcases h' with ⟨b1, b2, b3⟩ | ⟨b1, b2⟩
  · exact ⟨a1.trans b1.symm, Nat.eq_of_mul_eq_mul_right a3 (by omega)⟩
  · have hz : off = 0 := by omega
    obtain ⟨e, _⟩ := b2 hz
    omega
  · have hz : off = 0 := by omega
    obtain ⟨e, _⟩ := a2 hz
    omega
  · have hz : off = 0 := by omega
    exact ⟨(a2 hz).2.trans (b2 hz).2.symm, a1.trans b1.symm⟩
/-- The place of an empty slice without room that came in. -/
def oddLoc (x : Addr) : Loc := ⟨x.block, x.off, match x.spot with | none => 0 | some k => k + 1, 0⟩
theorem odd_ok (x : Addr) : SlOk (oddLoc x) 0 0 x := by
  refine .inr ⟨rfl, fun _ => ⟨rfl, ?_⟩⟩
  obtain ⟨b, o, s⟩ := x
  cases s with
  | none => rfl
  | some k => simp [oddLoc]
def repc (μ : List Loc) : PV → Value → Prop
  | .junk, v => v.oneCell' = true
  | .int k n, v => v = .int k n
  | .bool b, v => v = .bool b
  | .str s, v => v = .string s
  | .nilp, v => v = .pointer none
  | .ptr id off, v => ∃ l, μ[id]? = some l ∧ v = .pointer (some ⟨l.block, l.off + off, none⟩)
  | .nilsl, v => v = .slice none 0 0
  | .sl id off len, v => ∃ l cap ad, μ[id]? = some l ∧ v = .slice (some ad) len cap ∧ len ≤ cap ∧ SlOk l off cap ad
  | .mapv id, v => ∃ l, μ[id]? = some l ∧ v = .map (some l.block)
  | .fn f, v => v = .func (.func f) #[] #[]
  | .clo f cs, v => ∃ xs : Array Value, v = .func (.func f) #[] xs ∧ All2 (fun (p : Nat × Nat) (x : Value) => ∃ l, μ[p.1]? = some l ∧ x = .pointer (some ⟨l.block, l.off + p.2, none⟩)) cs xs.toList
  | .yld id, v => ∃ l, μ[id]? = some l ∧ v = .func (.yield l.block) #[] #[]
  | .agg _, _ => False
  | .tup _, _ => False

def repa (μ : List Loc) : PV → Value → Prop
  | .agg l, v => ∃ xs : Array Value, v = .agg xs ∧ All2 (repc μ) l xs.toList
  | .junk, _ => True
  | p, v => repc μ p v

def rep (μ : List Loc) : PV → Value → Prop
  | .tup l, v => ∃ xs : Array Value, v = .tuple xs ∧ All2 (repa μ) l xs.toList
  | p, v => repa μ p v

theorem get_prefix {α : Type} {μ μ' : List α} (h : μ <+: μ') {i : Nat} {l : α} (hl : μ[i]? = some l) : μ'[i]? = some l := by
  obtain ⟨ν, rfl⟩ := h
  have : i < μ.length := (List.getElem?_eq_some_iff.1 hl).1
  rw [List.getElem?_append_left this]; exact hl

theorem repc.mono {μ μ' : List Loc} (h : μ <+: μ') {p : PV} {v : Value} (r : repc μ p v) : repc μ' p v := by
  cases p <;> simp only [repc] at r ⊢ <;> try exact r
  · obtain ⟨l, hl, rest⟩ := r; exact ⟨l, get_prefix h hl, rest⟩
  · obtain ⟨l, cap, oo, hl, rest⟩ := r; exact ⟨l, cap, oo, get_prefix h hl, rest⟩
  · obtain ⟨l, hl, rest⟩ := r; exact ⟨l, get_prefix h hl, rest⟩
  · obtain ⟨xs, e, a⟩ := r; exact ⟨xs, e, a.mono fun _ _ ⟨l, hl, e⟩ => ⟨l, get_prefix h hl, e⟩⟩
  · obtain ⟨l, hl, rest⟩ := r; exact ⟨l, get_prefix h hl, rest⟩

theorem repa.mono {μ μ' : List Loc} (h : μ <+: μ') {p : PV} {v : Value} (r : repa μ p v) : repa μ' p v := by
  cases p <;> simp only [repa] at r ⊢ <;> try exact r.mono h
  obtain ⟨xs, e, a⟩ := r; exact ⟨xs, e, a.mono fun _ _ => repc.mono h⟩

theorem rep.mono {μ μ' : List Loc} (h : μ <+: μ') {p : PV} {v : Value} (r : rep μ p v) : rep μ' p v := by
  cases p <;> simp only [rep] at r ⊢ <;> try exact r.mono h
  obtain ⟨xs, e, a⟩ := r; exact ⟨xs, e, a.mono fun _ _ => repa.mono h⟩

theorem repc.oneCell {μ : List Loc} {p : PV} {v : Value} (r : repc μ p v) : v.oneCell' = true := by
  cases p <;> simp only [repc] at r
  · exact r
  all_goals first
    | (subst r; rfl)
    | (obtain ⟨l, _, rfl⟩ := r; rfl)
    | (obtain ⟨l, cap, oo, _, rfl, _⟩ := r; rfl)
    | (obtain ⟨xs, rfl, _⟩ := r; rfl)
    | exact r.elim

theorem repc.rep {μ : List Loc} {p : PV} {v : Value} (r : repc μ p v) : rep μ p v := by
  cases p <;> simp only [Ip.rep, repa] <;> first | exact r | trivial | exact r.elim

theorem repa.rep {μ : List Loc} {p : PV} {v : Value} (r : repa μ p v) : rep μ p v := by
  cases p <;> simp only [Ip.rep] <;> try exact r
  exact r.elim

theorem cells_one {v : Value} (h : v.oneCell' = true) : v.cells = #[v] := by cases v <;> first | rfl | simp [Value.oneCell'] at h

/-- The cells of a value that may be stored are the cells of what it stands for. -/
theorem rep.cells {μ : List Loc} {p : PV} {v : Value} {ps : List PV} (r : rep μ p v) (h : p.cells = some ps) : All2 (repc μ) ps v.cells.toList := by
  cases p <;> simp only [PV.cells] at h
  case agg l =>
    split at h
    · cases h
      simp only [rep, repa] at r
      obtain ⟨xs, rfl, a⟩ := r
      exact a
    · cases h
  case junk => cases h
  case tup => cases h
  all_goals
    cases h
    simp only [rep, repa] at r
    rw [cells_one r.oneCell]
    exact ⟨r, trivial⟩

theorem ofV1_rep (μ : List Loc) (v : Value) (h : v.oneCell' = true) : repc μ (ofV1 v) v := by
  unfold ofV1
  split <;> simp_all [repc]

theorem cells1_eq (v : Value) : cells1 v = v.oneCell' := by cases v <;> rfl

theorem ofV_rep (μ : List Loc) (v : Value) : rep μ (ofV v) v := by
  unfold ofV
  split
  · rename_i cs
    split
    · rename_i hall
      refine ⟨cs, rfl, ?_⟩
      have := All2.map (R := repc μ) ofV1 id cs.toList (fun x hx => ofV1_rep μ x (by rw [← cells1_eq]; exact List.all_eq_true.1 hall x hx))
      simpa using this
    · trivial
  · rename_i cs
    split
    · rename_i h0
      refine ⟨cs, rfl, ?_⟩
      have : cs.toList = [] := by simpa using h0
      rw [this]; trivial
    · trivial
  · rename_i h1 h2
    have : v.oneCell' = true := by cases v <;> first | rfl | (exfalso; exact h1 _ rfl) | (exfalso; exact h2 _ rfl)
    exact (ofV1_rep μ v this).rep

def OkCells (μ : List Loc) (cs : List PV) (at_ : Nat → Option Value) : Prop := ∀ (j : Nat) p, cs[j]? = some p → ∃ x, at_ j = some x ∧ repc μ p x

/-- The machine's words for a record's state, and for the jump that a round has left. -/
def stOf : Nat → LoopState
  | 0 => .ready
  | 1 => .busy
  | _ => .done
def codeOf : PX → Option Code
  | .normal => none
  | .exit id => some (.exit id)
  | .ret => some .ret
def PObj.isLp : PObj → Bool
  | .lp _ _ _ _ _ _ _ => true
  | _ => false

def RecOk (μ : List Loc) (st : Nat) (r : List PV) (ps : List Tmp) (a b : Code) (pe : Option PX) (rec : Loop) : Prop :=
  rec.state = stOf st ∧ rec.pending = pe.bind codeOf ∧ rec.params.toList = ps ∧ rec.assign = a ∧ rec.body = b ∧ All2 (rep μ) r rec.tmps.toList

def ObjOk (B : Nat) (μ : List Loc) (w : World) (l : Loc) : PObj → Prop
  | .dead => True
  | .ro e cs => l.esz = e ∧ l.block < B ∧ OkCells μ cs fun j => w.cell? ⟨l.block, l.off + j, none⟩
  | .own e cs => l.esz = e ∧ B ≤ l.block ∧ l.off + cs.length ≤ l.size ∧ ∃ c el, w.heap[l.block]? = some (.cells c el (0, 0)) ∧ l.size ≤ c.size ∧ OkCells μ cs fun j => c[l.off + j]?
  | .mp es => B ≤ l.block ∧ ∃ ms clock, w.heap[l.block]? = some (.map ms clock) ∧ ms.toList.Pairwise (fun x y => x.key ≠ y.key) ∧ All2 (fun (p : PV × PV) (e : MapEntry) => keyV p.1 = some e.key ∧ repc μ p.2 e.val) es ms.toList
  | .lp st _ r ps a b pe => B ≤ l.block ∧ ∃ rec : Loop, w.heap[l.block]? = some (.loop rec) ∧ RecOk μ st r ps a b pe rec

/-- No live object's name is nobody's. -/
def OffF (W : Base) (μ : List Loc) (h : PHeap) : Prop := ∀ (i : Nat) o l, h[i]? = some o → o ≠ .dead → μ[i]? = some l → ¬ W.F l.block
theorem OffF.app {W : Base} {μ : List Loc} {h : PHeap} (f : OffF W μ h) (hl : μ.length = h.length) {x : PObj} {y : Loc} (hy : x = .dead ∨ ¬ W.F y.block) : OffF W (μ ++ [y]) (h ++ [x]) := by
  intro i o l ho hd hl'
  rcases Nat.lt_trichotomy i h.length with hlt | rfl | hgt
  · rw [List.getElem?_append_left hlt] at ho
    rw [List.getElem?_append_left (by rw [hl]; exact hlt)] at hl'
    exact f i o l ho hd hl'
  · simp at ho
    rw [← hl] at hl'
    simp at hl'
    subst ho hl'
    rcases hy with rfl | hy
    · exact absurd rfl hd
    · exact hy
  · rw [List.getElem?_eq_none (by simp; omega)] at ho
    cases ho
theorem OffF.set {W : Base} {μ : List Loc} {h : PHeap} (f : OffF W μ h) {id : Nat} {x : PObj} (hx : x = .dead ∨ ∃ o, h[id]? = some o ∧ o ≠ .dead) : OffF W μ (h.set id x) := by
  intro i o l ho hd hl
  by_cases hi : i = id
  · subst hi
    rcases hx with rfl | ⟨o0, h0, hd0⟩
    · by_cases hlt : i < h.length
      · rw [List.getElem?_set_self hlt] at ho
        cases ho
        exact absurd rfl hd
      · rw [List.getElem?_eq_none (by simp; omega)] at ho
        cases ho
    · exact f i o0 l h0 hd0 hl
  · rw [List.getElem?_set_ne (by omega)] at ho
    exact f i o l ho hd hl

structure Sim (B : Nat) (W : Base) (μ : List Loc) (h : PHeap) (w : World) : Prop where
  len : μ.length = h.length
  below : Below B W.toWorld w
  base : B ≤ w.heap.size
  obj : ∀ (id : Nat) o l, h[id]? = some o → μ[id]? = some l → ObjOk B μ w l o
  inj : ∀ (i j : Nat) li lj ei ci ej cj, i ≠ j → h[i]? = some (.own ei ci) → h[j]? = some (.own ej cj) → μ[i]? = some li → μ[j]? = some lj → li.block ≠ lj.block
  injm : ∀ (i j : Nat) li lj ei ej, i ≠ j → h[i]? = some (.mp ei) → h[j]? = some (.mp ej) → μ[i]? = some li → μ[j]? = some lj → li.block ≠ lj.block
  injl : ∀ (i j : Nat) li lj oi oj, i ≠ j → h[i]? = some oi → oi.isLp = true → h[j]? = some oj → oj.isLp = true → μ[i]? = some li → μ[j]? = some lj → li.block ≠ lj.block
  /-- The blocks for the rounds' deferred calls that lay empty still do. -/
  marks : ∀ d : Nat, W.heap[d]? = some (.deferred (some [])) → w.heap[d]? = some (.deferred (some []))
  /-- What is nobody's is as it was. -/
  rest : ∀ (d : Nat) (x : Obj), W.F d → W.heap[d]? = some x → w.heap[d]? = some x
  inF : ∀ d : Nat, W.F d → d < w.heap.size
  offF : OffF W μ h

theorem RecOk.mono {μ μ' : List Loc} (h : μ <+: μ') {st : Nat} {r : List PV} {ps : List Tmp} {a b : Code} {pe : Option PX} {rec : Loop} (q : RecOk μ st r ps a b pe rec) : RecOk μ' st r ps a b pe rec :=
  ⟨q.1, q.2.1, q.2.2.1, q.2.2.2.1, q.2.2.2.2.1, q.2.2.2.2.2.mono fun _ _ => rep.mono h⟩

/-- Where no record has come or turned, those that are lie apart. -/
theorem Sim.injl_back {B : Nat} {W : Base} {μ μ' : List Loc} {h h' : PHeap} {w : World} (s : Sim B W μ h w)
    (hb : ∀ (i : Nat) l o, h'[i]? = some o → o.isLp = true → μ'[i]? = some l → h[i]? = some o ∧ μ[i]? = some l) :
    ∀ (i j : Nat) li lj oi oj, i ≠ j → h'[i]? = some oi → oi.isLp = true → h'[j]? = some oj → oj.isLp = true → μ'[i]? = some li → μ'[j]? = some lj → li.block ≠ lj.block := by
  intro i j li lj oi oj hne hi ho hj ho' hli hlj
  obtain ⟨a, b⟩ := hb i li oi hi ho hli
  obtain ⟨c, d⟩ := hb j lj oj hj ho' hlj
  exact s.injl i j li lj oi oj hne a ho c ho' b d
theorem lp_app {h : PHeap} {μ : List Loc} {x : PObj} {y : Loc} (hx : x.isLp = false) (hl : μ.length = h.length) : ∀ (i : Nat) l o, (h ++ [x])[i]? = some o → o.isLp = true → (μ ++ [y])[i]? = some l → h[i]? = some o ∧ μ[i]? = some l := by
  intro i l o hi ho hli
  rcases Nat.lt_trichotomy i h.length with hlt | rfl | hgt
  · rw [List.getElem?_append_left hlt] at hi
    rw [List.getElem?_append_left (by rw [hl]; exact hlt)] at hli
    exact ⟨hi, hli⟩
  · simp at hi; subst hi; rw [hx] at ho; cases ho
  · rw [List.getElem?_eq_none (by simp; omega)] at hi; cases hi
theorem lp_set {h : PHeap} {μ : List Loc} {id : Nat} {x : PObj} (hx : x.isLp = false) : ∀ (i : Nat) (l : Loc) o, (h.set id x)[i]? = some o → o.isLp = true → μ[i]? = some l → h[i]? = some o ∧ μ[i]? = some l := by
  intro i l o hi ho hli
  by_cases h' : i = id
  · subst h'
    by_cases hlt : i < h.length
    · rw [List.getElem?_set_self hlt] at hi; cases hi; rw [hx] at ho; cases ho
    · rw [List.getElem?_eq_none (by simp; omega)] at hi; cases hi
  · rw [List.getElem?_set_ne (by omega)] at hi; exact ⟨hi, hli⟩
theorem Sim.marks_alloc {B : Nat} {W : Base} {μ : List Loc} {h : PHeap} {w : World} (s : Sim B W μ h w) (o : Obj) : ∀ d : Nat, W.heap[d]? = some (.deferred (some [])) → (w.alloc o).heap[d]? = some (.deferred (some [])) := by
  intro d hd
  have h1 := s.marks d hd
  rw [Below.heap_alloc _ _ _ (Array.getElem?_eq_some_iff.1 h1).1]; exact h1

theorem Sim.rest_alloc {B : Nat} {W : Base} {μ : List Loc} {h : PHeap} {w : World} (s : Sim B W μ h w) (o : Obj) : ∀ (d : Nat) (x : Obj), W.F d → W.heap[d]? = some x → (w.alloc o).heap[d]? = some x := by
  intro d x hd hx
  have h1 := s.rest d x hd hx
  rw [Below.heap_alloc _ _ _ (Array.getElem?_eq_some_iff.1 h1).1]; exact h1
theorem Sim.inF_alloc {B : Nat} {W : Base} {μ : List Loc} {h : PHeap} {w : World} (s : Sim B W μ h w) (o : Obj) : ∀ d : Nat, W.F d → d < (w.alloc o).heap.size := fun d hd => by
  have := s.inF d hd
  rw [World.size_alloc]; omega
theorem Sim.fresh {B : Nat} {W : Base} {μ : List Loc} {h : PHeap} {w : World} (s : Sim B W μ h w) : ¬ W.F w.heap.size := fun h => Nat.lt_irrefl _ (s.inF _ h)

theorem OkCells.mono {μ μ' : List Loc} (h : μ <+: μ') {cs : List PV} {f : Nat → Option Value} (r : OkCells μ cs f) : OkCells μ' cs f :=
  fun j p hp => let ⟨x, hx, hr⟩ := r j p hp; ⟨x, hx, hr.mono h⟩

theorem ObjOk.mono {B : Nat} {μ μ' : List Loc} (h : μ <+: μ') {w : World} {l : Loc} {o : PObj} (r : ObjOk B μ w l o) : ObjOk B μ' w l o := by
  cases o <;> simp only [ObjOk] at r ⊢
  · exact ⟨r.1, r.2.1, r.2.2.mono h⟩
  · obtain ⟨h1, h2, h3, c, el, h4, h5, h6⟩ := r
    exact ⟨h1, h2, h3, c, el, h4, h5, h6.mono h⟩
  · obtain ⟨h1, ms, cl, h2, h3, h4⟩ := r
    exact ⟨h1, ms, cl, h2, h3, h4.mono fun _ _ q => ⟨q.1, q.2.mono h⟩⟩
  · obtain ⟨h1, rec, h2, h3⟩ := r
    exact ⟨h1, rec, h2, h3.mono h⟩

/-- An object of whose block nothing has turned is as it was. -/
theorem ObjOk.same {B : Nat} {μ : List Loc} {w w' : World} {l : Loc} {o : PObj} (r : ObjOk B μ w l o) (h : w'.heap[l.block]? = w.heap[l.block]?) : ObjOk B μ w' l o := by
  cases o <;> simp only [ObjOk] at r ⊢
  · refine ⟨r.1, r.2.1, ?_⟩
    intro j p hp
    obtain ⟨x, hx, hr⟩ := r.2.2 j p hp
    exact ⟨x, by rw [← hx]; exact World.cell?_of_block h, hr⟩
  · obtain ⟨h1, h2, h3, c, el, h4, h5, h6⟩ := r
    exact ⟨h1, h2, h3, c, el, by rw [h]; exact h4, h5, h6⟩
  · obtain ⟨h1, ms, cl, h2, h3, h4⟩ := r
    exact ⟨h1, ms, cl, by rw [h]; exact h2, h3, h4⟩
  · obtain ⟨h1, rec, h2, h3⟩ := r
    exact ⟨h1, rec, by rw [h]; exact h2, h3⟩

theorem ObjOk.elimSame {B : Nat} {μ : List Loc} {w w' : World} {l : Loc} {o : PObj} (r : ObjOk B μ w l o) (h : o ≠ .dead → w'.heap[l.block]? = w.heap[l.block]?) : ObjOk B μ w' l o := by
  cases o with
  | dead => trivial
  | ro e c => exact r.same (h (by simp))
  | own e c => exact r.same (h (by simp))
  | mp es => exact r.same (h (by simp))
  | lp st kl r' ps a b pe => exact r.same (h (by simp))

theorem Sim.size_le {B : Nat} {W : Base} {μ : List Loc} {h : PHeap} {w : World} (s : Sim B W μ h w) {i : Nat} {l : Loc} {o : PObj} (ho : h[i]? = some o) (hlive : o ≠ .dead) (hl : μ[i]? = some l) : l.block < w.heap.size := by
  have ob := s.obj i o l ho hl
  cases o with
  | dead => exact absurd rfl hlive
  | ro e c => have := ob.2.1; have := s.base; omega
  | own e c =>
    obtain ⟨_, _, _, c, el, h4, _⟩ := ob
    exact (Array.getElem?_eq_some_iff.1 h4).1
  | mp es =>
    obtain ⟨_, ms, cl, h4, _⟩ := ob
    exact (Array.getElem?_eq_some_iff.1 h4).1
  | lp st kl r ps a b pe =>
    obtain ⟨_, rec, h4, _⟩ := ob
    exact (Array.getElem?_eq_some_iff.1 h4).1

theorem Sim.loc {B : Nat} {W : Base} {μ : List Loc} {h : PHeap} {w : World} (s : Sim B W μ h w) {i : Nat} {o : PObj} (hi : h[i]? = some o) : ∃ l, μ[i]? = some l := by
  have := (List.getElem?_eq_some_iff.1 hi).1
  rw [← s.len] at this
  exact ⟨μ[i], List.getElem?_eq_getElem this⟩

/-- The tape has moved on, nothing else. -/
theorem Sim.tape {B : Nat} {W : Base} {μ : List Loc} {h : PHeap} {w : World} (s : Sim B W μ h w) (n : Nat) : Sim B W μ h { w with drawn := n } :=
  ⟨s.len, ⟨s.below.os, s.below.tape, s.below.output, s.below.size, s.below.block⟩, s.base, fun id o l h1 h2 => (s.obj id o l h1 h2).same rfl, s.inj, s.injm, s.injl, s.marks, s.rest, s.inF, s.offF⟩

/-- A new block of cells, the call's own. -/
theorem Sim.new {B : Nat} {W : Base} {μ : List Loc} {h : PHeap} {w : World} (s : Sim B W μ h w) (c : Array Value) (el : TypeId) (e : Nat) (cs : List PV)
    (hc : ∀ (j : Nat) p, cs[j]? = some p → ∃ x, c[j]? = some x ∧ repc μ p x) (hl : cs.length ≤ c.size) :
    Sim B W (μ ++ [⟨w.heap.size, 0, c.size, e⟩]) (h ++ [.own e cs]) (w.alloc (.cells c el)) := by
  have hpre : μ <+: μ ++ [(⟨w.heap.size, 0, c.size, e⟩ : Loc)] := List.prefix_append _ _
  have old : ∀ {id : Nat} {l : Loc} {o : PObj}, h[id]? = some o → o ≠ .dead → μ[id]? = some l → (w.alloc (.cells c el)).heap[l.block]? = w.heap[l.block]? := fun ho hd hl => Below.heap_alloc _ _ _ (s.size_le ho hd hl)
  refine ⟨by simp [s.len], s.below.alloc s.base _, by simp; have := s.base; omega, ?_, ?_, ?_, s.injl_back (lp_app rfl s.len), s.marks_alloc _, s.rest_alloc _, s.inF_alloc _, s.offF.app s.len (.inr s.fresh)⟩
  · intro id o l ho hl'
    rcases Nat.lt_trichotomy id h.length with hlt | rfl | hgt
    · rw [List.getElem?_append_left hlt] at ho
      rw [List.getElem?_append_left (by rw [s.len]; exact hlt)] at hl'
      exact ((s.obj id o l ho hl').elimSame (fun hd => old ho hd hl')).mono hpre
    · simp at ho
      rw [← s.len] at hl'
      simp at hl'
      subst ho hl'
      refine ⟨rfl, s.base, by simpa using hl, c, el, heap_alloc_new w _, Nat.le_refl _, ?_⟩
      intro j p hp
      obtain ⟨x, hx, hr⟩ := hc j p hp
      exact ⟨x, by simpa using hx, hr.mono hpre⟩
    · rw [List.getElem?_eq_none (by simp; omega)] at ho
      cases ho
  · have key : ∀ (i : Nat) li ei ci, (h ++ [PObj.own e cs])[i]? = some (.own ei ci) → (μ ++ [(⟨w.heap.size, 0, c.size, e⟩ : Loc)])[i]? = some li →
        (h[i]? = some (.own ei ci) ∧ μ[i]? = some li ∧ i < h.length) ∨ (i = h.length ∧ li.block = w.heap.size) := by
      intro i li ei ci hi hli
      rcases Nat.lt_trichotomy i h.length with hlt | rfl | hgt
      · rw [List.getElem?_append_left hlt] at hi
        rw [List.getElem?_append_left (by rw [s.len]; exact hlt)] at hli
        exact .inl ⟨hi, hli, hlt⟩
      · rw [← s.len] at hli
        simp at hli
        subst hli
        exact .inr ⟨rfl, rfl⟩
      · rw [List.getElem?_eq_none (by simp; omega)] at hi
        cases hi
    intro i j li lj ei ci ej cj hne hi hj hli hlj
    rcases key i li ei ci hi hli with ⟨a1, a2, a3⟩ | ⟨a1, a2⟩ <;> rcases key j lj ej cj hj hlj with ⟨b1, b2, b3⟩ | ⟨b1, b2⟩
    · exact s.inj i j li lj ei ci ej cj hne a1 b1 a2 b2
    · have := s.size_le a1 (by simp) a2; omega
    · have := s.size_le b1 (by simp) b2; omega
    · omega
  · have key : ∀ (i : Nat) li ei, (h ++ [PObj.own e cs])[i]? = some (.mp ei) → (μ ++ [(⟨w.heap.size, 0, c.size, e⟩ : Loc)])[i]? = some li → h[i]? = some (.mp ei) ∧ μ[i]? = some li := by
      intro i li ei hi hli
      rcases Nat.lt_trichotomy i h.length with hlt | rfl | hgt
      · rw [List.getElem?_append_left hlt] at hi
        rw [List.getElem?_append_left (by rw [s.len]; exact hlt)] at hli
        exact ⟨hi, hli⟩
      · simp at hi
      · rw [List.getElem?_eq_none (by simp; omega)] at hi
        cases hi
    intro i j li lj ei ej hne hi hj hli hlj
    obtain ⟨a1, a2⟩ := key i li ei hi hli
    obtain ⟨b1, b2⟩ := key j lj ej hj hlj
    exact s.injm i j li lj ei ej hne a1 b1 a2 b2

theorem setRow_heap_same (w : World) (g : Nat) (c c' : Array Value) (el : TypeId) (hg : w.heap[g]? = some (.cells c el (0, 0))) : (w.setRow g c').heap[g]? = some (.cells c' el (0, 0)) :=
  setRow_heap w g c c' el (0, 0) hg

/-- A row of the call's own has been written to. -/
theorem Sim.row {B : Nat} {W : Base} {μ : List Loc} {h : PHeap} {w : World} (s : Sim B W μ h w) {id : Nat} {e : Nat} {cs cs' : List PV} {l : Loc} (hid : h[id]? = some (.own e cs)) (hl : μ[id]? = some l)
    {c c' : Array Value} {el : TypeId} (hg : w.heap[l.block]? = some (.cells c el (0, 0))) (hsz : c'.size = c.size) (hfit : l.off + cs'.length ≤ l.size)
    (hc : OkCells μ cs' fun j => c'[l.off + j]?) : Sim B W μ (h.set id (.own e cs')) (w.setRow l.block c') := by
  have ob := s.obj id _ l hid hl
  simp only [ObjOk] at ob
  obtain ⟨o1, o2, o3, c0, el0, o4, o5, o6⟩ := ob
  rw [hg] at o4
  cases o4
  have other : ∀ k, k ≠ l.block → (w.setRow l.block c').heap[k]? = w.heap[k]? := fun k hk => setRow_other w l.block k c' hk
  have hlen : id < h.length := (List.getElem?_eq_some_iff.1 hid).1
  refine ⟨by simp [s.len], ⟨s.below.os, s.below.tape, s.below.output, by simpa using s.below.size, fun k hk => (other k (by omega)).trans (s.below.block k hk)⟩, by simpa using s.base, ?_, ?_, ?_, s.injl_back (lp_set rfl), fun d hd => by
      have h1 := s.marks d hd
      rw [other d (by intro e; subst e; rw [hg] at h1; cases h1)]; exact h1, fun d x hd hx => by
      rw [other d (fun e => s.offF id _ l hid (by simp) hl (e ▸ hd))]; exact s.rest d x hd hx, by simpa using s.inF, s.offF.set (.inr ⟨_, hid, by simp⟩)⟩
  · intro i o li ho hli
    by_cases hi : i = id
    · subst hi
      rw [List.getElem?_set_self hlen] at ho
      cases ho
      rw [hl] at hli
      cases hli
      exact ⟨o1, o2, hfit, c', el, setRow_heap_same w _ _ _ _ hg, by omega, hc⟩
    · rw [List.getElem?_set_ne (by omega)] at ho
      refine ObjOk.elimSame (s.obj i o li ho hli) ?_
      intro hlive
      exact other _ (by
        cases o with
        | dead => exact absurd rfl hlive
        | ro e1 c1 =>
          have := (s.obj i _ li ho hli)
          simp only [ObjOk] at this
          omega
        | own e1 c1 => exact s.inj i id li l e1 c1 e cs hi ho hid hli hl
        | mp es =>
          obtain ⟨_, ms, cl, h4, _⟩ := s.obj i _ li ho hli
          intro hb
          rw [hb, hg] at h4
          cases h4
        | lp st kl r ps a b pe =>
          obtain ⟨_, rec, h4, _⟩ := s.obj i _ li ho hli
          intro hb
          rw [hb, hg] at h4
          cases h4)
  · intro i j li lj ei ci ej cj hne hi hj hli hlj
    have back : ∀ (i : Nat) ei ci, (h.set id (.own e cs'))[i]? = some (.own ei ci) → ∃ e' c', h[i]? = some (.own e' c') := by
      intro i ei ci hi
      by_cases h' : i = id
      · subst h'; exact ⟨_, _, hid⟩
      · rw [List.getElem?_set_ne (by omega)] at hi; exact ⟨_, _, hi⟩
    obtain ⟨_, _, a⟩ := back i _ _ hi
    obtain ⟨_, _, b⟩ := back j _ _ hj
    exact s.inj i j li lj _ _ _ _ hne a b hli hlj
  · intro i j li lj ei ej hne hi hj hli hlj
    have back : ∀ (i : Nat) ei, (h.set id (.own e cs'))[i]? = some (.mp ei) → h[i]? = some (.mp ei) := by
      intro i ei hi
      by_cases h' : i = id
      · subst h'; rw [List.getElem?_set_self hlen] at hi; cases hi
      · rw [List.getElem?_set_ne (by omega)] at hi; exact hi
    exact s.injm i j li lj _ _ hne (back i _ hi) (back j _ hj) hli hlj

/-- An object goes on under a new name. -/
theorem Sim.rename {B : Nat} {W : Base} {μ : List Loc} {h : PHeap} {w : World} (s : Sim B W μ h w) {id : Nat} {e : Nat} {cs : List PV} {l : Loc} (hid : h[id]? = some (.own e cs)) (hl : μ[id]? = some l) :
    Sim B W (μ ++ [l]) (h.set id .dead ++ [.own e cs]) w := by
  have hpre : μ <+: μ ++ [l] := List.prefix_append _ _
  have hlen : id < h.length := (List.getElem?_eq_some_iff.1 hid).1
  have key : ∀ (i : Nat) o li, (h.set id .dead ++ [PObj.own e cs])[i]? = some o → (μ ++ [l])[i]? = some li →
      (i ≠ id ∧ i < h.length ∧ h[i]? = some o ∧ μ[i]? = some li) ∨ (o = .dead) ∨ (i = h.length ∧ o = .own e cs ∧ li = l) := by
    intro i o li ho hli
    rcases Nat.lt_trichotomy i h.length with hlt | rfl | hgt
    · rw [List.getElem?_append_left (by simpa using hlt)] at ho
      rw [List.getElem?_append_left (by rw [s.len]; exact hlt)] at hli
      by_cases hi : i = id
      · subst hi
        rw [List.getElem?_set_self hlt] at ho
        cases ho
        exact .inr (.inl rfl)
      · rw [List.getElem?_set_ne (by omega)] at ho
        exact .inl ⟨hi, hlt, ho, hli⟩
    · rw [List.getElem?_append_right (by simp)] at ho
      simp at ho
      rw [← s.len] at hli
      simp at hli
      exact .inr (.inr ⟨rfl, ho.symm, hli.symm⟩)
    · rw [List.getElem?_eq_none (by simp; omega)] at ho
      cases ho
  refine ⟨by simp [s.len], s.below, s.base, ?_, ?_, ?_, s.injl_back (fun i l o hi ho hli => by
      obtain ⟨a, b⟩ := lp_app (h := h.set id .dead) (μ := μ) rfl (by simp [s.len]) i l o hi ho hli
      exact lp_set rfl i l o a ho b), s.marks, s.rest, s.inF, (s.offF.set (.inl rfl)).app (by simp [s.len]) (.inr (s.offF id _ l hid (by simp) hl))⟩
  · intro i o li ho hli
    rcases key i o li ho hli with ⟨_, _, a, b⟩ | rfl | ⟨_, rfl, rfl⟩
    · exact (s.obj i o li a b).mono hpre
    · trivial
    · exact (s.obj id _ _ hid hl).mono hpre
  · intro i j li lj ei ci ej cj hne hi hj hli hlj
    rcases key i _ li hi hli with ⟨a0, _, a, b⟩ | a | ⟨a0, a, b⟩
    · rcases key j _ lj hj hlj with ⟨a0', _, a', b'⟩ | a' | ⟨a0', a', b'⟩
      · exact s.inj i j li lj _ _ _ _ hne a a' b b'
      · cases a'
      · cases a'; subst b'; exact s.inj i id li _ _ _ _ _ a0 a hid b hl
    · cases a
    · cases a
      rcases key j _ lj hj hlj with ⟨a0', _, a', b'⟩ | a' | ⟨a0', a', b'⟩
      · subst b; exact s.inj id j _ lj _ _ _ _ (Ne.symm a0') hid a' hl b'
      · cases a'
      · omega
  · intro i j li lj ei ej hne hi hj hli hlj
    rcases key i _ li hi hli with ⟨_, _, a, b⟩ | a | ⟨_, a, _⟩
    · rcases key j _ lj hj hlj with ⟨_, _, a', b'⟩ | a' | ⟨_, a', _⟩
      · exact s.injm i j li lj _ _ hne a a' b b'
      · cases a'
      · cases a'
    · cases a
    · cases a

/-- An object is given up. -/
theorem Sim.kill {B : Nat} {W : Base} {μ : List Loc} {h : PHeap} {w : World} (s : Sim B W μ h w) (id : Nat) : Sim B W μ (h.set id .dead) w := by
  have key : ∀ (i : Nat) o, (h.set id .dead)[i]? = some o → h[i]? = some o ∨ o = .dead := by
    intro i o ho
    by_cases hi : i = id
    · subst hi
      by_cases hlt : i < h.length
      · rw [List.getElem?_set_self hlt] at ho; cases ho; exact .inr rfl
      · rw [List.getElem?_eq_none (by simp; omega)] at ho; cases ho
    · rw [List.getElem?_set_ne (by omega)] at ho; exact .inl ho
  refine ⟨by simp [s.len], s.below, s.base, ?_, ?_, ?_, s.injl_back (lp_set rfl), s.marks, s.rest, s.inF, s.offF.set (.inl rfl)⟩
  · intro i o l ho hl
    rcases key i o ho with h' | rfl
    · exact s.obj i o l h' hl
    · trivial
  · intro i j li lj ei ci ej cj hne hi hj hli hlj
    rcases key i _ hi with a | a
    · rcases key j _ hj with b | b
      · exact s.inj i j li lj _ _ _ _ hne a b hli hlj
      · cases b
    · cases a
  · intro i j li lj ei ej hne hi hj hli hlj
    rcases key i _ hi with a | a
    · rcases key j _ hj with b | b
      · exact s.injm i j li lj _ _ hne a b hli hlj
      · cases b
    · cases a

/-- A new map, the call's own. -/
theorem Sim.newMap {B : Nat} {W : Base} {μ : List Loc} {h : PHeap} {w : World} (s : Sim B W μ h w) :
    Sim B W (μ ++ [⟨w.heap.size, 0, 0, 0⟩]) (h ++ [.mp []]) (w.alloc (.map #[] 0)) := by
  have hpre : μ <+: μ ++ [(⟨w.heap.size, 0, 0, 0⟩ : Loc)] := List.prefix_append _ _
  have old : ∀ {id : Nat} {l : Loc} {o : PObj}, h[id]? = some o → o ≠ .dead → μ[id]? = some l → (w.alloc (.map #[] 0)).heap[l.block]? = w.heap[l.block]? := fun ho hd hl => Below.heap_alloc _ _ _ (s.size_le ho hd hl)
  have key : ∀ (i : Nat) li o, (h ++ [PObj.mp []])[i]? = some o → (μ ++ [(⟨w.heap.size, 0, 0, 0⟩ : Loc)])[i]? = some li → (h[i]? = some o ∧ μ[i]? = some li ∧ i < h.length) ∨ (i = h.length ∧ o = .mp [] ∧ li = ⟨w.heap.size, 0, 0, 0⟩) := by
    intro i li o hi hli
    rcases Nat.lt_trichotomy i h.length with hlt | rfl | hgt
    · rw [List.getElem?_append_left hlt] at hi
      rw [List.getElem?_append_left (by rw [s.len]; exact hlt)] at hli
      exact .inl ⟨hi, hli, hlt⟩
    · rw [← s.len] at hli
      simp at hli hi
      exact .inr ⟨rfl, hi.symm, hli.symm⟩
    · rw [List.getElem?_eq_none (by simp; omega)] at hi
      cases hi
  refine ⟨by simp [s.len], s.below.alloc s.base _, by simp; have := s.base; omega, ?_, ?_, ?_, s.injl_back (lp_app rfl s.len), s.marks_alloc _, s.rest_alloc _, s.inF_alloc _, s.offF.app s.len (.inr s.fresh)⟩
  · intro id o l ho hl
    rcases key id l o ho hl with ⟨a, b, _⟩ | ⟨_, rfl, rfl⟩
    · exact ((s.obj id o l a b).elimSame (fun hd => old a hd b)).mono hpre
    · exact ⟨s.base, #[], 0, heap_alloc_new w _, by simp, trivial⟩
  · intro i j li lj ei ci ej cj hne hi hj hli hlj
    rcases key i li _ hi hli with ⟨a, b, _⟩ | ⟨_, a, _⟩
    · rcases key j lj _ hj hlj with ⟨a', b', _⟩ | ⟨_, a', _⟩
      · exact s.inj i j li lj _ _ _ _ hne a a' b b'
      · cases a'
    · cases a
  · intro i j li lj ei ej hne hi hj hli hlj
    rcases key i li _ hi hli with ⟨a, b, _⟩ | ⟨a0, a, b⟩
    · rcases key j lj _ hj hlj with ⟨a', b', _⟩ | ⟨a0', a', b'⟩
      · exact s.injm i j li lj _ _ hne a a' b b'
      · have := s.size_le a (by simp) b; rw [b']; simp; omega
    · rcases key j lj _ hj hlj with ⟨a', b', _⟩ | ⟨a0', a', b'⟩
      · have := s.size_le a' (by simp) b'; rw [b]; simp; omega
      · omega

/-- A map of the call's own has been written to. -/
theorem Sim.setMap {B : Nat} {W : Base} {μ : List Loc} {h : PHeap} {w : World} (s : Sim B W μ h w) {id : Nat} {es es' : List (PV × PV)} {l : Loc} (hid : h[id]? = some (.mp es)) (hl : μ[id]? = some l)
    {ms' : Array MapEntry} {cl' : Nat} (hp : ms'.toList.Pairwise (fun x y => x.key ≠ y.key)) (hc : All2 (fun (p : PV × PV) (e : MapEntry) => keyV p.1 = some e.key ∧ repc μ p.2 e.val) es' ms'.toList) :
    Sim B W μ (h.set id (.mp es')) { w with heap := w.heap.setIfInBounds l.block (.map ms' cl') } := by
  obtain ⟨o1, ms, cl, o2, _, _⟩ := s.obj id _ l hid hl
  have hblk : l.block < w.heap.size := (Array.getElem?_eq_some_iff.1 o2).1
  have other : ∀ k, k ≠ l.block → (w.heap.setIfInBounds l.block (.map ms' cl'))[k]? = w.heap[k]? := fun k hk => by rw [Array.getElem?_setIfInBounds_ne (by omega)]
  have self : (w.heap.setIfInBounds l.block (.map ms' cl'))[l.block]? = some (.map ms' cl') := by rw [Array.getElem?_setIfInBounds_self_of_lt hblk]
  have hlen : id < h.length := (List.getElem?_eq_some_iff.1 hid).1
  refine ⟨by simp [s.len], ⟨s.below.os, s.below.tape, s.below.output, by simpa using s.below.size, fun k hk => (other k (by omega)).trans (s.below.block k hk)⟩, by simpa using s.base, ?_, ?_, ?_, s.injl_back (lp_set rfl), fun d hd => by
      have h1 := s.marks d hd
      exact (other d (by intro e; subst e; rw [o2] at h1; cases h1)).trans h1, fun d x hd hx => (other d (fun e => s.offF id _ l hid (by simp) hl (e ▸ hd))).trans (s.rest d x hd hx), by simpa using s.inF, s.offF.set (.inr ⟨_, hid, by simp⟩)⟩
  · intro i o li ho hli
    by_cases hi : i = id
    · subst hi
      rw [List.getElem?_set_self hlen] at ho
      cases ho
      rw [hl] at hli
      cases hli
      exact ⟨o1, ms', cl', self, hp, hc⟩
    · rw [List.getElem?_set_ne (by omega)] at ho
      refine ObjOk.elimSame (s.obj i o li ho hli) ?_
      intro hlive
      refine other _ ?_
      cases o with
      | dead => exact absurd rfl hlive
      | ro e1 c1 =>
        have := (s.obj i _ li ho hli)
        simp only [ObjOk] at this
        omega
      | own e1 c1 =>
        obtain ⟨_, _, _, c, el, h4, _⟩ := s.obj i _ li ho hli
        intro hb
        rw [hb, o2] at h4
        cases h4
      | mp es1 => exact s.injm i id li l es1 es hi ho hid hli hl
      | lp st kl r ps a b pe =>
        obtain ⟨_, rec, h4, _⟩ := s.obj i _ li ho hli
        intro hb
        rw [hb, o2] at h4
        cases h4
  · have back : ∀ (i : Nat) e1 c1, (h.set id (.mp es'))[i]? = some (.own e1 c1) → h[i]? = some (.own e1 c1) := by
      intro i e1 c1 hi
      by_cases h' : i = id
      · subst h'; rw [List.getElem?_set_self hlen] at hi; cases hi
      · rw [List.getElem?_set_ne (by omega)] at hi; exact hi
    intro i j li lj ei ci ej cj hne hi hj hli hlj
    exact s.inj i j li lj _ _ _ _ hne (back i _ _ hi) (back j _ _ hj) hli hlj
  · have back : ∀ (i : Nat) e1, (h.set id (.mp es'))[i]? = some (.mp e1) → ∃ e2, h[i]? = some (.mp e2) := by
      intro i e1 hi
      by_cases h' : i = id
      · subst h'; exact ⟨_, hid⟩
      · rw [List.getElem?_set_ne (by omega)] at hi; exact ⟨_, hi⟩
    intro i j li lj ei ej hne hi hj hli hlj
    obtain ⟨_, a⟩ := back i _ hi
    obtain ⟨_, b⟩ := back j _ hj
    exact s.injm i j li lj _ _ hne a b hli hlj

/-- A cell of a live object. -/
theorem Sim.cellAt {B : Nat} {W : Base} {μ : List Loc} {h : PHeap} {w : World} (s : Sim B W μ h w) {id j : Nat} {l : Loc} {p : PV} (hl : μ[id]? = some l) (hp : (cellsAt h id)[j]? = some p) :
    ∃ x, w.cell? ⟨l.block, l.off + j, none⟩ = some x ∧ repc μ p x := by
  unfold cellsAt at hp
  cases ho : h[id]? with
  | none => rw [ho] at hp; simp at hp
  | some o =>
    rw [ho] at hp
    have ob := s.obj id o l ho hl
    cases o with
    | dead => simp [PObj.get] at hp
    | ro e cs => exact ob.2.2 j p (by simpa [PObj.get] using hp)
    | own e cs =>
      obtain ⟨_, _, _, c, el, h4, _, h6⟩ := ob
      obtain ⟨x, hx, hr⟩ := h6 j p (by simpa [PObj.get] using hp)
      exact ⟨x, by simpa [World.cell?, h4] using hx, hr⟩
    | mp es => simp [PObj.get] at hp
    | lp st kl r ps a b pe => simp [PObj.get] at hp

theorem locAt {B : Nat} {W : Base} {μ : List Loc} {h : PHeap} {w : World} (s : Sim B W μ h w) {id j : Nat} {p : PV} (hp : (cellsAt h id)[j]? = some p) : ∃ l, μ[id]? = some l := by
  unfold cellsAt at hp
  cases ho : h[id]? with
  | none => rw [ho] at hp; simp at hp
  | some o => exact s.loc ho

/-- The same, told from now on. -/
theorem Sim.rebase {B : Nat} {W : Base} {μ : List Loc} {h : PHeap} {w : World} (s : Sim B W μ h w) : Sim B (W.at w) μ h w :=
  ⟨s.len, Below.refl _ _, s.base, s.obj, s.inj, s.injm, s.injl, fun _ h => h, fun _ _ _ h => h, s.inF, s.offF⟩
theorem Sim.back {B : Nat} {W : Base} {μ μ' : List Loc} {h h' : PHeap} {w w' : World} (s : Sim B W μ h w) (s' : Sim B (W.at w) μ' h' w') : Sim B W μ' h' w' :=
  ⟨s'.len, s.below.trans s'.below, s'.base, s'.obj, s'.inj, s'.injm, s'.injl, fun d hd => s'.marks d (s.marks d hd), fun d x hd hx => s'.rest d x hd (s.rest d x hd hx), s'.inF, s'.offF⟩

/-- One block more that is nobody's. -/
abbrev Base.more (W : Base) (d : Nat) : Base := { toWorld := W.toWorld, F := fun k => W.F k ∨ k = d }
theorem Sim.lend {B : Nat} {W : Base} {μ : List Loc} {h : PHeap} {w : World} (s : Sim B W μ h w) (o : Obj) : Sim B (W.more w.heap.size) μ h (w.alloc o) := by
  have old : ∀ {id : Nat} {l : Loc} {o' : PObj}, h[id]? = some o' → o' ≠ .dead → μ[id]? = some l → (w.alloc o).heap[l.block]? = w.heap[l.block]? := fun ho hd hl => Below.heap_alloc _ _ _ (s.size_le ho hd hl)
  refine ⟨s.len, s.below.alloc s.base _, by rw [World.size_alloc]; have := s.base; omega, fun id o' l ho hl => (s.obj id o' l ho hl).elimSame (fun hd => old ho hd hl), s.inj, s.injm, s.injl, s.marks_alloc _, ?_, ?_, ?_⟩
  · rintro d x (hd | rfl) hx
    · exact s.rest_alloc _ d x hd hx
    · have h1 : w.heap.size < W.heap.size := (Array.getElem?_eq_some_iff.1 hx).1
      have h2 : W.heap.size ≤ w.heap.size := s.below.size
      omega
  · rintro d (hd | rfl)
    · exact s.inF_alloc _ d hd
    · rw [World.size_alloc]; omega
  · rintro i o' l ho hd hl (hF | hF)
    · exact s.offF i o' l ho hd hl hF
    · have := s.size_le ho hd hl; omega
theorem Sim.less {B : Nat} {W : Base} {d : Nat} {μ : List Loc} {h : PHeap} {w : World} (s : Sim B (W.more d) μ h w) : Sim B W μ h w :=
  ⟨s.len, s.below, s.base, s.obj, s.inj, s.injm, s.injl, s.marks, fun k x hk hx => s.rest k x (.inl hk) hx, fun k hk => s.inF k (.inl hk), fun i o l ho hd hl hF => s.offF i o l ho hd hl (.inl hF)⟩

/-- A range over a function begins: the block for the rounds' deferred calls, and the record. -/
theorem Sim.enter {B : Nat} {W : Base} {μ : List Loc} {h : PHeap} {w : World} (s : Sim B W μ h w) {st : Nat} (kl : Nat → List Nat) {r : List PV} {ps : List Tmp} {a b : Code} {pe : Option PX} {rec : Loop} (hr : RecOk μ st r ps a b pe rec) :
    Sim B W (μ ++ [⟨0, 0, 0, 0⟩] ++ [⟨w.heap.size + 1, 0, 0, 0⟩]) (h ++ [.dead] ++ [.lp st kl r ps a b pe]) ((w.alloc (.deferred (some []))).alloc (.loop rec)) := by
  obtain ⟨W1, hW1⟩ : ∃ W1, (w.alloc (.deferred (some []))).alloc (.loop rec) = W1 := ⟨_, rfl⟩
  have hpre : μ <+: μ ++ [(⟨0, 0, 0, 0⟩ : Loc)] ++ [⟨w.heap.size + 1, 0, 0, 0⟩] := by rw [List.append_assoc]; exact List.prefix_append _ _
  have hnew : W1.heap[w.heap.size + 1]? = some (.loop rec) := by
    rw [← hW1]; have := World.alloc_heap_new (w.alloc (.deferred (some []))) (.loop rec); rwa [World.size_alloc] at this
  have hold : ∀ k, k < w.heap.size → W1.heap[k]? = w.heap[k]? := fun k hk => by
    rw [← hW1, Below.heap_alloc _ _ _ (by rw [World.size_alloc]; omega), Below.heap_alloc _ _ _ hk]
  have hb : Below B W.toWorld W1 := by
    rw [← hW1]; exact (s.below.alloc s.base _).alloc (by rw [World.size_alloc]; have := s.base; omega) _
  have key : ∀ (i : Nat) li o, (h ++ [PObj.dead] ++ [PObj.lp st kl r ps a b pe])[i]? = some o → (μ ++ [(⟨0, 0, 0, 0⟩ : Loc)] ++ [⟨w.heap.size + 1, 0, 0, 0⟩])[i]? = some li →
      (h[i]? = some o ∧ μ[i]? = some li ∧ i < h.length) ∨ o = .dead ∨ (i = h.length + 1 ∧ o = .lp st kl r ps a b pe ∧ li = ⟨w.heap.size + 1, 0, 0, 0⟩) := by
    intro i li o hi hli
    have hl := s.len
    rcases Nat.lt_or_ge i h.length with hlt | hge
    · rw [List.append_assoc, List.getElem?_append_left hlt] at hi
      rw [List.append_assoc, List.getElem?_append_left (by omega)] at hli
      exact .inl ⟨hi, hli, hlt⟩
    · rcases Nat.lt_or_ge h.length i with hlt | hge'
      · rcases Nat.lt_or_ge (h.length + 1) i with h2 | h2
        · rw [List.getElem?_eq_none (by simp; omega)] at hi; cases hi
        · obtain rfl : i = h.length + 1 := by omega
          rw [List.getElem?_append_right (by simp)] at hi
          rw [List.getElem?_append_right (by simp; omega)] at hli
          simp [hl] at hi hli
          exact .inr (.inr ⟨rfl, hi.symm, hli.symm⟩)
      · obtain rfl : i = h.length := by omega
        rw [List.append_assoc, List.getElem?_append_right (Nat.le_refl _)] at hi
        simp at hi
        exact .inr (.inl hi.symm)
  rw [hW1]
  refine ⟨by simp [s.len], hb, ?_, ?_, ?_, ?_, ?_, ?_, ?_, ?_, (s.offF.app s.len (.inl rfl)).app (by simp [s.len]) (.inr fun h => by have := s.inF _ h; simp at this; omega)⟩
  · rw [← hW1]; simp only [World.size_alloc]; have := s.base; omega
  · intro id o l ho hl
    rcases key id l o ho hl with ⟨x, y, _⟩ | rfl | ⟨_, rfl, rfl⟩
    · exact ((s.obj id o l x y).elimSame (fun hd => hold _ (s.size_le x hd y))).mono hpre
    · trivial
    · exact ⟨by have := s.base; show B ≤ w.heap.size + 1; omega, rec, hnew, hr.mono hpre⟩
  · intro i j li lj ei ci ej cj hne hi hj hli hlj
    rcases key i li _ hi hli with ⟨x, y, _⟩ | x | ⟨_, x, _⟩
    · rcases key j lj _ hj hlj with ⟨x', y', _⟩ | x' | ⟨_, x', _⟩
      · exact s.inj i j li lj _ _ _ _ hne x x' y y'
      · cases x'
      · cases x'
    · cases x
    · cases x
  · intro i j li lj ei ej hne hi hj hli hlj
    rcases key i li _ hi hli with ⟨x, y, _⟩ | x | ⟨_, x, _⟩
    · rcases key j lj _ hj hlj with ⟨x', y', _⟩ | x' | ⟨_, x', _⟩
      · exact s.injm i j li lj _ _ hne x x' y y'
      · cases x'
      · cases x'
    · cases x
    · cases x
  · intro i j li lj oi oj hne hi hoi hj hoj hli hlj
    have lt : ∀ (i : Nat) l o, h[i]? = some o → o.isLp = true → μ[i]? = some l → l.block < w.heap.size := fun i l o x y z => s.size_le x (by intro e; subst e; cases y) z
    rcases key i li _ hi hli with ⟨x, y, _⟩ | rfl | ⟨xi, x, rfl⟩
    · rcases key j lj _ hj hlj with ⟨x', y', _⟩ | rfl | ⟨_, x', rfl⟩
      · exact s.injl i j li lj _ _ hne x hoi x' hoj y y'
      · cases hoj
      · have := lt i li oi x hoi y; show li.block ≠ w.heap.size + 1; omega
    · cases hoi
    · rcases key j lj _ hj hlj with ⟨x', y', _⟩ | rfl | ⟨xj, x', rfl⟩
      · have := lt j lj oj x' hoj y'; show w.heap.size + 1 ≠ lj.block; omega
      · cases hoj
      · omega
  · intro d hd
    have h1 := s.marks d hd
    rw [hold d (Array.getElem?_eq_some_iff.1 h1).1]; exact h1
  · intro d x hd hx
    have h1 := s.rest d x hd hx
    rw [hold d (Array.getElem?_eq_some_iff.1 h1).1]; exact h1
  · intro d hd
    have := s.inF d hd
    rw [← hW1]; simp only [World.size_alloc]; omega

/-- A record has turned. -/
theorem Sim.setLp {B : Nat} {W : Base} {μ : List Loc} {h : PHeap} {w : World} (s : Sim B W μ h w) {id : Nat} {o o' : PObj} {l : Loc} (hid : h[id]? = some o) (ho : o.isLp = true) (hl : μ[id]? = some l) {rec' : Loop}
    (ho' : o' = .dead ∨ ∃ st kl r ps a b pe, o' = .lp st kl r ps a b pe ∧ RecOk μ st r ps a b pe rec') : Sim B W μ (h.set id o') (w.putObj l.block (.loop rec')) := by
  obtain ⟨hB, rec, hrec⟩ : B ≤ l.block ∧ ∃ rec, w.heap[l.block]? = some (.loop rec) := by
    have ob := s.obj id o l hid hl
    cases o with
    | lp st kl r ps a b pe => exact ⟨ob.1, ob.2.choose, ob.2.choose_spec.1⟩
    | _ => cases ho
  have hblk : l.block < w.heap.size := (Array.getElem?_eq_some_iff.1 hrec).1
  have other : ∀ k, k ≠ l.block → (w.putObj l.block (.loop rec')).heap[k]? = w.heap[k]? := fun k hk => World.putObj_heap_other hk
  have self : (w.putObj l.block (.loop rec')).heap[l.block]? = some (.loop rec') := World.putObj_heap_same hblk
  have hlen : id < h.length := (List.getElem?_eq_some_iff.1 hid).1
  have far : ∀ (i : Nat) o1 li, i ≠ id → h[i]? = some o1 → o1 ≠ .dead → μ[i]? = some li → li.block ≠ l.block := by
    intro i o1 li hi hio hd hli hb
    have ob := s.obj i o1 li hio hli
    cases o1 with
    | dead => exact hd rfl
    | ro e c => have := ob.2.1; omega
    | own e c => obtain ⟨_, _, _, c', el, h4, _⟩ := ob; rw [hb, hrec] at h4; cases h4
    | mp es => obtain ⟨_, ms, cl, h4, _⟩ := ob; rw [hb, hrec] at h4; cases h4
    | lp st kl r ps a b pe => exact s.injl i id li l _ _ hi hio rfl hid ho hli hl hb
  refine ⟨by simp [s.len], ⟨s.below.os, s.below.tape, s.below.output, by simpa using s.below.size, fun k hk => (other k (by omega)).trans (s.below.block k hk)⟩, by simpa using s.base, ?_, ?_, ?_, ?_, ?_, fun d x hd hx => (other d (fun e => s.offF id _ l hid (by rintro rfl; cases ho) hl (e ▸ hd))).trans (s.rest d x hd hx), by simpa using s.inF, s.offF.set (.inr ⟨o, hid, by rintro rfl; cases ho⟩)⟩
  · intro i o1 li h1 hli
    by_cases hi : i = id
    · subst hi
      rw [List.getElem?_set_self hlen] at h1
      cases h1
      rw [hl] at hli
      cases hli
      rcases ho' with rfl | ⟨st, kl, r, ps, a, b, pe, rfl, hr⟩
      · trivial
      · exact ⟨hB, rec', self, hr⟩
    · rw [List.getElem?_set_ne (by omega)] at h1
      exact ObjOk.elimSame (s.obj i o1 li h1 hli) fun hd => other _ (far i o1 li hi h1 hd hli)
  · have back : ∀ (i : Nat) e1 c1, (h.set id o')[i]? = some (.own e1 c1) → h[i]? = some (.own e1 c1) := by
      intro i e1 c1 hi
      by_cases h' : i = id
      · subst h'; rw [List.getElem?_set_self hlen] at hi; rcases ho' with rfl | ⟨st, kl, r, ps, a, b, pe, rfl, _⟩ <;> cases hi
      · rw [List.getElem?_set_ne (by omega)] at hi; exact hi
    intro i j li lj ei ci ej cj hne hi hj hli hlj
    exact s.inj i j li lj _ _ _ _ hne (back i _ _ hi) (back j _ _ hj) hli hlj
  · have back : ∀ (i : Nat) e1, (h.set id o')[i]? = some (.mp e1) → h[i]? = some (.mp e1) := by
      intro i e1 hi
      by_cases h' : i = id
      · subst h'; rw [List.getElem?_set_self hlen] at hi; rcases ho' with rfl | ⟨st, kl, r, ps, a, b, pe, rfl, _⟩ <;> cases hi
      · rw [List.getElem?_set_ne (by omega)] at hi; exact hi
    intro i j li lj ei ej hne hi hj hli hlj
    exact s.injm i j li lj _ _ hne (back i _ hi) (back j _ hj) hli hlj
  · have back : ∀ (i : Nat) o1, (h.set id o')[i]? = some o1 → o1.isLp = true → ∃ o2, h[i]? = some o2 ∧ o2.isLp = true := by
      intro i o1 hi h1
      by_cases h' : i = id
      · subst h'; exact ⟨o, hid, ho⟩
      · rw [List.getElem?_set_ne (by omega)] at hi; exact ⟨o1, hi, h1⟩
    intro i j li lj oi oj hne hi hoi hj hoj hli hlj
    obtain ⟨_, x, x'⟩ := back i _ hi hoi
    obtain ⟨_, y, y'⟩ := back j _ hj hoj
    exact s.injl i j li lj _ _ hne x x' y y' hli hlj
  · intro d hd
    have h1 := s.marks d hd
    rw [other d (by intro e; subst e; rw [hrec] at h1; cases h1)]; exact h1

/-- The block for the rounds' deferred calls is shut: it is the call's own. -/
theorem Sim.shut {B : Nat} {W : Base} {μ : List Loc} {h : PHeap} {w : World} (s : Sim B W μ h w) {d : Nat} (hB : B ≤ d) (hW : W.heap.size ≤ d) (hd : w.heap[d]? = some (.deferred (some []))) : Sim B W μ h (w.putObj d (.deferred none)) := by
  have other : ∀ k, k ≠ d → (w.putObj d (.deferred none)).heap[k]? = w.heap[k]? := fun k hk => World.putObj_heap_other hk
  refine ⟨s.len, ⟨s.below.os, s.below.tape, s.below.output, by simpa using s.below.size, fun k hk => (other k (by omega)).trans (s.below.block k hk)⟩, by simpa using s.base, ?_, s.inj, s.injm, s.injl, ?_, fun k x hk hx => (other k (by have := (Array.getElem?_eq_some_iff.1 hx).1; omega)).trans (s.rest k x hk hx), by simpa using s.inF, s.offF⟩
  · intro i o l ho hl
    refine ObjOk.elimSame (s.obj i o l ho hl) fun hdead => other _ ?_
    intro hb
    have ob := s.obj i o l ho hl
    cases o with
    | dead => exact hdead rfl
    | ro e c => have := ob.2.1; omega
    | own e c => obtain ⟨_, _, _, c', el, h4, _⟩ := ob; rw [hb, hd] at h4; cases h4
    | mp es => obtain ⟨_, ms, cl, h4, _⟩ := ob; rw [hb, hd] at h4; cases h4
    | lp st kl r ps a b pe => obtain ⟨_, rec, h4, _⟩ := ob; rw [hb, hd] at h4; cases h4
  · intro k hk
    have hlt := (Array.getElem?_eq_some_iff.1 hk).1
    rw [other k (by omega)]; exact s.marks k hk

end Go.Ip

