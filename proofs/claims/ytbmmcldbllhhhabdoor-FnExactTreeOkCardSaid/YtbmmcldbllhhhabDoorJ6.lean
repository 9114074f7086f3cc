/- Texts of this seat, in their order, put together by program. -/
import Derived.Test.YtbmmcldbllhhhabDoorJ5
import Derived.OrdersHeld
import Derived.Tactics
import Derived.LoopN
import Derived.Deep.Quiet
import Derived.OrdersIn
import Derived.LoopNIn
set_option linter.unusedSimpArgs false
set_option linter.unusedVariables false
set_option linter.unusedSectionVars false
/- The interpreter is sound: what it computes for a call, the machine's call does, in every world that the interpreter's heap stands for. -/
set_option maxRecDepth 20000
namespace Go.Ip
open Go Go.RowKit

structure FR (μ : List Loc) (r : List PV) (a : Act) : Prop where
  regs : All2 (rep μ) r a.tmps.toList

theorem FR.mono {μ μ' : List Loc} (h : μ <+: μ') {r : List PV} {a : Act} (f : FR μ r a) : FR μ' r a := ⟨f.regs.mono fun _ _ => rep.mono h⟩

theorem FR.get {μ : List Loc} {r : List PV} {a : Act} (f : FR μ r a) (t : Nat) : rep μ ((r[t]?).getD .junk) (a.tmps.getD t undef) := by
  cases hp : r[t]? with
  | none => trivial
  | some p =>
    obtain ⟨v, hv, hr⟩ := f.regs.get hp
    have : a.tmps[t]? = some v := by simpa using hv
    simp only [Option.getD_some]
    rw [Array.getD_eq_getD_getElem?, this]
    exact hr

theorem FR.eval {μ : List Loc} {r : List PV} {a : Act} {g : Nat → PV} (f : FR μ r a) (hg : ∀ n, rep μ (g n) (.pointer (some ⟨n, 0, none⟩))) (x : Operand) : rep μ (evA g r x) (a.eval x) := by
  cases x with
  | tmp t => exact f.get t
  | const v => exact ofV_rep μ v
  | «global» n => exact hg n
  | func n => trivial

theorem FR.set {μ : List Loc} {r : List PV} {a : Act} (f : FR μ r a) (d : Option Tmp) {p : PV} {v : Value} (hr : rep μ p v) : FR μ (setR r d p) (a.put d v) := by
  cases d with
  | none => exact f
  | some d =>
    refine ⟨?_⟩
    have := f.regs.set d hr
    simpa [setR, Act.put] using this

theorem FR.kill {μ : List Loc} {a : Act} : ∀ (ns : List Nat) {r : List PV}, FR μ r a → FR μ (killR r ns) a
  | [], _, f => f
  | n :: ns, r, f => FR.kill ns (by
      refine ⟨All2.of_get (by have := f.regs.length; simpa using this) (fun i p hp => ?_)⟩
      by_cases hi : n = i
      · subst hi
        have hlt : n < r.length := by
          have := (List.getElem?_eq_some_iff.1 hp).1
          simpa using this
        rw [List.getElem?_set_self hlt] at hp
        cases hp
        have hlt' : n < a.tmps.toList.length := by rw [← f.regs.length]; exact hlt
        exact ⟨a.tmps.toList[n], List.getElem?_eq_getElem hlt', trivial⟩
      · rw [List.getElem?_set_ne hi] at hp
        exact f.regs.get hp)

theorem undef_rep (μ : List Loc) : rep μ (.tup []) undef := ⟨#[], rfl, trivial⟩

theorem want_sound {μ : List Loc} {r : List PV} {a : Act} (f : FR μ r a) {ops : Array Oper} {o : Oper} {g : Bool} (h : wantP ops.toList r o.guard = some g) : Region.wanted o (yielded ops a.tmps) = g := by
  unfold wantP at h
  unfold Region.wanted
  cases hg : o.guard with
  | none => rw [hg] at h; cases h; rfl
  | some jw =>
    obtain ⟨j, want⟩ := jw
    rw [hg] at h
    simp only at h ⊢
    unfold yielded
    rw [Array.getElem?_toList] at h
    cases hd : (ops[j]?).bind (·.dst) with
    | none => rw [hd] at h; cases h
    | some d =>
      rw [hd] at h
      simp only at h
      cases hp : r[d]? with
      | none => rw [hp] at h; cases h
      | some p =>
        rw [hp] at h
        obtain ⟨v, hv, hr⟩ := f.regs.get hp
        have hv' : a.tmps[d]? = some v := by simpa using hv
        simp only [Option.bind_some, hv']
        have h : wantV p want = some g := h
        unfold wantV at h
        split at h
        · rename_i b
          cases h
          rw [rep_bool.1 hr]
          cases b <;> cases want <;> rfl
        · cases h
          obtain ⟨xs, rfl, _⟩ := hr
          rfl
        · cases h

/-- The marks of the ranges over functions that an activation has been through: each names a block of its own, for the rounds' deferred calls, that lies empty. -/
def Mark (B : Nat) (W w : World) (d : Deferred) : Prop := ∃ D : Nat, d = { target := .collected D, args := #[] } ∧ B ≤ D ∧ W.heap.size ≤ D ∧ w.heap[D]? = some (.deferred (some []))
def Marked (B : Nat) (W : World) (ds : List Deferred) (w : World) : Prop := (∀ d ∈ ds, Mark B W w d) ∧ ds.Pairwise (· ≠ ·)
def KeepsD (w w' : World) : Prop := ∀ d : Nat, w.heap[d]? = some (.deferred (some [])) → w'.heap[d]? = some (.deferred (some []))
theorem Marked.keep {B : Nat} {W : World} {ds : List Deferred} {w w' : World} (m : Marked B W ds w) (h : KeepsD w w') : Marked B W ds w' :=
  ⟨fun d hd => let ⟨D, e, h1, h2, h3⟩ := m.1 d hd; ⟨D, e, h1, h2, h _ h3⟩, m.2⟩
theorem Marked.nil {B : Nat} {W : World} {w : World} : Marked B W [] w := ⟨fun d hd => (by cases hd), List.Pairwise.nil⟩

section
variable {c : Ctx} {B : Nat} {W : Base}

/-- The state of the machine that the interpreter's state stands for. -/
structure SR (c : Ctx) (B : Nat) (W : Base) (μ : List Loc) (s : St) (a : Act) (w : World) : Prop where
  fr : FR μ s.r a
  sim : Sim B W μ s.h w
  glob : ∀ n, rep μ (c.glob n) (.pointer (some ⟨n, 0, none⟩))
  marks : Marked B W.toWorld a.defers w

theorem put_defers (a : Act) (d : Option Tmp) (v : Value) : (a.put d v).defers = a.defers := by cases d <;> rfl
theorem SR.put {μ : List Loc} {s : St} {a : Act} {w : World} (sr : SR c B W μ s a w) (d : Option Tmp) {p : PV} {v : Value} (hr : rep μ p v) : SR c B W μ ⟨setR s.r d p, s.h⟩ (a.put d v) w :=
  ⟨sr.fr.set d hr, sr.sim, sr.glob, by rw [put_defers]; exact sr.marks⟩
theorem SR.kill {μ : List Loc} {s : St} {a : Act} {w : World} (sr : SR c B W μ s a w) (ns : List Nat) : SR c B W μ ⟨killR s.r ns, s.h⟩ a w := ⟨sr.fr.kill _, sr.sim, sr.glob, sr.marks⟩
theorem SR.tape {μ : List Loc} {s : St} {a : Act} {w : World} (sr : SR c B W μ s a w) (n : Nat) : SR c B W μ s a { w with drawn := n } := ⟨sr.fr, sr.sim.tape n, sr.glob, sr.marks⟩
theorem SR.next {μ : List Loc} {s : St} {a : Act} {w w' : World} (sr : SR c B W μ s a w) (d : Option Tmp) {μ' : List Loc} {p : PV} {h' : PHeap} {v : Value} (hpre : μ <+: μ') (hr : rep μ' p v) (hs : Sim B W μ' h' w') (hk : KeepsD w w') :
    SR c B W μ' ⟨setR s.r d p, h'⟩ (a.put d v) w' :=
  ⟨(sr.fr.mono hpre).set d hr, hs, fun n => (sr.glob n).mono hpre, by rw [put_defers]; exact sr.marks.keep hk⟩

theorem OpGo.mono {P : Program} {ρ : Operand → Value} {o : Oper} {w : World} {R R' : Value → World → Prop} (g : OpGo P ρ o w R) (h : ∀ v w', R v w' → R' v w') : OpGo P ρ o w R' := by
  unfold OpGo at *
  split at g
  · exact h _ _ g
  · exact h _ _ g
  · exact g.mono fun e w'' ⟨v, he, hr⟩ => ⟨v, he, h _ _ hr⟩
  · exact g.mono fun e w'' ⟨v, he, hr⟩ => ⟨v, he, h _ _ hr⟩
  · exact g.elim

/-- An operation of the machine's, from a state that the interpreter's stands for: what it yields, and the blocks for deferred calls that lie empty still do. -/
theorem pop_go (hs : c.p = std c.P) (hc : CallOk c) {μ : List Loc} {s : St} {a : Act} {w : World} (sr : SR c B W μ s a w) {o : Oper} {p : PV} {h' : PHeap} (hp : pop c (evA c.glob s.r) o.op s.h = some (p, h')) :
    OpGo c.P a.eval o w fun v w' => Good B W μ p h' v w' ∧ KeepsD w w' :=
  (pop_sound hs hc sr.sim.rebase sr.glob (sr.fr.eval sr.glob) (fun _ => rfl) hp).mono fun v w' ⟨μ', hpre, hr, hsim⟩ => ⟨⟨μ', hpre, hr, sr.sim.back hsim⟩, hsim.marks⟩

/-- The fence that lets in everything, of a round or of none. -/
def wideR (r : Option Nat) : Fence := { Fence.wide with round := r }

theorem upon_go {P : Program} {o : Oper} {a : Act} {w : World} {R : Value → World → Prop} {next : Act → World → Prop} {Q : Exit → Act → World → Prop} (g : OpGo P a.eval o w R) (h : ∀ v w', R v w' → next (a.put o.dst v) w') :
    o.uponIn Fence.wide 0 P a next Q ((execOp a.eval o).run P w) := by
  unfold OpGo at g
  generalize (execOp a.eval o).run P w = res at g
  cases res with
  | halt x w' => exact g.elim
  | ok n w' =>
    cases n with
    | value v => exact h v w' g
    | skip => exact h undef w' g
    | enter f args =>
      refine ⟨fun hx => (by cases hx), callsIn_wide.2 (g.mono fun e w'' ⟨v, he, hgood⟩ => ?_)⟩
      subst he
      exact h v w'' hgood
    | round l f tmps x y =>
      refine ⟨fun hx => (by cases hx), g.mono fun e w'' ⟨v, he, hgood⟩ => ?_⟩
      subst he
      exact h v w'' hgood
    | _ => exact g.elim

/-- One operation comes up. -/
def wpOpE (P : Program) (ops : Array Oper) (Q : Exit → Act → World → Prop) (i : Nat) (K : Act → World → Prop) (a : Act) (w : World) : Prop :=
  match ops[i]? with
  | none => K a w
  | some o => if Region.wanted o (yielded ops a.tmps) then o.uponIn Fence.wide 0 P a K Q ((execOp a.eval o).run P w) else K (a.put o.dst undef) w

theorem uponE_mono {P : Program} {o : Oper} {a : Act} {Q : Exit → Act → World → Prop} {K K' : Act → World → Prop} {r : Result Next} (h : ∀ a w, K a w → K' a w) (hh : o.uponIn Fence.wide 0 P a K Q r) : o.uponIn Fence.wide 0 P a K' Q r := by
  cases r with
  | ok x w' =>
    cases x <;> simp only [Oper.uponIn] at hh ⊢ <;>
      first
        | exact h _ _ hh
        | exact ⟨hh.1, CallsIn.mono hh.2 (fun e w'' he => by cases e <;> first | exact h _ _ he | exact he)⟩
        | exact ⟨hh.1, RowsIn.mono hh.2 (fun _ _ he => h _ _ he)⟩
        | exact ⟨hh.1, RoundIn.mono hh.2 (fun e w'' he => by cases e <;> first | exact h _ _ he | exact he)⟩
  | halt x w' => cases x <;> simp only [Oper.uponIn] at hh ⊢ <;> exact hh

theorem wpOpE_mono {P : Program} {ops : Array Oper} {Q : Exit → Act → World → Prop} {i : Nat} {a : Act} {w : World} {K K' : Act → World → Prop} (h : ∀ a w, K a w → K' a w) (hh : wpOpE P ops Q i K a w) : wpOpE P ops Q i K' a w := by
  unfold wpOpE at *
  split
  · exact h _ _ (by simpa [*] using hh)
  · rename_i o ho
    simp only [ho] at hh
    split
    · rename_i hw; simp only [hw, if_true] at hh; exact uponE_mono h hh
    · rename_i hw; simp only [hw] at hh; exact h _ _ hh

theorem wpOpE_in {P : Program} {ops : Array Oper} {Q : Exit → Act → World → Prop} {i : Nat} {a : Act} {w : World} {K : Act → World → Prop} (hh : wpOpE P ops Q i K a w) : wpOpIn Fence.wide 0 P ops Q i K a w := by
  unfold wpOpE at hh
  unfold wpOpIn
  cases ho : ops[i]? with
  | none => rw [ho] at hh; exact hh
  | some o =>
    rw [ho] at hh
    simp only at hh ⊢
    split
    · rename_i hw
      rw [if_pos hw] at hh
      exact ⟨fun _ _ => trivial, hh⟩
    · rename_i hw
      rw [if_neg hw] at hh
      exact ⟨fun _ _ => trivial, hh⟩

theorem YieldsIf.wpOpE {P : Program} {ops : Array Oper} {Q : Exit → Act → World → Prop} {S : World → Prop} {i : Nat} {o : Oper} {v : Value} {a : Act} (hi : ops[i]? = some o) (hy : YieldsIf P ops S o v a)
    {K : Act → World → Prop} {w : World} (hS : S w) (h : K (a.put o.dst v) w) : wpOpE P ops Q i K a w := by
  unfold Ip.wpOpE
  simp only [hi]
  rcases hy with ⟨hw, hv⟩ | ⟨hw, rfl⟩
  · simp only [hw, if_true, hv w hS, Oper.uponIn]; exact h
  · simp only [hw, Bool.false_eq_true, if_false]; exact h

theorem wpOpE_putIf {P : Program} {ops : Array Oper} {Q : Exit → Act → World → Prop} {S : World → Prop} {j : Nat} {oi oj : Oper} {v : Value} (hj : ops[j]? = some oj) (hap : oi.apart ops oj = true)
    (hsi : ∀ cs b, oi.op ≠ .select cs b) (hsj : ∀ cs b, oj.op ≠ .select cs b)
    (hQ : ∀ c a w, Q (.panic c) (a.put oi.dst v) w → Q (.panic c) a w) {K : Act → World → Prop} {a : Act} {w : World}
    (hy : YieldsIf P ops S oi v a) (h : wpOpE P ops Q j K (a.put oi.dst v) w) :
    wpOpE P ops Q j (fun a' w' => YieldsIf P ops S oi v a' ∧ K (a'.put oi.dst v) w') a w := by
  obtain ⟨h1, h2, h3⟩ := Oper.apart_spec hap
  have keep : ∀ (a : Act), YieldsIf P ops S oi v a → ∀ u, YieldsIf P ops S oi v (a.put oj.dst u) := fun a hy u =>
    hy.of_same (execOp_put oi hsi a oj.dst u h3) (wanted_put oi a oj.dst u h3)
  have keepD : ∀ d, YieldsIf P ops S oi v { a with defers := d :: a.defers } := fun d => hy.of_same rfl rfl
  unfold wpOpE at *
  simp only [hj] at *
  rw [wanted_put oj a oi.dst v h1] at h
  split
  · rename_i hw
    simp only [hw, if_true] at h
    rw [execOp_put oj hsj a oi.dst v h1] at h
    generalize (execOp a.eval oj).run P w = r at *
    cases r with
    | ok n w' =>
      cases n <;> simp only [Oper.uponIn] at h ⊢
      case value u => exact ⟨keep a hy u, by rw [← Act.put_comm a v u h2]; exact h⟩
      case skip => exact ⟨keep a hy _, by rw [← Act.put_comm a v undef h2]; exact h⟩
      case defer d =>
        refine ⟨keep _ (keepD d) _, ?_⟩
        rw [← Act.put_comm _ v undef h2, ← Act.put_defers]
        exact h
      case enter f args =>
        refine ⟨h.1, CallsIn.mono h.2 fun e w'' he => ?_⟩
        cases e with
        | returned u => exact ⟨keep a hy u, by rw [← Act.put_comm a v u h2]; exact he⟩
        | panicked c => exact hQ _ _ _ he
        | outgrown => exact he
      case row row args => exact ⟨h.1, RowsIn.mono h.2 fun u w'' he => ⟨keep a hy u, by rw [← Act.put_comm a v u h2]; exact he⟩⟩
      case round l f tmps x y =>
        refine ⟨h.1, RoundIn.mono h.2 fun e w'' he => ?_⟩
        cases e with
        | returned u => exact ⟨keep a hy u, by rw [← Act.put_comm a v u h2]; exact he⟩
        | panicked c => exact hQ _ _ _ he
        | outgrown => exact he
    | halt x w' =>
      cases x <;> simp only [Oper.uponIn] at h ⊢
      case panic u => exact hQ _ _ _ h
  · rename_i hw
    simp only [hw] at h
    exact ⟨keep a hy _, by rw [← Act.put_comm a v undef h2]; exact h⟩

/-- The operations in the text's order. -/
def wpListE (P : Program) (all : Array Oper) (Q : Exit → Act → World → Prop) : List Oper → Act → World → Prop
  | [], a, w => Q .normal a w
  | o :: l, a, w => if Region.wanted o (yielded all a.tmps) then (∀ c, o.op ≠ .defer c) ∧ o.uponIn Fence.wide 0 P a (wpListE P all Q l) Q ((execOp a.eval o).run P w) else wpListE P all Q l (a.put o.dst undef) w

theorem wpListE_ops {P : Program} {all : Array Oper} {Q : Exit → Act → World → Prop} (r : Option Nat) : ∀ (l : List Oper) (i : Nat) (a : Act) (w : World), all.toList.drop i = l → wpListE P all Q l a w → wpOpsIn (wideR r) 0 P all Q (List.range' i l.length) a w
  | [], _, _, _, _, h => h
  | o :: l, i, a, w, hl, h => by
    have hi : all[i]? = some o := by
      rw [← Array.getElem?_toList]
      have : (all.toList.drop i)[0]? = some o := by rw [hl]; rfl
      simpa using this
    have hl' : all.toList.drop (i + 1) = l := by rw [← List.tail_drop, hl]; rfl
    rw [List.length_cons, List.range'_succ]
    simp only [wpOpsIn, hi]
    unfold wpListE at h
    split
    · rename_i hw
      rw [if_pos hw] at h
      refine ⟨fun _ _ => trivial, ?_⟩
      rw [Oper.semAt_eq _ _ _ h.1]
      exact uponE_mono (fun a w h => wpListE_ops r l (i + 1) a w hl' h) h.2
    · rename_i hw
      rw [if_neg hw] at h
      exact ⟨fun _ _ => trivial, wpListE_ops r l (i + 1) _ w hl' h⟩

theorem wpIn_region_listE {P : Program} {Q : Exit → Act → World → Prop} {r : Option Nat} {id : Nat} {ops : Array Oper} {a : Act} {w : World} (h : wpListE P ops Q ops.toList a w) : (Code.region id ops false).wpIn (wideR r) 0 P Q a w := by
  refine wpIn_region ?_
  have := wpListE_ops r ops.toList 0 a w rfl h
  rwa [← List.range_eq_range', Array.length_toList] at this

theorem pop_defer {e : Operand → PV} {o : Op} {h : PHeap} {r : PV × PHeap} (hp : pop c e o h = some r) : ∀ d, o ≠ .defer d := by
  intro d hd; subst hd; cases hp

/-- Some state behind it. -/
def Later (c : Ctx) (B : Nat) (W : Base) (μ : List Loc) (s : St) (a : Act) (w : World) : Prop := ∃ μ', μ <+: μ' ∧ SR c B W μ' s a w

/-- Where the operations lead. -/
def endOps (c : Ctx) (all : List Oper) : List Oper → St → Option St
  | [], s => some s
  | o :: rest, s => (wantP all s.r o.guard).bind fun g => (doOp c o g s).bind fun p => endOps c all rest ⟨setR s.r o.dst p.1, p.2⟩

theorem runOps_end (all : List Oper) (k : St → Res) : ∀ (l : List Oper) (s : St), runOps c all l s k = (endOps c all l s).bind k
  | [], s => rfl
  | o :: l, s => by
    have key : runOps c all (o :: l) s k = (wantP all s.r o.guard).bind fun g => (doOp c o g s).bind fun p => runOps c all l ⟨setR s.r o.dst p.1, p.2⟩ k := by
      cases hg : o.guard with
      | none => simp only [runOps, hg, wantP, Option.bind_some, doOp, cond_true, popK_eq]
      | some g => simp only [runOps, hg]
    rw [key]
    simp only [endOps]
    cases wantP all s.r o.guard with
    | none => rfl
    | some g =>
      simp only [Option.bind_some]
      cases doOp c o g s with
      | none => rfl
      | some p => simp only [Option.bind_some]; exact runOps_end all k l _

theorem ops_sound (hs : c.p = std c.P) (hc : CallOk c) {all : Array Oper} {Q : Exit → Act → World → Prop} {s' : St} :
    ∀ (l : List Oper) (μ : List Loc) (s : St) (a : Act) (w : World), endOps c all.toList l s = some s' → SR c B W μ s a w →
      (∀ a' w', Later c B W μ s' a' w' → Q .normal a' w') → wpListE c.P all Q l a w
  | [], μ, s, a, w, hr, sr, hq => by cases hr; exact hq a w ⟨μ, List.prefix_refl _, sr⟩
  | o :: l, μ, s, a, w, hr, sr, hq => by
    simp only [endOps, Option.bind_eq_some_iff] at hr
    obtain ⟨g, hg, ⟨p, h'⟩, hp, hr⟩ := hr
    have hw := want_sound sr.fr hg
    unfold wpListE
    cases g with
    | false =>
      rw [hw]
      simp only [Bool.false_eq_true, if_false]
      simp only [doOp, cond_false, Option.some.injEq, Prod.mk.injEq] at hp
      obtain ⟨rfl, rfl⟩ := hp
      exact ops_sound hs hc l μ _ _ w hr (sr.put o.dst (undef_rep μ)) hq
    | true =>
      rw [hw]
      simp only [if_true]
      simp only [doOp, cond_true] at hp
      refine ⟨pop_defer hp, upon_go (pop_go hs hc sr hp) ?_⟩
      rintro v w' ⟨⟨μ', hpre, hrep, hsim⟩, hk⟩
      exact ops_sound hs hc l μ' _ _ w' hr (sr.next o.dst hpre hrep hsim hk) (fun a' w'' ⟨μ'', hpre', sr'⟩ => hq a' w'' ⟨μ'', hpre.trans hpre', sr'⟩)

/-- A region whose operations only read. -/
theorem quiet_ops_sound (hs : c.p = std c.P) {all : Array Oper} {Q : Act → Prop} {s' : St} {w : World} :
    ∀ (l : List Oper) (μ : List Loc) (s : St) (a : Act), (∀ o ∈ l, quietOp o.op = true) → endOps c all.toList l s = some s' → SR c B W μ s a w →
      (∀ a', SR c B W μ s' a' w → Q a') → wpQuiet c.P all (fun w' => w'.heap = w.heap ∧ ∃ n, w' = { w with drawn := n }) Q l a
  | [], μ, s, a, _, hr, sr, hq => by cases hr; exact hq a sr
  | o :: l, μ, s, a, hquiet, hr, sr, hq => by
    simp only [endOps, Option.bind_eq_some_iff] at hr
    obtain ⟨g, hg, ⟨p, h'⟩, hp, hr⟩ := hr
    have hw := want_sound sr.fr hg
    unfold wpQuiet
    cases g with
    | false =>
      rw [hw]
      simp only [Bool.false_eq_true, if_false]
      simp only [doOp, cond_false, Option.some.injEq, Prod.mk.injEq] at hp
      obtain ⟨rfl, rfl⟩ := hp
      exact quiet_ops_sound hs l μ _ _ (fun o ho => hquiet o (by simp [ho])) hr (sr.put o.dst (undef_rep μ)) hq
    | true =>
      rw [hw]
      simp only [if_true]
      simp only [doOp, cond_true] at hp
      obtain ⟨rfl, v, hrep, hv⟩ := pop_quiet (c := c) hs (ρ := a.eval) sr.sim (sr.fr.eval sr.glob) (hquiet o (by simp)) hp
      refine ⟨v, fun w' hw' => ?_, ?_⟩
      · unfold Oper.quietAt
        rw [hv w' hw'.1]
        exact ⟨rfl, rfl⟩
      · exact quiet_ops_sound hs l μ _ _ (fun o ho => hquiet o (by simp [ho])) hr (sr.put o.dst hrep) hq

/-! ### regions whose order is drawn, that change the heap, and load: the loads first, and held -/
def chk (c : Ctx) : Cks → PHeap → Option Unit
  | [], _ => some ()
  | x :: l, h => (c.p.load x.2.1 x.2.2.1 h).bind fun p => bif plainEq x.2.2.2 p then chk c l h else none

theorem chkAll_eq (h : PHeap) (r : Res) : ∀ (l : Cks), chkAll c l h r = (chk c l h).bind fun _ => r
  | [] => rfl
  | x :: l => by
    simp only [chkAll, chk]
    cases c.p.load x.2.1 x.2.2.1 h with
    | none => rfl
    | some p =>
      simp only [Option.bind_some]
      cases plainEq x.2.2.2 p with
      | true => simp only [cond_true]; exact chkAll_eq h r l
      | false => rfl

def endEarly (c : Ctx) (all : List Oper) : List Nat → St → Cks → Option (St × Cks)
  | [], s, ck => some (s, ck)
  | i :: E, s, ck => (all[i]?).bind fun o => (pop c (evA c.glob s.r) o.op s.h).bind fun p => endEarly c all E ⟨setR s.r o.dst p.1, p.2⟩ (ckAdd i o.op (evA c.glob s.r) p.1 ck)

theorem runEarly_end (all : List Oper) (k : St → Cks → Res) : ∀ (E : List Nat) (s : St) (ck : Cks), runEarly c all E s ck k = (endEarly c all E s ck).bind fun r => k r.1 r.2
  | [], s, ck => rfl
  | i :: E, s, ck => by
    simp only [runEarly, endEarly]
    cases all[i]? with
    | none => rfl
    | some o =>
      simp only [Option.bind_some, popK_eq]
      cases pop c (evA c.glob s.r) o.op s.h with
      | none => rfl
      | some p => simp only [Option.bind_some]; exact runEarly_end all k E _ _

def endLate (c : Ctx) (all : List Oper) (st : Bool) : Cks → List (Nat × Bool) → St → Option St
  | _, [], s => some s
  | ck, (i, true) :: L, s => (all[i]?).bind fun o => (wantP all s.r o.guard).bind fun g => bif g then (pop c (evA c.glob s.r) o.op s.h).bind fun p => endLate c all st (ckAdd i o.op (evA c.glob s.r) p.1 ck) L ⟨setR s.r o.dst p.1, p.2⟩ else endLate c all st ck L ⟨setR s.r o.dst (.tup []), s.h⟩
  | ck, (i, false) :: L, s => (all[i]?).bind fun o => (wantP all s.r o.guard).bind fun g => (doOp c o g s).bind fun p => (bif quietOp o.op then some ck else (chk c (ckDrop st o ck) p.2).bind fun _ => some (ckDrop st o ck)).bind fun ck' => endLate c all st ck' L ⟨setR s.r o.dst p.1, p.2⟩

theorem runLate_end (all : List Oper) (st : Bool) (k : St → Res) : ∀ (L : List (Nat × Bool)) (ck : Cks) (s : St), runLate c all st ck L s k = (endLate c all st ck L s).bind k
  | [], ck, s => by simp only [runLate, endLate]; rfl
  | (i, true) :: L, ck, s => by
    simp only [runLate, endLate]
    cases all[i]? with
    | none => rfl
    | some o =>
      simp only [Option.bind_some]
      cases hg : o.guard with
      | none =>
        simp only [wantP, Option.bind_some, cond_true, popK_eq]
        cases pop c (evA c.glob s.r) o.op s.h with
        | none => rfl
        | some p => simp only [Option.bind_some]; exact runLate_end all st k L _ _
      | some g =>
        simp only
        cases wantP all s.r (some g) with
        | none => rfl
        | some b =>
          simp only [Option.bind_some]
          cases b with
          | false => simp only [cond_false]; exact runLate_end all st k L _ _
          | true =>
            simp only [cond_true, popK_eq]
            cases pop c (evA c.glob s.r) o.op s.h with
            | none => rfl
            | some p => simp only [Option.bind_some]; exact runLate_end all st k L _ _
  | (i, false) :: L, ck, s => by
    have key : runLate c all st ck ((i, false) :: L) s k = (all[i]?).bind fun o => (wantP all s.r o.guard).bind fun g => (doOp c o g s).bind fun p => (bif quietOp o.op then some ck else (chk c (ckDrop st o ck) p.2).bind fun _ => some (ckDrop st o ck)).bind fun ck' => runLate c all st ck' L ⟨setR s.r o.dst p.1, p.2⟩ k := by
      simp only [runLate]
      cases all[i]? with
      | none => rfl
      | some o =>
        simp only [Option.bind_some]
        cases hg : o.guard with
        | none =>
          simp only [wantP, Option.bind_some, doOp, cond_true, popK_eq, chkAll_eq]
          cases pop c (evA c.glob s.r) o.op s.h with
          | none => rfl
          | some p =>
            simp only [Option.bind_some]
            cases quietOp o.op with
            | true => rfl
            | false =>
              simp only [cond_false]
              cases chk c (ckDrop st o ck) p.2 <;> rfl
        | some g =>
          simp only [chkAll_eq]
          cases wantP all s.r (some g) with
          | none => rfl
          | some b =>
            simp only [Option.bind_some]
            cases doOp c o b s with
            | none => rfl
            | some p =>
              simp only [Option.bind_some]
              cases quietOp o.op with
              | true => rfl
              | false =>
                simp only [cond_false]
                cases chk c (ckDrop st o ck) p.2 <;> rfl
    rw [key]
    simp only [endLate]
    cases all[i]? with
    | none => rfl
    | some o =>
      simp only [Option.bind_some]
      cases wantP all s.r o.guard with
      | none => rfl
      | some g =>
        simp only [Option.bind_some]
        cases doOp c o g s with
        | none => rfl
        | some p =>
          simp only [Option.bind_some]
          cases (bif quietOp o.op then some ck else (chk c (ckDrop st o ck) p.2).bind fun _ => some (ckDrop st o ck)) with
          | none => rfl
          | some ck' => simp only [Option.bind_some]; exact runLate_end all st k L ck' _

/-- A load that was taken, and what the machine makes of it. -/
def RelCk (μ : List Loc) (x : Nat × TypeId × PV × PV) (r : Nat × TypeId × Value × Value) : Prop := x.1 = r.1 ∧ x.2.1 = r.2.1 ∧ rep μ x.2.2.1 r.2.2.1 ∧ rep μ x.2.2.2 r.2.2.2
theorem RelCk.mono {μ μ' : List Loc} (h : μ <+: μ') {x : Nat × TypeId × PV × PV} {r : Nat × TypeId × Value × Value} (hr : RelCk μ x r) : RelCk μ' x r := ⟨hr.1, hr.2.1, hr.2.2.1.mono h, hr.2.2.2.mono h⟩
theorem rel_mem {μ : List Loc} : ∀ {ck : Cks} {rs : List (Nat × TypeId × Value × Value)}, All2 (RelCk μ) ck rs → ∀ r ∈ rs, ∃ x ∈ ck, RelCk μ x r
  | [], [], _, r, hr => by cases hr
  | x :: ck, y :: rs, h, r, hr => by
    rcases List.mem_cons.1 hr with rfl | hr
    · exact ⟨x, List.mem_cons_self .., h.1⟩
    · obtain ⟨z, hz, hzr⟩ := rel_mem h.2 r hr
      exact ⟨z, List.mem_cons_of_mem _ hz, hzr⟩
  | [], _ :: _, h, _, _ => h.elim
  | _ :: _, [], h, _, _ => h.elim
/-- The load yields what it yielded. -/
def Yet (P : Program) (r : Nat × TypeId × Value × Value) (w : World) : Prop := (Instr.loadAt r.2.1 r.2.2.1).run P w = .ok r.2.2.2 w

/-! ### orders that are drawn, and loads taken ahead: each must yield the same until something that writes, and that waits for it, has come up -/
section
variable {ops : Array Oper}
/-- Has something come up that is more than a look, and that waits for operation i? -/
def Dep (ops : Array Oper) (l : Array Bool) (i : Nat) : Prop := ∃ (j : Nat) (o : Oper), ops[j]? = some o ∧ l.getD j false = true ∧ quietOp o.op = false ∧ ∃ e ∈ o.after, Region.binds .any e = true ∧ e.on = i
theorem marked {l : Array Bool} {i j : Nat} (h : l.getD j false = true) : (l.setIfInBounds i true).getD j false = true := by
  rw [Array.getD_eq_getD_getElem?] at h ⊢
  by_cases e : i = j
  · subst e
    cases hl : l[i]? with
    | none => rw [hl] at h; cases h
    | some b =>
      have : i < l.size := (Array.getElem?_eq_some_iff.1 hl).1
      rw [Array.getElem?_setIfInBounds_self_of_lt this]; rfl
  · rw [Array.getElem?_setIfInBounds_ne e]; exact h
theorem unmarked {l : Array Bool} {i j : Nat} (h : (l.setIfInBounds i true).getD j false = true) : j = i ∨ l.getD j false = true := by
  by_cases e : i = j
  · exact .inl e.symm
  · right
    rw [Array.getD_eq_getD_getElem?] at h ⊢
    rwa [Array.getElem?_setIfInBounds_ne e] at h
theorem Dep.mono {l : Array Bool} {i k : Nat} (h : Dep ops l i) : Dep ops (l.setIfInBounds k true) i := by
  obtain ⟨j, o, ho, hl, rest⟩ := h
  exact ⟨j, o, ho, marked hl, rest⟩
theorem Dep.look {l : Array Bool} {i k : Nat} {ok : Oper} (hk : ops[k]? = some ok) (hq : quietOp ok.op = true) (h : Dep ops (l.setIfInBounds k true) i) : Dep ops l i := by
  obtain ⟨j, o, ho, hl, hn, rest⟩ := h
  rcases unmarked hl with rfl | hl
  · rw [hk] at ho
    rw [← Option.some.inj ho, hq] at hn; cases hn
  · exact ⟨j, o, ho, hl, hn, rest⟩
/-- What has come up had all before it that it waits for. -/
def Closed (ops : Array Oper) (l : Array Bool) : Prop := ∀ (j : Nat) (o : Oper), ops[j]? = some o → l.getD j false = true → ∀ e ∈ o.after, Region.binds .any e = true → l.getD e.on false = true
theorem Closed.none (n : Nat) : Closed ops (Array.replicate n false) := by
  intro j o _ h
  exfalso
  rw [Array.getD_eq_getD_getElem?, Array.getElem?_replicate] at h
  split at h <;> cases h
theorem Closed.more {l : Array Bool} {i : Nat} (h : Closed ops l) (hr : i ∈ Region.ready .any ops l) : Closed ops (l.setIfInBounds i true) := by
  obtain ⟨_, oi, hoi, hall⟩ := mem_ready.1 hr
  intro j o ho hl e he hb
  rcases unmarked hl with rfl | hl
  · rw [hoi] at ho
    cases ho
    exact marked (hall e he hb)
  · exact marked (h j o ho hl e he hb)
theorem Closed.fresh {l : Array Bool} {i : Nat} (h : Closed ops l) (hr : i ∈ Region.ready .any ops l) : ¬ Dep ops l i := by
  rintro ⟨j, o, ho, hl, _, e, he, hb, heq⟩
  have h1 := h j o ho hl e he hb
  have h0 := (mem_ready.1 hr).1
  rw [heq, Array.getD_eq_getD_getElem?] at h1
  rw [Array.getD_eq_getD_getElem?] at h0
  cases hl' : l[i]? with
  | none => rw [hl'] at h1; cases h1
  | some b => rw [hl'] at h0 h1; simp only [Option.getD_some] at h0 h1; rw [h0] at h1; cases h1

def HeldL (P : Program) (ops : Array Oper) (rs : List (Nat × TypeId × Value × Value)) (l : Array Bool) (w : World) : Prop := ∀ r ∈ rs, ¬ Dep ops l r.1 → Yet P r w
theorem HeldL.look {P : Program} {rs : List (Nat × TypeId × Value × Value)} {l : Array Bool} {w : World} {k : Nat} {ok : Oper} (hk : ops[k]? = some ok) (hq : quietOp ok.op = true) (h : HeldL P ops rs (l.setIfInBounds k true) w) : HeldL P ops rs l w :=
  fun r hr hd => h r hr fun hd' => hd (hd'.look hk hq)
theorem HeldL.more {P : Program} {rs : List (Nat × TypeId × Value × Value)} {l : Array Bool} {w : World} {k : Nat} (h : HeldL P ops rs l w) : HeldL P ops rs (l.setIfInBounds k true) w :=
  fun r hr hd => h r hr fun hd' => hd hd'.mono

/-- Whatever order is drawn; S, which may look at what has come up, holds behind each operation. -/
def wpAnyD (P : Program) (ops : Array Oper) (Q : Exit → Act → World → Prop) (S : Array Bool → World → Prop) : Nat → Array Bool → Act → World → Prop
  | 0, listed, a, w => Region.ready .any ops listed = [] ∧ Q .normal a w
  | fuel + 1, listed, a, w =>
    (Region.ready .any ops listed = [] → Q .normal a w) ∧
    ∀ i ∈ Region.ready .any ops listed, wpOpE P ops Q i (fun a' w' => S (listed.setIfInBounds i true) w' ∧ wpAnyD P ops Q S fuel (listed.setIfInBounds i true) a' w') a w
variable {P : Program} {Q : Exit → Act → World → Prop} {S S' : Array Bool → World → Prop}
theorem wpAnyD_any : ∀ (fuel : Nat) (listed : Array Bool) (a : Act) (w : World), wpAnyD P ops Q S fuel listed a w → wpAnyIn Fence.wide 0 P .any ops Q fuel listed a w
  | 0, _, _, _, h => h
  | fuel + 1, _, _, _, h => ⟨h.1, fun i hi => wpOpE_in (wpOpE_mono (fun a' w' h' => wpAnyD_any fuel _ a' w' h'.2) (h.2 i hi))⟩
theorem wpAnyD_mono (hSS : ∀ l w, S' l w → S l w) : ∀ (fuel : Nat) (listed : Array Bool) (a : Act) (w : World), wpAnyD P ops Q S' fuel listed a w → wpAnyD P ops Q S fuel listed a w
  | 0, _, _, _, h => h
  | fuel + 1, _, _, _, h => ⟨h.1, fun i hi => wpOpE_mono (fun a' w' h' => ⟨hSS _ w' h'.1, wpAnyD_mono hSS fuel _ a' w' h'.2⟩) (h.2 i hi)⟩
theorem wpAnyD_done {listed : Array Bool} {a : Act} {w : World} (hr : Region.ready .any ops listed = []) (h : Q .normal a w) : ∀ fuel, wpAnyD P ops Q S fuel listed a w
  | 0 => ⟨hr, h⟩
  | _ + 1 => ⟨fun _ => h, by rw [hr]; simp⟩
theorem wpAnyD_all {rs : List Nat} {fuel : Nat} {listed : Array Bool} {a : Act} {w : World} (hr : Region.ready .any ops listed = rs) (hne : rs ≠ [])
    (h : ∀ i ∈ rs, wpOpE P ops Q i (fun a' w' => S (listed.setIfInBounds i true) w' ∧ wpAnyD P ops Q S fuel (listed.setIfInBounds i true) a' w') a w) : wpAnyD P ops Q S (fuel + 1) listed a w :=
  ⟨fun h0 => absurd (hr ▸ h0) hne, hr ▸ h⟩
/-- An operation that only looks may be taken ahead, if what it yields stands until something that writes, and that waits for it, has come up. -/
theorem wpAnyD_first {i : Nat} {oi : Oper} {v : Value} {Si : World → Prop} (hi : ops[i]? = some oi) (hsel : Region.noSelect ops = true)
    (hQ : ∀ c a w, Q (.panic c) (a.put oi.dst v) w → Q (.panic c) a w) (hSS : ∀ l w, S' l w → S l w) (hS : ∀ l w, ¬ Dep ops l i → S' (l.setIfInBounds i true) w → S l w ∧ Si w) :
    ∀ (fuel : Nat) (listed : Array Bool) (a : Act) (w : World),
      (∀ (j : Nat) (oj : Oper), ops[j]? = some oj → j ≠ i → listed.getD j true = false → (∀ e ∈ oj.after, Region.binds .any e = true → e.on ≠ i) → oi.apart ops oj = true) →
      i ∈ Region.ready .any ops listed → ¬ Dep ops listed i → YieldsIf P ops Si oi v a → Si w → S' (listed.setIfInBounds i true) w →
      wpAnyD P ops Q S' fuel (listed.setIfInBounds i true) (a.put oi.dst v) w → wpAnyD P ops Q S (fuel + 1) listed a w := by
  have hse := Region.noSelect_spec hsel
  intro fuel
  induction fuel with
  | zero =>
    intro listed a w _ hr hd hy hw hSw H
    refine ⟨fun h => (by rw [h] at hr; cases hr), fun j hj => ?_⟩
    by_cases hji : j = i
    · subst hji; exact YieldsIf.wpOpE hi hy hw ⟨hSS _ _ hSw, wpAnyD_mono hSS _ _ _ _ H⟩
    · have := ready_mono hj hji
      rw [H.1] at this
      cases this
  | succ fuel ih =>
    intro listed a w hfree hr hd hy hw hSw H
    refine ⟨fun h => (by rw [h] at hr; cases hr), fun j hj => ?_⟩
    by_cases hji : j = i
    · subst hji; exact YieldsIf.wpOpE hi hy hw ⟨hSS _ _ hSw, wpAnyD_mono hSS _ _ _ _ H⟩
    · have h1 := H.2 j (ready_mono hj hji)
      obtain ⟨hjun, oj, hoj, hall⟩ := mem_ready.1 hj
      have hiun := (mem_ready.1 hr).1
      have hnot : ∀ e ∈ oj.after, Region.binds .any e = true → e.on ≠ i := fun e he hb heq => by
        have h1 := hall e he hb
        rw [heq, Array.getD_eq_getD_getElem?] at h1
        rw [Array.getD_eq_getD_getElem?] at hiun
        cases hl' : listed[i]? with
        | none => rw [hl'] at h1; cases h1
        | some b => rw [hl'] at h1 hiun; simp only [Option.getD_some] at h1 hiun; rw [hiun] at h1; cases h1
      have hd' : ¬ Dep ops (listed.setIfInBounds j true) i := by
        rintro ⟨k, o, ho, hl, hn, e, he, hb, heq⟩
        rcases unmarked hl with rfl | hl
        · rw [hoj] at ho
          cases ho
          exact hnot e he hb heq
        · exact hd ⟨k, o, ho, hl, hn, e, he, hb, heq⟩
      have h2 := wpOpE_putIf hoj (hfree j oj hoj hji hjun hnot) (fun cs b => hse i oi cs b hi) (fun cs b => hse j oj cs b hoj) hQ hy h1
      have hfree' : ∀ (k : Nat) (ok : Oper), ops[k]? = some ok → k ≠ i → (listed.setIfInBounds j true).getD k true = false → (∀ e ∈ ok.after, Region.binds .any e = true → e.on ≠ i) → oi.apart ops ok = true := fun k ok hk hki hun hno => by
        refine hfree k ok hk hki ?_ hno
        by_cases hjk : j = k
        · subst hjk; exact hjun
        · rw [getD_set_ne true hjk] at hun; exact hun
      refine wpOpE_mono (fun a' w' h3 => ?_) h2
      obtain ⟨hy', hS', hrest⟩ := h3
      rw [Array.setIfInBounds_comm _ _ (Ne.symm hji)] at hS' hrest
      obtain ⟨hSj, hSi⟩ := hS _ _ hd' hS'
      exact ⟨hSj, ih _ a' w' hfree' (ready_mono hr (Ne.symm hji)) hd' hy' hSi hS' hrest⟩
theorem wpAnyD_take {i : Nat} {oi : Oper} {v : Value} {Si : World → Prop} {fuel : Nat} {listed : Array Bool} {a : Act} {w : World} (hi : ops[i]? = some oi) (hsel : Region.noSelect ops = true)
    (hf : Region.free .any ops listed i = true) (hr : (Region.ready .any ops listed).contains i = true) (hcl : Closed ops listed)
    (hQ : ∀ c a w, Q (.panic c) (a.put oi.dst v) w → Q (.panic c) a w) (hSS : ∀ l w, S' l w → S l w) (hS : ∀ l w, ¬ Dep ops l i → S' (l.setIfInBounds i true) w → S l w ∧ Si w)
    (hy : YieldsIf P ops Si oi v a) (hw : Si w) (hSw : S' (listed.setIfInBounds i true) w)
    (h : wpAnyD P ops Q S' fuel (listed.setIfInBounds i true) (a.put oi.dst v) w) : wpAnyD P ops Q S (fuel + 1) listed a w :=
  wpAnyD_first hi hsel hQ hSS hS fuel listed a w (Region.free_spec hi hf) (by simpa using hr) (hcl.fresh (by simpa using hr)) hy hw hSw h
end

/-- A region whose order is drawn, and some of whose operations change the heap. -/
theorem mix_ops_sound (hs : c.p = std c.P) (hc : CallOk c) {all : Array Oper} {Q : Exit → Act → World → Prop} {s' : St} (hsel : Region.noSelect all = true) (hQ : ∀ x a w, ¬ Q (.panic x) a w) :
    ∀ (l : List Oper) (i : Nat) (listed : Array Bool) (μ : List Loc) (s : St) (a : Act) (w : World), all.toList.drop i = l → mixGo c.P all i l listed = true → endOps c all.toList l s = some s' → SR c B W μ s a w → Closed all listed →
      (∀ a' w', Later c B W μ s' a' w' → Q .normal a' w') → wpAnyD c.P all Q (fun _ _ => True) l.length listed a w
  | [], i, listed, μ, s, a, w, hl, hm, hr, sr, hcl, hq => by
    cases hr
    unfold mixGo at hm
    exact wpAnyD_done (by simpa using hm) (hq a w ⟨μ, List.prefix_refl _, sr⟩) 0
  | o :: l, i, listed, μ, s, a, w, hl, hm, hr, sr, hcl, hq => by
    simp only [endOps, Option.bind_eq_some_iff] at hr
    obtain ⟨g, hg, ⟨p, h'⟩, hp, hr⟩ := hr
    have hw := want_sound sr.fr hg
    have hi : all[i]? = some o := by
      rw [← Array.getElem?_toList]
      have : (all.toList.drop i)[0]? = some o := by rw [hl]; rfl
      simpa using this
    have hl' : all.toList.drop (i + 1) = l := by
      rw [← List.tail_drop, hl]; rfl
    unfold mixGo at hm
    rw [Bool.and_eq_true, Bool.or_eq_true] at hm
    obtain ⟨hm1, hm2⟩ := hm
    rcases hm1 with hm1 | hm1
    · simp only [Bool.and_eq_true] at hm1
      obtain ⟨⟨hpure, hfree⟩, hready⟩ := hm1
      have hcl' : Closed all (listed.setIfInBounds i true) := hcl.more (by simpa using hready)
      cases g with
      | false =>
        simp only [doOp, cond_false, Option.some.injEq, Prod.mk.injEq] at hp
        obtain ⟨rfl, rfl⟩ := hp
        exact wpAnyD_take (v := undef) (Si := fun _ => True) (S' := fun _ _ => True) hi hsel hfree hready hcl (fun x a w hx => absurd hx (hQ x _ w)) (fun _ _ _ => trivial) (fun _ _ _ _ => ⟨trivial, trivial⟩) (.inr ⟨hw, rfl⟩) trivial trivial
          (mix_ops_sound hs hc hsel hQ l (i + 1) _ μ _ _ w hl' hm2 hr (sr.put o.dst (undef_rep μ)) hcl' hq)
      | true =>
        simp only [doOp, cond_true] at hp
        obtain ⟨rfl, v, hrep, hv⟩ := pop_pure (c := c) hs (ρ := a.eval) sr.sim (sr.fr.eval sr.glob) hpure hp
        exact wpAnyD_take (v := v) (Si := fun _ => True) (S' := fun _ _ => True) hi hsel hfree hready hcl (fun x a w hx => absurd hx (hQ x _ w)) (fun _ _ _ => trivial) (fun _ _ _ _ => ⟨trivial, trivial⟩) (.inl ⟨hw, fun w' _ => hv w'⟩) trivial trivial
          (mix_ops_sound hs hc hsel hQ l (i + 1) _ μ _ _ w hl' hm2 hr (sr.put o.dst hrep) hcl' hq)
    · have hr1 : Region.ready .any all listed = [i] := by simpa using hm1
      have hcl' : Closed all (listed.setIfInBounds i true) := hcl.more (by rw [hr1]; exact List.mem_singleton_self _)
      refine wpAnyD_all (rs := [i]) hr1 (by simp) ?_
      intro j hj
      obtain rfl : j = i := by simpa using hj
      unfold wpOpE
      simp only [hi]
      cases g with
      | false =>
        rw [hw]
        simp only [Bool.false_eq_true, if_false]
        simp only [doOp, cond_false, Option.some.injEq, Prod.mk.injEq] at hp
        obtain ⟨rfl, rfl⟩ := hp
        exact ⟨trivial, mix_ops_sound hs hc hsel hQ l (j + 1) _ μ _ _ w hl' hm2 hr (sr.put o.dst (undef_rep μ)) hcl' hq⟩
      | true =>
        rw [hw]
        simp only [if_true]
        simp only [doOp, cond_true] at hp
        refine upon_go (pop_go hs hc sr hp) ?_
        rintro v w' ⟨⟨μ', hpre, hrep, hsim⟩, hk⟩
        exact ⟨trivial, mix_ops_sound hs hc hsel hQ l (j + 1) _ μ' _ _ w' hl' hm2 hr (sr.next o.dst hpre hrep hsim hk) hcl' (fun a' w'' ⟨μ'', hpre', sr'⟩ => hq a' w'' ⟨μ'', hpre.trans hpre', sr'⟩)⟩

theorem strEq_eq {a b : ByteArray} (h : strEq a b = true) : a = b := by
  have h' : a.data.toList = b.data.toList := eq_of_beq h
  cases a
  cases b
  exact congrArg ByteArray.mk (Array.ext' h')
theorem plain1_rep {μ : List Loc} {p p' : PV} {v v' : Value} (h : plain1 p p' = true) (hp : repc μ p v) (hp' : repc μ p' v') : v = v' := by
  cases p <;> cases p' <;> simp only [plain1, Bool.false_eq_true, Bool.and_eq_true, decide_eq_true_eq] at h
  · obtain ⟨rfl, rfl⟩ := h
    simp only [repc] at hp hp'
    rw [hp, hp']
  · subst h
    simp only [repc] at hp hp'
    rw [hp, hp']
  · simp only [repc] at hp hp'
    rw [hp, hp', strEq_eq h]
  · obtain ⟨rfl, rfl⟩ := h
    obtain ⟨l, hl, rfl⟩ := hp
    obtain ⟨l', hl', rfl⟩ := hp'
    rw [hl] at hl'
    cases hl'; rfl
  · simp only [repc] at hp hp'
    rw [hp, hp']
  · obtain ⟨⟨⟨rfl, rfl⟩, rfl⟩, h0⟩ := h
    obtain ⟨l, cap, ad, hl, rfl, hc, hS⟩ := hp
    obtain ⟨l', cap', ad', hl', rfl, hc', hS'⟩ := hp'
    rw [hl] at hl'
    cases hl'
    obtain ⟨rfl, rfl⟩ := hS.same hS' hc hc' (by simpa using h0)
    rfl
  · subst h
    obtain ⟨l, hl, rfl⟩ := hp
    obtain ⟨l', hl', rfl⟩ := hp'
    rw [hl] at hl'
    cases hl'; rfl

theorem plainL_rep {μ : List Loc} : ∀ {l l' : List PV} {xs xs' : List Value}, plainL l l' = true → All2 (repc μ) l xs → All2 (repc μ) l' xs' → xs = xs'
  | [], [], [], [], _, _, _ => rfl
  | a :: as, b :: bs, x :: xs, y :: ys, h, h1, h2 => by
    simp only [plainL, Bool.and_eq_true] at h
    rw [plain1_rep h.1 h1.1 h2.1, plainL_rep h.2 h1.2 h2.2]
  | [], _ :: _, _, _, h, _, _ => by cases h
  | _ :: _, [], _, _, h, _, _ => by cases h
  | [], [], _ :: _, _, _, h, _ => h.elim
  | [], [], _, _ :: _, _, _, h => h.elim
  | _ :: _, _ :: _, [], _, _, h, _ => h.elim
  | _ :: _, _ :: _, _, [], _, _, h => h.elim

theorem plain_rep {μ μ' : List Loc} {p p' : PV} {v v' : Value} (hpre : μ <+: μ') (h : plainEq p p' = true) (hp : rep μ p v) (hp' : rep μ' p' v') : v = v' := by
  have hp := hp.mono hpre
  cases p <;> cases p' <;> simp only [plainEq, Bool.false_eq_true, Bool.and_eq_true, decide_eq_true_eq] at h
  · obtain ⟨rfl, rfl⟩ := h
    rw [rep_int.1 hp, rep_int.1 hp']
  · subst h
    rw [rep_bool.1 hp, rep_bool.1 hp']
  · rw [rep_str.1 hp, rep_str.1 hp', strEq_eq h]
  · rw [rep_nilsl.1 hp, rep_nilsl.1 hp']
  · obtain ⟨⟨⟨rfl, rfl⟩, rfl⟩, h0⟩ := h
    obtain ⟨l, cap, ad, hl, rfl, hc, hS⟩ := hp
    obtain ⟨l', cap', ad', hl', rfl, hc', hS'⟩ := hp'
    rw [hl] at hl'
    cases hl'
    obtain ⟨rfl, rfl⟩ := hS.same hS' hc hc' (by simpa using h0)
    rfl
  · subst h
    obtain ⟨l, hl, rfl⟩ := hp
    obtain ⟨l', hl', rfl⟩ := hp'
    rw [hl] at hl'
    cases hl'; rfl
  · obtain ⟨xs, rfl, a⟩ := hp
    obtain ⟨xs', rfl, a'⟩ := hp'
    rw [Array.ext' (plainL_rep h a a')]

theorem chk_mem {h : PHeap} : ∀ {ck : Cks}, chk c ck h = some () → ∀ x ∈ ck, ∃ p, c.p.load x.2.1 x.2.2.1 h = some p ∧ plainEq x.2.2.2 p = true
  | [], _, x, hx => by cases hx
  | y :: ck, hck, x, hx => by
    simp only [chk, Option.bind_eq_some_iff] at hck
    obtain ⟨p, hp, hck⟩ := hck
    cases he : plainEq y.2.2.2 p with
    | false => rw [he] at hck; cases hck
    | true =>
      rw [he, cond_true] at hck
      rcases List.mem_cons.1 hx with rfl | hx
      · exact ⟨p, hp, he⟩
      · exact chk_mem hck x hx
theorem chk_yet (hs : c.p = std c.P) {μ μ' : List Loc} (hpre : μ <+: μ') {h : PHeap} {w : World} (sim : Sim B W μ' h w) {ck : Cks} (hck : chk c ck h = some ()) {x : Nat × TypeId × PV × PV} (hx : x ∈ ck) {r : Nat × TypeId × Value × Value} (hr : RelCk μ x r) : Yet c.P r w := by
  obtain ⟨p, hp, he⟩ := chk_mem hck x hx
  obtain ⟨_, ht, ha, hv⟩ := hr
  rw [hs] at hp
  obtain ⟨v', hr', hv'⟩ := load_reads sim (show loadP c.P x.2.1 x.2.2.1 h = some p from hp) (ha.mono hpre)
  unfold Yet
  rw [← ht, hv' w rfl, plain_rep hpre he hv hr']

theorem early_sound (hs : c.p = std c.P) {all : Array Oper} {Q : Exit → Act → World → Prop} (hsel : Region.noSelect all = true) (hQ : ∀ x a w, ¬ Q (.panic x) a w) {μ : List Loc} {w : World} :
    ∀ (E : List Nat) (listed : Array Bool) (s : St) (ck : Cks) (a : Act) (s1 : St) (ck1 : Cks), earlyOkB c.P all E listed = true → endEarly c all.toList E s ck = some (s1, ck1) → SR c B W μ s a w → Closed all listed →
      ∃ a1 rs, SR c B W μ s1 a1 w ∧ (∃ nw, ck1 = nw ++ ck ∧ All2 (RelCk μ) nw rs) ∧ (∀ r ∈ rs, Yet c.P r w) ∧ Closed all (markAll E listed) ∧
        ∀ (rs0 : List (Nat × TypeId × Value × Value)) (fuel : Nat), (∀ r ∈ rs0, Yet c.P r w) → wpAnyD c.P all Q (HeldL c.P all (rs ++ rs0)) fuel (markAll E listed) a1 w → wpAnyD c.P all Q (HeldL c.P all rs0) (fuel + E.length) listed a w
  | [], listed, s, ck, a, s1, ck1, _, hr, sr, hcl => by
    cases hr
    exact ⟨a, [], sr, ⟨[], rfl, trivial⟩, fun r hr => by simp at hr, hcl, fun rs0 fuel _ h => h⟩
  | i :: E, listed, s, ck, a, s1, ck1, hok, hr, sr, hcl => by
    simp only [endEarly, Option.bind_eq_some_iff] at hr
    obtain ⟨o, ho, ⟨p, h'⟩, hp, hr⟩ := hr
    have hi : all[i]? = some o := by rw [← Array.getElem?_toList]; exact ho
    unfold earlyOkB at hok
    rw [hi, Bool.and_eq_true] at hok
    obtain ⟨hearly, hok⟩ := hok
    simp only [earlyB, Bool.and_eq_true] at hearly
    obtain ⟨⟨⟨hguard, hkind⟩, hfree⟩, hready⟩ := hearly
    have hg : o.guard = none := by cases hgg : o.guard with
      | none => rfl
      | some g => rw [hgg] at hguard; cases hguard
    have hwant : Region.wanted o (yielded all a.tmps) = true := by
      have := want_sound (ops := all) (o := o) (g := true) sr.fr (by rw [hg]; rfl)
      exact this
    have hcl' : Closed all (listed.setIfInBounds i true) := hcl.more (by simpa using hready)
    by_cases hpure : pureOp c.P o.op = true
    · obtain ⟨rfl, v, hrep, hv⟩ := pop_pure (c := c) hs (ρ := a.eval) sr.sim (sr.fr.eval sr.glob) hpure hp
      have hck : ckAdd i o.op (evA c.glob s.r) p ck = ck := by
        unfold ckAdd
        split
        · rename_i e; rw [e] at hpure; cases hpure
        · rfl
      rw [hck] at hr
      obtain ⟨a1, rs, sr1, hnw, hheld, hcl1, hgo⟩ := early_sound hs hsel hQ E _ _ ck (a.put o.dst v) s1 ck1 hok hr (sr.put o.dst hrep) hcl'
      refine ⟨a1, rs, sr1, hnw, hheld, hcl1, fun rs0 fuel h0 h => ?_⟩
      exact wpAnyD_take (v := v) (Si := fun _ => True) (S' := HeldL c.P all rs0) hi hsel hfree hready hcl (fun x a w hx => absurd hx (hQ x _ w)) (fun _ _ h => h) (fun l w _ h => ⟨h.look hi (quiet_of_pure hpure), trivial⟩)
        (.inl ⟨hwant, fun w' _ => hv w'⟩) trivial (fun r hr _ => h0 r hr) (hgo rs0 fuel h0 h)
    · have hpf : pureOp c.P o.op = false := by simpa using hpure
      rw [hpf, Bool.false_or] at hkind
      obtain ⟨dst, op, ty, pos, after, guard⟩ := o
      simp only at hkind hp hg hwant hr hpf
      cases op <;> simp only [Bool.false_eq_true] at hkind
      rename_i t x
      simp only [pop, hs, std] at hp
      obtain ⟨hP, rfl⟩ := pv_some hp
      have hx := sr.fr.eval sr.glob x
      obtain ⟨v, hrep, hv⟩ := load_reads sr.sim hP hx
      have hrun := hv w rfl
      obtain ⟨a1, rs, sr1, ⟨nw, hnw, hrel⟩, hheld, hcl1, hgo⟩ := early_sound hs hsel hQ E _ _ _ (a.put dst v) s1 ck1 hok hr (sr.put dst hrep) hcl'
      refine ⟨a1, rs ++ [(i, t, a.eval x, v)], sr1, ⟨nw ++ [(i, t, evA c.glob s.r x, p)], by rw [hnw]; simp [ckAdd], hrel.append ⟨⟨rfl, rfl, hx, hrep⟩, trivial⟩⟩, ?_, hcl1, fun rs0 fuel h0 h => ?_⟩
      · intro r hr
        rcases List.mem_append.1 hr with hr | hr
        · exact hheld r hr
        · obtain rfl : r = (i, t, a.eval x, v) := by simpa using hr
          exact hrun
      · rw [List.append_assoc] at h
        refine wpAnyD_take (v := v) (Si := Yet c.P (i, t, a.eval x, v)) (S' := HeldL c.P all ((i, t, a.eval x, v) :: rs0)) hi hsel hfree hready hcl (fun x a w hx => absurd hx (hQ x _ w))
          (fun l w h r hr => h r (List.mem_cons_of_mem _ hr)) (fun l w hd h => ⟨fun r hr hd' => h r (List.mem_cons_of_mem _ hr) fun hd2 => hd' (hd2.look hi rfl), h _ (List.mem_cons_self ..) fun hd2 => hd (hd2.look hi rfl)⟩)
          (.inl ⟨hwant, fun w' hw' => ?_⟩) hrun (fun r hr _ => ?_) (hgo _ fuel ?_ h)
        · show ((do pure (.value (← Instr.loadAt t (a.eval x)))) : Sem Next).run c.P w' = _
          rw [Sem.run_bind, hw']; rfl
        · rcases List.mem_cons.1 hr with rfl | hr
          · exact hrun
          · exact h0 r hr
        · intro r hr
          rcases List.mem_cons.1 hr with rfl | hr
          · exact hrun
          · exact h0 r hr

/-- Each load that is held: it is among those that are looked at, or need not be any more. -/
def Cov (μ : List Loc) (all : Array Oper) (l : Array Bool) (ck : Cks) (rs : List (Nat × TypeId × Value × Value)) : Prop := ∀ r ∈ rs, Dep all l r.1 ∨ ∃ x ∈ ck, RelCk μ x r
theorem Cov.more {μ : List Loc} {all : Array Oper} {l : Array Bool} {ck : Cks} {rs : List (Nat × TypeId × Value × Value)} (h : Cov μ all l ck rs) (k : Nat) : Cov μ all (l.setIfInBounds k true) ck rs :=
  fun r hr => (h r hr).imp Dep.mono id
theorem Cov.drop {μ : List Loc} {all : Array Oper} {l : Array Bool} {ck : Cks} {rs : List (Nat × TypeId × Value × Value)} {j : Nat} {o : Oper} (h : Cov μ all l ck rs) (hj : all[j]? = some o) (hn : quietOp o.op = false) (hin : j ∈ Region.ready .any all l) (st : Bool) :
    Cov μ all (l.setIfInBounds j true) (ckDrop st o ck) rs := by
  intro r hr
  rcases h r hr with h | ⟨x, hx, hxr⟩
  · exact .inl h.mono
  · unfold ckDrop
    cases st with
    | false => exact .inr ⟨x, hx, hxr⟩
    | true =>
      rw [cond_true]
      cases hb : (o.after.toList.any fun e => Region.binds .any e && e.on == x.1) with
      | false => exact .inr ⟨x, List.mem_filter.2 ⟨hx, by rw [hb]; rfl⟩, hxr⟩
      | true =>
        obtain ⟨e, he, hbe⟩ := List.any_eq_true.1 hb
        rw [Bool.and_eq_true, beq_iff_eq] at hbe
        refine .inl ⟨j, o, hj, ?_, hn, e, Array.mem_toList_iff.1 he, hbe.1, hbe.2.trans hxr.1⟩
        have h0 := (mem_ready.1 hin).1
        rw [Array.getD_eq_getD_getElem?] at h0 ⊢
        cases hl : l[j]? with
        | none => rw [hl] at h0; cases h0
        | some b => rw [Array.getElem?_setIfInBounds_self_of_lt (Array.getElem?_eq_some_iff.1 hl).1]; rfl

theorem late_sound (hs : c.p = std c.P) (hc : CallOk c) {all : Array Oper} {Q : Exit → Act → World → Prop} {s' : St} {st : Bool} (hsel : Region.noSelect all = true) (hQ : ∀ x a w, ¬ Q (.panic x) a w) :
    ∀ (L : List (Nat × Bool)) (ck : Cks) (rs : List (Nat × TypeId × Value × Value)) (listed : Array Bool) (μ : List Loc) (s : St) (a : Act) (w : World), lateOkB c.P all L listed = true → endLate c all.toList st ck L s = some s' → SR c B W μ s a w → Closed all listed →
      HeldL c.P all rs listed w → Cov μ all listed ck rs →
      (∀ a' w', Later c B W μ s' a' w' → Q .normal a' w') → wpAnyD c.P all Q (HeldL c.P all rs) L.length listed a w
  | [], ck, rs, listed, μ, s, a, w, hm, hr, sr, hcl, hS, hcov, hq => by
    simp only [endLate, Option.some.injEq] at hr
    subst hr
    unfold lateOkB at hm
    exact wpAnyD_done (by simpa using hm) (hq a w ⟨μ, List.prefix_refl _, sr⟩) 0
  | (i, true) :: L, ck, rs, listed, μ, s, a, w, hm, hr, sr, hcl, hS, hcov, hq => by
    simp only [endLate, Option.bind_eq_some_iff] at hr
    obtain ⟨o, ho, g, hg, hr⟩ := hr
    have hw := want_sound (ops := all) sr.fr hg
    have hi : all[i]? = some o := by rw [← Array.getElem?_toList]; exact ho
    unfold lateOkB at hm
    rw [hi, Bool.and_eq_true] at hm
    simp only [cond_true, Bool.and_eq_true] at hm
    obtain ⟨⟨⟨hload, hfree⟩, hready⟩, hm2⟩ := hm
    have hcl' : Closed all (listed.setIfInBounds i true) := hcl.more (by simpa using hready)
    have hquiet : quietOp o.op = true := by
      unfold loadOp at hload
      split at hload
      · rename_i e; rw [e]; rfl
      · cases hload
    cases g with
    | false =>
      rw [cond_false] at hr
      exact wpAnyD_take (v := undef) (Si := fun _ => True) (S' := HeldL c.P all rs) hi hsel hfree hready hcl (fun x a w hx => absurd hx (hQ x _ w)) (fun _ _ h => h) (fun l w _ h => ⟨h.look hi hquiet, trivial⟩) (.inr ⟨hw, rfl⟩) trivial hS.more
        (late_sound hs hc hsel hQ L ck rs _ μ _ _ w hm2 hr (sr.put o.dst (undef_rep μ)) hcl' hS.more (hcov.more i) hq)
    | true =>
      rw [cond_true, Option.bind_eq_some_iff] at hr
      obtain ⟨⟨p, h'⟩, hp, hr⟩ := hr
      obtain ⟨dst, op, ty, pos, after, guard⟩ := o
      simp only at hload hp hw hr
      cases op <;> simp only [loadOp, Bool.false_eq_true] at hload
      rename_i t x
      simp only [pop, hs, std] at hp
      obtain ⟨hP, rfl⟩ := pv_some hp
      have hx := sr.fr.eval sr.glob x
      obtain ⟨v, hrep, hv⟩ := load_reads sr.sim hP hx
      have hrun : Yet c.P (i, t, a.eval x, v) w := hv w rfl
      have hS1 : HeldL c.P all ((i, t, a.eval x, v) :: rs) (listed.setIfInBounds i true) w := fun r hr hd => by
        rcases List.mem_cons.1 hr with rfl | hr
        · exact hrun
        · exact hS.more r hr hd
      have ih := late_sound hs hc hsel hQ L _ ((i, t, a.eval x, v) :: rs) _ μ _ (a.put dst v) w hm2 hr (sr.put dst hrep) hcl' hS1 (fun r hr => by
        rcases List.mem_cons.1 hr with rfl | hr
        · exact .inr ⟨_, List.mem_cons_self .., rfl, rfl, hx, hrep⟩
        · rcases hcov.more i r hr with h | ⟨y, hy, hyr⟩
          · exact .inl h
          · exact .inr ⟨y, List.mem_cons_of_mem _ hy, hyr⟩) hq
      refine wpAnyD_take (v := v) (Si := Yet c.P (i, t, a.eval x, v)) (S' := HeldL c.P all ((i, t, a.eval x, v) :: rs)) hi hsel hfree hready hcl (fun x a w hx => absurd hx (hQ x _ w))
        (fun l w h r hr => h r (List.mem_cons_of_mem _ hr)) (fun l w hd h => ⟨fun r hr hd' => h r (List.mem_cons_of_mem _ hr) fun hd2 => hd' (hd2.look hi rfl), h _ (List.mem_cons_self ..) fun hd2 => hd (hd2.look hi rfl)⟩)
        (.inl ⟨hw, fun w' hw' => ?_⟩) hrun hS1 ih
      show ((do pure (.value (← Instr.loadAt t (a.eval x)))) : Sem Next).run c.P w' = _
      rw [Sem.run_bind, hw']; rfl
  | (i, false) :: L, ck, rs, listed, μ, s, a, w, hm, hr, sr, hcl, hS, hcov, hq => by
    simp only [endLate, Option.bind_eq_some_iff] at hr
    obtain ⟨o, ho, g, hg, ⟨p, h'⟩, hp, ck', hck, hr⟩ := hr
    have hw := want_sound (ops := all) sr.fr hg
    have hi : all[i]? = some o := by rw [← Array.getElem?_toList]; exact ho
    unfold lateOkB at hm
    rw [hi, Bool.and_eq_true] at hm
    simp only [cond_false, Bool.or_eq_true] at hm
    obtain ⟨hm1, hm2⟩ := hm
    rcases hm1 with hm1 | hm1
    · simp only [Bool.and_eq_true] at hm1
      obtain ⟨⟨hpure, hfree⟩, hready⟩ := hm1
      have hcl' : Closed all (listed.setIfInBounds i true) := hcl.more (by simpa using hready)
      have hquiet := quiet_of_pure hpure
      rw [hquiet, cond_true, Option.some.injEq] at hck
      subst hck
      cases g with
      | false =>
        simp only [doOp, cond_false, Option.some.injEq, Prod.mk.injEq] at hp
        obtain ⟨rfl, rfl⟩ := hp
        exact wpAnyD_take (v := undef) (Si := fun _ => True) (S' := HeldL c.P all rs) hi hsel hfree hready hcl (fun x a w hx => absurd hx (hQ x _ w)) (fun _ _ h => h) (fun l w _ h => ⟨h.look hi hquiet, trivial⟩) (.inr ⟨hw, rfl⟩) trivial hS.more
          (late_sound hs hc hsel hQ L ck rs _ μ _ _ w hm2 hr (sr.put o.dst (undef_rep μ)) hcl' hS.more (hcov.more i) hq)
      | true =>
        simp only [doOp, cond_true] at hp
        obtain ⟨rfl, v, hrep, hv⟩ := pop_pure (c := c) hs (ρ := a.eval) sr.sim (sr.fr.eval sr.glob) hpure hp
        exact wpAnyD_take (v := v) (Si := fun _ => True) (S' := HeldL c.P all rs) hi hsel hfree hready hcl (fun x a w hx => absurd hx (hQ x _ w)) (fun _ _ h => h) (fun l w _ h => ⟨h.look hi hquiet, trivial⟩) (.inl ⟨hw, fun w' _ => hv w'⟩) trivial hS.more
          (late_sound hs hc hsel hQ L ck rs _ μ _ _ w hm2 hr (sr.put o.dst hrep) hcl' hS.more (hcov.more i) hq)
    · have hr1 : Region.ready .any all listed = [i] := by simpa using hm1
      have hin : i ∈ Region.ready .any all listed := by rw [hr1]; exact List.mem_singleton_self _
      have hcl' : Closed all (listed.setIfInBounds i true) := hcl.more hin
      refine wpAnyD_all (rs := [i]) hr1 (by simp) ?_
      intro j hj
      obtain rfl : j = i := by simpa using hj
      have hcov' : Cov μ all (listed.setIfInBounds j true) ck' rs := by
        cases hquiet : quietOp o.op with
        | true =>
          rw [hquiet, cond_true, Option.some.injEq] at hck
          subst hck
          exact hcov.more j
        | false =>
          rw [hquiet, cond_false, Option.bind_eq_some_iff] at hck
          obtain ⟨_, _, hck⟩ := hck
          cases hck
          exact hcov.drop hi hquiet hin st
      unfold wpOpE
      simp only [hi]
      cases g with
      | false =>
        rw [hw]
        simp only [Bool.false_eq_true, if_false]
        simp only [doOp, cond_false, Option.some.injEq, Prod.mk.injEq] at hp
        obtain ⟨rfl, rfl⟩ := hp
        exact ⟨hS.more, late_sound hs hc hsel hQ L ck' rs _ μ _ _ w hm2 hr (sr.put o.dst (undef_rep μ)) hcl' hS.more hcov' hq⟩
      | true =>
        rw [hw]
        simp only [if_true]
        simp only [doOp, cond_true] at hp
        by_cases hquiet : quietOp o.op = true
        · obtain ⟨rfl, v, hrep, hv⟩ := pop_quiet (c := c) hs (ρ := a.eval) sr.sim (sr.fr.eval sr.glob) hquiet hp
          rw [hv w rfl]
          exact ⟨hS.more, late_sound hs hc hsel hQ L ck' rs _ μ _ _ w hm2 hr (sr.put o.dst hrep) hcl' hS.more hcov' hq⟩
        · have hqf : quietOp o.op = false := by simpa using hquiet
          rw [hqf, cond_false, Option.bind_eq_some_iff] at hck
          obtain ⟨u, hchk, hck⟩ := hck
          cases hck
          refine upon_go (pop_go hs hc sr hp) ?_
          rintro v w' ⟨⟨μ', hpre, hrep, hsim⟩, hk⟩
          have hS' : HeldL c.P all rs (listed.setIfInBounds j true) w' := fun r hr hd => by
            rcases hcov' r hr with h | ⟨x, hx, hxr⟩
            · exact absurd h hd
            · exact chk_yet hs hpre hsim hchk hx hxr
          exact ⟨hS', late_sound hs hc hsel hQ L _ rs _ μ' _ _ w' hm2 hr (sr.next o.dst hpre hrep hsim hk) hcl' hS' (fun r hr => (hcov' r hr).imp id fun ⟨x, hx, hxr⟩ => ⟨x, hx, hxr.mono hpre⟩) (fun a' w'' ⟨μ'', hpre', sr'⟩ => hq a' w'' ⟨μ'', hpre.trans hpre', sr'⟩)⟩

def exitOf : PX → Exit
  | .normal => .normal
  | .exit id => .exit id
  | .ret => .ret

/-- What the interpreter's way through a code says of the machine's. -/
def Way (r : Option Nat) (c : Ctx) (B : Nat) (W : Base) (code : Code) (s : St) (x : PX) (s' : St) : Prop :=
  ∀ μ a w, SR c B W μ s a w → code.wpIn (wideR r) 0 c.P (fun e a' w' => e = exitOf x ∧ Later c B W μ s' a' w') a w

theorem rounds_mono {F : Fence} {P : Program} {x : Code} {Q Q' : Exit → Act → World → Prop} (h : ∀ e a w, Q e a w → Q' e a w) : ∀ (n : Nat) (a : Act) (w : World), Code.roundsIn F 0 P x Q n a w → Code.roundsIn F 0 P x Q' n a w
  | 0, _, _, hr => hr.elim
  | n + 1, a, w, hr => by
    rw [roundsIn_succ] at hr ⊢
    refine wpIn_mono hr ?_
    intro e a' w' he
    cases e with
    | normal => exact rounds_mono h n a' w' he
    | _ => exact h _ _ _ he

theorem ev_sound (hs : c.p = std c.P) (hc : CallOk c) (hmix : c.P.follows .mixedOrders = true) (B : Nat) (W : Base) : ∀ (code : Code), drawsOk code = true → ∀ (r : Option Nat), (r.isSome = true → roundOk code = true) → ∀ (s : St) (k : PX → St → Res) (res : PV × PHeap), ev c code s k = some res → ∃ x s', k x s' = some res ∧ Way r c B W code s x s' := by
  intro code
  induction code with
  | skip => intro _ r _ s k res h; exact ⟨.normal, s, h, fun μ a w sr => wpIn_skip ⟨rfl, μ, List.prefix_refl _, sr⟩⟩
  | ret => intro _ r _ s k res h; exact ⟨.ret, s, h, fun μ a w sr => wpIn_ret ⟨rfl, μ, List.prefix_refl _, sr⟩⟩
  | exit id => intro _ r _ s k res h; exact ⟨.exit id, s, h, fun μ a w sr => wpIn_exit ⟨rfl, μ, List.prefix_refl _, sr⟩⟩
  | region id ops draw =>
    intro hd r hro s k res h
    simp only [ev, runRegion] at h
    have hnone : draw = true → r = none := by
      intro hd1
      cases r with
      | none => rfl
      | some l => have := hro rfl; simp only [roundOk, hd1, Bool.not_true, Bool.false_eq_true] at this
    cases hb : draw && !(ops.toList.all fun o => quietOp o.op) && !(mixB c.P ops.toList) with
    | true =>
      rw [hb, cond_true] at h
      cases hm2 : mix2B c.P ops.toList with
      | false => rw [hm2] at h; cases h
      | true =>
        rw [hm2, cond_true, runEarly_end] at h
        simp only [runLate_end, Option.bind_eq_some_iff] at h
        obtain ⟨⟨s1, ck1⟩, hE, s', hL, hk⟩ := h
        refine ⟨.normal, _, hk, fun μ a w sr => ?_⟩
        have hdraw : draw = true := by cases draw with
          | true => rfl
          | false => simp at hb
        subst hdraw
        obtain rfl := hnone rfl
        have sr1 : SR c B W μ s a { w with drawn := w.drawn + 1 } := sr.tape _
        unfold mix2B at hm2
        simp only [Bool.and_eq_true, Array.toArray_toList, beq_iff_eq] at hm2
        obtain ⟨⟨⟨hsel, hEok⟩, hLok⟩, hlen⟩ := hm2
        obtain ⟨a1, rs, srE, ⟨nw, hnw, hrel⟩, hheld, hcl, hgo⟩ := early_sound (Q := fun e a' w' => e = exitOf .normal ∧ Later c B W μ ⟨killR s'.r (c.kl (2 * id)), s'.h⟩ a' w') hs hsel (fun x a w hx => by cases hx.1) _ _ s [] a s1 ck1 hEok hE sr1 (Closed.none _)
        rw [List.append_nil] at hnw
        subst hnw
        refine wpIn_region_any (F := wideR none) hmix (wpAnyD_any (S := HeldL c.P ops []) _ _ _ _ ?_)
        have := hgo [] (heldL c.P ops.toList).length (fun r hr => by cases hr) (by
          rw [List.append_nil]
          exact late_sound hs hc hsel (fun x a w hx => by cases hx.1) _ _ rs _ μ s1 a1 _ hLok hL srE hcl (fun r hr _ => hheld r hr) (fun r hr => .inr (rel_mem hrel r hr)) (by
            rintro a' w' ⟨μ', hpre, sr'⟩
            exact ⟨rfl, μ', hpre, sr'.kill _⟩))
        rw [Nat.add_comm, hlen] at this
        simpa using this
    | false =>
      rw [hb] at h
      simp only [cond_false, runOps_end, Option.bind_eq_some_iff] at h
      obtain ⟨s', hend, hk⟩ := h
      refine ⟨.normal, _, hk, fun μ a w sr => ?_⟩
      cases draw with
      | false =>
        refine wpIn_region_listE (ops_sound hs hc ops.toList μ s a w hend sr ?_)
        rintro a' w' ⟨μ', hpre, sr'⟩
        exact ⟨rfl, μ', hpre, sr'.kill _⟩
      | true =>
        obtain rfl := hnone rfl
        have sr1 : SR c B W μ s a { w with drawn := w.drawn + 1 } := sr.tape _
        by_cases hquiet : ops.toList.all (fun o => quietOp o.op) = true
        case neg =>
          have hm : mixB c.P ops.toList = true := by
            have hq' : ops.toList.all (fun o => quietOp o.op) = false := by simpa using hquiet
            rw [hq'] at hb
            simpa using hb
          unfold mixB at hm
          rw [Bool.and_eq_true, Array.toArray_toList] at hm
          refine wpIn_region_any (F := wideR none) hmix (wpAnyD_any _ _ _ _ (S := fun _ _ => True) ?_)
          have := mix_ops_sound (Q := fun e a' w' => e = exitOf .normal ∧ Later c B W μ ⟨killR s'.r (c.kl (2 * id)), s'.h⟩ a' w') hs hc hm.1 (fun x a w hx => by cases hx.1) ops.toList 0 (Array.replicate ops.toList.length false) μ s a _ (by simp) hm.2 hend sr1 (Closed.none _) (by
            rintro a' w' ⟨μ', hpre, sr'⟩
            exact ⟨rfl, μ', hpre, sr'.kill _⟩)
          simpa using this
        have hall : ∀ o ∈ ops.toList, quietOp o.op = true := List.all_eq_true.1 hquiet
        have hlex : Region.lexB .any ops = true := by
          simp only [drawsOk] at hd
          have : ops.toList.all (fun o => quietOp o.op) = true := List.all_eq_true.2 hall
          rw [this] at hd
          simpa using hd
        refine wpIn_wide.2 (wp_region_quiet (C := fun w' => w'.heap = w.heap ∧ ∃ n, w' = { w with drawn := n }) hmix hlex ⟨rfl, _, rfl⟩ ?_)
        refine quiet_ops_sound hs (w := w) ops.toList μ s a hall hend sr ?_
        intro a' sr' w' ⟨_, n, hn⟩
        subst hn
        exact ⟨rfl, μ, List.prefix_refl _, (sr'.tape n).kill _⟩
  | seq x y ihx ihy =>
    intro hd r hro s k res h
    simp only [drawsOk, Bool.and_eq_true] at hd
    obtain ⟨e1, s1, hk, w1⟩ := ihx hd.1 r (fun hx => by have := hro hx; simp only [roundOk, Bool.and_eq_true] at this; exact this.1) s _ res h
    cases e1 with
    | normal =>
      obtain ⟨e2, s2, hk2, w2⟩ := ihy hd.2 r (fun hx => by have := hro hx; simp only [roundOk, Bool.and_eq_true] at this; exact this.2) s1 k res hk
      refine ⟨e2, s2, hk2, fun μ a w sr => wpIn_seq (wpIn_mono (w1 μ a w sr) ?_)⟩
      rintro e a' w' ⟨rfl, μ', hpre, sr'⟩
      exact wpIn_mono (w2 μ' a' w' sr') fun e a'' w'' ⟨he, μ'', hpre', sr''⟩ => ⟨he, μ'', hpre.trans hpre', sr''⟩
    | exit id => exact ⟨.exit id, s1, hk, fun μ a w sr => wpIn_seq (wpIn_mono (w1 μ a w sr) (by rintro e a' w' ⟨rfl, h'⟩; exact ⟨rfl, h'⟩))⟩
    | ret => exact ⟨.ret, s1, hk, fun μ a w sr => wpIn_seq (wpIn_mono (w1 μ a w sr) (by rintro e a' w' ⟨rfl, h'⟩; exact ⟨rfl, h'⟩))⟩
  | cond x y z ihy ihz =>
    intro hd r hro s k res h
    simp only [drawsOk, Bool.and_eq_true] at hd
    simp only [ev, condP] at h
    split at h
    · rename_i t ht
      have hev : ∀ μ a w, SR c B W μ s a w → a.eval x = .bool t := by
        intro μ a w sr
        have := sr.fr.eval sr.glob x
        rw [ht] at this
        exact this
      cases t with
      | true =>
        obtain ⟨e1, s1, hk, w1⟩ := ihy hd.1 r (fun hx => by have := hro hx; simp only [roundOk, Bool.and_eq_true] at this; exact this.1) s k res h
        exact ⟨e1, s1, hk, fun μ a w sr => wpIn_cond_true (hev μ a w sr) (w1 μ a w sr)⟩
      | false =>
        obtain ⟨e1, s1, hk, w1⟩ := ihz hd.2 r (fun hx => by have := hro hx; simp only [roundOk, Bool.and_eq_true] at this; exact this.2) s k res h
        exact ⟨e1, s1, hk, fun μ a w sr => wpIn_cond_false (hev μ a w sr) (w1 μ a w sr)⟩
    · cases h
  | block id x ih =>
    intro hd r hro s k res h
    obtain ⟨e1, s1, hk, w0⟩ := ih hd r (fun hx => hro hx) ⟨killR s.r (c.kl (2 * id + 1)), s.h⟩ _ res h
    have w1 : Way r c B W x s e1 s1 := fun μ a w sr => w0 μ a w (sr.kill _)
    cases e1 with
    | normal => exact ⟨.normal, s1, hk, fun μ a w sr => wpIn_block (wpIn_mono (w1 μ a w sr) (by rintro e a' w' ⟨rfl, h'⟩; exact ⟨rfl, h'⟩))⟩
    | ret => exact ⟨.ret, s1, hk, fun μ a w sr => wpIn_block (wpIn_mono (w1 μ a w sr) (by rintro e a' w' ⟨rfl, h'⟩; exact ⟨rfl, h'⟩))⟩
    | exit j =>
      simp only [kBlock] at hk
      by_cases hj : j = id
      · subst hj
        simp only [BEq.rfl, cond_true] at hk
        refine ⟨.normal, s1, hk, fun μ a w sr => wpIn_block (wpIn_mono (w1 μ a w sr) ?_)⟩
        rintro e a' w' ⟨rfl, h'⟩
        simp only [exitOf, Exit.inBlock, if_true]
        exact ⟨trivial, h'⟩
      · have hb : (j == id) = false := by simpa using hj
        rw [hb] at hk
        refine ⟨.exit j, s1, hk, fun μ a w sr => wpIn_block (wpIn_mono (w1 μ a w sr) ?_)⟩
        rintro e a' w' ⟨rfl, h'⟩
        simp only [exitOf, Exit.inBlock, hj, if_false]
        exact ⟨trivial, h'⟩
  | loop x ih =>
    intro hd r hro s k res h
    simp only [ev] at h
    simp only [drawsOk] at hd
    have key : ∀ (n : Nat) (s : St), loopK (ev c x) n s k = some res → ∃ e s', k e s' = some res ∧ ∀ μ a w, SR c B W μ s a w → Code.roundsIn (wideR r) 0 c.P x (fun e' a' w' => e' = exitOf e ∧ Later c B W μ s' a' w') n a w := by
      intro n
      induction n with
      | zero => intro s h; cases h
      | succ n ihn =>
        intro s h
        obtain ⟨e1, s1, hk, w1⟩ := ih hd r (fun hx => hro hx) s _ res h
        cases e1 with
        | normal =>
          obtain ⟨e2, s2, hk2, w2⟩ := ihn s1 hk
          refine ⟨e2, s2, hk2, fun μ a w sr => ?_⟩
          rw [roundsIn_succ]
          refine wpIn_mono (w1 μ a w sr) ?_
          rintro e a' w' ⟨rfl, μ', hpre, sr'⟩
          refine rounds_mono ?_ n a' w' (w2 μ' a' w' sr')
          exact fun e a'' w'' ⟨he, μ'', hpre', sr''⟩ => ⟨he, μ'', hpre.trans hpre', sr''⟩
        | exit id => exact ⟨.exit id, s1, hk, fun μ a w sr => by rw [roundsIn_succ]; exact wpIn_mono (w1 μ a w sr) (by rintro e a' w' ⟨rfl, h'⟩; exact ⟨rfl, h'⟩)⟩
        | ret => exact ⟨.ret, s1, hk, fun μ a w sr => by rw [roundsIn_succ]; exact wpIn_mono (w1 μ a w sr) (by rintro e a' w' ⟨rfl, h'⟩; exact ⟨rfl, h'⟩)⟩
    obtain ⟨e, s', hk, w1⟩ := key _ s h
    exact ⟨e, s', hk, fun μ a w sr => wpIn_loop_rounds _ (w1 μ a w sr)⟩
  | rangeFunc g ps x y _ _ =>
    intro hd r hro s k res h
    cases r with
    | some l => have := hro rfl; cases this
    | none =>
    simp only [ev, Option.bind_eq_some_iff] at h
    obtain ⟨⟨v, h2⟩, hcall, hrk⟩ := h
    -- what the machine does, whatever the record says in the end
    have key : ∀ (st : Nat) (kl : Nat → List Nat) (r0 : List PV) (ps0 : List Tmp) (x0 y0 : Code) (pe : Option PX), st ≠ 1 → h2[s.h.length + 1]? = some (.lp st kl r0 ps0 x0 y0 pe) → ∀ (e : PX), (pe.bind codeOf = none ∧ e = .normal ∨ e ≠ .normal ∧ pe.bind codeOf = codeOf e) →
        Way none c B W (.rangeFunc g ps x y) s e ⟨s.r, h2.set (s.h.length + 1) .dead⟩ := by
      intro st kl r0 ps0 x0 y0 pe hst hlp e he μ a w sr
      refine wpIn_rangeFunc (F := Fence.wide) fun fn _ => ?_
      have hrec : RecOk μ 0 s.r ps.toList x y none { state := .ready, pending := none, fn, tmps := a.tmps, params := ps, assign := x, body := y, defers := w.heap.size } := ⟨rfl, rfl, rfl, rfl, rfl, sr.fr.regs⟩
      have sim1 := sr.sim.enter c.kl hrec
      have hh1 : s.h ++ [PObj.dead, PObj.lp 0 c.kl s.r ps.toList x y none] = s.h ++ [PObj.dead] ++ [PObj.lp 0 c.kl s.r ps.toList x y none] := by simp
      rw [hh1] at hcall
      obtain ⟨W1, hW1⟩ : ∃ W1, (w.alloc (.deferred (some []))).alloc (.loop { state := .ready, pending := none, fn, tmps := a.tmps, params := ps, assign := x, body := y, defers := w.heap.size }) = W1 := ⟨_, rfl⟩
      rw [hW1] at sim1
      have hpre1 : μ <+: μ ++ [(⟨0, 0, 0, 0⟩ : Loc)] ++ [⟨w.heap.size + 1, 0, 0, 0⟩] := by rw [List.append_assoc]; exact List.prefix_append _ _
      have hL1 : (μ ++ [(⟨0, 0, 0, 0⟩ : Loc)] ++ [⟨w.heap.size + 1, 0, 0, 0⟩])[s.h.length + 1]? = some ⟨w.heap.size + 1, 0, 0, 0⟩ := by
        rw [List.getElem?_append_right (by simp; have := sr.sim.len; omega)]; simp [sr.sim.len]
      have hD1 : W1.heap[w.heap.size]? = some (.deferred (some [])) := by
        rw [← hW1, Below.heap_alloc _ _ _ (by rw [World.size_alloc]; omega)]; exact World.alloc_heap_new w _
      have hold : KeepsD w W1 := fun d hd => by
        have hlt := (Array.getElem?_eq_some_iff.1 hd).1
        rw [← hW1, Below.heap_alloc _ _ _ (by rw [World.size_alloc]; omega), Below.heap_alloc _ _ _ hlt]; exact hd
      obtain ⟨gf, cap, hgv, hcf, hcalls⟩ := fcall_ok hc sim1.rebase (fun n => (sr.glob n).mono hpre1) ((sr.fr.eval sr.glob g).mono hpre1) (args := [.yld (s.h.length + 1)]) (xs := #[.func (.yield (w.heap.size + 1)) #[] #[]]) ⟨⟨_, hL1, rfl⟩, trivial⟩ hcall
      refine ⟨w.heap.size + 1, [{ target := .collected w.heap.size, args := #[] }], W1, { target := .fn (.func gf) cap, args := #[.func (.yield (w.heap.size + 1)) #[] #[]] }, W1, gf, #[.func (.yield (w.heap.size + 1)) #[] #[]] ++ cap, W1, ?_, ?_, fun _ _ => trivial, ?_, fun hx => (by cases hx), ?_⟩
      · rw [← hW1]; exact run_enterLoop_outer _ _ _ _ _
      · simp only [resolve, hgv]
        simp [Deferred.ofValue, Act.eval]
      · simp [invoke, hcf]
      · refine callsIn_wide.2 (hcalls.mono ?_)
        rintro e' w3 ⟨v', rfl, μ3, hpre3, _, sim3⟩
        have hL3 : μ3[s.h.length + 1]? = some ⟨w.heap.size + 1, 0, 0, 0⟩ := get_prefix hpre3 hL1
        obtain ⟨_, rec3, hrec3, hok3⟩ := sim3.obj _ _ _ hlp hL3
        have hbusy : rec3.state ≠ .busy := by
          rw [hok3.1]
          cases st with
          | zero => simp [stOf]
          | succ st => cases st with
            | zero => exact absurd rfl hst
            | succ st => simp [stOf]
        have hend := run_endLoop (P := c.P) hrec3 hbusy
        have sim4 := sim3.setLp hlp rfl hL3 (o' := .dead) (rec' := { rec3 with state := .exhausted }) (.inl rfl)
        obtain ⟨w4, hw4⟩ : ∃ w4, w3.putObj (w.heap.size + 1) (.loop { rec3 with state := .exhausted }) = w4 := ⟨_, rfl⟩
        have hend : (Instr.endLoop (w.heap.size + 1)).run c.P w3 = .ok rec3.pending w4 := by rw [← hw4]; exact hend
        have sim4 : Sim B (W.at W1) μ3 (h2.set (s.h.length + 1) .dead) w4 := by rw [← hw4]; exact sim4
        have fin : Later c B W μ ⟨s.r, h2.set (s.h.length + 1) .dead⟩ { a with defers := [{ target := .collected w.heap.size, args := #[] }] ++ a.defers } w4 := by
          refine ⟨μ3, hpre1.trans hpre3, ⟨⟨(sr.fr.mono (hpre1.trans hpre3)).regs⟩, sim1.back sim4, fun n => (sr.glob n).mono (hpre1.trans hpre3), ?_, ?_⟩⟩
          · intro d hd
            rcases List.mem_cons.1 hd with rfl | hd
            · exact ⟨w.heap.size, rfl, sr.sim.base, sr.sim.below.size, sim4.marks _ hD1⟩
            · exact (sr.marks.keep hold |>.keep sim4.marks).1 d hd
          · refine List.Pairwise.cons ?_ sr.marks.2
            rintro d hd rfl
            obtain ⟨D, e, _, _, h3⟩ := sr.marks.1 _ hd
            cases e
            have := (Array.getElem?_eq_some_iff.1 h3).1
            omega
        refine ⟨_, _, hend, ?_⟩
        rw [hok3.2.1]
        rcases he with ⟨hpe, rfl⟩ | ⟨hne, hpe⟩
        · rw [hpe]; exact ⟨rfl, fin⟩
        · rw [hpe]
          cases e with
          | normal => exact absurd rfl hne
          | ret => exact wpIn_ret ⟨rfl, fin⟩
          | exit j => exact wpIn_exit ⟨rfl, fin⟩
    unfold rangeK at hrk
    split at hrk
    · rename_i kl r0 ps0 x0 y0 hlp
      exact ⟨.normal, _, hrk, key 0 kl r0 ps0 x0 y0 none (by decide) hlp .normal (.inl ⟨rfl, rfl⟩)⟩
    · rename_i kl r0 ps0 x0 y0 hlp
      exact ⟨.ret, _, hrk, key 2 kl r0 ps0 x0 y0 _ (by decide) hlp .ret (.inr ⟨by simp, rfl⟩)⟩
    · rename_i kl r0 ps0 x0 y0 j hlp
      have pick : ∀ (l : List Nat), pickExit (l.map fun i => (i, fun h => k (.exit i) ⟨s.r, h⟩)) j (h2.set (s.h.length + 1) .dead) = some res → k (.exit j) ⟨s.r, h2.set (s.h.length + 1) .dead⟩ = some res := by
        intro l
        induction l with
        | nil => intro h; cases h
        | cons i l ih =>
          intro h
          simp only [List.map_cons, pickExit] at h
          cases hji : j == i with
          | true =>
            rw [hji, cond_true] at h
            rw [beq_iff_eq] at hji
            rw [hji]; exact h
          | false => rw [hji, cond_false] at h; exact ih h
      exact ⟨.exit j, _, pick _ hrk, key 2 kl r0 ps0 x0 y0 _ (by decide) hlp (.exit j) (.inr ⟨by simp, rfl⟩)⟩
    · cases hrk
  | _ => intro _ r _ s k res h; simp [ev] at h

theorem load_no_tup {P : Program} {t : TypeId} {a : PV} {h : PHeap} {p : PV} {μ : List Loc} {v : Value} (hp : loadP P t a h = some p) (hr : rep μ p v) (hc : ∀ (id j : Nat) q, (cellsAt h id)[j]? = some q → ∃ x, repc μ q x) : repa μ p v := by
  unfold loadP at hp
  split at hp
  · split at hp
    · obtain ⟨x, hx⟩ := hc _ _ _ hp
      cases p <;> first | exact hr | exact hx.elim
    · split at hp
      · split at hp
        · cases hp; exact hr
        · cases hp
      · cases hp
    · cases hp
  · cases hp

theorem result_sound {P : Program} {μ : List Loc} {h : PHeap} {w : World} (s : Sim B W μ h w) {r : List PV} {a : Act} (f : FR μ r a) {v : ResultVar} {p : PV} (hp : resultP P r h v = some p)
    (g : ResultVar → Sem Value) (g1 : ∀ t, g (.tmp t) = pure (a.tmps.getD t undef)) (g2 : ∀ t ty, g (.cell t ty) = (do loadVar ty (← asAddr (a.tmps.getD t undef)))) :
    ∃ x, repa μ p x ∧ (g v).run P w = .ok x w := by
  cases v with
  | tmp t =>
    simp only [resultP] at hp
    have hf := f.get t
    refine ⟨a.tmps.getD t undef, ?_, by rw [g1]; rfl⟩
    cases hq : r[t]? with
    | none => rw [hq] at hp; cases hp
    | some q =>
      rw [hq] at hp hf
      have hp : resV q = some p := hp
      simp only [Option.getD_some] at hf
      unfold resV at hp
      split at hp
      · cases hp
      · rename_i hno
        cases hp
        cases p <;> first | exact hf | exact absurd rfl (hno _)
  | cell t ty =>
    simp only [resultP] at hp
    split at hp
    · rename_i q hq
      have hg := f.get t
      rw [hq] at hg
      simp only [Option.getD_some] at hg
      obtain ⟨x, hx, hv⟩ := load_reads s hp hg
      have hv := hv w rfl
      have hptr : ∃ l, a.tmps.getD t undef = .pointer (some l) := by
        cases q <;> simp only [loadP] at hp <;> first | cases hp | (obtain ⟨l, _, h⟩ := rep_ptr hg; exact ⟨_, h⟩)
      obtain ⟨l, hl⟩ := hptr
      refine ⟨x, load_no_tup hp hx (fun id j q hj => ?_), ?_⟩
      · obtain ⟨l, hl⟩ := locAt s hj
        obtain ⟨x, _, hr⟩ := s.cellAt hl hj
        exact ⟨x, hr⟩
      · rw [g2, hl]
        rw [hl] at hv
        simpa [Instr.loadAt, Instr.sureAddr, asAddr] using hv
    · cases hp

theorem results_sound {P : Program} {μ : List Loc} {h : PHeap} {w : World} (s : Sim B W μ h w) {r : List PV} {a : Act} (f : FR μ r a) :
    ∀ (vs : List ResultVar) (ps : List PV), resultsP P r h vs = some ps →
      ∃ xs : List Value, All2 (repa μ) ps xs ∧ ∀ (g : ResultVar → Sem Value), (∀ t, g (.tmp t) = pure (a.tmps.getD t undef)) → (∀ t ty, g (.cell t ty) = (do loadVar ty (← asAddr (a.tmps.getD t undef)))) → (vs.mapM g).run P w = .ok xs w
  | [], ps, hp => by
    simp only [resultsP] at hp
    cases hp
    exact ⟨[], trivial, fun g _ _ => by simp⟩
  | v :: vs, ps, hp => by
    simp only [resultsP, Option.bind_eq_some_iff, Option.map_eq_some_iff] at hp
    obtain ⟨p, hp1, ps', hp2, rfl⟩ := hp
    let g0 : ResultVar → Sem Value := fun v => match v with | .tmp t => pure (a.tmps.getD t undef) | .cell t ty => do loadVar ty (← asAddr (a.tmps.getD t undef))
    obtain ⟨x, hx, hrun⟩ := result_sound s f hp1 g0 (fun _ => rfl) (fun _ _ => rfl)
    obtain ⟨xs, hxs, hruns⟩ := results_sound s f vs ps' hp2
    refine ⟨x :: xs, ⟨hx, hxs⟩, fun g g1 g2 => ?_⟩
    have hg : g v = g0 v := by cases v with
      | tmp t => rw [g1]
      | cell t ty => rw [g2]
    rw [List.mapM_cons, Sem.run_bind, hg, hrun]
    simp only [Result.andThen_ok, Sem.run_bind, hruns g g1 g2, Sem.run_pure]

/-- The marks among the deferred calls hand over nothing. -/
theorem leaves_marks {P : Program} {fn : Func} {tmps : Array Value} {R : Ending → World → Prop} {μ : List Loc} {h : PHeap} : ∀ (ds : List Deferred) (w : World), Marked B W.toWorld ds w → Sim B W μ h w →
    (∀ w', Sim B W μ h w' → ∃ v, (results fn tmps).run P w' = .ok v w' ∧ R (.returned v) w') → LeavesInM Fence.wide 0 P fn tmps R ds .returning w
  | [], w, _, sim, hR => hR w sim
  | d :: ds, w, m, sim, hR => by
    obtain ⟨D, rfl, h1, h2, h3⟩ := m.1 d (List.mem_cons_self ..)
    have hp := List.pairwise_cons.1 m.2
    refine ⟨by simp, .inl ⟨D, _, rfl, run_takeDeferred h3, leaves_marks ds _ ⟨fun d' hd' => ?_, hp.2⟩ (sim.shut h1 h2 h3) hR⟩⟩
    obtain ⟨D', rfl, h1', h2', h3'⟩ := m.1 d' (List.mem_cons_of_mem _ hd')
    refine ⟨D', rfl, h1', h2', ?_⟩
    rw [World.putObj_heap_other (by rintro rfl; exact hp.1 _ hd' rfl)]
    exact h3'

theorem body_sound (hs : c.p = std c.P) (hc : CallOk c) (hmix : c.P.follows .mixedOrders = true) {fn : Func} {f : FuncId} (hf : c.P.funcs[f]? = some fn) {body : Code} (hb : fn.body = some body) (hd : drawsOk body = true)
    {args : List PV} {h : PHeap} {res : PV × PHeap} (hr : runBody c fn args h = some res) {μ : List Loc} {w : World} {xs : Array Value} (sim : Sim B W μ h w)
    (hgl : ∀ n, rep μ (c.glob n) (.pointer (some ⟨n, 0, none⟩))) (ha : All2 (rep μ) args xs.toList) :
    Calls c.P f xs w fun e w' => ∃ v, e = .returned v ∧ Good B W μ res.1 res.2 v w' := by
  unfold runBody at hr
  have hbody : bodyOf fn = body := by simp [bodyOf, hb]
  rw [hbody] at hr
  obtain ⟨x, s', hk, way⟩ := ev_sound hs hc hmix B W body hd none (fun hx => by cases hx) _ _ res hr
  refine callsIn_wide.1 (callsIn_of_wp_marks (n := 0) hf hb trivial (wpIn_mono (way μ _ w ⟨⟨?_⟩, sim, hgl, Marked.nil⟩) ?_))
  · have h1 := ha.append (All2.replicate (undef_rep μ) (fn.ntmps - xs.size))
    have hl : args.length = xs.size := by have := ha.length; simpa using this
    simpa [start, hl] using h1
  · rintro e a' w' ⟨rfl, μ', hpre, sr'⟩
    have fin : ∀ (hk : resultsK c.P s'.r s'.h fn.results.toList (fun ys => some (oneP ys, s'.h)) = some res), LeavesInM Fence.wide 0 c.P fn a'.tmps (fun e w' => ∃ v, e = .returned v ∧ Good B W μ res.1 res.2 v w') a'.defers .returning w' := by
      intro hk
      rw [resultsK_eq, Option.bind_eq_some_iff] at hk
      obtain ⟨ps, hps, hk⟩ := hk
      cases hk
      refine leaves_marks _ w' sr'.marks sr'.sim fun w2 sim2 => ?_
      obtain ⟨ys, hys, hrun⟩ := results_sound sim2 sr'.fr fn.results.toList ps hps
      refine ⟨(if h : ys.toArray.size = 1 then ys.toArray[0] else .tuple ys.toArray), ?_, _, rfl, μ', hpre, ?_, sim2⟩
      · unfold results
        rw [Array.mapM_eq_mapM_toList]
        simp only [Sem.run_bind, Sem.run_map]
        rw [hrun _ (fun _ => rfl) (fun _ _ => rfl)]
        simp only [Result.andThen_ok, Sem.run_pure]
      · match ps, ys, hys with
        | [], [], _ => exact ⟨#[], rfl, trivial⟩
        | [p], [y], hys => exact hys.1.rep
        | p :: p' :: ps, y :: y' :: ys, hys => exact ⟨_, rfl, hys⟩
    cases x with
    | normal => exact fin hk
    | ret => exact fin hk
    | exit id => cases hk

theorem draws_of_round : ∀ (code : Code), roundOk code = true → drawsOk code = true := by
  intro code
  induction code with
  | region id ops draw => intro h; simp only [roundOk] at h; simp only [drawsOk, h, Bool.true_or]
  | seq a b iha ihb => intro h; simp only [roundOk, Bool.and_eq_true] at h; simp only [drawsOk, iha h.1, ihb h.2, Bool.and_self]
  | cond x a b iha ihb => intro h; simp only [roundOk, Bool.and_eq_true] at h; simp only [drawsOk, iha h.1, ihb h.2, Bool.and_self]
  | block id a ih => intro h; exact ih h
  | loop a ih => intro h; exact ih h
  | _ => intro _; rfl

theorem setPs_rep {μ : List Loc} : ∀ {ps : List Tmp} {args : List PV} {xs : List Value} {r : List PV} {tmps : Array Value}, All2 (rep μ) args xs → All2 (rep μ) r tmps.toList →
    All2 (rep μ) (setPs r ps args) ((ps.zip xs).foldl (fun (t : Array Value) (q : Tmp × Value) => t.setIfInBounds q.1 q.2) tmps).toList
  | [], _, _, _, _, _, h => by simpa [setPs] using h
  | _ :: _, [], [], _, _, _, h => by simpa [setPs] using h
  | p :: ps, v :: args, x :: xs, r, tmps, ha, h => by
    simp only [setPs, List.zip_cons_cons, List.foldl_cons]
    exact setPs_rep ha.2 (by rw [Array.toList_setIfInBounds]; exact h.set p ha.1)
  | _ :: _, [], _ :: _, _, _, ha, _ => ha.elim
  | _ :: _, _ :: _, [], _, _, ha, _ => ha.elim

/-- A round of a range over a function. -/
theorem round_sound (hs : c.p = std c.P) (hc : CallOk c) (hmix : c.P.follows .mixedOrders = true) {a b : Code} (ha : roundOk a = true) (hb : roundOk b = true) {id : Nat} {s : St} {res : PV × PHeap} (hr : roundK c a b id s = some res)
    {μ : List Loc} {act : Act} {w : World} (sr : SR c B W μ s act w) (hd : act.defers = []) {l : Loc} (hl : μ[id]? = some l) (f : FuncId) :
    RoundIn Fence.wide 0 c.P l.block f act.tmps a b w fun e w' => ∃ v, e = .returned v ∧ Good B W μ res.1 res.2 v w' := by
  unfold roundK at hr
  obtain ⟨x1, s1, hk1, way1⟩ := ev_sound hs hc hmix B W a (draws_of_round a ha) (some l.block) (fun _ => ha) _ _ res hr
  cases x1 with
  | exit j => cases hk1
  | ret => cases hk1
  | normal =>
  simp only [Option.bind_eq_some_iff] at hk1
  obtain ⟨h2, hbeg, hk1⟩ := hk1
  obtain ⟨x2, s2, hk2, way2⟩ := ev_sound hs hc hmix B W b (draws_of_round b hb) (some l.block) (fun _ => hb) _ _ res hk1
  refine roundIn_of_wpIn trivial ?_
  have hact : act = { tmps := act.tmps, defers := [] } := by rw [← hd]
  rw [← hact]
  refine wpIn_mono (way1 μ act w sr) ?_
  rintro e a1 w1 ⟨rfl, μ1, hpre1, sr1⟩
  unfold beginL at hbeg
  split at hbeg
  · rename_i kl r0 ps0 x0 y0 pe hlp
    cases hbeg
    have hl1 := get_prefix hpre1 hl
    obtain ⟨_, rec1, hrec1, hok1⟩ := sr1.sim.obj _ _ _ hlp hl1
    have sim2 := sr1.sim.setLp hlp rfl hl1 (o' := .lp 1 kl r0 ps0 x0 y0 pe) (rec' := { rec1 with state := .busy }) (.inr ⟨1, kl, r0, ps0, x0, y0, pe, rfl, rfl, hok1.2.1, hok1.2.2.1, hok1.2.2.2.1, hok1.2.2.2.2.1, hok1.2.2.2.2.2⟩)
    have hkeep : KeepsD w1 (w1.putObj l.block (.loop { rec1 with state := .busy })) := fun d hd => by
      rw [World.putObj_heap_other (by rintro rfl; rw [hrec1] at hd; cases hd)]; exact hd
    refine ⟨_, run_beginRound hrec1 hok1.1, wpIn_mono (way2 μ1 a1 _ ⟨sr1.fr, sim2, sr1.glob, sr1.marks.keep hkeep⟩) ?_⟩
    rintro e a2 w2 ⟨rfl, μ2, hpre2, sr2⟩
    have hl2 := get_prefix hpre2 hl1
    unfold endL at hk2
    split at hk2
    · rename_i kl' r1 ps1 x1 y1 pe1 hlp2
      cases hk2
      obtain ⟨_, rec2, hrec2, hok2⟩ := sr2.sim.obj _ _ _ hlp2 hl2
      exact ⟨_, _, run_endRound none hrec2, _, rfl, μ2, hpre1.trans hpre2, rfl, sr2.sim.setLp hlp2 rfl hl2 (.inr ⟨0, kl', r1, ps1, x1, y1, none, rfl, rfl, rfl, hok2.2.2.1, hok2.2.2.2.1, hok2.2.2.2.2.1, hok2.2.2.2.2.2⟩)⟩
    · rename_i x2 _ _ kl' r1 ps1 x1 y1 pe1 hlp2 hne
      cases hk2
      obtain ⟨_, rec2, hrec2, hok2⟩ := sr2.sim.obj _ _ _ hlp2 hl2
      cases x2 with
      | normal => exact absurd rfl hne
      | ret => exact ⟨_, _, run_endRound (some .ret) hrec2, _, rfl, μ2, hpre1.trans hpre2, rfl, sr2.sim.setLp hlp2 rfl hl2 (.inr ⟨2, kl', r1, ps1, x1, y1, some .ret, rfl, rfl, rfl, hok2.2.2.1, hok2.2.2.2.1, hok2.2.2.2.2.1, hok2.2.2.2.2.2⟩)⟩
      | exit j => exact ⟨_, _, run_endRound (some (.exit j)) hrec2, _, rfl, μ2, hpre1.trans hpre2, rfl, sr2.sim.setLp hlp2 rfl hl2 (.inr ⟨2, kl', r1, ps1, x1, y1, some (.exit j), rfl, rfl, rfl, hok2.2.2.1, hok2.2.2.2.1, hok2.2.2.2.2.1, hok2.2.2.2.2.2⟩)⟩
    · cases hk2
  · cases hbeg

/-- THE INTERPRETER IS SOUND. -/
theorem call_sound (P : Program) (glob : Nat → PV) (kl : FuncId → Nat → List Nat) (lf : Nat) (hmix : P.follows .mixedOrders = true) (hok : progOk P = true) : ∀ (n : Nat) (kl' : Nat → List Nat), CallOk ⟨P, glob, call P glob kl lf n, kl', lf, std P, yields P glob kl lf n⟩
  | 0, _ => ⟨(by intro f args h r hr; cases hr), (by intro f args h r hr; cases hr)⟩
  | n + 1, kl0 => by
    refine ⟨?_, ?_⟩
    · intro f args h r hr
      simp only [call, both] at hr
      split at hr
      · rename_i fn hfn
        split at hr
        · rename_i hsome
          obtain ⟨body, hb⟩ := Option.isSome_iff_exists.1 hsome
          have hmem : fn ∈ P.funcs.toList := by
            have : P.funcs.toList[f]? = some fn := by simpa using hfn
            exact List.mem_of_getElem? this
          have hthis := List.all_eq_true.1 hok fn hmem
          rw [hb] at hthis
          simp only [Bool.and_eq_true, Bool.not_eq_true'] at hthis
          refine ⟨⟨fn, hfn, hsome, hthis.1⟩, fun B W μ w xs sim hgl ha => ?_⟩
          exact body_sound (c := ⟨P, glob, call P glob kl lf n, kl f, lf, std P, yields P glob kl lf n⟩) rfl (call_sound P glob kl lf hmix hok n (kl f)) hmix hfn hb hthis.2 hr sim hgl ha
        · cases hr
      · cases hr
    · intro id args h r hr B W μ w xs l sim hgl ha hl
      simp only [yields, both] at hr
      split at hr
      · rename_i kl' r0 ps x y pe hlp
        split at hr
        · have hlen : args.length = ps.length := by assumption
          cases hro : roundOk x && roundOk y with
          | false => rw [hro] at hr; cases hr
          | true =>
            rw [hro, cond_true] at hr
            rw [Bool.and_eq_true] at hro
            obtain ⟨_, rec, hrec, hrok⟩ := sim.obj _ _ _ hlp hl
            obtain ⟨h1, h2, h3, h4, h5, h6⟩ := hrok
            have hsz : xs.size = rec.params.size := by
              have e1 := ha.length
              have e2 : rec.params.size = ps.length := by rw [← h3, Array.length_toList]
              rw [Array.length_toList] at e1
              exact (e1.symm.trans hlen).trans e2.symm
            have hy := run_yield (P := P) (args := xs) hrec hsz
            refine ⟨_, _, _, _, hy, ?_⟩
            rw [h4, h5]
            have hregs : All2 (rep μ) (setPs r0 ps args) ((rec.params.zip xs).foldl (fun (t : Array Value) (q : Tmp × Value) => t.setIfInBounds q.1 q.2) rec.tmps).toList := by
              have := setPs_rep (ps := ps) ha h6
              rw [← h3, ← Array.toList_zip, Array.foldl_toList] at this
              rw [← h3]; exact this
            exact round_sound (c := ⟨P, glob, call P glob kl lf n, kl', lf, std P, yields P glob kl lf n⟩) rfl (call_sound P glob kl lf hmix hok n kl') hmix hro.1 hro.2 hr
              (act := { tmps := (rec.params.zip xs).foldl (fun (t : Array Value) (q : Tmp × Value) => t.setIfInBounds q.1 q.2) rec.tmps, defers := [] }) ⟨⟨hregs⟩, sim, hgl, Marked.nil⟩ rfl hl rec.fn
        · cases hr
      · cases hr

end
end Go.Ip

