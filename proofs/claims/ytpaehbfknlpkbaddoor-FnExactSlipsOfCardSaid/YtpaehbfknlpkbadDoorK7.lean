/- Texts of this seat, in their order, put together by program. -/
import Derived.Test.YtpaehbfknlpkbadDoorK6
import Derived.OrdersHeld
import Derived.Tactics
import Derived.LoopN
import Derived.Deep.Quiet
import Derived.OrdersIn
import Derived.LoopNIn
set_option linter.unusedSimpArgs false
set_option linter.unusedVariables false
set_option linter.unusedSectionVars false
/- The interpreter is sound: what it computes for a call, the machine's call does, in every world that the interpreter's heap stands for. -/
set_option maxRecDepth 20000
namespace Go.Ip
open Go Go.RowKit

structure FR (μ : List Loc) (r : List PV) (a : Act) : Prop where
  regs : All2 (rep μ) r a.tmps.toList

theorem FR.mono {μ μ' : List Loc} (h : μ <+: μ') {r : List PV} {a : Act} (f : FR μ r a) : FR μ' r a := ⟨f.regs.mono fun _ _ => rep.mono h⟩

theorem FR.get {μ : List Loc} {r : List PV} {a : Act} (f : FR μ r a) (t : Nat) : rep μ ((r[t]?).getD .junk) (a.tmps.getD t undef) := by
  cases hp : r[t]? with
  | none => trivial
  | some p =>
    obtain ⟨v, hv, hr⟩ := f.regs.get hp
    have : a.tmps[t]? = some v := by simpa using hv
    simp only [Option.getD_some]
    rw [Array.getD_eq_getD_getElem?, this]
    exact hr

theorem FR.eval {μ : List Loc} {r : List PV} {a : Act} {g : Nat → PV} (f : FR μ r a) (hg : ∀ n, rep μ (g n) (.pointer (some ⟨n, 0, none⟩))) (x : Operand) : rep μ (evA g r x) (a.eval x) := by
  cases x with
  | tmp t => exact f.get t
  | const v => exact ofV_rep μ v
  | «global» n => exact hg n
  | func n => trivial

theorem FR.set {μ : List Loc} {r : List PV} {a : Act} (f : FR μ r a) (d : Option Tmp) {p : PV} {v : Value} (hr : rep μ p v) : FR μ (setR r d p) (a.put d v) := by
  cases d with
  | none => exact f
  | some d =>
    refine ⟨?_⟩
    have := f.regs.set d hr
    simpa [setR, Act.put] using this

theorem FR.kill {μ : List Loc} {a : Act} : ∀ (ns : List Nat) {r : List PV}, FR μ r a → FR μ (killR r ns) a
  | [], _, f => f
  | n :: ns, r, f => FR.kill ns (by
      refine ⟨All2.of_get (by have := f.regs.length; simpa using this) (fun i p hp => ?_)⟩
      by_cases hi : n = i
      · subst hi
        have hlt : n < r.length := by
          have := (List.getElem?_eq_some_iff.1 hp).1
          simpa using this
        rw [List.getElem?_set_self hlt] at hp
        cases hp
        have hlt' : n < a.tmps.toList.length := by rw [← f.regs.length]; exact hlt
        exact ⟨a.tmps.toList[n], List.getElem?_eq_getElem hlt', trivial⟩
      · rw [List.getElem?_set_ne hi] at hp
        exact f.regs.get hp)

theorem undef_rep (μ : List Loc) : rep μ (.tup []) undef := ⟨#[], rfl, trivial⟩

theorem want_sound {μ : List Loc} {r : List PV} {a : Act} (f : FR μ r a) {ops : Array Oper} {o : Oper} {g : Bool} (h : wantP ops.toList r o.guard = some g) : Region.wanted o (yielded ops a.tmps) = g := by
  unfold wantP at h
  unfold Region.wanted
  cases hg : o.guard with
  | none => rw [hg] at h; cases h; rfl
  | some jw =>
    obtain ⟨j, want⟩ := jw
    rw [hg] at h
    simp only at h ⊢
    unfold yielded
    rw [Array.getElem?_toList] at h
    cases hd : (ops[j]?).bind (·.dst) with
    | none => rw [hd] at h; cases h
    | some d =>
      rw [hd] at h
      simp only at h
      cases hp : r[d]? with
      | none => rw [hp] at h; cases h
      | some p =>
        rw [hp] at h
        obtain ⟨v, hv, hr⟩ := f.regs.get hp
        have hv' : a.tmps[d]? = some v := by simpa using hv
        simp only [Option.bind_some, hv']
        have h : wantV p want = some g := h
        unfold wantV at h
        split at h
        · rename_i b
          cases h
          rw [rep_bool.1 hr]
          cases b <;> cases want <;> rfl
        · cases h
          obtain ⟨xs, rfl, _⟩ := hr
          rfl
        · cases h

/-- The marks of the ranges over functions that an activation has been through: each names a block of its own, for the rounds' deferred calls, that lies empty. -/
def Mark (B : Nat) (W w : World) (d : Deferred) : Prop := ∃ D : Nat, d = { target := .collected D, args := #[] } ∧ B ≤ D ∧ W.heap.size ≤ D ∧ w.heap[D]? = some (.deferred (some []))
def Marked (B : Nat) (W : World) (ds : List Deferred) (w : World) : Prop := (∀ d ∈ ds, Mark B W w d) ∧ ds.Pairwise (· ≠ ·)
def KeepsD (w w' : World) : Prop := ∀ d : Nat, w.heap[d]? = some (.deferred (some [])) → w'.heap[d]? = some (.deferred (some []))
theorem Marked.keep {B : Nat} {W : World} {ds : List Deferred} {w w' : World} (m : Marked B W ds w) (h : KeepsD w w') : Marked B W ds w' :=
  ⟨fun d hd => let ⟨D, e, h1, h2, h3⟩ := m.1 d hd; ⟨D, e, h1, h2, h _ h3⟩, m.2⟩
theorem Marked.nil {B : Nat} {W : World} {w : World} : Marked B W [] w := ⟨fun d hd => (by cases hd), List.Pairwise.nil⟩

section
variable {c : Ctx} {B : Nat} {W : Base}

/-- The state of the machine that the interpreter's state stands for. -/
structure SR (c : Ctx) (B : Nat) (W : Base) (μ : List Loc) (s : St) (a : Act) (w : World) : Prop where
  fr : FR μ s.r a
  sim : Sim B W μ s.h w
  glob : ∀ n, rep μ (c.glob n) (.pointer (some ⟨n, 0, none⟩))
  marks : Marked B W.toWorld a.defers w

theorem put_defers (a : Act) (d : Option Tmp) (v : Value) : (a.put d v).defers = a.defers := by cases d <;> rfl
theorem SR.put {μ : List Loc} {s : St} {a : Act} {w : World} (sr : SR c B W μ s a w) (d : Option Tmp) {p : PV} {v : Value} (hr : rep μ p v) : SR c B W μ ⟨setR s.r d p, s.h⟩ (a.put d v) w :=
  ⟨sr.fr.set d hr, sr.sim, sr.glob, by rw [put_defers]; exact sr.marks⟩
theorem SR.kill {μ : List Loc} {s : St} {a : Act} {w : World} (sr : SR c B W μ s a w) (ns : List Nat) : SR c B W μ ⟨killR s.r ns, s.h⟩ a w := ⟨sr.fr.kill _, sr.sim, sr.glob, sr.marks⟩
theorem SR.tape {μ : List Loc} {s : St} {a : Act} {w : World} (sr : SR c B W μ s a w) (n : Nat) : SR c B W μ s a { w with drawn := n } := ⟨sr.fr, sr.sim.tape n, sr.glob, sr.marks⟩
theorem SR.next {μ : List Loc} {s : St} {a : Act} {w w' : World} (sr : SR c B W μ s a w) (d : Option Tmp) {μ' : List Loc} {p : PV} {h' : PHeap} {v : Value} (hpre : μ <+: μ') (hr : rep μ' p v) (hs : Sim B W μ' h' w') (hk : KeepsD w w') :
    SR c B W μ' ⟨setR s.r d p, h'⟩ (a.put d v) w' :=
  ⟨(sr.fr.mono hpre).set d hr, hs, fun n => (sr.glob n).mono hpre, by rw [put_defers]; exact sr.marks.keep hk⟩

theorem OpGo.mono {P : Program} {ρ : Operand → Value} {o : Oper} {w : World} {R R' : Value → World → Prop} (g : OpGo P ρ o w R) (h : ∀ v w', R v w' → R' v w') : OpGo P ρ o w R' := by
  unfold OpGo at *
  split at g
  · exact h _ _ g
  · exact h _ _ g
  · exact g.mono fun e w'' ⟨v, he, hr⟩ => ⟨v, he, h _ _ hr⟩
  · exact g.mono fun e w'' ⟨v, he, hr⟩ => ⟨v, he, h _ _ hr⟩
  · exact g.elim

/-- An operation of the machine's, from a state that the interpreter's stands for: what it yields, and the blocks for deferred calls that lie empty still do. -/
theorem pop_go (hs : c.p = std c.P) (hc : CallOk c) {μ : List Loc} {s : St} {a : Act} {w : World} (sr : SR c B W μ s a w) {o : Oper} {p : PV} {h' : PHeap} (hp : pop c (evA c.glob s.r) o.op s.h = some (p, h')) :
    OpGo c.P a.eval o w fun v w' => Good B W μ p h' v w' ∧ KeepsD w w' :=
  (pop_sound hs hc sr.sim.rebase sr.glob (sr.fr.eval sr.glob) (fun _ => rfl) hp).mono fun v w' ⟨μ', hpre, hr, hsim⟩ => ⟨⟨μ', hpre, hr, sr.sim.back hsim⟩, hsim.marks⟩

/-- The fence that lets in everything, of a round or of none. -/
def wideR (r : Option Nat) : Fence := { Fence.wide with round := r }

theorem upon_go {P : Program} {o : Oper} {a : Act} {w : World} {R : Value → World → Prop} {next : Act → World → Prop} {Q : Exit → Act → World → Prop} (g : OpGo P a.eval o w R) (h : ∀ v w', R v w' → next (a.put o.dst v) w') :
    o.uponIn Fence.wide 0 P a next Q ((execOp a.eval o).run P w) := by
  unfold OpGo at g
  generalize (execOp a.eval o).run P w = res at g
  cases res with
  | halt x w' => exact g.elim
  | ok n w' =>
    cases n with
    | value v => exact h v w' g
    | skip => exact h undef w' g
    | enter f args =>
      refine ⟨fun hx => (by cases hx), callsIn_wide.2 (g.mono fun e w'' ⟨v, he, hgood⟩ => ?_)⟩
      subst he
      exact h v w'' hgood
    | round l f tmps x y =>
      refine ⟨fun hx => (by cases hx), g.mono fun e w'' ⟨v, he, hgood⟩ => ?_⟩
      subst he
      exact h v w'' hgood
    | _ => exact g.elim

/-- One operation comes up. -/
def wpOpE (P : Program) (ops : Array Oper) (Q : Exit → Act → World → Prop) (i : Nat) (K : Act → World → Prop) (a : Act) (w : World) : Prop :=
  match ops[i]? with
  | none => K a w
  | some o => if Region.wanted o (yielded ops a.tmps) then o.uponIn Fence.wide 0 P a K Q ((execOp a.eval o).run P w) else K (a.put o.dst undef) w

theorem uponE_mono {P : Program} {o : Oper} {a : Act} {Q : Exit → Act → World → Prop} {K K' : Act → World → Prop} {r : Result Next} (h : ∀ a w, K a w → K' a w) (hh : o.uponIn Fence.wide 0 P a K Q r) : o.uponIn Fence.wide 0 P a K' Q r := by
  cases r with
  | ok x w' =>
    cases x <;> simp only [Oper.uponIn] at hh ⊢ <;>
      first
        | exact h _ _ hh
        | exact ⟨hh.1, CallsIn.mono hh.2 (fun e w'' he => by cases e <;> first | exact h _ _ he | exact he)⟩
        | exact ⟨hh.1, RowsIn.mono hh.2 (fun _ _ he => h _ _ he)⟩
        | exact ⟨hh.1, RoundIn.mono hh.2 (fun e w'' he => by cases e <;> first | exact h _ _ he | exact he)⟩
  | halt x w' => cases x <;> simp only [Oper.uponIn] at hh ⊢ <;> exact hh

theorem wpOpE_mono {P : Program} {ops : Array Oper} {Q : Exit → Act → World → Prop} {i : Nat} {a : Act} {w : World} {K K' : Act → World → Prop} (h : ∀ a w, K a w → K' a w) (hh : wpOpE P ops Q i K a w) : wpOpE P ops Q i K' a w := by
  unfold wpOpE at *
  split
  · exact h _ _ (by simpa [*] using hh)
  · rename_i o ho
    simp only [ho] at hh
    split
    · rename_i hw; simp only [hw, if_true] at hh; exact uponE_mono h hh
    · rename_i hw; simp only [hw] at hh; exact h _ _ hh

theorem wpOpE_in {P : Program} {ops : Array Oper} {Q : Exit → Act → World → Prop} {i : Nat} {a : Act} {w : World} {K : Act → World → Prop} (hh : wpOpE P ops Q i K a w) : wpOpIn Fence.wide 0 P ops Q i K a w := by
  unfold wpOpE at hh
  unfold wpOpIn
  cases ho : ops[i]? with
  | none => rw [ho] at hh; exact hh
  | some o =>
    rw [ho] at hh
    simp only at hh ⊢
    split
    · rename_i hw
      rw [if_pos hw] at hh
      exact ⟨fun _ _ => trivial, hh⟩
    · rename_i hw
      rw [if_neg hw] at hh
      exact ⟨fun _ _ => trivial, hh⟩

theorem YieldsIf.wpOpE {P : Program} {ops : Array Oper} {Q : Exit → Act → World → Prop} {S : World → Prop} {i : Nat} {o : Oper} {v : Value} {a : Act} (hi : ops[i]? = some o) (hy : YieldsIf P ops S o v a)
    {K : Act → World → Prop} {w : World} (hS : S w) (h : K (a.put o.dst v) w) : wpOpE P ops Q i K a w := by
  unfold Ip.wpOpE
  simp only [hi]
  rcases hy with ⟨hw, hv⟩ | ⟨hw, rfl⟩
  · simp only [hw, if_true, hv w hS, Oper.uponIn]; exact h
  · simp only [hw, Bool.false_eq_true, if_false]; exact h

theorem wpOpE_putIf {P : Program} {ops : Array Oper} {Q : Exit → Act → World → Prop} {S : World → Prop} {j : Nat} {oi oj : Oper} {v : Value} (hj : ops[j]? = some oj) (hap : oi.apart ops oj = true)
    (hsi : ∀ cs b, oi.op ≠ .select cs b) (hsj : ∀ cs b, oj.op ≠ .select cs b)
    (hQ : ∀ c a w, Q (.panic c) (a.put oi.dst v) w → Q (.panic c) a w) {K : Act → World → Prop} {a : Act} {w : World}
    (hy : YieldsIf P ops S oi v a) (h : wpOpE P ops Q j K (a.put oi.dst v) w) :
    wpOpE P ops Q j (fun a' w' => YieldsIf P ops S oi v a' ∧ K (a'.put oi.dst v) w') a w := by
  obtain ⟨h1, h2, h3⟩ := Oper.apart_spec hap
  have keep : ∀ (a : Act), YieldsIf P ops S oi v a → ∀ u, YieldsIf P ops S oi v (a.put oj.dst u) := fun a hy u =>
    hy.of_same (execOp_put oi hsi a oj.dst u h3) (wanted_put oi a oj.dst u h3)
  have keepD : ∀ d, YieldsIf P ops S oi v { a with defers := d :: a.defers } := fun d => hy.of_same rfl rfl
  unfold wpOpE at *
  simp only [hj] at *
  rw [wanted_put oj a oi.dst v h1] at h
  split
  · rename_i hw
    simp only [hw, if_true] at h
    rw [execOp_put oj hsj a oi.dst v h1] at h
    generalize (execOp a.eval oj).run P w = r at *
    cases r with
    | ok n w' =>
      cases n <;> simp only [Oper.uponIn] at h ⊢
      case value u => exact ⟨keep a hy u, by rw [← Act.put_comm a v u h2]; exact h⟩
      case skip => exact ⟨keep a hy _, by rw [← Act.put_comm a v undef h2]; exact h⟩
      case defer d =>
        refine ⟨keep _ (keepD d) _, ?_⟩
        rw [← Act.put_comm _ v undef h2, ← Act.put_defers]
        exact h
      case enter f args =>
        refine ⟨h.1, CallsIn.mono h.2 fun e w'' he => ?_⟩
        cases e with
        | returned u => exact ⟨keep a hy u, by rw [← Act.put_comm a v u h2]; exact he⟩
        | panicked c => exact hQ _ _ _ he
        | outgrown => exact he
      case row row args => exact ⟨h.1, RowsIn.mono h.2 fun u w'' he => ⟨keep a hy u, by rw [← Act.put_comm a v u h2]; exact he⟩⟩
      case round l f tmps x y =>
        refine ⟨h.1, RoundIn.mono h.2 fun e w'' he => ?_⟩
        cases e with
        | returned u => exact ⟨keep a hy u, by rw [← Act.put_comm a v u h2]; exact he⟩
        | panicked c => exact hQ _ _ _ he
        | outgrown => exact he
    | halt x w' =>
      cases x <;> simp only [Oper.uponIn] at h ⊢
      case panic u => exact hQ _ _ _ h
  · rename_i hw
    simp only [hw] at h
    exact ⟨keep a hy _, by rw [← Act.put_comm a v undef h2]; exact h⟩

/-- The operations in the text's order. -/
def wpListE (P : Program) (all : Array Oper) (Q : Exit → Act → World → Prop) : List Oper → Act → World → Prop
  | [], a, w => Q .normal a w
  | o :: l, a, w => if Region.wanted o (yielded all a.tmps) then (∀ c, o.op ≠ .defer c) ∧ o.uponIn Fence.wide 0 P a (wpListE P all Q l) Q ((execOp a.eval o).run P w) else wpListE P all Q l (a.put o.dst undef) w

theorem wpListE_ops {P : Program} {all : Array Oper} {Q : Exit → Act → World → Prop} (r : Option Nat) : ∀ (l : List Oper) (i : Nat) (a : Act) (w : World), all.toList.drop i = l → wpListE P all Q l a w → wpOpsIn (wideR r) 0 P all Q (List.range' i l.length) a w
  | [], _, _, _, _, h => h
  | o :: l, i, a, w, hl, h => by
    have hi : all[i]? = some o := by
      rw [← Array.getElem?_toList]
      have : (all.toList.drop i)[0]? = some o := by rw [hl]; rfl
      simpa using this
    have hl' : all.toList.drop (i + 1) = l := by rw [← List.tail_drop, hl]; rfl
    rw [List.length_cons, List.range'_succ]
    simp only [wpOpsIn, hi]
    unfold wpListE at h
    split
    · rename_i hw
      rw [if_pos hw] at h
      refine ⟨fun _ _ => trivial, ?_⟩
      rw [Oper.semAt_eq _ _ _ h.1]
      exact uponE_mono (fun a w h => wpListE_ops r l (i + 1) a w hl' h) h.2
    · rename_i hw
      rw [if_neg hw] at h
      exact ⟨fun _ _ => trivial, wpListE_ops r l (i + 1) _ w hl' h⟩

theorem wpIn_region_listE {P : Program} {Q : Exit → Act → World → Prop} {r : Option Nat} {id : Nat} {ops : Array Oper} {a : Act} {w : World} (h : wpListE P ops Q ops.toList a w) : (Code.region id ops false).wpIn (wideR r) 0 P Q a w := by
  refine wpIn_region ?_
  have := wpListE_ops r ops.toList 0 a w rfl h
  rwa [← List.range_eq_range', Array.length_toList] at this

theorem pop_defer {e : Operand → PV} {o : Op} {h : PHeap} {r : PV × PHeap} (hp : pop c e o h = some r) : ∀ d, o ≠ .defer d := by
  intro d hd; subst hd; cases hp

/-- Some state behind it. -/
def Later (c : Ctx) (B : Nat) (W : Base) (μ : List Loc) (s : St) (a : Act) (w : World) : Prop := ∃ μ', μ <+: μ' ∧ SR c B W μ' s a w

/-- Where the operations lead. -/
def endOps (c : Ctx) (all : List Oper) : List Oper → St → Option St
  | [], s => some s
  | o :: rest, s => (wantP all s.r o.guard).bind fun g => (doOp c o g s).bind fun p => endOps c all rest ⟨setR s.r o.dst p.1, p.2⟩

theorem runOps_end (all : List Oper) (k : St → Res) : ∀ (l : List Oper) (s : St), runOps c all l s k = (endOps c all l s).bind k
  | [], s => rfl
  | o :: l, s => by
    have key : runOps c all (o :: l) s k = (wantP all s.r o.guard).bind fun g => (doOp c o g s).bind fun p => runOps c all l ⟨setR s.r o.dst p.1, p.2⟩ k := by
      cases hg : o.guard with
      | none => simp only [runOps, hg, wantP, Option.bind_some, doOp, cond_true, popK_eq]
      | some g => simp only [runOps, hg]
    rw [key]
    simp only [endOps]
    cases wantP all s.r o.guard with
    | none => rfl
    | some g =>
      simp only [Option.bind_some]
      cases doOp c o g s with
      | none => rfl
      | some p => simp only [Option.bind_some]; exact runOps_end all k l _

theorem ops_sound (hs : c.p = std c.P) (hc : CallOk c) {all : Array Oper} {Q : Exit → Act → World → Prop} {s' : St} :
    ∀ (l : List Oper) (μ : List Loc) (s : St) (a : Act) (w : World), endOps c all.toList l s = some s' → SR c B W μ s a w →
      (∀ a' w', Later c B W μ s' a' w' → Q .normal a' w') → wpListE c.P all Q l a w
  | [], μ, s, a, w, hr, sr, hq => by cases hr; exact hq a w ⟨μ, List.prefix_refl _, sr⟩
  | o :: l, μ, s, a, w, hr, sr, hq => by
    simp only [endOps, Option.bind_eq_some_iff] at hr
    obtain ⟨g, hg, ⟨p, h'⟩, hp, hr⟩ := hr
    have hw := want_sound sr.fr hg
    unfold wpListE
    cases g with
    | false =>
      rw [hw]
      simp only [Bool.false_eq_true, if_false]
      simp only [doOp, cond_false, Option.some.injEq, Prod.mk.injEq] at hp
      obtain ⟨rfl, rfl⟩ := hp
      exact ops_sound hs hc l μ _ _ w hr (sr.put o.dst (undef_rep μ)) hq
    | true =>
      rw [hw]
      simp only [if_true]
      simp only [doOp, cond_true] at hp
      refine ⟨pop_defer hp, upon_go (pop_go hs hc sr hp) ?_⟩
      rintro v w' ⟨⟨μ', hpre, hrep, hsim⟩, hk⟩
      exact ops_sound hs hc l μ' _ _ w' hr (sr.next o.dst hpre hrep hsim hk) (fun a' w'' ⟨μ'', hpre', sr'⟩ => hq a' w'' ⟨μ'', hpre.trans hpre', sr'⟩)

/-- A region whose operations only read. -/
theorem quiet_ops_sound (hs : c.p = std c.P) {all : Array Oper} {Q : Act → Prop} {s' : St} {w : World} :
    ∀ (l : List Oper) (μ : List Loc) (s : St) (a : Act), (∀ o ∈ l, quietOp o.op = true) → endOps c all.toList l s = some s' → SR c B W μ s a w →
      (∀ a', SR c B W μ s' a' w → Q a') → wpQuiet c.P all (fun w' => w'.heap = w.heap ∧ ∃ n, w' = { w with drawn := n }) Q l a
  | [], μ, s, a, _, hr, sr, hq => by cases hr; exact hq a sr
  | o :: l, μ, s, a, hquiet, hr, sr, hq => by
    simp only [endOps, Option.bind_eq_some_iff] at hr
    obtain ⟨g, hg, ⟨p, h'⟩, hp, hr⟩ := hr
    have hw := want_sound sr.fr hg
    unfold wpQuiet
    cases g with
    | false =>
      rw [hw]
      simp only [Bool.false_eq_true, if_false]
      simp only [doOp, cond_false, Option.some.injEq, Prod.mk.injEq] at hp
      obtain ⟨rfl, rfl⟩ := hp
      exact quiet_ops_sound hs l μ _ _ (fun o ho => hquiet o (by simp [ho])) hr (sr.put o.dst (undef_rep μ)) hq
    | true =>
      rw [hw]
      simp only [if_true]
      simp only [doOp, cond_true] at hp
      obtain ⟨rfl, v, hrep, hv⟩ := pop_quiet (c := c) hs (ρ := a.eval) sr.sim (sr.fr.eval sr.glob) (hquiet o (by simp)) hp
      refine ⟨v, fun w' hw' => ?_, ?_⟩
      · unfold Oper.quietAt
        rw [hv w' hw'.1]
        exact ⟨rfl, rfl⟩
      · exact quiet_ops_sound hs l μ _ _ (fun o ho => hquiet o (by simp [ho])) hr (sr.put o.dst hrep) hq

/-! ### regions whose order is drawn, that change the heap, and load: the loads first, and held -/
def chk (c : Ctx) : Cks → PHeap → Option Unit
  | [], _ => some ()
  | x :: l, h => (c.p.load x.2.1 x.2.2.1 h).bind fun p => bif plainEq x.2.2.2 p then chk c l h else none

theorem chkAll_eq (h : PHeap) (r : Res) : ∀ (l : Cks), chkAll c l h r = (chk c l h).bind fun _ => r
  | [] => rfl
  | x :: l => by
    simp only [chkAll, chk]
    cases c.p.load x.2.1 x.2.2.1 h with
    | none => rfl
    | some p =>
      simp only [Option.bind_some]
      cases plainEq x.2.2.2 p with
      | true => simp only [cond_true]; exact chkAll_eq h r l
      | false => rfl

def endEarly (c : Ctx) (all : List Oper) : List Nat → St → Cks → Option (St × Cks)
  | [], s, ck => some (s, ck)
  | i :: E, s, ck => (all[i]?).bind fun o => (pop c (evA c.glob s.r) o.op s.h).bind fun p => endEarly c all E ⟨setR s.r o.dst p.1, p.2⟩ (ckAdd i o.op (evA c.glob s.r) p.1 ck)

theorem runEarly_end (all : List Oper) (k : St → Cks → Res) : ∀ (E : List Nat) (s : St) (ck : Cks), runEarly c all E s ck k = (endEarly c all E s ck).bind fun r => k r.1 r.2
  | [], s, ck => rfl
  | i :: E, s, ck => by
    simp only [runEarly, endEarly]
    cases all[i]? with
    | none => rfl
    | some o =>
      simp only [Option.bind_some, popK_eq]
      cases pop c (evA c.glob s.r) o.op s.h with
      | none => rfl
      | some p => simp only [Option.bind_some]; exact runEarly_end all k E _ _

def endLate (c : Ctx) (all : List Oper) (st : Bool) : Cks → List (Nat × Bool) → St → Option St
  | _, [], s => some s
  | ck, (i, true) :: L, s => (all[i]?).bind fun o => (wantP all s.r o.guard).bind fun g => bif g then (pop c (evA c.glob s.r) o.op s.h).bind fun p => endLate c all st (ckAdd i o.op (evA c.glob s.r) p.1 ck) L ⟨setR s.r o.dst p.1, p.2⟩ else endLate c all st ck L ⟨setR s.r o.dst (.tup []), s.h⟩
  | ck, (i, false) :: L, s => (all[i]?).bind fun o => (wantP all s.r o.guard).bind fun g => (doOp c o g s).bind fun p => (bif quietOp o.op then some ck else (chk c (ckDrop st o ck) p.2).bind fun _ => some (ckDrop st o ck)).bind fun ck' => endLate c all st ck' L ⟨setR s.r o.dst p.1, p.2⟩

theorem runLate_end (all : List Oper) (st : Bool) (k : St → Res) : ∀ (L : List (Nat × Bool)) (ck : Cks) (s : St), runLate c all st ck L s k = (endLate c all st ck L s).bind k
  | [], ck, s => by simp only [runLate, endLate]; rfl
  | (i, true) :: L, ck, s => by
    simp only [runLate, endLate]
    cases all[i]? with
    | none => rfl
    | some o =>
      simp only [Option.bind_some]
      cases hg : o.guard with
      | none =>
        simp only [wantP, Option.bind_some, cond_true, popK_eq]
        cases pop c (evA c.glob s.r) o.op s.h with
        | none => rfl
        | some p => simp only [Option.bind_some]; exact runLate_end all st k L _ _
      | some g =>
        simp only
        cases wantP all s.r (some g) with
        | none => rfl
        | some b =>
          simp only [Option.bind_some]
          cases b with
          | false => simp only [cond_false]; exact runLate_end all st k L _ _
          | true =>
            simp only [cond_true, popK_eq]
            cases pop c (evA c.glob s.r) o.op s.h with
            | none => rfl
            | some p => simp only [Option.bind_some]; exact runLate_end all st k L _ _
  | (i, false) :: L, ck, s => by
    have key : runLate c all st ck ((i, false) :: L) s k = (all[i]?).bind fun o => (wantP all s.r o.guard).bind fun g => (doOp c o g s).bind fun p => (bif quietOp o.op then some ck else (chk c (ckDrop st o ck) p.2).bind fun _ => some (ckDrop st o ck)).bind fun ck' => runLate c all st ck' L ⟨setR s.r o.dst p.1, p.2⟩ k := by
      simp only [runLate]
      cases all[i]? with
      | none => rfl
      | some o =>
        simp only [Option.bind_some]
        cases hg : o.guard with
        | none =>
          simp only [wantP, Option.bind_some, doOp, cond_true, popK_eq, chkAll_eq]
          cases pop c (evA c.glob s.r) o.op s.h with
          | none => rfl
          | some p =>
            simp only [Option.bind_some]
            cases quietOp o.op with
            | true => rfl
            | false =>
              simp only [cond_false]
              cases chk c (ckDrop st o ck) p.2 <;> rfl
        | some g =>
          simp only [chkAll_eq]
          cases wantP all s.r (some g) with
          | none => rfl
          | some b =>
            simp only [Option.bind_some]
            cases doOp c o b s with
            | none => rfl
            | some p =>
              simp only [Option.bind_some]
              cases quietOp o.op with
              | true => rfl
              | false =>
                simp only [cond_false]
                cases chk c (ckDrop st o ck) p.2 <;> rfl
    rw [key]
    simp only [endLate]
    cases all[i]? with
    | none => rfl
    | some o =>
      simp only [Option.bind_some]
      cases wantP all s.r o.guard with
      | none => rfl
      | some g =>
        simp only [Option.bind_some]
        cases doOp c o g s with
        | none => rfl
        | some p =>
          simp only [Option.bind_some]
          cases (bif quietOp o.op then some ck else (chk c (ckDrop st o ck) p.2).bind fun _ => some (ckDrop st o ck)) with
          | none => rfl
          | some ck' => simp only [Option.bind_some]; exact runLate_end all st k L ck' _

/-- A load that was taken, and what the machine makes of it. -/
def RelCk (μ : List Loc) (x : Nat × TypeId × PV × PV) (r : Nat × TypeId × Value × Value) : Prop := x.1 = r.1 ∧ x.2.1 = r.2.1 ∧ rep μ x.2.2.1 r.2.2.1 ∧ rep μ x.2.2.2 r.2.2.2
theorem RelCk.mono {μ μ' : List Loc} (h : μ <+: μ') {x : Nat × TypeId × PV × PV} {r : Nat × TypeId × Value × Value} (hr : RelCk μ x r) : RelCk μ' x r := ⟨hr.1, hr.2.1, hr.2.2.1.mono h, hr.2.2.2.mono h⟩
theorem rel_mem {μ : List Loc} : ∀ {ck : Cks} {rs : List (Nat × TypeId × Value × Value)}, All2 (RelCk μ) ck rs → ∀ r ∈ rs, ∃ x ∈ ck, RelCk μ x r
  | [], [], _, r, hr => by cases hr
  | x :: ck, y :: rs, h, r, hr => by
    rcases List.mem_cons.1 hr with rfl | hr
    · exact ⟨x, List.mem_cons_self .., h.1⟩
    · obtain ⟨z, hz, hzr⟩ := rel_mem h.2 r hr
      exact ⟨z, List.mem_cons_of_mem _ hz, hzr⟩
  | [], _ :: _, h, _, _ => h.elim
  | _ :: _, [], h, _, _ => h.elim
/-- The load yields what it yielded. -/
def Yet (P : Program) (r : Nat × TypeId × Value × Value) (w : World) : Prop := (Instr.loadAt r.2.1 r.2.2.1).run P w = .ok r.2.2.2 w

/-! ### orders that are drawn, and loads taken ahead: each must yield the same until something that writes, and that waits for it, has come up -/
section
variable {ops : Array Oper}
/-- Has something come up that is more than a look, and that waits for operation i? -/
def Dep (ops : Array Oper) (l : Array Bool) (i : Nat) : Prop := ∃ (j : Nat) (o : Oper), ops[j]? = some o ∧ l.getD j false = true ∧ quietOp o.op = false ∧ ∃ e ∈ o.after, Region.binds .any e = true ∧ e.on = i
theorem marked {l : Array Bool} {i j : Nat} (h : l.getD j false = true) : (l.setIfInBounds i true).getD j false = true := by
  rw [Array.getD_eq_getD_getElem?] at h ⊢
  by_cases e : i = j
  · subst e
    cases hl : l[i]? with
    | none => rw [hl] at h; cases h
    | some b =>
      have : i < l.size := (Array.getElem?_eq_some_iff.1 hl).1
      rw [Array.getElem?_setIfInBounds_self_of_lt this]; rfl
  · rw [Array.getElem?_setIfInBounds_ne e]; exact h
theorem unmarked {l : Array Bool} {i j : Nat} (h : (l.setIfInBounds i true).getD j false = true) : j = i ∨ l.getD j false = true := by
  by_cases e : i = j
  · exact .inl e.symm
  · right
    rw [Array.getD_eq_getD_getElem?] at h ⊢
    rwa [Array.getElem?_setIfInBounds_ne e] at h
theorem Dep.mono {l : Array Bool} {i k : Nat} (h : Dep ops l i) : Dep ops (l.setIfInBounds k true) i := by
  obtain ⟨j, o, ho, hl, rest⟩ := h
  exact ⟨j, o, ho, marked hl, rest⟩
theorem Dep.look {l : Array Bool} {i k : Nat} {ok : Oper} (hk : ops[k]? = some ok) (hq : quietOp ok.op = true) (h : Dep ops (l.setIfInBounds k true) i) : Dep ops l i := by
  obtain ⟨j, o, ho, hl, hn, rest⟩ := h
  rcases unmarked hl with rfl | hl
  · rw [hk] at ho
    rw [← Option.some.inj ho, hq] at hn; cases hn
  · exact ⟨j, o, ho, hl, hn, rest⟩
/-- What has come up had all before it that it waits for. -/
def Closed (ops : Array Oper) (l : Array Bool) : Prop := ∀ (j : Nat) (o : Oper), ops[j]? = some o → l.getD j false = true → ∀ e ∈ o.after, Region.binds .any e = true → l.getD e.on false = true
theorem Closed.none (n : Nat) : Closed ops (Array.replicate n false) := by
  intro j o _ h
  exfalso
  rw [Array.getD_eq_getD_getElem?, Array.getElem?_replicate] at h
  split at h <;> cases h
theorem Closed.more {l : Array Bool} {i : Nat} (h : Closed ops l) (hr : i ∈ Region.ready .any ops l) : Closed ops (l.setIfInBounds i true) := by
  obtain ⟨_, oi, hoi, hall⟩ := mem_ready.1 hr
  intro j o ho hl e he hb
  rcases unmarked hl with rfl | hl
  · rw [hoi] at ho
    cases ho
    exact marked (hall e he hb)
  · exact marked (h j o ho hl e he hb)
theorem Closed.fresh {l : Array Bool} {i : Nat} (h : Closed ops l) (hr : i ∈ Region.ready .any ops l) : ¬ Dep ops l i := by
  rintro ⟨j, o, ho, hl, _, e, he, hb, heq⟩
  have h1 := h j o ho hl e he hb
  have h0 := (mem_ready.1 hr).1
  rw [heq, Array.getD_eq_getD_getElem?] at h1
  rw [Array.getD_eq_getD_getElem?] at h0
  cases hl' : l[i]? with
  | none => rw [hl'] at h1; cases h1
  | some b => rw [hl'] at h0 h1; simp only [Option.getD_some] at h0 h1; rw [h0] at h1; cases h1

def HeldL (P : Program) (ops : Array Oper) (rs : List (Nat × TypeId × Value × Value)) (l : Array Bool) (w : World) : Prop := ∀ r ∈ rs, ¬ Dep ops l r.1 → Yet P r w
theorem HeldL.look {P : Program} {rs : List (Nat × TypeId × Value × Value)} {l : Array Bool} {w : World} {k : Nat} {ok : Oper} (hk : ops[k]? = some ok) (hq : quietOp ok.op = true) (h : HeldL P ops rs (l.setIfInBounds k true) w) : HeldL P ops rs l w :=
  fun r hr hd => h r hr fun hd' => hd (hd'.look hk hq)
theorem HeldL.more {P : Program} {rs : List (Nat × TypeId × Value × Value)} {l : Array Bool} {w : World} {k : Nat} (h : HeldL P ops rs l w) : HeldL P ops rs (l.setIfInBounds k true) w :=
  fun r hr hd => h r hr fun hd' => hd hd'.mono

/-- Whatever order is drawn; S, which may look at what has come up, holds behind each operation. -/
def wpAnyD (P : Program) (ops : Array Oper) (Q : Exit → Act → World → Prop) (S : Array Bool → World → Prop) : Nat → Array Bool → Act → World → Prop
  | 0, listed, a, w => Region.ready .any ops listed = [] ∧ Q .normal a w
  | fuel + 1, listed, a, w =>
    (Region.ready .any ops listed = [] → Q .normal a w) ∧
    ∀ i ∈ Region.ready .any ops listed, wpOpE P ops Q i (fun a' w' => S (listed.setIfInBounds i true) w' ∧ wpAnyD P ops Q S fuel (listed.setIfInBounds i true) a' w') a w
variable {P : Program} {Q : Exit → Act → World → Prop} {S S' : Array Bool → World → Prop}
theorem wpAnyD_any : ∀ (fuel : Nat) (listed : Array Bool) (a : Act) (w : World), wpAnyD P ops Q S fuel listed a w → wpAnyIn Fence.wide 0 P .any ops Q fuel listed a w
  | 0, _, _, _, h => h
  | fuel + 1, _, _, _, h => ⟨h.1, fun i hi => wpOpE_in (wpOpE_mono (fun a' w' h' => wpAnyD_any fuel _ a' w' h'.2) (h.2 i hi))⟩
theorem wpAnyD_mono (hSS : ∀ l w, S' l w → S l w) : ∀ (fuel : Nat) (listed : Array Bool) (a : Act) (w : World), wpAnyD P ops Q S' fuel listed a w → wpAnyD P ops Q S fuel listed a w
  | 0, _, _, _, h => h
  | fuel + 1, _, _, _, h => ⟨h.1, fun i hi => wpOpE_mono (fun a' w' h' => ⟨hSS _ w' h'.1, wpAnyD_mono hSS fuel _ a' w' h'.2⟩) (h.2 i hi)⟩
theorem wpAnyD_done {listed : Array Bool} {a : Act} {w : World} (hr : Region.ready .any ops listed = []) (h : Q .normal a w) : ∀ fuel, wpAnyD P ops Q S fuel listed a w
  | 0 => ⟨hr, h⟩
  | _ + 1 => ⟨fun _ => h, by rw [hr]; simp⟩
theorem wpAnyD_all {rs : List Nat} {fuel : Nat} {listed : Array Bool} {a : Act} {w : World} (hr : Region.ready .any ops listed = rs) (hne : rs ≠ [])
    (h : ∀ i ∈ rs, wpOpE P ops Q i (fun a' w' => S (listed.setIfInBounds i true) w' ∧ wpAnyD P ops Q S fuel (listed.setIfInBounds i true) a' w') a w) : wpAnyD P ops Q S (fuel + 1) listed a w :=
  ⟨fun h0 => absurd (hr ▸ h0) hne, hr ▸ h⟩
/-- An operation that only looks may be taken ahead, if what it yields stands until something that writes, and that waits for it, has come up. -/
theorem wpAnyD_first {i : Nat} {oi : Oper} {v : Value} {Si : World → Prop} (hi : ops[i]? = some oi) (hsel : Region.noSelect ops = true)
    (hQ : ∀ c a w, Q (.panic c) (a.put oi.dst v) w → Q (.panic c) a w) (hSS : ∀ l w, S' l w → S l w) (hS : ∀ l w, ¬ Dep ops l i → S' (l.setIfInBounds i true) w → S l w ∧ Si w) :
    ∀ (fuel : Nat) (listed : Array Bool) (a : Act) (w : World),
      (∀ (j : Nat) (oj : Oper), ops[j]? = some oj → j ≠ i → listed.getD j true = false → (∀ e ∈ oj.after, Region.binds .any e = true → e.on ≠ i) → oi.apart ops oj = true) →
      i ∈ Region.ready .any ops listed → ¬ Dep ops listed i → YieldsIf P ops Si oi v a → Si w → S' (listed.setIfInBounds i true) w →
      wpAnyD P ops Q S' fuel (listed.setIfInBounds i true) (a.put oi.dst v) w → wpAnyD P ops Q S (fuel + 1) listed a w := by
  have hse := Region.noSelect_spec hsel
  intro fuel
  induction fuel with
  | zero =>
    intro listed a w _ hr hd hy hw hSw H
    refine ⟨fun h => (by rw [h] at hr; cases hr), fun j hj => ?_⟩
    by_cases hji : j = i
    · subst hji; exact YieldsIf.wpOpE hi hy hw ⟨hSS _ _ hSw, wpAnyD_mono hSS _ _ _ _ H⟩
    · have := ready_mono hj hji
      rw [H.1] at this
      cases this
  | succ fuel ih =>
    intro listed a w hfree hr hd hy hw hSw H
    refine ⟨fun h => (by rw [h] at hr; cases hr), fun j hj => ?_⟩
    by_cases hji : j = i
    · subst hji; exact YieldsIf.wpOpE hi hy hw ⟨hSS _ _ hSw, wpAnyD_mono hSS _ _ _ _ H⟩
    · have h1 := H.2 j (ready_mono hj hji)
      obtain ⟨hjun, oj, hoj, hall⟩ := mem_ready.1 hj
      have hiun := (mem_ready.1 hr).1
      have hnot : ∀ e ∈ oj.after, Region.binds .any e = true → e.on ≠ i := fun e he hb heq => by
        have h1 := hall e he hb
        rw [heq, Array.getD_eq_getD_getElem?] at h1
        rw [Array.getD_eq_getD_getElem?] at hiun
        cases hl' : listed[i]? with
        | none => rw [hl'] at h1; cases h1
        | some b => rw [hl'] at h1 hiun; simp only [Option.getD_some] at h1 hiun; rw [hiun] at h1; cases h1
      have hd' : ¬ Dep ops (listed.setIfInBounds j true) i := by
        rintro ⟨k, o, ho, hl, hn, e, he, hb, heq⟩
        rcases unmarked hl with rfl | hl
        · rw [hoj] at ho
          cases ho
          exact hnot e he hb heq
        · exact hd ⟨k, o, ho, hl, hn, e, he, hb, heq⟩
      have h2 := wpOpE_putIf hoj (hfree j oj hoj hji hjun hnot) (fun cs b => hse i oi cs b hi) (fun cs b => hse j oj cs b hoj) hQ hy h1
      have hfree' : ∀ (k : Nat) (ok : Oper), ops[k]? = some ok → k ≠ i → (listed.setIfInBounds j true).getD k true = false → (∀ e ∈ ok.after, Region.binds .any e = true → e.on ≠ i) → oi.apart ops ok = true := fun k ok hk hki hun hno => by
        refine hfree k ok hk hki ?_ hno
        by_cases hjk : j = k
        · subst hjk; exact hjun
        · rw [getD_set_ne true hjk] at hun; exact hun
      refine wpOpE_mono (fun a' w' h3 => ?_) h2
      obtain ⟨hy', hS', hrest⟩ := h3
      rw [Array.setIfInBounds_comm _ _ (Ne.symm hji)] at hS' hrest
      obtain ⟨hSj, hSi⟩ := hS _ _ hd' hS'
      exact ⟨hSj, ih _ a' w' hfree' (ready_mono hr (Ne.symm hji)) hd' hy' hSi hS' hrest⟩
theorem wpAnyD_take {i : Nat} {oi : Oper} {v : Value} {Si : World → Prop} {fuel : Nat} {listed : Array Bool} {a : Act} {w : World} (hi : ops[i]? = some oi) (hsel : Region.noSelect ops = true)
    (hf : Region.free .any ops listed i = true) (hr : (Region.ready .any ops listed).contains i = true) (hcl : Closed ops listed)
    (hQ : ∀ c a w, Q (.panic c) (a.put oi.dst v) w → Q (.panic c) a w) (hSS : ∀ l w, S' l w → S l w) (hS : ∀ l w, ¬ Dep ops l i → S' (l.setIfInBounds i true) w → S l w ∧ Si w)
    (hy : YieldsIf P ops Si oi v a) (hw : Si w) (hSw : S' (listed.setIfInBounds i true) w)
    (h : wpAnyD P ops Q S' fuel (listed.setIfInBounds i true) (a.put oi.dst v) w) : wpAnyD P ops Q S (fuel + 1) listed a w :=
  wpAnyD_first hi hsel hQ hSS hS fuel listed a w (Region.free_spec hi hf) (by simpa using hr) (hcl.fresh (by simpa using hr)) hy hw hSw h
end

/-- A region whose order is drawn, and some of whose operations change the heap. -/
theorem mix_ops_sound (hs : c.p = std c.P) (hc : CallOk c) {all : Array Oper} {Q : Exit → Act → World → Prop} {s' : St} (hsel : Region.noSelect all = true) (hQ : ∀ x a w, ¬ Q (.panic x) a w) :
    ∀ (l : List Oper) (i : Nat) (listed : Array Bool) (μ : List Loc) (s : St) (a : Act) (w : World), all.toList.drop i = l → mixGo c.P all i l listed = true → endOps c all.toList l s = some s' → SR c B W μ s a w → Closed all listed →
      (∀ a' w', Later c B W μ s' a' w' → Q .normal a' w') → wpAnyD c.P all Q (fun _ _ => True) l.length listed a w
  | [], i, listed, μ, s, a, w, hl, hm, hr, sr, hcl, hq => by
    cases hr
    unfold mixGo at hm
    exact wpAnyD_done (by simpa using hm) (hq a w ⟨μ, List.prefix_refl _, sr⟩) 0
  | o :: l, i, listed, μ, s, a, w, hl, hm, hr, sr, hcl, hq => by
    simp only [endOps, Option.bind_eq_some_iff] at hr
    obtain ⟨g, hg, ⟨p, h'⟩, hp, hr⟩ := hr
    have hw := want_sound sr.fr hg
    have hi : all[i]? = some o := by
      rw [← Array.getElem?_toList]
      have : (all.toList.drop i)[0]? = some o := by rw [hl]; rfl
      simpa using this
    have hl' : all.toList.drop (i + 1) = l := by
      rw [← List.tail_drop, hl]; rfl
    unfold mixGo at hm
    rw [Bool.and_eq_true, Bool.or_eq_true] at hm
    obtain ⟨hm1, hm2⟩ := hm
    rcases hm1 with hm1 | hm1
    · simp only [Bool.and_eq_true] at hm1
      obtain ⟨⟨hpure, hfree⟩, hready⟩ := hm1
      have hcl' : Closed all (listed.setIfInBounds i true) := hcl.more (by simpa using hready)
      cases g with
      | false =>
        simp only [doOp, cond_false, Option.some.injEq, Prod.mk.injEq] at hp
        obtain ⟨rfl, rfl⟩ := hp
        exact wpAnyD_take (v := undef) (Si := fun _ => True) (S' := fun _ _ => True) hi hsel hfree hready hcl (fun x a w hx => absurd hx (hQ x _ w)) (fun _ _ _ => trivial) (fun _ _ _ _ => ⟨trivial, trivial⟩) (.inr ⟨hw, rfl⟩) trivial trivial
          (mix_ops_sound hs hc hsel hQ l (i + 1) _ μ _ _ w hl' hm2 hr (sr.put o.dst (undef_rep μ)) hcl' hq)
      | true =>
        simp only [doOp, cond_true] at hp
        obtain ⟨rfl, v, hrep, hv⟩ := pop_pure (c := c) hs (ρ := a.eval) sr.sim (sr.fr.eval sr.glob) hpure hp
        exact wpAnyD_take (v := v) (Si := fun _ => True) (S' := fun _ _ => True) hi hsel hfree hready hcl (fun x a w hx => absurd hx (hQ x _ w)) (fun _ _ _ => trivial) (fun _ _ _ _ => ⟨trivial, trivial⟩) (.inl ⟨hw, fun w' _ => hv w'⟩) trivial trivial
          (mix_ops_sound hs hc hsel hQ l (i + 1) _ μ _ _ w hl' hm2 hr (sr.put o.dst hrep) hcl' hq)
    · have hr1 : Region.ready .any all listed = [i] := by simpa using hm1
      have hcl' : Closed all (listed.setIfInBounds i true) := hcl.more (by rw [hr1]; exact List.mem_singleton_self _)
      refine wpAnyD_all (rs := [i]) hr1 (by simp) ?_
      intro j hj
      obtain rfl : j = i := by simpa using hj
      unfold wpOpE
      simp only [hi]
      cases g with
      | false =>
        rw [hw]
        simp only [Bool.false_eq_true, if_false]
        simp only [doOp, cond_false, Option.some.injEq, Prod.mk.injEq] at hp
        obtain ⟨rfl, rfl⟩ := hp
        exact ⟨trivial, mix_ops_sound hs hc hsel hQ l (j + 1) _ μ _ _ w hl' hm2 hr (sr.put o.dst (undef_rep μ)) hcl' hq⟩
      | true =>
        rw [hw]
        simp only [if_true]
        simp only [doOp, cond_true] at hp
        refine upon_go (pop_go hs hc sr hp) ?_
        rintro v w' ⟨⟨μ', hpre, hrep, hsim⟩, hk⟩
        exact ⟨trivial, mix_ops_sound hs hc hsel hQ l (j + 1) _ μ' _ _ w' hl' hm2 hr (sr.next o.dst hpre hrep hsim hk) hcl' (fun a' w'' ⟨μ'', hpre', sr'⟩ => hq a' w'' ⟨μ'', hpre.trans hpre', sr'⟩)⟩

theorem strEq_eq {a b : ByteArray} (h : strEq a b = true) : a = b := by
  have h' : a.data.toList = b.data.toList := eq_of_beq h
  cases a
  cases b
  exact congrArg ByteArray.mk (Array.ext' h')
theorem plain1_rep {μ : List Loc} {p p' : PV} {v v' : Value} (h : plain1 p p' = true) (hp : repc μ p v) (hp' : repc μ p' v') : v = v' := by
  cases p <;> cases p' <;> simp only [plain1, Bool.false_eq_true, Bool.and_eq_true, decide_eq_true_eq] at h
  · obtain ⟨rfl, rfl⟩ := h
    simp only [repc] at hp hp'
    rw [hp, hp']
  · subst h
    simp only [repc] at hp hp'
    rw [hp, hp']
  · simp only [repc] at hp hp'
    rw [hp, hp', strEq_eq h]
  · obtain ⟨rfl, rfl⟩ := h
    obtain ⟨l, hl, rfl⟩ := hp
    obtain ⟨l', hl', rfl⟩ := hp'
    rw [hl] at hl'
    cases hl'; rfl
  · simp only [repc] at hp hp'
    rw [hp, hp']
  · obtain ⟨⟨⟨rfl, rfl⟩, rfl⟩, h0⟩ := h
    obtain ⟨l, cap, ad, hl, rfl, hc, hS⟩ := hp
    obtain ⟨l', cap', ad', hl', rfl, hc', hS'⟩ := hp'
    rw [hl] at hl'
    cases hl'
    obtain ⟨rfl, rfl⟩ := hS.same hS' hc hc' (by simpa using h0)
    rfl
  · subst h
    obtain ⟨l, hl, rfl⟩ := hp
    obtain ⟨l', hl', rfl⟩ := hp'
    rw [hl] at hl'
    cases hl'; rfl

theorem plainL_rep {μ : List Loc} : ∀ {l l' : List PV} {xs xs' : List Value}, plainL l l' = true → All2 (repc μ) l xs → All2 (repc μ) l' xs' → xs = xs'
  | [], [], [], [], _, _, _ => rfl
  | a :: as, b :: bs, x :: xs, y :: ys, h, h1, h2 => by
    simp only [plainL, Bool.and_eq_true] at h
    rw [plain1_rep h.1 h1.1 h2.1, plainL_rep h.2 h1.2 h2.2]
  | [], _ :: _, _, _, h, _, _ => by cases h
  | _ :: _, [], _, _, h, _, _ => by cases h
  | [], [], _ :: _, _, _, h, _ => h.elim
  | [], [], _, _ :: _, _, _, h => h.elim
  | _ :: _, _ :: _, [], _, _, h, _ => h.elim
  | _ :: _, _ :: _, _, [], _, _, h => h.elim

theorem plain_rep {μ μ' : List Loc} {p p' : PV} {v v' : Value} (hpre : μ <+: μ') (h : plainEq p p' = true) (hp : rep μ p v) (hp' : rep μ' p' v') : v = v' := by
  have hp := hp.mono hpre
  cases p <;> cases p' <;> simp only [plainEq, Bool.false_eq_true, Bool.and_eq_true, decide_eq_true_eq] at h
  · obtain ⟨rfl, rfl⟩ := h
    rw [rep_int.1 hp, rep_int.1 hp']
  · subst h
    rw [rep_bool.1 hp, rep_bool.1 hp']
  · rw [rep_str.1 hp, rep_str.1 hp', strEq_eq h]
  · rw [rep_nilsl.1 hp, rep_nilsl.1 hp']
  · obtain ⟨⟨⟨rfl, rfl⟩, rfl⟩, h0⟩ := h
    obtain ⟨l, cap, ad, hl, rfl, hc, hS⟩ := hp
    obtain ⟨l', cap', ad', hl', rfl, hc', hS'⟩ := hp'
    rw [hl] at hl'
    cases hl'
    obtain ⟨rfl, rfl⟩ := hS.same hS' hc hc' (by simpa using h0)
    rfl
  · subst h
    obtain ⟨l, hl, rfl⟩ := hp
    obtain ⟨l', hl', rfl⟩ := hp'
    rw [hl] at hl'
    cases hl'; rfl
  · obtain ⟨xs, rfl, a⟩ := hp
    obtain ⟨xs', rfl, a'⟩ := hp'
    rw [Array.ext' (plainL_rep h a a')]

theorem chk_mem {h : PHeap} : ∀ {ck : Cks}, chk c ck h = some () → ∀ x ∈ ck, ∃ p, c.p.load x.2.1 x.2.2.1 h = some p ∧ plainEq x.2.2.2 p = true
  | [], _, x, hx => by cases hx
  | y :: ck, hck, x, hx => by
    simp only [chk, Option.bind_eq_some_iff] at hck
    obtain ⟨p, hp, hck⟩ := hck
    cases he : plainEq y.2.2.2 p with
    | false => rw [he] at hck; cases hck
    | true =>
      rw [he, cond_true] at hck
      rcases List.mem_cons.1 hx with rfl | hx
      · exact ⟨p, hp, he⟩
      · exact chk_mem hck x hx
theorem chk_yet (hs : c.p = std c.P) {μ μ' : List Loc} (hpre : μ <+: μ') {h : PHeap} {w : World} (sim : Sim B W μ' h w) {ck : Cks} (hck : chk c ck h = some ()) {x : Nat × TypeId × PV × PV} (hx : x ∈ ck) {r : Nat × TypeId × Value × Value} (hr : RelCk μ x r) : Yet c.P r w := by
  obtain ⟨p, hp, he⟩ := chk_mem hck x hx
  obtain ⟨_, ht, ha, hv⟩ := hr
  rw [hs] at hp
  obtain ⟨v', hr', hv'⟩ := load_reads sim (show loadP c.P x.2.1 x.2.2.1 h = some p from hp) (ha.mono hpre)
  unfold Yet
  rw [← ht, hv' w rfl, plain_rep hpre he hv hr']

theorem early_sound (hs : c.p = std c.P) {all : Array Oper} {Q : Exit → Act → World → Prop} (hsel : Region.noSelect all = true) (hQ : ∀ x a w, ¬ Q (.panic x) a w) {μ : List Loc} {w : World} :
    ∀ (E : List Nat) (listed : Array Bool) (s : St) (ck : Cks) (a : Act) (s1 : St) (ck1 : Cks), earlyOkB c.P all E listed = true → endEarly c all.toList E s ck = some (s1, ck1) → SR c B W μ s a w → Closed all listed →
      ∃ a1 rs, SR c B W μ s1 a1 w ∧ (∃ nw, ck1 = nw ++ ck ∧ All2 (RelCk μ) nw rs) ∧ (∀ r ∈ rs, Yet c.P r w) ∧ Closed all (markAll E listed) ∧
        ∀ (rs0 : List (Nat × TypeId × Value × Value)) (fuel : Nat), (∀ r ∈ rs0, Yet c.P r w) → wpAnyD c.P all Q (HeldL c.P all (rs ++ rs0)) fuel (markAll E listed) a1 w → wpAnyD c.P all Q (HeldL c.P all rs0) (fuel + E.length) listed a w
  | [], listed, s, ck, a, s1, ck1, _, hr, sr, hcl => by
    cases hr
    exact ⟨a, [], sr, ⟨[], rfl, trivial⟩, fun r hr => by simp at hr, hcl, fun rs0 fuel _ h => h⟩
  | i :: E, listed, s, ck, a, s1, ck1, hok, hr, sr, hcl => by
    simp only [endEarly, Option.bind_eq_some_iff] at hr
    obtain ⟨o, ho, ⟨p, h'⟩, hp, hr⟩ := hr
    have hi : all[i]? = some o := by rw [← Array.getElem?_toList]; exact ho
    unfold earlyOkB at hok
    rw [hi, Bool.and_eq_true] at hok
    obtain ⟨hearly, hok⟩ := hok
    simp only [earlyB, Bool.and_eq_true] at hearly
    obtain ⟨⟨⟨hguard, hkind⟩, hfree⟩, hready⟩ := hearly
    have hg : o.guard = none := by cases hgg : o.guard with
      | none => rfl
      | some g => rw [hgg] at hguard; cases hguard
    have hwant : Region.wanted o (yielded all a.tmps) = true := by
      have := want_sound (ops := all) (o := o) (g := true) sr.fr (by rw [hg]; rfl)
      exact this
    have hcl' : Closed all (listed.setIfInBounds i true) := hcl.more (by simpa using hready)
    by_cases hpure : pureOp c.P o.op = true
    · obtain ⟨rfl, v, hrep, hv⟩ := pop_pure (c := c) hs (ρ := a.eval) sr.sim (sr.fr.eval sr.glob) hpure hp
      have hck : ckAdd i o.op (evA c.glob s.r) p ck = ck := by
        unfold ckAdd
        split
        · rename_i e; rw [e] at hpure; cases hpure
        · rfl
      rw [hck] at hr
      obtain ⟨a1, rs, sr1, hnw, hheld, hcl1, hgo⟩ := early_sound hs hsel hQ E _ _ ck (a.put o.dst v) s1 ck1 hok hr (sr.put o.dst hrep) hcl'
      refine ⟨a1, rs, sr1, hnw, hheld, hcl1, fun rs0 fuel h0 h => ?_⟩
      exact wpAnyD_take (v := v) (Si := fun _ => True) (S' := HeldL c.P all rs0) hi hsel hfree hready hcl (fun x a w hx => absurd hx (hQ x _ w)) (fun _ _ h => h) (fun l w _ h => ⟨h.look hi (quiet_of_pure hpure), trivial⟩)
        (.inl ⟨hwant, fun w' _ => hv w'⟩) trivial (fun r hr _ => h0 r hr) (hgo rs0 fuel h0 h)
    · have hpf : pureOp c.P o.op = false := by simpa using hpure
      rw [hpf, Bool.false_or] at hkind
      obtain ⟨dst, op, ty, pos, after, guard⟩ := o
      simp only at hkind hp hg hwant hr hpf
      cases op <;> simp only [Bool.false_eq_true] at hkind
      rename_i t x
      simp only [pop, hs, std] at hp
      obtain ⟨hP, rfl⟩ := pv_some hp
      have hx := sr.fr.eval sr.glob x
      obtain ⟨v, hrep, hv⟩ := load_reads sr.sim hP hx
      have hrun := hv w rfl
      obtain ⟨a1, rs, sr1, ⟨nw, hnw, hrel⟩, hheld, hcl1, hgo⟩ := early_sound hs hsel hQ E _ _ _ (a.put dst v) s1 ck1 hok hr (sr.put dst hrep) hcl'
      refine ⟨a1, rs ++ [(i, t, a.eval x, v)], sr1, ⟨nw ++ [(i, t, evA c.glob s.r x, p)], by rw [hnw]; simp [ckAdd], hrel.append ⟨⟨rfl, rfl, hx, hrep⟩, trivial⟩⟩, ?_, hcl1, fun rs0 fuel h0 h => ?_⟩
      · intro r hr
        rcases List.mem_append.1 hr with hr | hr
        · exact hheld r hr
        · obtain rfl : r = (i, t, a.eval x, v) := by simpa using hr
          exact hrun
      · rw [List.append_assoc] at h
        refine wpAnyD_take (v := v) (Si := Yet c.P (i, t, a.eval x, v)) (S' := HeldL c.P all ((i, t, a.eval x, v) :: rs0)) hi hsel hfree hready hcl (fun x a w hx => absurd hx (hQ x _ w))
          (fun l w h r hr => h r (List.mem_cons_of_mem _ hr)) (fun l w hd h => ⟨fun r hr hd' => h r (List.mem_cons_of_mem _ hr) fun hd2 => hd' (hd2.look hi rfl), h _ (List.mem_cons_self ..) fun hd2 => hd (hd2.look hi rfl)⟩)
          (.inl ⟨hwant, fun w' hw' => ?_⟩) hrun (fun r hr _ => ?_) (hgo _ fuel ?_ h)
        · show ((do pure (.value (← Instr.loadAt t (a.eval x)))) : Sem Next).run c.P w' = _
          rw [Sem.run_bind, hw']; rfl
        · rcases List.mem_cons.1 hr with rfl | hr
          · exact hrun
          · exact h0 r hr
        · intro r hr
          rcases List.mem_cons.1 hr with rfl | hr
          · exact hrun
          · exact h0 r hr

/-- Each load that is held: it is among those that are looked at, or need not be any more. -/
def Cov (μ : List Loc) (all : Array Oper) (l : Array Bool) (ck : Cks) (rs : List (Nat × TypeId × Value × Value)) : Prop := ∀ r ∈ rs, Dep all l r.1 ∨ ∃ x ∈ ck, RelCk μ x r
theorem Cov.more {μ : List Loc} {all : Array Oper} {l : Array Bool} {ck : Cks} {rs : List (Nat × TypeId × Value × Value)} (h : Cov μ all l ck rs) (k : Nat) : Cov μ all (l.setIfInBounds k true) ck rs :=
  fun r hr => (h r hr).imp Dep.mono id
theorem Cov.drop {μ : List Loc} {all : Array Oper} {l : Array Bool} {ck : Cks} {rs : List (Nat × TypeId × Value × Value)} {j : Nat} {o : Oper} (h : Cov μ all l ck rs) (hj : all[j]? = some o) (hn : quietOp o.op = false) (hin : j ∈ Region.ready .any all l) (st : Bool) :
    Cov μ all (l.setIfInBounds j true) (ckDrop st o ck) rs := by
  intro r hr
  rcases h r hr with h | ⟨x, hx, hxr⟩
  · exact .inl h.mono
  · unfold ckDrop
    cases st with
    | false => exact .inr ⟨x, hx, hxr⟩
    | true =>
      rw [cond_true]
      cases hb : (o.after.toList.any fun e => Region.binds .any e && e.on == x.1) with
      | false => exact .inr ⟨x, List.mem_filter.2 ⟨hx, by rw [hb]; rfl⟩, hxr⟩
      | true =>
        obtain ⟨e, he, hbe⟩ := List.any_eq_true.1 hb
        rw [Bool.and_eq_true, beq_iff_eq] at hbe
        refine .inl ⟨j, o, hj, ?_, hn, e, Array.mem_toList_iff.1 he, hbe.1, hbe.2.trans hxr.1⟩
        have h0 := (mem_ready.1 hin).1
        rw [Array.getD_eq_getD_getElem?] at h0 ⊢
        cases hl : l[j]? with
        | none => rw [hl] at h0; cases h0
        | some b => rw [Array.getElem?_setIfInBounds_self_of_lt (Array.getElem?_eq_some_iff.1 hl).1]; rfl

theorem late_sound (hs : c.p = std c.P) (hc : CallOk c) {all : Array Oper} {Q : Exit → Act → World → Prop} {s' : St} {st : Bool} (hsel : Region.noSelect all = true) (hQ : ∀ x a w, ¬ Q (.panic x) a w) :
    ∀ (L : List (Nat × Bool)) (ck : Cks) (rs : List (Nat × TypeId × Value × Value)) (listed : Array Bool) (μ : List Loc) (s : St) (a : Act) (w : World), lateOkB c.P all L listed = true → endLate c all.toList st ck L s = some s' → SR c B W μ s a w → Closed all listed →
      HeldL c.P all rs listed w → Cov μ all listed ck rs →
      (∀ a' w', Later c B W μ s' a' w' → Q .normal a' w') → wpAnyD c.P all Q (HeldL c.P all rs) L.length listed a w
  | [], ck, rs, listed, μ, s, a, w, hm, hr, sr, hcl, hS, hcov, hq => by
    simp only [endLate, Option.some.injEq] at hr
    subst hr
    unfold lateOkB at hm
    exact wpAnyD_done (by simpa using hm) (hq a w ⟨μ, List.prefix_refl _, sr⟩) 0
  | (i, true) :: L, ck, rs, listed, μ, s, a, w, hm, hr, sr, hcl, hS, hcov, hq => by
    simp only [endLate, Option.bind_eq_some_iff] at hr
    obtain ⟨o, ho, g, hg, hr⟩ := hr
    have hw := want_sound (ops := all) sr.fr hg
    have hi : all[i]? = some o := by rw [← Array.getElem?_toList]; exact ho
    unfold lateOkB at hm
    rw [hi, Bool.and_eq_true] at hm
    simp only [cond_true, Bool.and_eq_true] at hm
    obtain ⟨⟨⟨hload, hfree⟩, hready⟩, hm2⟩ := hm
    have hcl' : Closed all (listed.setIfInBounds i true) := hcl.more (by simpa using hready)
    have hquiet : quietOp o.op = true := by
      unfold loadOp at hload
      split at hload
      · rename_i e; rw [e]; rfl
      · cases hload
    cases g with
    | false =>
      rw [cond_false] at hr
      exact wpAnyD_take (v := undef) (Si := fun _ => True) (S' := HeldL c.P all rs) hi hsel hfree hready hcl (fun x a w hx => absurd hx (hQ x _ w)) (fun _ _ h => h) (fun l w _ h => ⟨h.look hi hquiet, trivial⟩) (.inr ⟨hw, rfl⟩) trivial hS.more
        (late_sound hs hc hsel hQ L ck rs _ μ _ _ w hm2 hr (sr.put o.dst (undef_rep μ)) hcl' hS.more (hcov.more i) hq)
    | true =>
      rw [cond_true, Option.bind_eq_some_iff] at hr
      obtain ⟨⟨p, h'⟩, hp, hr⟩ := hr
      obtain ⟨dst, op, ty, pos, after, guard⟩ := o
      simp only at hload hp hw hr
      cases op <;> simp only [loadOp, Bool.false_eq_true] at hload
      rename_i t x
      simp only [pop, hs, std] at hp
      obtain ⟨hP, rfl⟩ := pv_some hp
      have hx := sr.fr.eval sr.glob x
      obtain ⟨v, hrep, hv⟩ := load_reads sr.sim hP hx
      have hrun : Yet c.P (i, t, a.eval x, v) w := hv w rfl
      have hS1 : HeldL c.P all ((i, t, a.eval x, v) :: rs) (listed.setIfInBounds i true) w := fun r hr hd => by
        rcases List.mem_cons.1 hr with rfl | hr
        · exact hrun
        · exact hS.more r hr hd
      have ih := late_sound hs hc hsel hQ L _ ((i, t, a.eval x, v) :: rs) _ μ _ (a.put dst v) w hm2 hr (sr.put dst hrep) hcl' hS1 (fun r hr => by
        rcases List.mem_cons.1 hr with rfl | hr
        · exact .inr ⟨_, List.mem_cons_self .., rfl, rfl, hx, hrep⟩
        · rcases hcov.more i r hr with h | ⟨y, hy, hyr⟩
          · exact .inl h
          · exact .inr ⟨y, List.mem_cons_of_mem _ hy, hyr⟩) hq
      refine wpAnyD_take (v := v) (Si := Yet c.P (i, t, a.eval x, v)) (S' := HeldL c.P all ((i, t, a.eval x, v) :: rs)) hi hsel hfree hready hcl (fun x a w hx => absurd hx (hQ x _ w))
        (fun l w h r hr => h r (List.mem_cons_of_mem _ hr)) (fun l w hd h => ⟨fun r hr hd' => h r (List.mem_cons_of_mem _ hr) fun hd2 => hd' (hd2.look hi rfl), h _ (List.mem_cons_self ..) fun hd2 => hd (hd2.look hi rfl)⟩)
        (.inl ⟨hw, fun w' hw' => ?_⟩) hrun hS1 ih
      show ((do pure (.value (← Instr.loadAt t (a.eval x)))) : Sem Next).run c.P w' = _
      rw [Sem.run_bind, hw']; rfl
  | (i, false) :: L, ck, rs, listed, μ, s, a, w, hm, hr, sr, hcl, hS, hcov, hq => by
    simp only [endLate, Option.bind_eq_some_iff] at hr
    obtain ⟨o, ho, g, hg, ⟨p, h'⟩, hp, ck', hck, hr⟩ := hr
    have hw := want_sound (ops := all) sr.fr hg
    have hi : all[i]? = some o := by rw [← Array.getElem?_toList]; exact ho
    unfold lateOkB at hm
    rw [hi, Bool.and_eq_true] at hm
    simp only [cond_false, Bool.or_eq_true] at hm
    obtain ⟨hm1, hm2⟩ := hm
    rcases hm1 with hm1 | hm1
    · simp only [Bool.and_eq_true] at hm1
      obtain ⟨⟨hpure, hfree⟩, hready⟩ := hm1
      have hcl' : Closed all (listed.setIfInBounds i true) := hcl.more (by simpa using hready)
      have hquiet := quiet_of_pure hpure
      rw [hquiet, cond_true, Option.some.injEq] at hck
      subst hck
      cases g with
      | false =>
        simp only [doOp, cond_false, Option.some.injEq, Prod.mk.injEq] at hp
        obtain ⟨rfl, rfl⟩ := hp
        exact wpAnyD_take (v := undef) (Si := fun _ => True) (S' := HeldL c.P all rs) hi hsel hfree hready hcl (fun x a w hx => absurd hx (hQ x _ w)) (fun _ _ h => h) (fun l w _ h => ⟨h.look hi hquiet, trivial⟩) (.inr ⟨hw, rfl⟩) trivial hS.more
          (late_sound hs hc hsel hQ L ck rs _ μ _ _ w hm2 hr (sr.put o.dst (undef_rep μ)) hcl' hS.more (hcov.more i) hq)
      | true =>
        simp only [doOp, cond_true] at hp
        obtain ⟨rfl, v, hrep, hv⟩ := pop_pure (c := c) hs (ρ := a.eval) sr.sim (sr.fr.eval sr.glob) hpure hp
        exact wpAnyD_take (v := v) (Si := fun _ => True) (S' := HeldL c.P all rs) hi hsel hfree hready hcl (fun x a w hx => absurd hx (hQ x _ w)) (fun _ _ h => h) (fun l w _ h => ⟨h.look hi hquiet, trivial⟩) (.inl ⟨hw, fun w' _ => hv w'⟩) trivial hS.more
          (late_sound hs hc hsel hQ L ck rs _ μ _ _ w hm2 hr (sr.put o.dst hrep) hcl' hS.more (hcov.more i) hq)
    · have hr1 : Region.ready .any all listed = [i] := by simpa using hm1
      have hin : i ∈ Region.ready .any all listed := by rw [hr1]; exact List.mem_singleton_self _
      have hcl' : Closed all (listed.setIfInBounds i true) := hcl.more hin
      refine wpAnyD_all (rs := [i]) hr1 (by simp) ?_
      intro j hj
      obtain rfl : j = i := by simpa using hj
      have hcov' : Cov μ all (listed.setIfInBounds j true) ck' rs := by
        cases hquiet : quietOp o.op with
        | true =>
          rw [hquiet, cond_true, Option.some.injEq] at hck
          subst hck
          exact hcov.more j
        | false =>
          rw [hquiet, cond_false, Option.bind_eq_some_iff] at hck
          obtain ⟨_, _, hck⟩ := hck
          cases hck
          exact hcov.drop hi hquiet hin st
      unfold wpOpE
      simp only [hi]
      cases g with
      | false =>
        rw [hw]
        simp only [Bool.false_eq_true, if_false]
        simp only [doOp, cond_false, Option.some.injEq, Prod.mk.injEq] at hp
        obtain ⟨rfl, rfl⟩ := hp
        exact ⟨hS.more, late_sound hs hc hsel hQ L ck' rs _ μ _ _ w hm2 hr (sr.put o.dst (undef_rep μ)) hcl' hS.more hcov' hq⟩
      | true =>
        rw [hw]
        simp only [if_true]
        simp only [doOp, cond_true] at hp
        by_cases hquiet : quietOp o.op = true
        · obtain ⟨rfl, v, hrep, hv⟩ := pop_quiet (c := c) hs (ρ := a.eval) sr.sim (sr.fr.eval sr.glob) hquiet hp
          rw [hv w rfl]
          exact ⟨hS.more, late_sound hs hc hsel hQ L ck' rs _ μ _ _ w hm2 hr (sr.put o.dst hrep) hcl' hS.more hcov' hq⟩
        · have hqf : quietOp o.op = false := by simpa using hquiet
          rw [hqf, cond_false, Option.bind_eq_some_iff] at hck
          obtain ⟨u, hchk, hck⟩ := hck
          cases hck
          refine upon_go (pop_go hs hc sr hp) ?_
          rintro v w' ⟨⟨μ', hpre, hrep, hsim⟩, hk⟩
          have hS' : HeldL c.P all rs (listed.setIfInBounds j true) w' := fun r hr hd => by
            rcases hcov' r hr with h | ⟨x, hx, hxr⟩
            · exact absurd h hd
            · exact chk_yet hs hpre hsim hchk hx hxr
          exact ⟨hS', late_sound hs hc hsel hQ L _ rs _ μ' _ _ w' hm2 hr (sr.next o.dst hpre hrep hsim hk) hcl' hS' (fun r hr => (hcov' r hr).imp id fun ⟨x, hx, hxr⟩ => ⟨x, hx, hxr.mono hpre⟩) (fun a' w'' ⟨μ'', hpre', sr'⟩ => hq a' w'' ⟨μ'', hpre.trans hpre', sr'⟩)⟩

/-! ### a row of texts that is built in a region whose order is drawn -/
theorem eval_put_self (a : Act) {d : Tmp} (h : d < a.tmps.size) (v : Value) : (a.put (some d) v).eval (.tmp d) = v := by
  simp [Act.put, Act.eval, Array.getD_eq_getD_getElem?, Array.getElem?_setIfInBounds_self_of_lt h]
theorem eval_put_ne (a : Act) {d : Option Tmp} {t : Tmp} (h : d ≠ some t) (v : Value) : (a.put d v).eval (.tmp t) = a.eval (.tmp t) := by
  cases d with
  | none => rfl
  | some d =>
    have : d ≠ t := fun e => h (by rw [e])
    simp [Act.put, Act.eval, Array.getD_eq_getD_getElem?, Array.getElem?_setIfInBounds_ne this]
theorem FR.size {μ : List Loc} {r : List PV} {a : Act} (f : FR μ r a) : a.tmps.size = r.length := by have := f.regs.length; simpa using this.symm

theorem asBuild_spec {o : Oper} {B : Tmp × TypeId × Nat × Array (Nat × Operand)} (h : asBuild o = some B) : o.op = .buildSlice B.2.1 B.2.2.1 B.2.2.2 ∧ o.dst = some B.1 ∧ o.guard = none := by
  unfold asBuild at h
  split at h
  · rename_i h1 h2 h3; cases h; exact ⟨h1, h2, h3⟩
  · cases h
theorem asIdx_spec {o : Oper} {B : Tmp × TypeId × Tmp × Tmp} (h : asIdx o = some B) : o.op = .indexAddr B.2.1 (.tmp B.2.2.1) (.tmp B.2.2.2) ∧ o.dst = some B.1 ∧ o.guard = none := by
  unfold asIdx at h
  split at h
  · rename_i h1 h2 h3; cases h; exact ⟨h1, h2, h3⟩
  · cases h
theorem asBin_spec {o : Oper} {B : Tmp × BinOp × TypeId × Tmp × Tmp × TypeId} (h : asBin o = some B) : o.op = .binOp B.2.1 B.2.2.1 (.tmp B.2.2.2.1) (.tmp B.2.2.2.2.1) B.2.2.2.2.2 ∧ o.dst = some B.1 ∧ o.guard = none := by
  unfold asBin at h
  split at h
  · rename_i h1 h2 h3; cases h; exact ⟨h1, h2, h3⟩
  · cases h
theorem asLoad_spec {o : Oper} {B : Tmp × TypeId × Tmp} (h : asLoad o = some B) : o.op = .load B.2.1 (.tmp B.2.2) ∧ o.dst = some B.1 ∧ o.guard = none := by
  unfold asLoad at h
  split at h
  · rename_i h1 h2 h3; cases h; exact ⟨h1, h2, h3⟩
  · cases h
structure FltOk (P : Program) (all : Array Oper) (f : Flt) : Prop where
  build : ∃ ob parts p0 cells, all[f.b]? = some ob ∧ ob.op = .buildSlice f.t f.cs.length parts ∧ ob.dst = some f.tb ∧ ob.guard = none ∧ constB parts.toList = true ∧
    buildSliceP P f.t f.cs.length (parts.toList.map fun p => (p.1, constE p.2)) [] = some (p0, [.own 1 cells]) ∧ strsB cells f.cs = true
  place : ∃ ox, all[f.x]? = some ox ∧ ox.op = .indexAddr f.t (.tmp f.tb) (.tmp f.iu) ∧ ox.dst = some f.tx ∧ ox.guard = none
  look : ∃ ol, all[f.l]? = some ol ∧ ol.op = .load f.te (.tmp f.tx) ∧ ol.dst = some f.tl ∧ ol.guard = none
  agg : isAggT P f.te = some false
  bx : f.tb ≠ f.tx
  bl : f.tb ≠ f.tl
  xl : f.tx ≠ f.tl
  cat : ∀ k, f.k = some k → (∃ oc, all[k.i]? = some oc ∧ oc.op = .binOp k.op k.t (.tmp k.u) (.tmp f.tl) k.t2 ∧ oc.dst = some k.d ∧ oc.guard = none) ∧ k.d ≠ f.tb ∧ k.d ≠ f.tx ∧ k.d ≠ f.tl ∧ k.u ≠ f.tl
theorem fltIs_spec {P : Program} {all : Array Oper} {f : Flt} (h : fltIs P all.toList f = true) : FltOk P all f := by
  unfold fltIs at h
  simp only [Bool.and_eq_true, bne_iff_ne, ne_eq, beq_iff_eq] at h
  obtain ⟨⟨⟨⟨⟨⟨⟨h1, h2⟩, h3⟩, h4⟩, h5⟩, h6⟩, h7⟩, h8⟩ := h
  have get : ∀ i : Nat, all.toList[i]? = all[i]? := fun i => Array.getElem?_toList
  refine ⟨?_, ?_, ?_, h4, h5, h6, h7, ?_⟩
  · rw [get] at h1
    cases ho : all[f.b]? with
    | none => rw [ho] at h1; cases h1
    | some ob =>
      rw [ho, Option.bind_some] at h1
      cases hb : asBuild ob with
      | none => rw [hb] at h1; cases h1
      | some B =>
        rw [hb] at h1
        simp only [Bool.and_eq_true, beq_iff_eq] at h1
        obtain ⟨⟨⟨⟨a1, a2⟩, a3⟩, a4⟩, a5⟩ := h1
        obtain ⟨s1, s2, s3⟩ := asBuild_spec hb
        rw [a2, a3] at s1
        rw [a1] at s2
        split at a5
        · rename_i p0 cells hbs
          exact ⟨ob, _, p0, cells, rfl, s1, s2, s3, a4, hbs, a5⟩
        · cases a5
  · rw [get] at h2
    cases ho : all[f.x]? with
    | none => rw [ho] at h2; cases h2
    | some ob =>
      rw [ho, Option.bind_some] at h2
      cases hb : asIdx ob with
      | none => rw [hb] at h2; cases h2
      | some B =>
        rw [hb] at h2
        simp only [Bool.and_eq_true, beq_iff_eq] at h2
        obtain ⟨⟨⟨a1, a2⟩, a3⟩, a4⟩ := h2
        obtain ⟨s1, s2, s3⟩ := asIdx_spec hb
        rw [a2, a3, a4] at s1
        rw [a1] at s2
        exact ⟨ob, rfl, s1, s2, s3⟩
  · rw [get] at h3
    cases ho : all[f.l]? with
    | none => rw [ho] at h3; cases h3
    | some ob =>
      rw [ho, Option.bind_some] at h3
      cases hb : asLoad ob with
      | none => rw [hb] at h3; cases h3
      | some B =>
        rw [hb] at h3
        simp only [Bool.and_eq_true, beq_iff_eq] at h3
        obtain ⟨⟨a1, a2⟩, a3⟩ := h3
        obtain ⟨s1, s2, s3⟩ := asLoad_spec hb
        rw [a2, a3] at s1
        rw [a1] at s2
        exact ⟨ob, rfl, s1, s2, s3⟩
  · intro k hk
    unfold catIs at h8
    rw [hk] at h8
    simp only [Bool.and_eq_true, bne_iff_ne, ne_eq] at h8
    obtain ⟨⟨⟨⟨h9, g1⟩, g2⟩, g3⟩, g4⟩ := h8
    refine ⟨?_, g1, g2, g3, g4⟩
    rw [get] at h9
    cases ho : all[k.i]? with
    | none => rw [ho] at h9; cases h9
    | some ob =>
      rw [ho, Option.bind_some] at h9
      cases hb : asBin ob with
      | none => rw [hb] at h9; cases h9
      | some B =>
        rw [hb] at h9
        simp only [Bool.and_eq_true, beq_iff_eq, decide_eq_true_eq] at h9
        obtain ⟨⟨⟨⟨⟨a1, a2⟩, a3⟩, a4⟩, a5⟩, a6⟩ := h9
        obtain ⟨s1, s2, s3⟩ := asBin_spec hb
        rw [a2, a3, a4, a5, a6] at s1
        rw [a1] at s2
        exact ⟨ob, rfl, s1, s2, s3⟩

theorem const_eval {a : Act} {g : Nat → PV} {r : List PV} : ∀ {l : List (Nat × Operand)}, constB l = true → (l.map fun p => (p.1, constE p.2)) = l.map fun p => (p.1, evA g r p.2)
  | [], _ => rfl
  | p :: l, h => by
    unfold constB at h
    rw [List.all_cons, Bool.and_eq_true] at h
    rw [List.map_cons, List.map_cons, const_eval (a := a) (l := l) (by unfold constB; exact h.2)]
    congr 1
    obtain ⟨i, o⟩ := p
    cases o with
    | const v => rfl
    | _ => cases h.1
theorem strs_get : ∀ {cells : List PV} {cs : List ByteArray}, strsB cells cs = true → ∀ (j : Nat) t, cs[j]? = some t → cells[j]? = some (.str t)
  | [], [], _, j, t, h => by simp at h
  | .str s :: l, t0 :: ts, h, j, t, ht => by
    unfold strsB at h
    rw [Bool.and_eq_true] at h
    cases j with
    | zero => simp at ht; subst ht; rw [strEq_eq h.1]; rfl
    | succ j => simpa using strs_get h.2 j t (by simpa using ht)
theorem buildSliceP_heap {P : Program} {t : TypeId} {n : Nat} {ps : List (Nat × PV)} {p0 : PV} {cells : List PV} (h0 : buildSliceP P t n ps [] = some (p0, [.own 1 cells])) (h : PHeap) : buildSliceP P t n ps h = some (.sl h.length 0 n, h ++ [.own 1 cells]) := by
  unfold buildSliceP at h0 ⊢
  split at h0
  · cases h0
  · rename_i e he
    split at h0
    · rename_i size z hs hz
      split at h0
      · rename_i hc
        cases hf : fillP size (repeatCells z n) ps with
        | none => rw [hf] at h0; cases h0
        | some c =>
          rw [hf] at h0
          simp at h0
          obtain ⟨_, rfl, rfl⟩ := h0
          simp only [hf, if_pos hc]; rfl
      · cases h0
    · cases h0

/-- What is so of the three, when so many of them have come up. -/
structure FI (f : Flt) (v cv : PV) (W : Base) (W' : Base) (st : Nat) (μ : List Loc) (s : St) (a : Act) (w : World) : Prop where
  zero : st = 0 → W' = W
  one : 1 ≤ st → ∃ blk, W' = W.more blk ∧ a.eval (.tmp f.tb) = .slice (some ⟨blk, 0, none⟩) f.cs.length f.cs.length ∧
    (∃ (arr : Array Value) (el : TypeId), w.heap[blk]? = some (.cells arr el (0, 0)) ∧ ∀ (j : Nat) t, f.cs[j]? = some t → arr[j]? = some (.string t)) ∧
    (2 ≤ st → ∃ (j : Nat) (t : ByteArray), f.cs[j]? = some t ∧ v = .str t ∧ a.eval (.tmp f.tx) = .pointer (some ⟨blk, j, none⟩)) ∧
    (3 ≤ st → ∃ t : ByteArray, v = .str t ∧ a.eval (.tmp f.tl) = .string t)
  four : 4 ≤ st → ∀ k, f.k = some k → rep μ cv (a.eval (.tmp k.d))
  jb : s.r.set f.tb .junk = s.r
  jx : s.r.set f.tx .junk = s.r
  jl : s.r.set f.tl .junk = s.r
  lb : f.tb < s.r.length
  lx : f.tx < s.r.length
  ll : f.tl < s.r.length
  jk : ∀ k, f.k = some k → s.r.set k.d .junk = s.r
  lk : ∀ k, f.k = some k → k.d < s.r.length
theorem set_junk {r : List PV} {t : Tmp} {d : Option Tmp} {p : PV} (h : r.set t .junk = r) (hd : d ≠ some t) : (setR r d p).set t .junk = setR r d p := by
  cases d with
  | none => exact h
  | some d =>
    have : d ≠ t := fun e => hd (by rw [e])
    show (r.set d p).set t .junk = r.set d p
    rw [List.set_comm _ _ this, h]
theorem setR_length (r : List PV) (d : Option Tmp) (p : PV) : (setR r d p).length = r.length := by cases d <;> simp [setR]
/-- Another operation has come up. -/
theorem FI.reg {f : Flt} {v cv : PV} {W W' : Base} {st : Nat} {μ μ' : List Loc} {s : St} {a : Act} {w w' : World} (q : FI f v cv W W' st μ s a w) {d : Option Tmp} {p : PV} {h' : PHeap} {u : Value} (h1 : d ≠ some f.tb) (h2 : d ≠ some f.tx) (h3 : d ≠ some f.tl) (h4 : ∀ k, f.k = some k → d ≠ some k.d) (hpre : μ <+: μ')
    (hr : ∀ (k : Nat) (x : Obj), W'.F k → w.heap[k]? = some x → w'.heap[k]? = some x) : FI f v cv W W' st μ' ⟨setR s.r d p, h'⟩ (a.put d u) w' := by
  refine ⟨q.zero, fun hst => ?_, fun hst k hk => ?_, set_junk q.jb h1, set_junk q.jx h2, set_junk q.jl h3, by rw [setR_length]; exact q.lb, by rw [setR_length]; exact q.lx, by rw [setR_length]; exact q.ll, fun k hk => set_junk (q.jk k hk) (h4 k hk), fun k hk => by rw [setR_length]; exact q.lk k hk⟩
  · obtain ⟨blk, e1, e2, ⟨arr, el, e3, e4⟩, e5, e6⟩ := q.one hst
    refine ⟨blk, e1, by rw [eval_put_ne _ h1]; exact e2, ⟨arr, el, hr blk _ (by rw [e1]; exact .inr rfl) e3, e4⟩, fun h => ?_, fun h => ?_⟩
    · obtain ⟨j, t, g1, g2, g3⟩ := e5 h
      exact ⟨j, t, g1, g2, by rw [eval_put_ne _ h2]; exact g3⟩
    · obtain ⟨t, g1, g2⟩ := e6 h
      exact ⟨t, g1, by rw [eval_put_ne _ h3]; exact g2⟩
  · rw [eval_put_ne _ (h4 k hk)]; exact (q.four hst k hk).mono hpre

theorem wanted_none {all : Array Oper} {o : Oper} (hg : o.guard = none) (y : Nat → Option Bool) : Region.wanted o y = true := by
  unfold Region.wanted; rw [hg]

/-- The row is built. -/
theorem flt_b {f : Flt} {v cv : PV} {W : Base} {μ : List Loc} {s : St} {a : Act} {w : World} {all : Array Oper} {Q : Exit → Act → World → Prop} {K : Act → World → Prop} (ok : FltOk c.P all f) (q : FI f v cv W W 0 μ s a w) (sr : SR c B W μ s a w)
    (hK : ∀ a' w', FI f v cv W (W.more w.heap.size) 1 μ s a' w' → SR c B (W.more w.heap.size) μ s a' w' → K a' w') : wpOpE c.P all Q f.b K a w := by
  obtain ⟨ob, parts, p0, cells, h1, h2, h3, h4, h5, h6, h7⟩ := ok.build
  obtain ⟨dst, op, ty, pos, after, guard⟩ := ob
  simp only at h2 h3 h4
  subst h2 h3 h4
  have hb := buildSliceP_heap h6 s.h
  rw [const_eval (a := a) (g := c.glob) (r := s.r) h5] at hb
  obtain ⟨arr, e, size, cs', g1, g2, g3, _, _, hrun⟩ := buildSlice_run (w := w) (h := s.h) (μ := μ) hb (parts_ok (sr.fr.eval sr.glob) parts)
  have hcs : cs' = cells := by
    have := List.append_cancel_left g2
    simp at this
    exact this.2.symm
  subst hcs
  unfold wpOpE
  simp only [h1]
  rw [if_pos (wanted_none (all := all) rfl _)]
  have go : OpGo c.P a.eval ⟨some f.tb, .buildSlice f.t f.cs.length parts, ty, pos, after, none⟩ w fun v' w' => v' = .slice (some ⟨w.heap.size, 0, none⟩) f.cs.length f.cs.length ∧ w' = w.alloc (.cells arr e) := by
    unfold OpGo
    have hn : execOp a.eval ⟨some f.tb, .buildSlice f.t f.cs.length parts, ty, pos, after, none⟩ = (do pure (.value (← Instr.buildSlice f.t f.cs.length (parts.map fun (i, x) => (i, a.eval x))))) := rfl
    rw [hn, Sem.run_bind, hrun]
    exact ⟨rfl, rfl⟩
  refine upon_go go ?_
  rintro v' w' ⟨rfl, rfl⟩
  have hsz : f.tb < a.tmps.size := by rw [sr.fr.size]; exact q.lb
  refine hK _ _ ⟨fun h => (by cases h), fun _ => ⟨w.heap.size, rfl, eval_put_self _ hsz _, ⟨arr, e, heap_alloc_new w _, fun j t ht => ?_⟩, fun h => (by omega), fun h => (by omega)⟩, fun h => (by omega), q.jb, q.jx, q.jl, q.lb, q.lx, q.ll, q.jk, q.lk⟩ ⟨?_, sr.sim.lend _, sr.glob, ?_⟩
  · obtain ⟨x, hx, hr⟩ := g3.get (strs_get h7 j t ht)
    simp only [repc] at hr
    subst hr
    simpa using hx
  · have := sr.fr.set (some f.tb) (p := .junk) (v := .slice (some ⟨w.heap.size, 0, none⟩) f.cs.length f.cs.length) trivial
    rwa [show setR s.r (some f.tb) .junk = s.r from q.jb] at this
  · rw [put_defers]
    exact sr.marks.keep fun d hd => by
      rw [Below.heap_alloc _ _ _ (Array.getElem?_eq_some_iff.1 hd).1]; exact hd

/-- The place in the row is taken. -/
theorem flt_x {f : Flt} {v cv : PV} {W W' : Base} {s : St} {a : Act} {w : World} {μ : List Loc} {all : Array Oper} {Q : Exit → Act → World → Prop} {K : Act → World → Prop} (ok : FltOk c.P all f) (q : FI f v cv W W' 1 μ s a w) (sr : SR c B W' μ s a w)
    (hv : conP f.cs (evA c.glob s.r (.tmp f.iu)) = some v)
    (hK : ∀ a', FI f v cv W W' 2 μ s a' w → SR c B W' μ s a' w → K a' w) : wpOpE c.P all Q f.x K a w := by
  obtain ⟨ox, h1, h2, h3, h4⟩ := ok.place
  obtain ⟨dst, op, ty, pos, after, guard⟩ := ox
  simp only at h2 h3 h4
  subst h2 h3 h4
  obtain ⟨blk, e1, e2, ⟨arr, el, e3, e4⟩, _, _⟩ := q.one (Nat.le_refl _)
  obtain ⟨k, n, hi, hn0, t, ht, rfl⟩ : ∃ k n, evA c.glob s.r (.tmp f.iu) = .int k n ∧ 0 ≤ n ∧ ∃ t, f.cs[n.toNat]? = some t ∧ v = .str t := by
    unfold conP at hv
    split at hv
    · rename_i k n he
      split at hv
      · rename_i h0
        cases ht : f.cs[n.toNat]? with
        | none => rw [ht] at hv; cases hv
        | some t => rw [ht] at hv; cases hv; exact ⟨k, n, he, h0, t, ht, rfl⟩
      · cases hv
    · cases hv
  have hidx : a.eval (.tmp f.iu) = .int k n := by
    have := sr.fr.eval sr.glob (.tmp f.iu)
    rw [hi] at this
    simpa using this
  obtain ⟨ob, parts, p0, cells, _, _, _, _, _, h6, _⟩ := ok.build
  obtain ⟨e, he, hs⟩ : ∃ e, elemT c.P f.t = some e ∧ sizeT c.P e = some 1 := by
    unfold buildSliceP at h6
    split at h6
    · cases h6
    · rename_i e he
      split at h6
      · rename_i size z hs hz
        split at h6
        · cases hf : fillP size (repeatCells z f.cs.length) (parts.toList.map fun p => (p.1, constE p.2)) with
          | none => rw [hf] at h6; cases h6
          | some cc =>
            rw [hf] at h6
            simp at h6
            exact ⟨e, he, by rw [hs, h6.2.1]⟩
        · cases h6
      · cases h6
  have hlt : n.toNat < f.cs.length := (List.getElem?_eq_some_iff.1 ht).1
  have hp : indexAddrP c.P f.t (.sl 0 0 f.cs.length) (.int k n) = some (.ptr 0 n.toNat) := by
    unfold indexAddrP
    rw [elem_T he]
    simp only [hs]
    rw [if_pos ⟨hn0, by omega⟩]
    simp
  obtain ⟨u, hu, hrun⟩ := indexAddr_reads (P := c.P) (μ := [⟨blk, 0, f.cs.length, 1⟩]) (w := fun _ => True) hp (a := a.eval (.tmp f.tb)) (b := a.eval (.tmp f.iu))
    ⟨⟨blk, 0, f.cs.length, 1⟩, f.cs.length, ⟨blk, 0, none⟩, rfl, e2, Nat.le_refl _, .inl ⟨rfl, by simp, Nat.zero_lt_one⟩⟩ (by rw [hidx]; rfl)
  have hu' : u = .pointer (some ⟨blk, n.toNat, none⟩) := by
    obtain ⟨l, hl, rfl⟩ := hu
    simp at hl
    subst hl
    simp
  subst hu'
  unfold wpOpE
  simp only [h1]
  rw [if_pos (wanted_none (all := all) rfl _)]
  have go : OpGo c.P a.eval ⟨some f.tx, .indexAddr f.t (.tmp f.tb) (.tmp f.iu), ty, pos, after, none⟩ w fun v' w' => v' = .pointer (some ⟨blk, n.toNat, none⟩) ∧ w' = w := by
    unfold OpGo
    have hn : execOp a.eval ⟨some f.tx, .indexAddr f.t (.tmp f.tb) (.tmp f.iu), ty, pos, after, none⟩ = (do pure (.value (← Instr.indexAt f.t (a.eval (.tmp f.tb)) (a.eval (.tmp f.iu))))) := rfl
    rw [hn, Sem.run_bind, hrun w trivial]
    exact ⟨rfl, rfl⟩
  refine upon_go go ?_
  rintro v' w' ⟨rfl, rfl⟩
  have hsz : f.tx < a.tmps.size := by rw [sr.fr.size]; exact q.lx
  refine hK _ ⟨fun h => (by cases h), fun _ => ⟨blk, e1, by rw [eval_put_ne _ (fun h => ok.bx (Option.some.inj h).symm)]; exact e2, ⟨arr, el, e3, e4⟩, fun _ => ⟨n.toNat, t, ht, rfl, eval_put_self _ hsz _⟩, fun h => (by omega)⟩, fun h => (by omega), q.jb, q.jx, q.jl, q.lb, q.lx, q.ll, q.jk, q.lk⟩ ⟨?_, sr.sim, sr.glob, ?_⟩
  · have := sr.fr.set (some f.tx) (p := .junk) (v := .pointer (some ⟨blk, n.toNat, none⟩)) trivial
    rwa [show setR s.r (some f.tx) .junk = s.r from q.jx] at this
  · rw [put_defers]; exact sr.marks

/-- The text is loaded. -/
theorem flt_l {f : Flt} {v cv : PV} {W W' : Base} {s : St} {a : Act} {w : World} {μ : List Loc} {all : Array Oper} {Q : Exit → Act → World → Prop} {K : Act → World → Prop} (ok : FltOk c.P all f) (q : FI f v cv W W' 2 μ s a w) (sr : SR c B W' μ s a w)
    (hK : ∀ a', FI f v cv W W' 3 μ s a' w → SR c B W' μ s a' w → K a' w) : wpOpE c.P all Q f.l K a w := by
  obtain ⟨ol, h1, h2, h3, h4⟩ := ok.look
  obtain ⟨dst, op, ty, pos, after, guard⟩ := ol
  simp only at h2 h3 h4
  subst h2 h3 h4
  obtain ⟨blk, e1, e2, ⟨arr, el, e3, e4⟩, e5, _⟩ := q.one (by omega)
  obtain ⟨j, t, ht, rfl, e6⟩ := e5 (Nat.le_refl _)
  have hcell : w.cell? ⟨blk, j, none⟩ = some (.string t) := by
    have := e4 j t ht
    simpa [World.cell?, e3] using this
  have hrun : (Instr.loadAt f.te (a.eval (.tmp f.tx))).run c.P w = .ok (.string t) w := by
    rw [e6]
    simp [Instr.loadAt, Instr.sureAddr, loadVar, run_isAgg_some ok.agg, hcell]
  unfold wpOpE
  simp only [h1]
  rw [if_pos (wanted_none (all := all) rfl _)]
  have go : OpGo c.P a.eval ⟨some f.tl, .load f.te (.tmp f.tx), ty, pos, after, none⟩ w fun v' w' => v' = .string t ∧ w' = w := by
    unfold OpGo
    have hn : execOp a.eval ⟨some f.tl, .load f.te (.tmp f.tx), ty, pos, after, none⟩ = (do pure (.value (← Instr.loadAt f.te (a.eval (.tmp f.tx))))) := rfl
    rw [hn, Sem.run_bind, hrun]
    exact ⟨rfl, rfl⟩
  refine upon_go go ?_
  rintro v' w' ⟨rfl, rfl⟩
  have hsz : f.tl < a.tmps.size := by rw [sr.fr.size]; exact q.ll
  refine hK _ ⟨fun h => (by cases h), fun _ => ⟨blk, e1, by rw [eval_put_ne _ (fun h => ok.bl (Option.some.inj h).symm)]; exact e2, ⟨arr, el, e3, e4⟩, fun _ => ⟨j, t, ht, rfl, by rw [eval_put_ne _ (fun h => ok.xl (Option.some.inj h).symm)]; exact e6⟩, fun _ => ⟨t, rfl, eval_put_self _ hsz _⟩⟩, fun h => (by omega), q.jb, q.jx, q.jl, q.lb, q.lx, q.ll, q.jk, q.lk⟩ ⟨?_, sr.sim, sr.glob, ?_⟩
  · have := sr.fr.set (some f.tl) (p := .junk) (v := .string t) trivial
    rwa [show setR s.r (some f.tl) .junk = s.r from q.jl] at this
  · rw [put_defers]; exact sr.marks

/-- The text in its slot, on both sides. -/
theorem put_here {a : Act} {d : Tmp} (hd : d < a.tmps.size) {u : Value} (h : a.eval (.tmp d) = u) : a.put (some d) u = a := by
  rw [← h]
  unfold Act.put Act.eval
  simp only
  congr 1
  apply Array.ext_getElem?
  intro k
  by_cases hk : d = k
  · subst hk
    rw [Array.getElem?_setIfInBounds_self_of_lt hd, Array.getD_eq_getD_getElem?, Array.getElem?_eq_getElem hd]; rfl
  · rw [Array.getElem?_setIfInBounds_ne hk]
theorem FR.here {μ : List Loc} {r : List PV} {a : Act} (fr : FR μ r a) {d : Tmp} (hd : d < r.length) {p : PV} (h : rep μ p (a.eval (.tmp d))) : FR μ (setR r (some d) p) a := by
  have h1 := fr.set (some d) h
  rwa [put_here (by rw [fr.size]; exact hd) rfl] at h1

/-- What is done with the text at once. -/
theorem flt_k {f : Flt} {v cv : PV} {W W' : Base} {s : St} {a : Act} {w : World} {μ : List Loc} {all : Array Oper} {Q : Exit → Act → World → Prop} {K : Act → World → Prop} {k : Cat} (hs : c.p = std c.P) (ok : FltOk c.P all f) (hk : f.k = some k) (q : FI f v cv W W' 3 μ s a w) (sr : SR c B W' μ s a w)
    (hv : c.p.bin k.op k.t (evA c.glob (setR s.r (some f.tl) v) (.tmp k.u)) (evA c.glob (setR s.r (some f.tl) v) (.tmp f.tl)) = some cv)
    (hK : ∀ a', FI f v cv W W' 4 μ s a' w → SR c B W' μ s a' w → K a' w) : wpOpE c.P all Q k.i K a w := by
  obtain ⟨⟨oc, h1, h2, h3, h4⟩, n1, n2, n3, n4⟩ := ok.cat k hk
  obtain ⟨dst, op, ty, pos, after, guard⟩ := oc
  simp only at h2 h3 h4
  subst h2 h3 h4
  obtain ⟨blk, e1, e2, e3, e5, e6⟩ := q.one (by omega)
  obtain ⟨t, hvt, e7⟩ := e6 (Nat.le_refl _)
  have fr2 : FR μ (setR s.r (some f.tl) v) a := sr.fr.here q.ll (by rw [hvt, e7]; rfl)
  have hp : pop c (evA c.glob (setR s.r (some f.tl) v)) (.binOp k.op k.t (.tmp k.u) (.tmp f.tl) k.t2) s.h = some (cv, s.h) := by
    simp only [pop, pv, hv, Option.map_some]
  obtain ⟨_, u, hrep, hu⟩ := pop_pure (c := c) hs (ρ := a.eval) (o := ⟨some k.d, .binOp k.op k.t (.tmp k.u) (.tmp f.tl) k.t2, ty, pos, after, none⟩) sr.sim (fr2.eval sr.glob) rfl hp
  unfold wpOpE
  simp only [h1]
  rw [if_pos (wanted_none (all := all) rfl _)]
  have go : OpGo c.P a.eval ⟨some k.d, .binOp k.op k.t (.tmp k.u) (.tmp f.tl) k.t2, ty, pos, after, none⟩ w fun v' w' => v' = u ∧ w' = w := by
    unfold OpGo
    rw [hu]
    exact ⟨rfl, rfl⟩
  refine upon_go go ?_
  rintro v' w' ⟨rfl, rfl⟩
  have hsz : k.d < a.tmps.size := by rw [sr.fr.size]; exact q.lk k hk
  refine hK _ ⟨fun h => (by cases h), fun _ => ⟨blk, e1, by rw [eval_put_ne _ (fun h => n1 (Option.some.inj h))]; exact e2, e3, fun h => ?_, fun h => ?_⟩, fun _ k' hk' => ?_, q.jb, q.jx, q.jl, q.lb, q.lx, q.ll, q.jk, q.lk⟩ ⟨?_, sr.sim, sr.glob, ?_⟩
  · obtain ⟨j, t', g1, g2, g3⟩ := e5 (by omega)
    exact ⟨j, t', g1, g2, by rw [eval_put_ne _ (fun h => n2 (Option.some.inj h))]; exact g3⟩
  · exact ⟨t, hvt, by rw [eval_put_ne _ (fun h => n3 (Option.some.inj h))]; exact e7⟩
  · rw [hk] at hk'; cases hk'
    rw [eval_put_self _ hsz]; exact hrep
  · have := sr.fr.set (some k.d) (p := .junk) (v := v') trivial
    rwa [show setR s.r (some k.d) .junk = s.r from q.jk k hk] at this
  · rw [put_defers]; exact sr.marks

/-- None of the floating ones. -/
structure FApart (f : Flt) (i : Nat) : Prop where
  b : i ≠ f.b
  x : i ≠ f.x
  l : i ≠ f.l
  k : ∀ k, f.k = some k → i ≠ k.i
theorem lst_set {f : Flt} {i : Nat} (h : FApart f i) (st : Nat) (m : Array Bool) : lst f st (m.setIfInBounds i true) = (lst f st m).setIfInBounds i true := by
  have h3 : lst3 f (m.setIfInBounds i true) = (lst3 f m).setIfInBounds i true := by
    show (((m.setIfInBounds i true).setIfInBounds f.b true).setIfInBounds f.x true).setIfInBounds f.l true = _
    rw [Array.setIfInBounds_comm _ _ h.b, Array.setIfInBounds_comm _ _ h.x, Array.setIfInBounds_comm _ _ h.l]; rfl
  match st with
  | 0 => rfl
  | 1 => exact Array.setIfInBounds_comm _ _ h.b
  | 2 =>
    show ((m.setIfInBounds i true).setIfInBounds f.b true).setIfInBounds f.x true = _
    rw [Array.setIfInBounds_comm _ _ h.b, Array.setIfInBounds_comm _ _ h.x]; rfl
  | 3 => exact h3
  | st + 4 =>
    show (match f.k with | some k => (lst3 f (m.setIfInBounds i true)).setIfInBounds k.i true | none => lst3 f (m.setIfInBounds i true)) = (match f.k with | some k => (lst3 f m).setIfInBounds k.i true | none => lst3 f m).setIfInBounds i true
    rw [h3]
    cases hk : f.k with
    | none => rfl
    | some k => exact Array.setIfInBounds_comm _ _ (h.k k hk)
theorem lst_get {f : Flt} {i : Nat} (h : FApart f i) (d : Bool) (m : Array Bool) : ∀ st, (lst f st m).getD i d = m.getD i d := by
  have h3 : (lst3 f m).getD i d = m.getD i d := by
    show (((m.setIfInBounds f.b true).setIfInBounds f.x true).setIfInBounds f.l true).getD i d = _
    rw [getD_set_ne d (Ne.symm h.l), getD_set_ne d (Ne.symm h.x), getD_set_ne d (Ne.symm h.b)]
  intro st
  match st with
  | 0 => rfl
  | 1 => exact getD_set_ne d (Ne.symm h.b)
  | 2 =>
    show ((m.setIfInBounds f.b true).setIfInBounds f.x true).getD i d = _
    rw [getD_set_ne d (Ne.symm h.x), getD_set_ne d (Ne.symm h.b)]
  | 3 => exact h3
  | st + 4 =>
    show (match f.k with | some k => (lst3 f m).setIfInBounds k.i true | none => lst3 f m).getD i d = _
    cases hk : f.k with
    | none => exact h3
    | some k => exact (getD_set_ne d (Ne.symm (h.k k hk))).trans h3
theorem lst_next {f : Flt} {st j : Nat} (h : nxt f st = some j) (m : Array Bool) : st < topF f ∧ lst f (st + 1) m = (lst f st m).setIfInBounds j true := by
  have ht : 3 ≤ topF f := by unfold topF; split <;> decide
  match st, h with
  | 0, h => cases h; exact ⟨by omega, rfl⟩
  | 1, h => cases h; exact ⟨by omega, rfl⟩
  | 2, h => cases h; exact ⟨by omega, rfl⟩
  | 3, h =>
    cases hk : f.k with
    | none => unfold nxt at h; rw [hk] at h; cases h
    | some k =>
      unfold nxt at h; rw [hk] at h
      simp only [Option.map_some, Option.some.injEq] at h
      subst h
      refine ⟨by unfold topF; rw [hk]; show 3 < 4; decide, ?_⟩
      show (match f.k with | some k => (lst3 f m).setIfInBounds k.i true | none => lst3 f m) = _
      rw [hk]; rfl
theorem top_next {f : Flt} {st : Nat} (h : st < topF f) : ∃ j, nxt f st = some j := by
  match st, h with
  | 0, _ => exact ⟨_, rfl⟩
  | 1, _ => exact ⟨_, rfl⟩
  | 2, _ => exact ⟨_, rfl⟩
  | 3, h =>
    unfold topF at h
    split at h
    · rename_i k hk; exact ⟨k.i, by unfold nxt; rw [hk]; rfl⟩
    · omega
  | n + 4, h =>
    unfold topF at h
    split at h <;> omega

theorem met_set {all : Array Oper} {j i : Nat} {m : Array Bool} (h : metB all j m = true) : metB all j (m.setIfInBounds i true) = true := by
  unfold metB at h ⊢
  split at h
  · rename_i o ho
    rw [List.all_eq_true] at h ⊢
    intro e he
    have := h e he
    rw [Bool.or_eq_true] at this ⊢
    exact this.imp id getD_set_true
  · cases h
theorem met_ready {all : Array Oper} {j : Nat} {m : Array Bool} (h : j ∈ Region.ready .any all m) : metB all j m = true := by
  obtain ⟨_, o, ho, hall⟩ := mem_ready.1 h
  unfold metB
  rw [ho]
  rw [List.all_eq_true]
  intro e he
  cases hb : Region.binds .any e with
  | false => rfl
  | true => exact hall e (Array.mem_toList_iff.1 he) hb
theorem reach_set {all : Array Oper} {f : Flt} {i st : Nat} (ha : FApart f i) {m : Array Bool} (h : reachB all f st m = true) : reachB all f st (m.setIfInBounds i true) = true := by
  unfold reachB at h ⊢
  rw [Bool.and_eq_true, Bool.or_eq_true, Bool.or_eq_true] at h ⊢
  refine ⟨h.1.imp id fun h => ?_, h.2.imp id fun h => ?_⟩
  · rw [lst_set ha]; exact met_set h
  · cases hk : f.k with
    | none => rw [hk] at h; cases h
    | some k =>
      rw [hk] at h
      show metB all k.i (lst f 3 (m.setIfInBounds i true)) = true
      rw [lst_set ha]; exact met_set h
theorem reach_next {all : Array Oper} {f : Flt} {st j : Nat} (hj : nxt f st = some j) {m : Array Bool} (h : reachB all f st m = true) (hr : j ∈ Region.ready .any all (lst f st m)) : reachB all f (st + 1) m = true := by
  unfold reachB at h ⊢
  rw [Bool.and_eq_true, Bool.or_eq_true, Bool.or_eq_true] at h ⊢
  match st, hj with
  | 0, _ => exact ⟨.inl rfl, .inl rfl⟩
  | 1, hj => cases hj; exact ⟨.inr (met_ready hr), .inl rfl⟩
  | 2, _ => exact ⟨.inr (h.1.resolve_left (by decide)), .inl rfl⟩
  | 3, hj =>
    refine ⟨.inr (h.1.resolve_left (by decide)), .inr ?_⟩
    cases hk : f.k with
    | none => unfold nxt at hj; rw [hk] at hj; cases hj
    | some k =>
      unfold nxt at hj; rw [hk] at hj
      simp only [Option.map_some, Option.some.injEq] at hj
      subst hj
      exact met_ready hr

theorem waits_spec {all : Array Oper} {j i : Nat} (h : waitsB all j i = true) : ∃ ox, all[j]? = some ox ∧ ∃ e ∈ ox.after, Region.binds .any e = true ∧ e.on = i := by
  unfold waitsB at h
  split at h
  · rename_i ox hox
    obtain ⟨e, he, hb⟩ := List.any_eq_true.1 h
    rw [Bool.and_eq_true, beq_iff_eq] at hb
    exact ⟨ox, hox, e, Array.mem_toList_iff.1 he, hb.1, hb.2⟩
  · cases h
structure RegOk (all : Array Oper) (f : Flt) (i : Nat) (o : Oper) : Prop where
  guard : o.guard = none
  b : o.dst ≠ some f.tb
  x : o.dst ≠ some f.tx
  l : o.dst ≠ some f.tl
  k : ∀ k, f.k = some k → o.dst ≠ some k.d
  apart : FApart f i
  idx : o.dst = some f.iu → waitsB all f.x i = true
  left : ∀ k, f.k = some k → o.dst = some k.u → waitsB all k.i i = true
theorem regB_spec {all : Array Oper} {f : Flt} {i : Nat} {o : Oper} (h : regB all f i o = true) : RegOk all f i o := by
  unfold regB at h
  simp only [Bool.and_eq_true, Bool.or_eq_true, bne_iff_ne, ne_eq, Option.isNone_iff_eq_none] at h
  obtain ⟨⟨⟨⟨⟨⟨⟨⟨h1, h2⟩, h3⟩, h4⟩, h5⟩, h6⟩, h7⟩, h8⟩, h9⟩ := h
  have hk : ∀ k, f.k = some k → o.dst ≠ some k.d ∧ i ≠ k.i ∧ (o.dst = some k.u → waitsB all k.i i = true) := fun k hk => by
    unfold regK at h9
    rw [hk] at h9
    simp only [Bool.and_eq_true, Bool.or_eq_true, bne_iff_ne, ne_eq] at h9
    exact ⟨h9.1.1, h9.1.2, fun h => h9.2.resolve_left (fun n => n h)⟩
  exact ⟨h1, h2, h3, h4, fun k e => (hk k e).1, ⟨h5, h6, h7, fun k e => (hk k e).2.1⟩, fun h => h8.resolve_left (fun n => n h), fun k e => (hk k e).2.2⟩
theorem flt_head {P : Program} {all : Array Oper} {f : Flt} {i : Nat} {L : List Nat} {m : Array Bool} (h : fltOk1 P all f (i :: L) m = true) : ∃ o, all[i]? = some o ∧ RegOk all f i o ∧ (∀ st, st ≤ 4 → reachB all f st m = true → stepB P all f i o st m = true) ∧ fltOk1 P all f L (m.setIfInBounds i true) = true := by
  unfold fltOk1 at h
  rw [Bool.and_eq_true] at h
  obtain ⟨h1, h2⟩ := h
  split at h1
  · rename_i o ho
    rw [Bool.and_eq_true] at h1
    refine ⟨o, ho, regB_spec h1.1, fun st hst hre => ?_, h2⟩
    have := List.all_eq_true.1 h1.2 st (List.mem_range.2 (by omega))
    rw [hre] at this
    simpa using this
  · cases h1
theorem flt_unlisted {P : Program} {all : Array Oper} {f : Flt} : ∀ {L : List Nat} {m : Array Bool}, fltOk1 P all f L m = true → ∀ i ∈ L, m.getD i true = false
  | [], m, _, i, hi => by cases hi
  | i0 :: L, m, h, i, hi => by
    obtain ⟨o, ho, hreg, hst, hrest⟩ := flt_head h
    have h0 := hst 0 (by omega) rfl
    unfold stepB at h0
    rw [Bool.and_eq_true] at h0
    have hr := (mem_ready.1 (show i0 ∈ Region.ready .any all (lst f 0 m) by simpa using h0.1)).1
    rcases List.mem_cons.1 hi with rfl | hi
    · exact hr
    · have := flt_unlisted hrest i hi
      by_cases he : i0 = i
      · subst he; exact hr
      · rwa [getD_set_ne true he] at this
/-- What one of the floating ones looks at is written no more when it is ready. -/
theorem flt_dep {P : Program} {all : Array Oper} {f : Flt} {st j : Nat} {u : Tmp} (hdep : ∀ i o, all[i]? = some o → RegOk all f i o → o.dst = some u → waitsB all j i = true) (hja : ∀ i, FApart f i → j ≠ i) :
    ∀ {L : List Nat} {m : Array Bool}, fltOk1 P all f L m = true → j ∈ Region.ready .any all (lst f st m) → ∀ i ∈ L, ∀ o, all[i]? = some o → o.dst ≠ some u := by
  intro L
  induction L with
  | nil => intro m _ _ i hi; cases hi
  | cons i0 L ih =>
    intro m h hx i hi o ho
    obtain ⟨o0, ho0, hreg, hst, hrest⟩ := flt_head h
    have hun := flt_unlisted h i0 (List.mem_cons_self ..)
    have hne0 : o0.dst ≠ some u := fun hd => by
      obtain ⟨ox, hox, e, he, hb, heq⟩ := waits_spec (hdep i0 o0 ho0 hreg hd)
      obtain ⟨_, ox', hox', hall⟩ := mem_ready.1 hx
      rw [hox] at hox'
      cases hox'
      have h1 := hall e he hb
      rw [heq, lst_get hreg.apart] at h1
      rw [Array.getD_eq_getD_getElem?] at h1 hun
      cases hg : m[i0]? with
      | none => rw [hg] at h1; cases h1
      | some b => rw [hg] at h1 hun; simp only [Option.getD_some] at h1 hun; rw [hun] at h1; cases h1
    rcases List.mem_cons.1 hi with rfl | hi
    · rw [ho0] at ho; cases ho; exact hne0
    · refine ih hrest ?_ i hi o ho
      rw [lst_set hreg.apart]
      exact ready_mono hx (hja _ hreg.apart)
theorem early_keeps {all : List Oper} {u : Tmp} {s1 : St} {ck1 : Cks} : ∀ (L : List Nat) (s : St) (ck : Cks), endEarly c all L s ck = some (s1, ck1) → (∀ i ∈ L, ∀ o, all[i]? = some o → o.dst ≠ some u) → evA c.glob s1.r (.tmp u) = evA c.glob s.r (.tmp u)
  | [], s, ck, h, _ => by simp only [endEarly, Option.some.injEq, Prod.mk.injEq] at h; rw [h.1]
  | i :: L, s, ck, h, hd => by
    simp only [endEarly, Option.bind_eq_some_iff] at h
    obtain ⟨o, ho, ⟨p, h'⟩, hp, h⟩ := h
    rw [early_keeps L _ _ h fun j hj => hd j (List.mem_cons_of_mem _ hj)]
    have hne := hd i (List.mem_cons_self ..) o ho
    show ((setR s.r o.dst p)[u]?).getD .junk = (s.r[u]?).getD .junk
    cases hdst : o.dst with
    | none => rfl
    | some d =>
      have : d ≠ u := fun e => hne (by rw [hdst, e])
      simp only [setR]
      rw [List.getElem?_set_ne this]

theorem pop_goF (hs : c.p = std c.P) (hc : CallOk c) {μ : List Loc} {s : St} {a : Act} {w : World} (sr : SR c B W μ s a w) {o : Oper} {p : PV} {h' : PHeap} (hp : pop c (evA c.glob s.r) o.op s.h = some (p, h')) :
    OpGo c.P a.eval o w fun v w' => Good B W μ p h' v w' ∧ KeepsD w w' ∧ ∀ (d : Nat) (x : Obj), W.F d → w.heap[d]? = some x → w'.heap[d]? = some x :=
  (pop_sound hs hc sr.sim.rebase sr.glob (sr.fr.eval sr.glob) (fun _ => rfl) hp).mono fun v w' ⟨μ', hpre, hr, hsim⟩ => ⟨⟨μ', hpre, hr, sr.sim.back hsim⟩, hsim.marks, hsim.rest⟩

/-- One of the floating ones comes up. -/
theorem flt_one {f : Flt} {v cv : PV} {W W' : Base} {s : St} {a : Act} {w : World} {μ : List Loc} {all : Array Oper} {Q : Exit → Act → World → Prop} {K : Act → World → Prop} {st j : Nat} (hs : c.p = std c.P) (ok : FltOk c.P all f) (q : FI f v cv W W' st μ s a w) (sr : SR c B W' μ s a w)
    (hj : nxt f st = some j) (hv : st = 1 → conP f.cs (evA c.glob s.r (.tmp f.iu)) = some v)
    (hcv : st = 3 → ∀ k, f.k = some k → c.p.bin k.op k.t (evA c.glob (setR s.r (some f.tl) v) (.tmp k.u)) (evA c.glob (setR s.r (some f.tl) v) (.tmp f.tl)) = some cv)
    (hK : ∀ W'' a' w', FI f v cv W W'' (st + 1) μ s a' w' → SR c B W'' μ s a' w' → K a' w') : wpOpE c.P all Q j K a w := by
  match st, hj with
  | 0, hj =>
    cases hj
    obtain rfl := q.zero rfl
    exact flt_b ok q sr fun a' w' q' sr' => hK _ a' w' q' sr'
  | 1, hj => cases hj; exact flt_x ok q sr (hv rfl) fun a' q' sr' => hK _ a' w q' sr'
  | 2, hj => cases hj; exact flt_l ok q sr fun a' q' sr' => hK _ a' w q' sr'
  | 3, hj =>
    cases hk : f.k with
    | none => unfold nxt at hj; rw [hk] at hj; cases hj
    | some k =>
      unfold nxt at hj; rw [hk] at hj
      simp only [Option.map_some, Option.some.injEq] at hj
      subst hj
      exact flt_k hs ok hk q sr (hcv rfl k hk) fun a' q' sr' => hK _ a' w q' sr'

/-- The slots behind the floating ones. -/
def finF (f : Flt) (r : List PV) (v cv : PV) : List PV := match f.k with | none => setR r (some f.tl) v | some k => setR (setR r (some f.tl) v) (some k.d) cv
theorem get_self {g : Nat → PV} {r : List PV} {t : Tmp} (h : t < r.length) (v : PV) : evA g (setR r (some t) v) (.tmp t) = v := by
  show ((r.set t v)[t]?).getD .junk = v
  rw [List.getElem?_set_self h]; rfl
theorem get_other {g : Nat → PV} {r : List PV} {t u : Tmp} (h : u ≠ t) (v : PV) : evA g (setR r (some t) v) (.tmp u) = evA g r (.tmp u) := by
  show ((r.set t v)[u]?).getD .junk = (r[u]?).getD .junk
  rw [List.getElem?_set_ne (Ne.symm h)]

theorem flt_sound (hs : c.p = std c.P) (hc : CallOk c) {all : Array Oper} {Q : Exit → Act → World → Prop} {f : Flt} {v cv : PV} {W : Base} {m : Nat} {s1 : St} {ck1 : Cks} (ok : FltOk c.P all f) (hsel : Region.noSelect all = true) (hQ : ∀ x a w, ¬ Q (.panic x) a w) (hl1 : f.tl < s1.r.length)
    (hv : conP f.cs (evA c.glob s1.r (.tmp f.iu)) = some v) (hcv : ∀ k, f.k = some k → c.p.bin k.op k.t (evA c.glob (setR s1.r (some f.tl) v) (.tmp k.u)) (evA c.glob (setR s1.r (some f.tl) v) (.tmp f.tl)) = some cv) :
    ∀ (n : Nat) (L : List Nat) (st : Nat) (listed : Array Bool) (μ : List Loc) (s : St) (ck : Cks) (a : Act) (w : World) (W' : Base), n = L.length + (topF f - st) → st ≤ topF f → reachB all f st listed = true → fltOk1 c.P all f L listed = true →
      endEarly c all.toList L s ck = some (s1, ck1) → FI f v cv W W' st μ s a w → SR c B W' μ s a w → Closed all (lst f st listed) →
      (∀ μ' a' w', μ <+: μ' → SR c B W μ' ⟨finF f s1.r v cv, s1.h⟩ a' w' → Closed all (lst f (topF f) (markAll L listed)) → wpAnyD c.P all Q (fun _ _ => True) m (lst f (topF f) (markAll L listed)) a' w') →
      wpAnyD c.P all Q (fun _ _ => True) (n + m) (lst f st listed) a w := by
  have ht3 : 3 ≤ topF f := by unfold topF; split <;> decide
  have ht4 : topF f ≤ 4 := by unfold topF; split <;> decide
  -- a floating one's operands stay as they are
  have keep1 : ∀ (L : List Nat) (listed : Array Bool) (s : St) (ck : Cks) (j st : Nat), fltOk1 c.P all f L listed = true → endEarly c all.toList L s ck = some (s1, ck1) → nxt f st = some j → j ∈ Region.ready .any all (lst f st listed) → st = 1 → conP f.cs (evA c.glob s.r (.tmp f.iu)) = some v := by
    intro L listed s ck j st hchk hend hj hr h1
    subst h1
    cases hj
    rw [← early_keeps L s ck hend fun k hk o hok => flt_dep (st := 1) (u := f.iu) (fun i o _ hreg hd => hreg.idx hd) (fun i ha => Ne.symm ha.x) hchk hr k hk o (by rw [← Array.getElem?_toList]; exact hok)]
    exact hv
  have keep2 : ∀ (L : List Nat) (listed : Array Bool) (s : St) (ck : Cks) (j st : Nat), f.tl < s.r.length → fltOk1 c.P all f L listed = true → endEarly c all.toList L s ck = some (s1, ck1) → nxt f st = some j → j ∈ Region.ready .any all (lst f st listed) → st = 3 →
      ∀ k, f.k = some k → c.p.bin k.op k.t (evA c.glob (setR s.r (some f.tl) v) (.tmp k.u)) (evA c.glob (setR s.r (some f.tl) v) (.tmp f.tl)) = some cv := by
    intro L listed s ck j st hll hchk hend hj hr h3 k hk
    subst h3
    unfold nxt at hj; rw [hk] at hj
    simp only [Option.map_some, Option.some.injEq] at hj
    subst hj
    have h1 := hcv k hk
    have hne := (ok.cat k hk).2.2.2.2
    rw [get_self hl1, get_other hne] at h1
    rw [get_self hll, get_other hne, ← early_keeps L s ck hend fun i hi o hok => flt_dep (st := 3) (u := k.u) (fun i o _ hreg hd => hreg.left k hk hd) (fun i ha => Ne.symm (ha.k k hk)) hchk hr i hi o (by rw [← Array.getElem?_toList]; exact hok)]
    exact h1
  intro n
  induction n with
  | zero =>
    intro L st listed μ s ck a w W' hn hst hre hchk hend q sr hcl hq
    cases L with
    | cons i L => rw [List.length_cons] at hn; omega
    | nil =>
      obtain rfl : st = topF f := by simp at hn; omega
      simp only [endEarly, Option.some.injEq, Prod.mk.injEq] at hend
      obtain ⟨rfl, _⟩ := hend
      obtain ⟨blk, e1, _, _, _, e6⟩ := q.one (by omega)
      obtain ⟨t, hvt, e7⟩ := e6 ht3
      rw [Nat.zero_add]
      subst e1
      refine hq μ a w (List.prefix_refl _) ⟨?_, sr.sim.less, sr.glob, sr.marks⟩ hcl
      have fr2 : FR μ (setR s.r (some f.tl) v) a := sr.fr.here q.ll (by rw [hvt, e7]; rfl)
      show FR μ (finF f s.r v cv) a
      unfold finF
      split
      · exact fr2
      · rename_i k hk
        refine fr2.here (by rw [setR_length]; exact q.lk k hk) (q.four ?_ k hk)
        unfold topF; rw [hk]; exact Nat.le_refl _
  | succ n ih =>
    intro L st listed μ s ck a w W' hn hst hre hchk hend q sr hcl hq
    rw [show n + 1 + m = (n + m) + 1 by omega]
    cases L with
    | nil =>
      simp only [List.length_nil, Nat.zero_add] at hn
      obtain ⟨j, hj⟩ := top_next (f := f) (st := st) (by omega)
      obtain ⟨hlt, hnext⟩ := lst_next hj listed
      have hr : Region.ready .any all (lst f st listed) = [j] := by
        have hchk' := hchk
        unfold fltOk1 at hchk'
        simp only [Bool.and_eq_true, beq_iff_eq] at hchk'
        match st, hj with
        | 0, hj => cases hj; exact hchk'.1.1.1
        | 1, hj => cases hj; exact hchk'.1.1.2
        | 2, hj => cases hj; exact hchk'.1.2
        | 3, hj =>
          have h4 := hchk'.2
          cases hk : f.k with
          | none => unfold nxt at hj; rw [hk] at hj; cases hj
          | some k =>
            unfold nxt at hj; rw [hk] at hj h4
            simp only [Option.map_some, Option.some.injEq] at hj
            subst hj
            simpa using h4
      have hjr : j ∈ Region.ready .any all (lst f st listed) := by rw [hr]; exact List.mem_singleton_self _
      refine wpAnyD_all hr (by simp) fun i hi => ?_
      obtain rfl := List.mem_singleton.1 hi
      refine flt_one hs ok q sr hj (keep1 [] listed s ck _ st hchk hend hj hjr) (keep2 [] listed s ck _ st q.ll hchk hend hj hjr) fun W'' a' w' q' sr' => ⟨trivial, ?_⟩
      rw [← hnext]
      exact ih [] (st + 1) listed μ s ck a' w' W'' (by simp; omega) (by omega) (reach_next hj hre hjr) hchk hend q' sr' (by rw [hnext]; exact hcl.more hjr) hq
    | cons i L =>
      obtain ⟨o, ho, hreg, hstep, hrest⟩ := flt_head hchk
      have hst1 := hstep st (by omega) hre
      have hset := lst_set hreg.apart st listed
      have hend0 := hend
      simp only [endEarly, Option.bind_eq_some_iff] at hend
      obtain ⟨o', ho', ⟨p, h'⟩, hp, hend⟩ := hend
      rw [Array.getElem?_toList, ho] at ho'
      cases ho'
      unfold stepB at hst1
      rw [Bool.and_eq_true, Bool.or_eq_true] at hst1
      obtain ⟨hin, hst1⟩ := hst1
      have hin' : i ∈ Region.ready .any all (lst f st listed) := by simpa using hin
      have hn' : n = L.length + (topF f - st) := by simp at hn; omega
      have hwant : Region.wanted o (yielded all a.tmps) = true := wanted_none (all := all) hreg.guard _
      have hcl' : Closed all (lst f st (listed.setIfInBounds i true)) := by rw [hset]; exact hcl.more hin'
      have hre' := reach_set hreg.apart hre
      by_cases hpf : (pureOp c.P o.op && Region.free .any all (lst f st listed) i) = true
      · rw [Bool.and_eq_true] at hpf
        obtain ⟨rfl, u, hrep, hu⟩ := pop_pure (c := c) hs (ρ := a.eval) sr.sim (sr.fr.eval sr.glob) hpf.1 hp
        refine wpAnyD_take (v := u) (Si := fun _ => True) (S' := fun _ _ => True) ho hsel hpf.2 hin hcl (fun x a w hx => absurd hx (hQ x _ w)) (fun _ _ _ => trivial) (fun _ _ _ _ => ⟨trivial, trivial⟩) (.inl ⟨hwant, fun w' _ => hu w'⟩) trivial trivial ?_
        rw [← hset]
        exact ih L st (listed.setIfInBounds i true) μ _ _ _ w W' hn' hst hre' hrest hend (q.reg hreg.b hreg.x hreg.l hreg.k (List.prefix_refl _) fun _ _ _ h => h) (sr.put o.dst hrep) hcl' hq
      · have hall := hst1.resolve_left hpf
        refine wpAnyD_all (rs := Region.ready .any all (lst f st listed)) rfl (fun h => by rw [h] at hin'; cases hin') fun j hj => ?_
        have hjj := List.all_eq_true.1 hall j hj
        simp only [Bool.or_eq_true, beq_iff_eq] at hjj
        rcases hjj with rfl | hjn
        · unfold wpOpE
          simp only [ho]
          rw [if_pos hwant]
          refine upon_go (pop_goF hs hc sr hp) ?_
          rintro u w' ⟨⟨μ', hpre, hrep, hsim⟩, hk, hF⟩
          refine ⟨trivial, ?_⟩
          rw [← hset]
          exact ih L st (listed.setIfInBounds j true) μ' _ _ _ w' W' hn' hst hre' hrest hend (q.reg hreg.b hreg.x hreg.l hreg.k hpre hF) (sr.next o.dst hpre hrep hsim hk) hcl' (fun μ'' a' w'' hpre' => hq μ'' a' w'' (hpre.trans hpre'))
        · obtain ⟨hlt, hnext⟩ := lst_next hjn listed
          refine flt_one hs ok q sr hjn (keep1 (i :: L) listed s ck j st hchk hend0 hjn hj) (keep2 (i :: L) listed s ck j st q.ll hchk hend0 hjn hj) fun W'' a' w' q' sr' => ⟨trivial, ?_⟩
          rw [← hnext]
          exact ih (i :: L) (st + 1) listed μ s ck a' w' W'' (by simp at hn ⊢; omega) (by omega) (reach_next hjn hre hj) hchk hend0 q' sr' (by rw [hnext]; exact hcl.more hj) hq

theorem early_len {all : List Oper} {s1 : St} {ck1 : Cks} : ∀ (L : List Nat) (s : St) (ck : Cks), endEarly c all L s ck = some (s1, ck1) → s1.r.length = s.r.length
  | [], s, ck, h => by simp only [endEarly, Option.some.injEq, Prod.mk.injEq] at h; rw [h.1]
  | i :: L, s, ck, h => by
    simp only [endEarly, Option.bind_eq_some_iff] at h
    obtain ⟨o, ho, ⟨p, h'⟩, hp, h⟩ := h
    rw [early_len L _ _ h]
    exact setR_length _ _ _
theorem catK_spec {f : Flt} {r : List PV} {v : PV} {k : List PV → Res} {x : PV × PHeap} (h : catK c f (setR r (some f.tl) v) k = some x) :
    ∃ cv, (∀ q, f.k = some q → c.p.bin q.op q.t (evA c.glob (setR r (some f.tl) v) (.tmp q.u)) (evA c.glob (setR r (some f.tl) v) (.tmp f.tl)) = some cv) ∧ k (finF f r v cv) = some x := by
  unfold catK at h
  split at h
  · rename_i hk
    refine ⟨.junk, fun q hq => (by rw [hk] at hq; cases hq), ?_⟩
    unfold finF; rw [hk]; exact h
  · rename_i q hk
    rw [Option.bind_eq_some_iff] at h
    obtain ⟨cv, hcv, h⟩ := h
    refine ⟨cv, fun q' hq => (by rw [hk] at hq; cases hq; exact hcv), ?_⟩
    unfold finF; rw [hk]; exact h

/-! ### operations that float beside the others -/
theorem markAll_set : ∀ (F : List Nat) (m : Array Bool) (i : Nat), markAll F (m.setIfInBounds i true) = (markAll F m).setIfInBounds i true
  | [], _, _ => rfl
  | j :: F, m, i => by
    show markAll F ((m.setIfInBounds i true).setIfInBounds j true) = (markAll F (m.setIfInBounds j true)).setIfInBounds i true
    rw [← markAll_set F]
    by_cases h : i = j
    · subst h; rfl
    · rw [Array.setIfInBounds_comm _ _ h]
theorem markAll_app : ∀ (F G : List Nat) (m : Array Bool), markAll (F ++ G) m = markAll G (markAll F m)
  | [], _, _ => rfl
  | j :: F, G, m => markAll_app F G (m.setIfInBounds j true)
theorem markAll_old : ∀ (F : List Nat) {m : Array Bool} {j : Nat}, m.getD j false = true → (markAll F m).getD j false = true
  | [], _, _, h => h
  | _ :: F, _, _, h => markAll_old F (marked h)
theorem markAll_mem : ∀ (F : List Nat) {m : Array Bool} {j : Nat}, j ∈ F → j < m.size → (markAll F m).getD j false = true
  | [], _, _, h, _ => by cases h
  | i :: F, m, j, h, hj => by
    show (markAll F (m.setIfInBounds i true)).getD j false = true
    by_cases hi : i = j
    · subst hi
      refine markAll_old F ?_
      rw [Array.getD_eq_getD_getElem?, Array.getElem?_setIfInBounds_self_of_lt hj]; rfl
    · exact markAll_mem F ((List.mem_cons.1 h).resolve_left (Ne.symm hi)) (by simpa using hj)
theorem markAll_get : ∀ (F : List Nat) {m : Array Bool} {j : Nat} (d : Bool), (∀ i ∈ F, i ≠ j) → (markAll F m).getD j d = m.getD j d
  | [], _, _, _, _ => rfl
  | i :: F, m, j, d, h => by
    show (markAll F (m.setIfInBounds i true)).getD j d = _
    rw [markAll_get F d fun k hk => h k (List.mem_cons_of_mem _ hk), getD_set_ne d (h i (List.mem_cons_self ..))]
theorem mk4_set (f : Fl4) (p q : Nat) (m : Array Bool) (i : Nat) : mk4 f p q (m.setIfInBounds i true) = (mk4 f p q m).setIfInBounds i true := markAll_set _ _ _
theorem mk4_1 {f : Fl4} {p : Nat} {y : Nat × List Tmp} (h : f.t1[p]? = some y) (q : Nat) (m : Array Bool) : mk4 f (p + 1) q m = (mk4 f p q m).setIfInBounds y.1 true := by
  unfold mk4 Fl4.ids
  rw [List.take_add_one, h, List.map_append, markAll_app, markAll_app, markAll_app]
  show markAll _ ((markAll _ m).setIfInBounds y.1 true) = _
  rw [markAll_set]
theorem mk4_2 {f : Fl4} {q : Nat} {y : Nat × List Tmp} (h : f.t2[q]? = some y) (p : Nat) (m : Array Bool) : mk4 f p (q + 1) m = (mk4 f p q m).setIfInBounds y.1 true := by
  unfold mk4 Fl4.ids
  rw [List.take_add_one, h, List.map_append, ← List.append_assoc, markAll_app]
  rfl
theorem mk4_met {all : Array Oper} {f : Fl4} {p q : Nat} {m : Array Bool} (hsz : m.size = all.size) (hall : ∀ y ∈ f.t1 ++ f.t2, ∃ o, all[y.1]? = some o) (h : Closed all (mk4 f p q m)) : met4 all f p q m = true := by
  unfold met4
  refine List.all_eq_true.2 fun j hj => ?_
  have hy : ∃ y ∈ f.t1 ++ f.t2, y.1 = j := by
    unfold Fl4.ids at hj
    rcases List.mem_append.1 hj with hj | hj <;> obtain ⟨y, hy, rfl⟩ := List.mem_map.1 hj
    · exact ⟨y, List.mem_append.2 (.inl (List.mem_of_mem_take hy)), rfl⟩
    · exact ⟨y, List.mem_append.2 (.inr (List.mem_of_mem_take hy)), rfl⟩
  obtain ⟨y, hy, rfl⟩ := hy
  obtain ⟨o, ho⟩ := hall y hy
  have hl : (mk4 f p q m).getD y.1 false = true := markAll_mem _ hj (by rw [hsz]; exact (Array.getElem?_eq_some_iff.1 ho).1)
  unfold metB
  rw [ho]
  refine List.all_eq_true.2 fun e he => ?_
  cases hb : Region.binds .any e with
  | false => rfl
  | true =>
    rw [Bool.not_true, Bool.false_or]
    exact h y.1 o ho hl e (Array.mem_toList_iff.1 he) hb
theorem nx4_spec {f : Fl4} {p q j : Nat} (h : nx4 f p q j = true) : (∃ y, f.t1[p]? = some y ∧ y.1 = j) ∨ ∃ y, f.t2[q]? = some y ∧ y.1 = j := by
  unfold nx4 at h
  rw [Bool.or_eq_true] at h
  rcases h with h | h
  · cases hx : f.t1[p]? with
    | none => rw [hx] at h; cases h
    | some y => rw [hx] at h; exact .inl ⟨y, rfl, by simpa using h⟩
  · cases hx : f.t2[q]? with
    | none => rw [hx] at h; cases h
    | some y => rw [hx] at h; exact .inr ⟨y, rfl, by simpa using h⟩

/-- What one of the floating ones does, over the heap of its row alone. -/
theorem buildSlice_run2 {P : Program} {μ : List Loc} {h : PHeap} {w : World} (hμ : μ.length = h.length) {t : TypeId} {len : Nat} {ps : List (Nat × PV)} {qs : Array (Nat × Value)} {p : PV} {h' : PHeap} (hp : buildSliceP P t len ps h = some (p, h')) (hq : PartsOk μ ps qs.toList) :
    ∃ (cells' : Array Value) (e : TypeId) (size : Nat) (cs : List PV) (v : Value), h' = h ++ [.own size cs] ∧ (Instr.buildSlice t len qs).run P w = .ok v (w.alloc (.cells cells' e)) ∧ rep (μ ++ [⟨w.heap.size, 0, cells'.size, size⟩]) p v ∧ All2 (repc μ) cs cells'.toList := by
  unfold buildSliceP at hp
  split at hp
  · cases hp
  rename_i e he
  have hu := elem_T he
  split at hp
  · rename_i size z hsz hz
    split at hp
    · rename_i hcond
      obtain ⟨i, v, hi, hv, hone, rfl⟩ := zero_cells hz
      rw [size_info hi] at hsz
      cases hsz
      have hzs : v.cells.size = i.size := by simpa using hcond.1
      cases hf : fillP i.size (repeatCells (v.cells.toList.map ofV1) len) ps with
      | none => simp [hf] at hp
      | some cs =>
        simp [hf] at hp
        obtain ⟨rfl, rfl⟩ := hp
        have h0 : All2 (repc μ) (repeatCells (v.cells.toList.map ofV1) len) ((Array.range (len * i.size)).map (v.cells[· % v.cells.size]!)).toList := by
          refine All2.of_get (by simp [repeatCells_length, hzs]) (fun j q hq => ?_)
          obtain ⟨hj, hr⟩ := made_rep μ hzs hcond.2.1 hone len j q hq
          exact ⟨_, by simp [hj], hr⟩
        obtain ⟨cells', hfl, hr', hl'⟩ := fill_row i.size ps qs.toList _ cs _ hf hq h0
        have hcl : cells'.size = len * i.size := by
          have := hr'.length
          simp [hl', repeatCells_length, hzs] at this
          omega
        have hrun : (Instr.buildSlice t len qs).run P w = .ok (.slice (some ⟨w.heap.size, 0, none⟩) len len) (w.alloc (.cells cells' e)) := by
          by_cases hz0 : len * i.size = 0
          · have hempty : (Array.range (len * i.size)).map (v.cells[· % v.cells.size]!) = (Array.range (len * i.size)).map ((#[] : Array Value)[· % (#[] : Array Value).size]!) := by
              rw [hz0]; simp
            rw [hempty, hz0] at hfl
            have hgt : ¬ (0 > 2 ^ 24) := by decide
            simp only [Instr.buildSlice, Sem.run_bind, run_underlying_some hu, Result.andThen_ok, run_sizeOf_some (size_info hi), hz0, if_true, Sem.run_pure, if_neg hgt]
            rw [hfl]
            simp [newRow]
          · have hgt : ¬ (len * i.size > 2 ^ 24) := by have := hcond.2.2; omega
            simp only [Instr.buildSlice, Sem.run_bind, run_underlying_some hu, Result.andThen_ok, run_sizeOf_some (size_info hi), hz0, if_false, Sem.run_pure, run_zero hi hv, if_neg hgt]
            rw [hfl]
            simp [newRow]
        exact ⟨cells', e, i.size, cs, _, rfl, hrun, ⟨⟨w.heap.size, 0, cells'.size, i.size⟩, len, ⟨w.heap.size, 0, none⟩, by rw [← hμ]; simp, rfl, Nat.le_refl _, .inl ⟨by simp, by simp only [hcl]; omega, (show 0 < i.size by omega)⟩⟩, hr'⟩
    · cases hp
  · cases hp
theorem pop_thr {c : Ctx} {B : Nat} {W : Base} (hs : c.p = std c.P) {μ : List Loc} {h : PHeap} {w : World} (s : Sim B W μ h w) {e : Operand → PV} {ρ : Operand → Value} (he : ∀ x, rep μ (e x) (ρ x)) {o : Oper} (ht : thrOp o.op = true) {p : PV} {h' : PHeap} (hp : pop c e o.op h = some (p, h')) :
    (h' = h ∧ ∃ v, rep μ p v ∧ (execOp ρ o).run c.P w = .ok (.value v) w) ∨
    ∃ (cells : Array Value) (el : TypeId) (e0 : Nat) (cs : List PV) (v : Value), h' = h ++ [.own e0 cs] ∧ (execOp ρ o).run c.P w = .ok (.value v) (w.alloc (.cells cells el)) ∧ rep (μ ++ [⟨w.heap.size, 0, cells.size, e0⟩]) p v ∧ All2 (repc μ) cs cells.toList := by
  by_cases hq : quietOp o.op = true
  · obtain ⟨rfl, v, hr, hv⟩ := pop_quiet (c := c) hs s he hq hp
    exact .inl ⟨rfl, v, hr, hv w rfl⟩
  · right
    obtain ⟨dst, op, ty, pos, after, guard⟩ := o
    simp only at hq hp ht
    cases op <;> simp only [thrOp, hq, Bool.false_eq_true] at ht
    case alloc t =>
      simp only [pop, hs, std] at hp
      unfold allocP at hp
      cases hz : zeroCellsT c.P t with
      | none => simp [hz] at hp
      | some z =>
        simp [hz] at hp
        obtain ⟨rfl, rfl⟩ := hp
        obtain ⟨i, v, hi, hv, hone, rfl⟩ := zero_cells hz
        refine ⟨v.cells, t, 1, _, .pointer (some ⟨w.heap.size, 0, none⟩), rfl, ?_, ⟨⟨w.heap.size, 0, v.cells.size, 1⟩, by simp [← s.len], rfl⟩, zero_rep μ hone⟩
        have hn : execOp ρ ⟨dst, .alloc t, ty, pos, after, guard⟩ = (do pure (.value (← Instr.alloc t true (.tuple #[])))) := rfl
        rw [hn, Sem.run_bind]
        simp [Instr.alloc, run_zero hi hv, newVar, newRow]
    case buildSlice t len parts =>
      simp only [pop, hs, std] at hp
      obtain ⟨cells, el, size, cs, v, h1, h2, h3, h4⟩ := buildSlice_run2 (w := w) s.len hp (parts_ok he parts)
      refine ⟨cells, el, size, cs, v, h1, ?_, h3, h4⟩
      have hn : execOp ρ ⟨dst, .buildSlice t len parts, ty, pos, after, guard⟩ = (do pure (.value (← Instr.buildSlice t len (parts.map fun (i, x) => (i, ρ x))))) := rfl
      rw [hn, Sem.run_bind, h2]
      rfl
section
variable {c : Ctx} {B : Nat} {W : Base}
abbrev Base.fr (W : Base) (F : Nat → Prop) : Base := { toWorld := W.toWorld, F := F }
/-- The base of a heap of its own. -/
abbrev PB (μ : List Loc) (w : World) : Base := { toWorld := w, F := fun k => k < w.heap.size ∧ ∀ l ∈ μ, l.block ≠ k }
theorem PS.of {V : Base} {μ : List Loc} {h : PHeap} {w : World} (s : Sim B V μ h w) : Sim B (PB μ w) μ h w :=
  ⟨s.len, Below.refl _ _, s.base, s.obj, s.inj, s.injm, s.injl, fun _ h => h, fun _ _ _ h => h, fun _ h => h.1, fun _ _ _ _ _ hl hF => hF.2 _ (List.mem_of_getElem? hl) rfl⟩
theorem PS.keep {V : Base} {μ : List Loc} {h : PHeap} {w w' : World} (s : Sim B V μ h w) (hB : B ≤ w'.heap.size) (hk : ∀ (i : Nat) o l, h[i]? = some o → o ≠ .dead → μ[i]? = some l → ∀ x, w.heap[l.block]? = some x → w'.heap[l.block]? = some x) : Sim B (PB μ w') μ h w' := by
  refine ⟨s.len, Below.refl _ _, hB, fun i o l ho hl => (s.obj i o l ho hl).elimSame fun hd => ?_, s.inj, s.injm, s.injl, fun _ h => h, fun _ _ _ h => h, fun _ h => h.1, fun _ _ _ _ _ hl hF => hF.2 _ (List.mem_of_getElem? hl) rfl⟩
  have hlt := s.size_le ho hd hl
  have hx := Array.getElem?_eq_getElem hlt
  rw [hx]
  exact hk i o l ho hd hl _ hx
theorem PS.none {V : Base} {μ : List Loc} {h : PHeap} {w : World} (s : Sim B V μ h w) : Sim B (PB [] w) [] [] w :=
  ⟨rfl, Below.refl _ _, s.base, fun _ _ _ h => (by simp at h), fun _ _ _ _ _ _ _ _ _ h => (by simp at h), fun _ _ _ _ _ _ _ h => (by simp at h), fun _ _ _ _ _ _ _ h => (by simp at h), fun _ h => h, fun _ _ _ h => h, fun _ h => h.1, fun _ _ _ h => (by simp at h)⟩
theorem Sim.fewer {F : Nat → Prop} {μ : List Loc} {h : PHeap} {w : World} (s : Sim B (W.fr F) μ h w) (hW : ∀ k, W.F k → F k) : Sim B W μ h w :=
  ⟨s.len, s.below, s.base, s.obj, s.inj, s.injm, s.injl, s.marks, fun k x hk hx => s.rest k x (hW k hk) hx, fun k hk => s.inF k (hW k hk), fun i o l ho hd hl hF => s.offF i o l ho hd hl (hW _ hF)⟩

theorem sc0_rep {μ μ' : List Loc} {p : PV} {v : Value} (hp : sc0 p = true) (h : repc μ p v) : repc μ' p v := by cases p <;> first | exact h | cases hp
theorem sc0_all {μ μ' : List Loc} : ∀ {l : List PV} {xs : List Value}, l.all sc0 = true → All2 (repc μ) l xs → All2 (repc μ') l xs
  | [], [], _, _ => trivial
  | p :: l, x :: xs, hl, h => by
    rw [List.all_cons, Bool.and_eq_true] at hl
    exact ⟨sc0_rep hl.1 h.1, sc0_all hl.2 h.2⟩
  | [], _ :: _, _, h => h.elim
  | _ :: _, [], _, h => h.elim
theorem sc1_rep {μ μ' : List Loc} {p : PV} {v : Value} (hp : sc1 p = true) (h : rep μ p v) : rep μ' p v := by
  cases p
  case agg l =>
    obtain ⟨xs, hv, ha⟩ := h
    exact ⟨xs, hv, sc0_all hp ha⟩
  all_goals first | exact h | cases hp
theorem scal_rep {μ μ' : List Loc} {p : PV} {v : Value} (h : rep μ p v) : rep μ' (scalP p) v := by
  unfold scalP
  cases hp : sc1 p with
  | false => rw [cond_false]; trivial
  | true => rw [cond_true]; exact sc1_rep hp h
theorem thrGo_app (all : List Oper) (R : List PV) (own : List Tmp) : ∀ (t t' : Thr) (s : St), thrGo c all R own (t ++ t') s = (thrGo c all R own t s).bind (thrGo c all R own t')
  | [], _, _ => rfl
  | y :: t, t', s => by
    show ((all[y.1]?).bind fun o => (pop c (thrE R own s.r y.2) o.op s.h).bind fun p => thrGo c all R own (t ++ t') ⟨setR s.r o.dst p.1, p.2⟩) = ((all[y.1]?).bind fun o => (pop c (thrE R own s.r y.2) o.op s.h).bind fun p => thrGo c all R own t ⟨setR s.r o.dst p.1, p.2⟩).bind _
    cases all[y.1]? with
    | none => rfl
    | some o =>
      simp only [Option.bind_some]
      cases pop c (thrE R own s.r y.2) o.op s.h with
      | none => rfl
      | some p => simp only [Option.bind_some]; exact thrGo_app all R own t t' _
/-- What is so of a floating row, when so many of it have come up. -/
def TI (c : Ctx) (B : Nat) (W : Base) (all : List Oper) (F : Nat → Prop) (R : List PV) (own : List Tmp) (t : Thr) (p : Nat) (a : Act) (w : World) : Prop :=
  ∃ (sf : St) (μf : List Loc), thrGo c all R own (t.take p) ⟨junks R, []⟩ = some sf ∧ Sim B (PB μf w) μf sf.h w ∧ FR μf sf.r a ∧
    (∀ (i : Nat) o l, sf.h[i]? = some o → o ≠ .dead → μf[i]? = some l → F l.block ∧ ¬ W.F l.block) ∧ ∀ d, own.contains d = false → sf.r.set d .junk = sf.r
theorem TI.keep {all : List Oper} {F F' : Nat → Prop} {R : List PV} {own : List Tmp} {t : Thr} {p : Nat} {a : Act} {w w' : World} (ti : TI c B W all F R own t p a w) (hF : ∀ k, F k → F' k) (hB : B ≤ w'.heap.size)
    (hw : ∀ (k : Nat) (x : Obj), F k → w.heap[k]? = some x → w'.heap[k]? = some x) {dst : Option Tmp} (u : Value) (hd : ∀ d, dst = some d → own.contains d = false) : TI c B W all F' R own t p (a.put dst u) w' := by
  obtain ⟨sf, μf, h1, h2, h3, h4, h5⟩ := ti
  refine ⟨sf, μf, h1, PS.keep h2 hB fun i o l ho hd' hl x hx => hw _ x (h4 i o l ho hd' hl).1 hx, ?_, fun i o l ho hd' hl => ⟨hF _ (h4 i o l ho hd' hl).1, (h4 i o l ho hd' hl).2⟩, h5⟩
  have := h3.set dst (p := .junk) (v := u) trivial
  cases dst with
  | none => exact this
  | some d => rwa [show setR sf.r (some d) .junk = sf.r from h5 d (hd d rfl)] at this
theorem TI.step (hs : c.p = std c.P) {all : Array Oper} {Q : Exit → Act → World → Prop} {K : Act → World → Prop} {F : Nat → Prop} {R : List PV} {own : List Tmp} {t : Thr} {p : Nat} {s : St} {μ : List Loc} {a : Act} {w : World} {y : Nat × List Tmp} {o : Oper} {d : Tmp} {sfin : St}
    (ti : TI c B W all.toList F R own t p a w) (sr : SR c B (W.fr F) μ s a w) (hWF : ∀ k, W.F k → F k) (hy : t[p]? = some y) (ho : all[y.1]? = some o) (hg : o.guard = none) (ht : thrOp o.op = true) (hd : o.dst = some d) (hown : own.contains d = true)
    (hdep : ∀ u ∈ y.2, (R[u]?).getD .junk = (s.r[u]?).getD .junk) (hfin : thrGo c all.toList R own t ⟨junks R, []⟩ = some sfin) (hj : s.r.set d .junk = s.r)
    (hK : ∀ F' v w', (∀ k, F k → F' k) → (∀ (k : Nat) (x : Obj), w.heap[k]? = some x → w'.heap[k]? = some x) → TI c B W all.toList F' R own t (p + 1) (a.put (some d) v) w' → SR c B (W.fr F') μ s (a.put (some d) v) w' → K (a.put (some d) v) w') :
    wpOpE c.P all Q y.1 K a w := by
  obtain ⟨sf, μf, h1, h2, h3, h4, h5⟩ := ti
  have hsplit : t = t.take p ++ (y :: t.drop (p + 1)) := by
    have hlt := (List.getElem?_eq_some_iff.1 hy).1
    rw [show y :: t.drop (p + 1) = t.drop p by rw [List.drop_eq_getElem_cons hlt, (List.getElem?_eq_some_iff.1 hy).2]]
    exact (List.take_append_drop p t).symm
  rw [hsplit, thrGo_app, h1, Option.bind_some] at hfin
  simp only [thrGo, Option.bind_eq_some_iff] at hfin
  obtain ⟨o', ho', ⟨pv, h'⟩, hp, _⟩ := hfin
  rw [Array.getElem?_toList, ho] at ho'
  cases ho'
  have hnext : thrGo c all.toList R own (t.take (p + 1)) ⟨junks R, []⟩ = some ⟨setR sf.r (some d) pv, h'⟩ := by
    rw [List.take_add_one, hy, thrGo_app, h1, Option.bind_some]
    show ((all.toList[y.1]?).bind fun o => (pop c (thrE R own sf.r y.2) o.op sf.h).bind fun p => thrGo c all.toList R own [] ⟨setR sf.r o.dst p.1, p.2⟩) = _
    rw [Array.getElem?_toList, ho, Option.bind_some, hp, Option.bind_some, ← hd]
    rfl
  have he : ∀ x, rep μf (thrE R own sf.r y.2 x) (a.eval x) := by
    intro x
    cases x with
    | tmp u =>
      show rep μf (bif y.2.contains u then (bif own.contains u then (sf.r[u]?).getD .junk else scalP ((R[u]?).getD .junk)) else .junk) (a.eval (.tmp u))
      cases hdu : y.2.contains u with
      | false => rw [cond_false]; trivial
      | true =>
        rw [cond_true]
        cases hou : own.contains u with
        | true => rw [cond_true]; exact h3.get u
        | false =>
          rw [cond_false, hdep u (by simpa using hdu)]
          exact scal_rep (sr.fr.get u)
    | const v => exact ofV_rep μf v
    | «global» n => trivial
    | func n => trivial
  have hwant : Region.wanted o (yielded all a.tmps) = true := wanted_none (all := all) hg _
  have hjk : ∀ u, own.contains u = false → (setR sf.r (some d) pv).set u .junk = setR sf.r (some d) pv := fun u hu => set_junk (h5 u hu) (by rintro e; cases e; rw [hown] at hu; cases hu)
  have hfr : ∀ (μ' : List Loc) (v : Value), FR μ' s.r a → FR μ' s.r (a.put (some d) v) := fun μ' v f => by
    have := f.set (some d) (p := .junk) (v := v) trivial
    rwa [show setR s.r (some d) .junk = s.r from hj] at this
  unfold wpOpE
  simp only [ho]
  rw [if_pos hwant]
  rcases pop_thr hs h2 he ht hp with ⟨rfl, v, hr, hrun⟩ | ⟨cells, el, e0, cs, v, rfl, hrun, hr, hcs⟩
  · rw [hrun]
    show K (a.put o.dst v) w
    rw [hd]
    exact hK F v w (fun _ h => h) (fun _ _ h => h) ⟨_, μf, hnext, h2, h3.set (some d) hr, h4, hjk⟩ ⟨hfr _ _ sr.fr, sr.sim, sr.glob, by rw [put_defers]; exact sr.marks⟩
  · rw [hrun]
    show K (a.put o.dst v) (w.alloc (.cells cells el))
    rw [hd]
    have hext : ∀ (k : Nat) (x : Obj), w.heap[k]? = some x → (w.alloc (.cells cells el)).heap[k]? = some x := fun k x hx => by
      rw [Below.heap_alloc _ _ _ (Array.getElem?_eq_some_iff.1 hx).1]; exact hx
    have hnew := PS.of (h2.new cells el e0 cs (fun j q hq => by
      obtain ⟨x, hx, hr⟩ := hcs.get hq
      exact ⟨x, by simpa using hx, hr⟩) (by have := hcs.length; simp at this; omega))
    refine hK (fun k => F k ∨ k = w.heap.size) v _ (fun _ h => .inl h) hext ⟨_, _, hnext, hnew, (h3.mono (List.prefix_append _ _)).set (some d) hr, ?_, hjk⟩ ⟨hfr _ _ sr.fr, sr.sim.lend _, sr.glob, ?_⟩
    · intro i o l hio hdead hl
      rcases Nat.lt_trichotomy i sf.h.length with hlt | rfl | hgt
      · rw [List.getElem?_append_left hlt] at hio
        rw [List.getElem?_append_left (by rw [h2.len]; exact hlt)] at hl
        exact ⟨.inl (h4 i o l hio hdead hl).1, (h4 i o l hio hdead hl).2⟩
      · rw [← h2.len] at hl
        simp at hl
        subst hl
        exact ⟨.inr rfl, fun hW => sr.sim.fresh (hWF _ hW)⟩
      · rw [List.getElem?_eq_none (by simp; omega)] at hio
        cases hio
    · rw [put_defers]
      exact sr.marks.keep fun k hk => hext k _ hk
/-- A block that was nobody's becomes the heap's next object. -/
theorem Sim.adopt {F : Nat → Prop} {V : Base} {μ : List Loc} {h : PHeap} {w : World} (s : Sim B (W.fr F) μ h w) (hW : ∀ k, W.F k → F k) {l : Loc} {z : List PV} (ps : Sim B V [l] [.own 1 z] w) (hl : F l.block) (hn : ¬ W.F l.block)
    (hz : ∀ p ∈ z, ∀ v, repc [l] p v → ∀ μ', repc μ' p v) : Sim B W (μ ++ [l]) (h ++ [.own 1 z]) w := by
  have hpre : μ <+: μ ++ [l] := List.prefix_append _ _
  have hoff : ∀ (i : Nat) o l', h[i]? = some o → o ≠ .dead → μ[i]? = some l' → l'.block ≠ l.block := fun i o l' ho hd hl' he => s.offF i o l' ho hd hl' (he ▸ hl)
  have s0 := s.fewer hW
  refine ⟨by simp [s.len], s.below, s.base, ?_, ?_, ?_, s.injl_back (lp_app rfl s.len), s.marks, s0.rest, s0.inF, s0.offF.app s.len (.inr hn)⟩
  · intro id o l' ho hl'
    rcases Nat.lt_trichotomy id h.length with hlt | rfl | hgt
    · rw [List.getElem?_append_left hlt] at ho
      rw [List.getElem?_append_left (by rw [s.len]; exact hlt)] at hl'
      exact (s.obj id o l' ho hl').mono hpre
    · simp at ho
      rw [← s.len] at hl'
      simp at hl'
      subst ho hl'
      obtain ⟨e1, e2, e3, cc, el, e4, e5, e6⟩ := ps.obj 0 (.own 1 z) l rfl rfl
      refine ⟨e1, e2, e3, cc, el, e4, e5, fun j p hp => ?_⟩
      obtain ⟨x, hx, hr⟩ := e6 j p hp
      exact ⟨x, hx, hz p (List.mem_of_getElem? hp) x hr _⟩
    · rw [List.getElem?_eq_none (by simp; omega)] at ho
      cases ho
  · have key : ∀ (i : Nat) li ei ci, (h ++ [PObj.own 1 z])[i]? = some (.own ei ci) → (μ ++ [l])[i]? = some li → (h[i]? = some (.own ei ci) ∧ μ[i]? = some li ∧ i < h.length) ∨ (i = h.length ∧ li = l) := by
      intro i li ei ci hi hli
      rcases Nat.lt_trichotomy i h.length with hlt | rfl | hgt
      · rw [List.getElem?_append_left hlt] at hi
        rw [List.getElem?_append_left (by rw [s.len]; exact hlt)] at hli
        exact .inl ⟨hi, hli, hlt⟩
      · rw [← s.len] at hli
        simp at hli
        subst hli
        exact .inr ⟨rfl, rfl⟩
      · rw [List.getElem?_eq_none (by simp; omega)] at hi
        cases hi
    intro i j li lj ei ci ej cj hne hi hj hli hlj
    rcases key i li ei ci hi hli with ⟨a1, a2, a3⟩ | ⟨a1, a2⟩ <;> rcases key j lj ej cj hj hlj with ⟨b1, b2, b3⟩ | ⟨b1, b2⟩
    · exact s.inj i j li lj ei ci ej cj hne a1 b1 a2 b2
    · subst b2; exact hoff i _ li a1 (by simp) a2
    · subst a2; exact Ne.symm (hoff j _ lj b1 (by simp) b2)
    · omega
  · have key : ∀ (i : Nat) li ei, (h ++ [PObj.own 1 z])[i]? = some (.mp ei) → (μ ++ [l])[i]? = some li → h[i]? = some (.mp ei) ∧ μ[i]? = some li := by
      intro i li ei hi hli
      rcases Nat.lt_trichotomy i h.length with hlt | rfl | hgt
      · rw [List.getElem?_append_left hlt] at hi
        rw [List.getElem?_append_left (by rw [s.len]; exact hlt)] at hli
        exact ⟨hi, hli⟩
      · simp at hi
      · rw [List.getElem?_eq_none (by simp; omega)] at hi
        cases hi
    intro i j li lj ei ej hne hi hj hli hlj
    obtain ⟨a1, a2⟩ := key i li ei hi hli
    obtain ⟨b1, b2⟩ := key j lj ej hj hlj
    exact s.injm i j li lj ei ej hne a1 b1 a2 b2
end
section
variable {c : Ctx} {B : Nat} {W : Base}
def endLateC (c : Ctx) (all : List Oper) : Cks → List (Nat × Bool) → St → Option (St × Cks)
  | ck, [], s => some (s, ck)
  | ck, (i, true) :: L, s => (all[i]?).bind fun o => bif o.guard.isNone then (pop c (evA c.glob s.r) o.op s.h).bind fun p => bif plainEq p.1 p.1 then endLateC c all (ckAdd i o.op (evA c.glob s.r) p.1 ck) L ⟨setR s.r o.dst p.1, p.2⟩ else none else none
  | ck, (i, false) :: L, s => (all[i]?).bind fun o => (wantP all s.r o.guard).bind fun g => (doOp c o g s).bind fun p => (bif quietOp o.op then some ck else (chk c (ckDrop true o ck) p.2).bind fun _ => some (ckDrop true o ck)).bind fun ck' => endLateC c all ck' L ⟨setR s.r o.dst p.1, p.2⟩
theorem runLateC_end (all : List Oper) (k : St → Cks → Res) : ∀ (L : List (Nat × Bool)) (ck : Cks) (s : St), runLateC c all ck L s k = (endLateC c all ck L s).bind fun r => k r.1 r.2
  | [], ck, s => by simp only [runLateC, endLateC]; rfl
  | (i, true) :: L, ck, s => by
    simp only [runLateC, endLateC]
    cases all[i]? with
    | none => rfl
    | some o =>
      simp only [Option.bind_some]
      cases hg : o.guard with
      | none =>
        simp only [Option.isNone_none, cond_true, popK_eq]
        cases pop c (evA c.glob s.r) o.op s.h with
        | none => rfl
        | some p =>
          simp only [Option.bind_some, ckP]
          cases plainEq p.1 p.1 with
          | false => rfl
          | true => simp only [cond_true]; exact runLateC_end all k L _ _
      | some g => rfl
  | (i, false) :: L, ck, s => by
    have key : runLateC c all ck ((i, false) :: L) s k = (all[i]?).bind fun o => (wantP all s.r o.guard).bind fun g => (doOp c o g s).bind fun p => (bif quietOp o.op then some ck else (chk c (ckDrop true o ck) p.2).bind fun _ => some (ckDrop true o ck)).bind fun ck' => runLateC c all ck' L ⟨setR s.r o.dst p.1, p.2⟩ k := by
      simp only [runLateC]
      cases all[i]? with
      | none => rfl
      | some o =>
        simp only [Option.bind_some]
        cases hg : o.guard with
        | none =>
          simp only [wantP, Option.bind_some, doOp, cond_true, popK_eq, chkAll_eq]
          cases pop c (evA c.glob s.r) o.op s.h with
          | none => rfl
          | some p =>
            simp only [Option.bind_some]
            cases quietOp o.op with
            | true => rfl
            | false =>
              simp only [cond_false]
              cases chk c (ckDrop true o ck) p.2 <;> rfl
        | some g =>
          simp only [chkAll_eq]
          cases wantP all s.r (some g) with
          | none => rfl
          | some b =>
            simp only [Option.bind_some]
            cases doOp c o b s with
            | none => rfl
            | some p =>
              simp only [Option.bind_some]
              cases quietOp o.op with
              | true => rfl
              | false =>
                simp only [cond_false]
                cases chk c (ckDrop true o ck) p.2 <;> rfl
    rw [key]
    simp only [endLateC]
    cases all[i]? with
    | none => rfl
    | some o =>
      simp only [Option.bind_some]
      cases wantP all s.r o.guard with
      | none => rfl
      | some g =>
        simp only [Option.bind_some]
        cases doOp c o g s with
        | none => rfl
        | some p =>
          simp only [Option.bind_some]
          cases (bif quietOp o.op then some ck else (chk c (ckDrop true o ck) p.2).bind fun _ => some (ckDrop true o ck)) with
          | none => rfl
          | some ck' => simp only [Option.bind_some]; exact runLateC_end all k L ck' _
theorem thrK_end (all : List Oper) (R : List PV) (own : List Tmp) (k : St → Res) : ∀ (t : Thr) (s : St), thrK c all R own t s k = (thrGo c all R own t s).bind k
  | [], s => rfl
  | y :: t, s => by
    simp only [thrK, thrGo]
    cases all[y.1]? with
    | none => rfl
    | some o =>
      simp only [Option.bind_some, popK_eq]
      cases pop c (thrE R own s.r y.2) o.op s.h with
      | none => rfl
      | some p => simp only [Option.bind_some]; exact thrK_end all R own k t _

/-- One of the others is taken: what the next states are like. -/
theorem lateC_keeps {all : List Oper} {u : Tmp} {s1 : St} {ck1 : Cks} : ∀ (L : List (Nat × Bool)) (ck : Cks) (s : St), endLateC c all ck L s = some (s1, ck1) → (∀ x ∈ L, ∀ o, all[x.1]? = some o → o.dst ≠ some u) → s1.r[u]? = s.r[u]?
  | [], ck, s, h, _ => by simp only [endLateC, Option.some.injEq, Prod.mk.injEq] at h; rw [h.1]
  | (i, true) :: L, ck, s, h, hn => by
    simp only [endLateC, Option.bind_eq_some_iff] at h
    obtain ⟨o, ho, h⟩ := h
    cases hg : o.guard.isNone with
    | false => rw [hg] at h; cases h
    | true =>
      rw [hg, cond_true, Option.bind_eq_some_iff] at h
      obtain ⟨p, _, h⟩ := h
      cases hp : plainEq p.1 p.1 with
      | false => rw [hp] at h; cases h
      | true =>
        rw [hp, cond_true] at h
        rw [lateC_keeps L _ _ h fun x hx => hn x (List.mem_cons_of_mem _ hx)]
        have := hn _ (List.mem_cons_self ..) o ho
        cases hd : o.dst with
        | none => rfl
        | some d => show (s.r.set d p.1)[u]? = _; rw [List.getElem?_set_ne (fun e => this (by rw [hd, e]))]
  | (i, false) :: L, ck, s, h, hn => by
    simp only [endLateC, Option.bind_eq_some_iff] at h
    obtain ⟨o, ho, g, _, p, _, ck', _, h⟩ := h
    rw [lateC_keeps L _ _ h fun x hx => hn x (List.mem_cons_of_mem _ hx)]
    have := hn _ (List.mem_cons_self ..) o ho
    cases hd : o.dst with
    | none => rfl
    | some d => show (s.r.set d p.1)[u]? = _; rw [List.getElem?_set_ne (fun e => this (by rw [hd, e]))]

structure Reg4 (all : Array Oper) (f : Fl4) (i : Nat) (o : Oper) : Prop where
  ne : ∀ y ∈ f.t1 ++ f.t2, y.1 ≠ i
  own1 : ∀ d, o.dst = some d → f.o1.contains d = false
  own2 : ∀ d, o.dst = some d → f.o2.contains d = false
  wait : ∀ d, o.dst = some d → ∀ y ∈ f.t1 ++ f.t2, d ∈ y.2 → waitsB all y.1 i = true
theorem reg4_spec {all : Array Oper} {f : Fl4} {i : Nat} {o : Oper} (h : reg4 all f i o = true) : Reg4 all f i o := by
  unfold reg4 at h
  rw [Bool.and_eq_true] at h
  obtain ⟨h1, h2⟩ := h
  have key : ∀ d, o.dst = some d → f.o1.contains d = false ∧ f.o2.contains d = false ∧ ∀ y ∈ f.t1 ++ f.t2, d ∈ y.2 → waitsB all y.1 i = true := by
    intro d hd
    rw [hd] at h2
    simp only [Bool.and_eq_true, Bool.not_eq_true'] at h2
    refine ⟨h2.1.1, h2.1.2, fun y hy hdy => ?_⟩
    have := List.all_eq_true.1 h2.2 y hy
    rw [show y.2.contains d = true by simpa using hdy] at this
    simpa using this
  exact ⟨fun y hy => by simpa using List.all_eq_true.1 h1 y hy, fun d hd => (key d hd).1, fun d hd => (key d hd).2.1, fun d hd => (key d hd).2.2⟩
theorem stages_spec {f : Fl4} {b : Nat → Nat → Bool} (h : stages f b = true) {p q : Nat} (hp : p ≤ f.t1.length) (hq : q ≤ f.t2.length) : b p q = true :=
  List.all_eq_true.1 (List.all_eq_true.1 h p (List.mem_range.2 (by omega))) q (List.mem_range.2 (by omega))
theorem main4_head {P : Program} {all : Array Oper} {f : Fl4} {x : Nat × Bool} {L : List (Nat × Bool)} {m : Array Bool} (h : main4 P all f (x :: L) m = true) :
    ∃ o, all[x.1]? = some o ∧ Reg4 all f x.1 o ∧ (∀ p q, p ≤ f.t1.length → q ≤ f.t2.length → met4 all f p q m = true → step4 P all f x.1 x.2 o p q m = true) ∧ main4 P all f L (m.setIfInBounds x.1 true) = true := by
  unfold main4 at h
  rw [Bool.and_eq_true] at h
  obtain ⟨h1, h2⟩ := h
  cases ho : all[x.1]? with
  | none => rw [ho] at h1; cases h1
  | some o =>
    rw [ho] at h1
    simp only [Bool.and_eq_true] at h1
    refine ⟨o, rfl, reg4_spec h1.1, fun p q hp hq hm => ?_, h2⟩
    have := stages_spec h1.2 hp hq
    simp only [hm, Bool.not_true, Bool.false_or] at this
    exact this
theorem main4_unlisted {P : Program} {all : Array Oper} {f : Fl4} : ∀ {L : List (Nat × Bool)} {m : Array Bool}, main4 P all f L m = true → ∀ x ∈ L, m.getD x.1 true = false
  | [], m, _, x, hx => by cases hx
  | x0 :: L, m, h, x, hx => by
    obtain ⟨o, ho, hreg, hst, hrest⟩ := main4_head h
    have h0 := hst 0 0 (Nat.zero_le _) (Nat.zero_le _) rfl
    unfold step4 at h0
    rw [Bool.and_eq_true] at h0
    have hr := (mem_ready.1 (show x0.1 ∈ Region.ready .any all m by have := h0.1; simpa [mk4, Fl4.ids, markAll] using this)).1
    rcases List.mem_cons.1 hx with rfl | hx
    · exact hr
    · have := main4_unlisted hrest x hx
      by_cases he : x0.1 = x.1
      · rw [← he]; exact hr
      · rwa [getD_set_ne true he] at this
theorem main4_dep {P : Program} {all : Array Oper} {f : Fl4} {p q : Nat} {y : Nat × List Tmp} {u : Tmp} (hy : y ∈ f.t1 ++ f.t2) (hu : u ∈ y.2) :
    ∀ {L : List (Nat × Bool)} {m : Array Bool}, main4 P all f L m = true → y.1 ∈ Region.ready .any all (mk4 f p q m) → ∀ x ∈ L, ∀ o, all[x.1]? = some o → o.dst ≠ some u := by
  intro L
  induction L with
  | nil => intro m _ _ x hx; cases hx
  | cons x0 L ih =>
    intro m h hr x hx o ho
    obtain ⟨o0, ho0, hreg, hst, hrest⟩ := main4_head h
    have hun := main4_unlisted h x0 (List.mem_cons_self ..)
    have hne0 : o0.dst ≠ some u := fun hd => by
      obtain ⟨ox, hox, e, he, hb, heq⟩ := waits_spec (hreg.wait u hd y hy hu)
      obtain ⟨_, ox', hox', hall⟩ := mem_ready.1 hr
      rw [hox] at hox'
      cases hox'
      have h1 := hall e he hb
      rw [heq] at h1
      unfold mk4 at h1
      rw [markAll_get _ _ fun j hj => ?_] at h1
      · rw [Array.getD_eq_getD_getElem?] at h1 hun
        cases hg : m[x0.1]? with
        | none => rw [hg] at h1; cases h1
        | some b => rw [hg] at h1 hun; simp only [Option.getD_some] at h1 hun; rw [hun] at h1; cases h1
      · unfold Fl4.ids at hj
        rcases List.mem_append.1 hj with hj | hj <;> obtain ⟨z, hz, rfl⟩ := List.mem_map.1 hj
        · exact hreg.ne z (List.mem_append.2 (.inl (List.mem_of_mem_take hz)))
        · exact hreg.ne z (List.mem_append.2 (.inr (List.mem_of_mem_take hz)))
    rcases List.mem_cons.1 hx with rfl | hx
    · rw [ho0] at ho; cases ho; exact hne0
    · refine ih hrest ?_ x hx o ho
      rw [mk4_set]
      exact ready_mono hr (hreg.ne y hy)

/-- The plain heap gives what was loaded. -/
def Told (c : Ctx) (ck : Cks) (h : PHeap) : Prop := ∀ x ∈ ck, ∃ p, c.p.load x.2.1 x.2.2.1 h = some p ∧ plainEq x.2.2.2 p = true
theorem told_held (hs : c.p = std c.P) {V : Base} {μ : List Loc} {h : PHeap} {w : World} (sim : Sim B V μ h w) {all : Array Oper} {l : Array Bool} {ck : Cks} {rs : List (Nat × TypeId × Value × Value)} (hcov : Cov μ all l ck rs) (ht : Told c ck h) : HeldL c.P all rs l w := by
  intro r hr hd
  rcases hcov r hr with h | ⟨x, hx, hxr⟩
  · exact absurd h hd
  · obtain ⟨p, hp, he⟩ := ht x hx
    obtain ⟨_, hty, ha, hv⟩ := hxr
    rw [hs] at hp
    obtain ⟨v', hr', hv'⟩ := load_reads sim (show loadP c.P x.2.1 x.2.2.1 h = some p from hp) ha
    unfold Yet
    rw [← hty, hv' w rfl, plain_rep (List.prefix_refl _) he hv hr']
theorem pop_goG (hs : c.p = std c.P) (hc : CallOk c) {μ : List Loc} {s : St} {a : Act} {w : World} {V : Base} (sr : SR c B V μ s a w) {o : Oper} {p : PV} {h' : PHeap} (hp : pop c (evA c.glob s.r) o.op s.h = some (p, h')) :
    OpGo c.P a.eval o w fun v w' => Good B V μ p h' v w' ∧ KeepsD w w' ∧ (∀ (d : Nat) (x : Obj), V.F d → w.heap[d]? = some x → w'.heap[d]? = some x) ∧ B ≤ w'.heap.size :=
  (pop_sound hs hc sr.sim.rebase sr.glob (sr.fr.eval sr.glob) (fun _ => rfl) hp).mono fun _ _ ⟨μ', hpre, hr, hsim⟩ => ⟨⟨μ', hpre, hr, sr.sim.back hsim⟩, hsim.marks, hsim.rest, hsim.base⟩
theorem thrB_spec {all : Array Oper} {t : Thr} {own : List Tmp} (h : thrB all t own = true) {y : Nat × List Tmp} (hy : y ∈ t) : ∃ o d, all[y.1]? = some o ∧ o.guard = none ∧ thrOp o.op = true ∧ o.dst = some d ∧ own.contains d = true := by
  have := List.all_eq_true.1 h y hy
  cases ho : all[y.1]? with
  | none => rw [ho] at this; cases this
  | some o =>
    rw [ho] at this
    simp only [Bool.and_eq_true] at this
    obtain ⟨⟨h1, h2⟩, h3⟩ := this
    cases hd : o.dst with
    | none => rw [hd] at h3; cases h3
    | some d =>
      rw [hd] at h3
      refine ⟨o, d, rfl, ?_, h2, hd, h3⟩
      cases hg : o.guard with
      | none => rfl
      | some g => rw [hg] at h1; cases h1
end
section
variable {c : Ctx} {B : Nat} {W : Base}
theorem thr_sound (hs : c.p = std c.P) (hc : CallOk c) {all : Array Oper} {Q : Exit → Act → World → Prop} {f : Fl4} {m : Nat} {s1 : St} {ck1 : Cks} {sf1 sf2 : St}
    (hb1 : thrB all f.t1 f.o1 = true) (hb2 : thrB all f.t2 f.o2 = true) (hdis : ∀ d, f.o1.contains d = true → f.o2.contains d = false) (hsel : Region.noSelect all = true) (hQ : ∀ x a w, ¬ Q (.panic x) a w)
    (hf1 : thrGo c all.toList s1.r f.o1 f.t1 ⟨junks s1.r, []⟩ = some sf1) (hf2 : thrGo c all.toList s1.r f.o2 f.t2 ⟨junks s1.r, []⟩ = some sf2) :
    ∀ (n : Nat) (L : List (Nat × Bool)) (p q : Nat) (ck : Cks) (rs : List (Nat × TypeId × Value × Value)) (listed : Array Bool) (μ : List Loc) (s : St) (a : Act) (w : World) (F : Nat → Prop),
      n = L.length + (f.t1.length - p) + (f.t2.length - q) → p ≤ f.t1.length → q ≤ f.t2.length → listed.size = all.size → main4 c.P all f L listed = true → endLateC c all.toList ck L s = some (s1, ck1) →
      TI c B W all.toList F s1.r f.o1 f.t1 p a w → TI c B W all.toList F s1.r f.o2 f.t2 q a w → SR c B (W.fr F) μ s a w → (∀ k, W.F k → F k) →
      (∀ d, f.o1.contains d = true ∨ f.o2.contains d = true → s.r.set d .junk = s.r) → Closed all (mk4 f p q listed) → Told c ck s.h → Cov μ all (mk4 f p q listed) ck rs →
      (∀ F' μ' rs' a' w', μ <+: μ' → SR c B (W.fr F') μ' s1 a' w' → (∀ k, W.F k → F' k) → TI c B W all.toList F' s1.r f.o1 f.t1 f.t1.length a' w' → TI c B W all.toList F' s1.r f.o2 f.t2 f.t2.length a' w' →
        (∀ d, f.o1.contains d = true ∨ f.o2.contains d = true → s1.r.set d .junk = s1.r) → Closed all (mk4 f f.t1.length f.t2.length (markAll (L.map (·.1)) listed)) → Told c ck1 s1.h → Cov μ' all (mk4 f f.t1.length f.t2.length (markAll (L.map (·.1)) listed)) ck1 rs' →
        wpAnyD c.P all Q (HeldL c.P all rs') m (mk4 f f.t1.length f.t2.length (markAll (L.map (·.1)) listed)) a' w') →
      wpAnyD c.P all Q (HeldL c.P all rs) (n + m) (mk4 f p q listed) a w := by
  have hall : ∀ y ∈ f.t1 ++ f.t2, ∃ o, all[y.1]? = some o := fun y hy => by
    rcases List.mem_append.1 hy with hy | hy
    · obtain ⟨o, _, ho, _⟩ := thrB_spec hb1 hy; exact ⟨o, ho⟩
    · obtain ⟨o, _, ho, _⟩ := thrB_spec hb2 hy; exact ⟨o, ho⟩
  intro n
  induction n with
  | zero =>
    intro L p q ck rs listed μ s a w F hn hp hq hsz hm hend t1 t2 sr hWF hjk hcl htold hcov hfin
    cases L with
    | cons i L => rw [List.length_cons] at hn; omega
    | nil =>
      obtain rfl : p = f.t1.length := by simp at hn; omega
      obtain rfl : q = f.t2.length := by simp at hn; omega
      simp only [endLateC, Option.some.injEq, Prod.mk.injEq] at hend
      obtain ⟨rfl, rfl⟩ := hend
      rw [Nat.zero_add]
      exact hfin F μ rs a w (List.prefix_refl _) sr hWF t1 t2 hjk hcl htold hcov
  | succ n ih =>
    intro L p q ck rs listed μ s a w F hn hp hq hsz hm hend t1 t2 sr hWF hjk hcl htold hcov hfin
    rw [show n + 1 + m = (n + m) + 1 by omega]
    have hmet : met4 all f p q listed = true := mk4_met hsz hall hcl
    -- one of the floating ones comes up
    have thr : ∀ j, nx4 f p q j = true → j ∈ Region.ready .any all (mk4 f p q listed) →
        wpOpE c.P all Q j (fun a' w' => HeldL c.P all rs ((mk4 f p q listed).setIfInBounds j true) w' ∧ wpAnyD c.P all Q (HeldL c.P all rs) (n + m) ((mk4 f p q listed).setIfInBounds j true) a' w') a w := by
      intro j hj hr
      have hcl' := hcl.more hr
      have hcov' := hcov.more j
      have hdep : ∀ y ∈ f.t1 ++ f.t2, y.1 = j → ∀ u ∈ y.2, (s1.r[u]?).getD .junk = (s.r[u]?).getD .junk := fun y hy hyj u hu => by
        rw [lateC_keeps L ck s hend fun x hx o ho => main4_dep (p := p) (q := q) hy hu hm (by rw [hyj]; exact hr) x hx o (by rw [← Array.getElem?_toList]; exact ho)]
      rcases nx4_spec hj with ⟨y, hy, rfl⟩ | ⟨y, hy, rfl⟩
      · have hmem := List.mem_of_getElem? hy
        obtain ⟨o, d, ho, hg, ht, hd, hown⟩ := thrB_spec hb1 hmem
        refine TI.step hs t1 sr hWF hy ho hg ht hd hown (hdep y (List.mem_append.2 (.inl hmem)) rfl) hf1 (hjk d (.inl hown)) fun F' v w' hF hext t1' sr' => ?_
        have t2' : TI c B W all.toList F' s1.r f.o2 f.t2 q (a.put (some d) v) w' := t2.keep hF sr'.sim.base (fun k x _ hx => hext k x hx) v (fun d' hd' => by cases hd'; exact hdis d hown)
        rw [← mk4_1 hy] at hcl' hcov' ⊢
        exact ⟨told_held hs sr'.sim hcov' htold, ih L (p + 1) q ck rs listed μ s _ w' F' (by have := (List.getElem?_eq_some_iff.1 hy).1; omega) (List.getElem?_eq_some_iff.1 hy).1 hq hsz hm hend t1' t2' sr' (fun k hk => hF k (hWF k hk)) hjk hcl' htold hcov' hfin⟩
      · have hmem := List.mem_of_getElem? hy
        obtain ⟨o, d, ho, hg, ht, hd, hown⟩ := thrB_spec hb2 hmem
        refine TI.step hs t2 sr hWF hy ho hg ht hd hown (hdep y (List.mem_append.2 (.inr hmem)) rfl) hf2 (hjk d (.inr hown)) fun F' v w' hF hext t2' sr' => ?_
        have t1' : TI c B W all.toList F' s1.r f.o1 f.t1 p (a.put (some d) v) w' := t1.keep hF sr'.sim.base (fun k x _ hx => hext k x hx) v (fun d' hd' => by
          cases hd'
          cases h1 : f.o1.contains d with
          | false => rfl
          | true => rw [hdis d h1] at hown; cases hown)
        rw [← mk4_2 hy] at hcl' hcov' ⊢
        exact ⟨told_held hs sr'.sim hcov' htold, ih L p (q + 1) ck rs listed μ s _ w' F' (by have := (List.getElem?_eq_some_iff.1 hy).1; omega) hp (List.getElem?_eq_some_iff.1 hy).1 hsz hm hend t1' t2' sr' (fun k hk => hF k (hWF k hk)) hjk hcl' htold hcov' hfin⟩
    cases L with
    | nil =>
      unfold main4 at hm
      have h1 := stages_spec hm hp hq
      simp only [hmet, Bool.not_true, Bool.false_or, Bool.or_eq_true, Bool.and_eq_true, beq_iff_eq, Bool.not_eq_true'] at h1
      rcases h1 with ⟨rfl, rfl⟩ | ⟨h1, h2⟩
      · simp at hn
      · refine wpAnyD_all (rs := Region.ready .any all (mk4 f p q listed)) rfl (fun h => by rw [h] at h1; cases h1) fun j hj => ?_
        exact thr j (List.all_eq_true.1 h2 j hj) hj
    | cons x L =>
      obtain ⟨i, held⟩ := x
      obtain ⟨o, hi, hreg, hstep, hrest⟩ := main4_head hm
      simp only at hi hreg hstep hrest
      have hst := hstep p q hp hq hmet
      have hset := mk4_set f p q listed i
      unfold step4 at hst
      rw [Bool.and_eq_true] at hst
      obtain ⟨hready, hst⟩ := hst
      have hin : i ∈ Region.ready .any all (mk4 f p q listed) := by simpa using hready
      have hcl' : Closed all (mk4 f p q (listed.setIfInBounds i true)) := by rw [hset]; exact hcl.more hin
      have hsz' : (listed.setIfInBounds i true).size = all.size := by simpa using hsz
      have hn' : n = L.length + (f.t1.length - p) + (f.t2.length - q) := by simp at hn; omega
      have hcovm : Cov μ all (mk4 f p q (listed.setIfInBounds i true)) ck rs := by rw [hset]; exact hcov.more i
      have hjk' : ∀ (v : PV) (h : PHeap) d, f.o1.contains d = true ∨ f.o2.contains d = true → (⟨setR s.r o.dst v, h⟩ : St).r.set d .junk = (⟨setR s.r o.dst v, h⟩ : St).r := fun v h d hd => set_junk (hjk d hd) fun e => by
        rcases hd with hd | hd
        · rw [hreg.own1 d e] at hd; cases hd
        · rw [hreg.own2 d e] at hd; cases hd
      have keep1 : ∀ (v : Value) (w' : World), B ≤ w'.heap.size → (∀ (k : Nat) (x : Obj), F k → w.heap[k]? = some x → w'.heap[k]? = some x) → TI c B W all.toList F s1.r f.o1 f.t1 p (a.put o.dst v) w' := fun v w' hB hk => t1.keep (fun _ h => h) hB hk v hreg.own1
      have keep2 : ∀ (v : Value) (w' : World), B ≤ w'.heap.size → (∀ (k : Nat) (x : Obj), F k → w.heap[k]? = some x → w'.heap[k]? = some x) → TI c B W all.toList F s1.r f.o2 f.t2 q (a.put o.dst v) w' := fun v w' hB hk => t2.keep (fun _ h => h) hB hk v hreg.own2
      have hsame : ∀ (k : Nat) (x : Obj), F k → w.heap[k]? = some x → w.heap[k]? = some x := fun _ _ _ h => h
      have hS := told_held hs sr.sim hcov htold
      cases held with
      | true =>
        rw [cond_true, Bool.and_eq_true] at hst
        obtain ⟨hload, hfree⟩ := hst
        simp only [endLateC, Option.bind_eq_some_iff] at hend
        obtain ⟨o', ho', hend⟩ := hend
        rw [Array.getElem?_toList, hi] at ho'
        cases ho'
        cases hgg : o.guard.isNone with
        | false => rw [hgg] at hend; cases hend
        | true =>
        rw [hgg, cond_true, Option.bind_eq_some_iff] at hend
        obtain ⟨⟨pv, h'⟩, hpop, hend⟩ := hend
        cases hpl : plainEq pv pv with
        | false => rw [hpl] at hend; cases hend
        | true =>
        rw [hpl, cond_true] at hend
        have hg : o.guard = none := by cases hgo : o.guard with
          | none => rfl
          | some g => rw [hgo] at hgg; cases hgg
        have hw : Region.wanted o (yielded all a.tmps) = true := wanted_none (all := all) hg _
        have hset1 := hset
        obtain ⟨dst, op, ty, pos, after, guard⟩ := o
        simp only at hload hpop hw hend hjk' keep1 keep2
        cases op <;> simp only [loadOp, Bool.false_eq_true] at hload
        rename_i t x
        simp only [pop, hs, std] at hpop
        obtain ⟨hP, rfl⟩ := pv_some hpop
        have hx := sr.fr.eval sr.glob x
        obtain ⟨v, hrep, hv⟩ := load_reads sr.sim hP hx
        have hrun : Yet c.P (i, t, a.eval x, v) w := hv w rfl
        have htold' : Told c (ckAdd i (.load t x) (evA c.glob s.r) pv ck) s.h := by
          intro z hz
          rcases List.mem_cons.1 hz with rfl | hz
          · exact ⟨pv, by rw [hs]; exact hP, hpl⟩
          · exact htold z hz
        have hcov' : Cov μ all (mk4 f p q (listed.setIfInBounds i true)) (ckAdd i (.load t x) (evA c.glob s.r) pv ck) ((i, t, a.eval x, v) :: rs) := fun r hr => by
          rcases List.mem_cons.1 hr with rfl | hr
          · exact .inr ⟨_, List.mem_cons_self .., rfl, rfl, hx, hrep⟩
          · rcases hcovm r hr with h | ⟨z, hz, hzr⟩
            · exact .inl h
            · exact .inr ⟨z, List.mem_cons_of_mem _ hz, hzr⟩
        have sr' := sr.put dst hrep
        refine wpAnyD_take (v := v) (Si := Yet c.P (i, t, a.eval x, v)) (S' := HeldL c.P all ((i, t, a.eval x, v) :: rs)) hi hsel hfree hready hcl (fun x a w hx => absurd hx (hQ x _ w))
          (fun l w h r hr => h r (List.mem_cons_of_mem _ hr)) (fun l w hd h => ⟨fun r hr hd' => h r (List.mem_cons_of_mem _ hr) fun hd2 => hd' (hd2.look hi rfl), h _ (List.mem_cons_self ..) fun hd2 => hd (hd2.look hi rfl)⟩)
          (.inl ⟨hw, fun w' hw' => ?_⟩) hrun (by rw [← hset]; exact told_held hs sr'.sim hcov' htold') ?_
        · show ((do pure (.value (← Instr.loadAt t (a.eval x)))) : Sem Next).run c.P w' = _
          rw [Sem.run_bind, hw']; rfl
        · rw [← hset]
          exact ih L p q _ ((i, t, a.eval x, v) :: rs) _ μ _ _ w F hn' hp hq hsz' hrest hend (keep1 v w sr.sim.base hsame) (keep2 v w sr.sim.base hsame) sr' hWF (hjk' pv s.h) hcl' htold' hcov' hfin
      | false =>
        rw [cond_false] at hst
        simp only [endLateC, Option.bind_eq_some_iff] at hend
        obtain ⟨o', ho', g, hg, ⟨pv, h'⟩, hpop, ck', hck, hend⟩ := hend
        rw [Array.getElem?_toList, hi] at ho'
        cases ho'
        have hw := want_sound (ops := all) sr.fr hg
        by_cases hpf : (pureOp c.P o.op && Region.free .any all (mk4 f p q listed) i) = true
        · rw [Bool.and_eq_true] at hpf
          obtain ⟨hpure, hfree⟩ := hpf
          have hquiet := quiet_of_pure hpure
          rw [hquiet, cond_true, Option.some.injEq] at hck
          subst hck
          cases g with
          | false =>
            simp only [doOp, cond_false, Option.some.injEq, Prod.mk.injEq] at hpop
            obtain ⟨rfl, rfl⟩ := hpop
            refine wpAnyD_take (v := undef) (Si := fun _ => True) (S' := HeldL c.P all rs) hi hsel hfree hready hcl (fun x a w hx => absurd hx (hQ x _ w)) (fun _ _ h => h) (fun l w _ h => ⟨h.look hi hquiet, trivial⟩) (.inr ⟨hw, rfl⟩) trivial hS.more ?_
            rw [← hset]
            exact ih L p q ck rs _ μ _ _ w F hn' hp hq hsz' hrest hend (keep1 _ w sr.sim.base hsame) (keep2 _ w sr.sim.base hsame) (sr.put o.dst (undef_rep μ)) hWF (hjk' _ s.h) hcl' htold hcovm hfin
          | true =>
            simp only [doOp, cond_true] at hpop
            obtain ⟨rfl, v, hrep, hv⟩ := pop_pure (c := c) hs (ρ := a.eval) sr.sim (sr.fr.eval sr.glob) hpure hpop
            refine wpAnyD_take (v := v) (Si := fun _ => True) (S' := HeldL c.P all rs) hi hsel hfree hready hcl (fun x a w hx => absurd hx (hQ x _ w)) (fun _ _ h => h) (fun l w _ h => ⟨h.look hi hquiet, trivial⟩) (.inl ⟨hw, fun w' _ => hv w'⟩) trivial hS.more ?_
            rw [← hset]
            exact ih L p q ck rs _ μ _ _ w F hn' hp hq hsz' hrest hend (keep1 _ w sr.sim.base hsame) (keep2 _ w sr.sim.base hsame) (sr.put o.dst hrep) hWF (hjk' _ s.h) hcl' htold hcovm hfin
        · have hpf0 : (pureOp c.P o.op && Region.free .any all (mk4 f p q listed) i) = false := by simpa using hpf
          rw [hpf0, Bool.false_or] at hst
          refine wpAnyD_all (rs := Region.ready .any all (mk4 f p q listed)) rfl (fun h => by rw [h] at hin; cases hin) fun j hj => ?_
          have hjj := List.all_eq_true.1 hst j hj
          simp only [Bool.or_eq_true, beq_iff_eq] at hjj
          rcases Or.symm hjj with hjn | rfl
          · exact thr j hjn hj
          have hcovd : Cov μ all (mk4 f p q (listed.setIfInBounds j true)) ck' rs := by
            cases hquiet : quietOp o.op with
            | true =>
              rw [hquiet, cond_true, Option.some.injEq] at hck
              subst hck
              exact hcovm
            | false =>
              rw [hquiet, cond_false, Option.bind_eq_some_iff] at hck
              obtain ⟨_, _, hck⟩ := hck
              cases hck
              rw [hset]
              exact hcov.drop hi hquiet hin true
          unfold wpOpE
          simp only [hi]
          rw [← hset]
          cases g with
          | false =>
            rw [hw]
            simp only [Bool.false_eq_true, if_false]
            simp only [doOp, cond_false, Option.some.injEq, Prod.mk.injEq] at hpop
            obtain ⟨rfl, rfl⟩ := hpop
            have htold' : Told c ck' s.h := by
              cases hquiet : quietOp o.op with
              | true => rw [hquiet, cond_true, Option.some.injEq] at hck; subst hck; exact htold
              | false =>
                rw [hquiet, cond_false, Option.bind_eq_some_iff] at hck
                obtain ⟨_, hchk, hck⟩ := hck
                cases hck
                exact chk_mem hchk
            have sr' := sr.put o.dst (undef_rep μ)
            exact ⟨told_held hs sr'.sim hcovd htold', ih L p q ck' rs _ μ _ _ w F hn' hp hq hsz' hrest hend (keep1 _ w sr.sim.base hsame) (keep2 _ w sr.sim.base hsame) sr' hWF (hjk' _ s.h) hcl' htold' hcovd hfin⟩
          | true =>
            rw [hw]
            simp only [if_true]
            simp only [doOp, cond_true] at hpop
            by_cases hquiet : quietOp o.op = true
            · rw [hquiet, cond_true, Option.some.injEq] at hck
              subst hck
              obtain ⟨rfl, v, hrep, hv⟩ := pop_quiet (c := c) hs (ρ := a.eval) sr.sim (sr.fr.eval sr.glob) hquiet hpop
              rw [hv w rfl]
              have sr' := sr.put o.dst hrep
              exact ⟨told_held hs sr'.sim hcovd htold, ih L p q ck rs _ μ _ _ w F hn' hp hq hsz' hrest hend (keep1 _ w sr.sim.base hsame) (keep2 _ w sr.sim.base hsame) sr' hWF (hjk' _ s.h) hcl' htold hcovd hfin⟩
            · have hqf : quietOp o.op = false := by simpa using hquiet
              rw [hqf, cond_false, Option.bind_eq_some_iff] at hck
              obtain ⟨u, hchk, hck⟩ := hck
              cases hck
              have htold' : Told c (ckDrop true o ck) h' := chk_mem hchk
              refine upon_go (pop_goG hs hc sr hpop) ?_
              rintro v w' ⟨⟨μ', hpre, hrep, hsim⟩, hk, hF, hB⟩
              have sr' := sr.next o.dst hpre hrep hsim hk
              have hcov' : Cov μ' all (mk4 f p q (listed.setIfInBounds j true)) (ckDrop true o ck) rs := fun r hr => (hcovd r hr).imp id fun ⟨x, hx, hxr⟩ => ⟨x, hx, hxr.mono hpre⟩
              exact ⟨told_held hs sr'.sim hcov' htold', ih L p q _ rs _ μ' _ _ w' F hn' hp hq hsz' hrest hend (keep1 _ w' hB fun k x h1 h2 => hF k x h1 h2) (keep2 _ w' hB fun k x h1 h2 => hF k x h1 h2) sr' hWF (hjk' _ h') hcl' htold' hcov' (fun F' μ'' rs' a' w'' hpre' => hfin F' μ'' rs' a' w'' (hpre.trans hpre'))⟩
end
section
variable {c : Ctx} {B : Nat} {W : Base}
theorem kill_set : ∀ (ns : List Nat) (r : List PV) (n : Nat), (n ∈ ns ∨ r.set n .junk = r) → (killR r ns).set n .junk = killR r ns
  | [], r, n, h => h.resolve_left (by simp)
  | n' :: ns, r, n, h => by
    show (killR (r.set n' .junk) ns).set n .junk = killR (r.set n' .junk) ns
    refine kill_set ns _ _ ?_
    by_cases hn : n = n'
    · subst hn; exact .inr (by rw [List.set_set])
    · rcases h with h | h
      · exact .inl ((List.mem_cons.1 h).resolve_left hn)
      · exact .inr (by rw [List.set_comm _ _ (Ne.symm hn), h])
theorem lateC_len {all : List Oper} {s1 : St} {ck1 : Cks} : ∀ (L : List (Nat × Bool)) (ck : Cks) (s : St), endLateC c all ck L s = some (s1, ck1) → s1.r.length = s.r.length
  | [], ck, s, h => by simp only [endLateC, Option.some.injEq, Prod.mk.injEq] at h; rw [h.1]
  | (i, true) :: L, ck, s, h => by
    simp only [endLateC, Option.bind_eq_some_iff] at h
    obtain ⟨o, ho, h⟩ := h
    cases hg : o.guard.isNone with
    | false => rw [hg] at h; cases h
    | true =>
      rw [hg, cond_true, Option.bind_eq_some_iff] at h
      obtain ⟨p, _, h⟩ := h
      cases hp : plainEq p.1 p.1 with
      | false => rw [hp] at h; cases h
      | true =>
        rw [hp, cond_true] at h
        rw [lateC_len L _ _ h]; exact setR_length _ _ _
  | (i, false) :: L, ck, s, h => by
    simp only [endLateC, Option.bind_eq_some_iff] at h
    obtain ⟨o, ho, g, _, p, _, ck', _, h⟩ := h
    rw [lateC_len L _ _ h]; exact setR_length _ _ _
theorem outK_spec {f : Fl4} {rf r : List PV} {k : List PV → Res} {x : PV × PHeap} (h : outK f rf r k = some x) : ∃ r', k r' = some x ∧ ((f.out = none ∧ r' = r) ∨ ∃ d, f.out = some d ∧ sc1 ((rf[d]?).getD .junk) = true ∧ r' = r.set d ((rf[d]?).getD .junk)) := by
  unfold outK at h
  split at h
  · rename_i ho; exact ⟨r, h, .inl ⟨ho, rfl⟩⟩
  · rename_i d ho
    unfold ckP at h
    cases hs : sc1 ((rf[d]?).getD .junk) with
    | false => rw [hs] at h; cases h
    | true => rw [hs] at h; exact ⟨_, h, .inr ⟨d, ho, hs, rfl⟩⟩
theorem alK_spec {f : Fl4} {s : St} {k : St → Res} {x : PV × PHeap} (h : alK c f s k = some x) : ∃ s', k s' = some x ∧ ((f.al = none ∧ s' = s) ∨ ∃ t d p, f.al = some (t, d) ∧ c.p.alloc t s.h = some p ∧ s' = ⟨s.r.set d p.1, p.2⟩) := by
  unfold alK at h
  split at h
  · rename_i ho; exact ⟨s, h, .inl ⟨ho, rfl⟩⟩
  · rename_i y ho
    rw [Option.bind_eq_some_iff] at h
    obtain ⟨p, hp, h⟩ := h
    exact ⟨_, h, .inr ⟨y.1, y.2, p, ho, hp, rfl⟩⟩
theorem FR.here2 {μ : List Loc} {r : List PV} {a : Act} (fr : FR μ r a) {d : Tmp} {p : PV} (h : d < r.length → rep μ p (a.eval (.tmp d))) : FR μ (r.set d p) a := by
  by_cases hd : d < r.length
  · exact fr.here hd (h hd)
  · rw [List.set_eq_of_length_le (Nat.le_of_not_lt hd)]; exact fr
theorem junks_fr {R : List PV} {a : Act} (h : a.tmps.size = R.length) : FR [] (junks R) a := by
  refine ⟨All2.of_get (by simp [junks, h]) fun i p hp => ?_⟩
  have hlt := (List.getElem?_eq_some_iff.1 hp).1
  have : p = .junk := by
    unfold junks at hp
    rw [List.getElem?_map, Option.map_eq_some_iff] at hp
    obtain ⟨_, _, h⟩ := hp
    exact h.symm
  subst this
  have hlt' : i < a.tmps.toList.length := by simp [junks] at hlt; simp [h, hlt]
  exact ⟨a.tmps.toList[i], List.getElem?_eq_getElem hlt', trivial⟩
theorem ofV1_any {v : Value} {μ : List Loc} {x : Value} (h : repc μ (ofV1 v) x) (μ' : List Loc) : repc μ' (ofV1 v) x := by
  revert h
  unfold ofV1
  split <;> exact id
theorem TI.none {V : Base} {all : List Oper} {F : Nat → Prop} {R : List PV} {own : List Tmp} {t : Thr} {a : Act} {w : World} {μ : List Loc} {h : PHeap} (s : Sim B V μ h w) (hR : a.tmps.size = R.length) : TI c B W all F R own t 0 a w :=
  ⟨⟨junks R, []⟩, [], rfl, PS.none s, junks_fr hR, fun _ _ _ h => (by simp at h), fun d _ => by
    refine List.ext_getElem? fun i => ?_
    by_cases hi : d = i
    · subst hi
      by_cases hlt : d < (junks R).length
      · rw [List.getElem?_set_self hlt, List.getElem?_eq_getElem hlt]
        simp [junks]
      · rw [List.set_eq_of_length_le (Nat.le_of_not_lt hlt)]
    · rw [List.getElem?_set_ne hi]⟩
theorem run4_sound (hs : c.p = std c.P) (hc : CallOk c) {ops : Array Oper} {f : Fl4} (hm : mix4B c.P ops.toList f = true) {s : St} {k : St → Res} {res : PV × PHeap} (h : run4 c ops.toList f s k = some res) :
    ∃ s', k s' = some res ∧ ∀ (Q : Exit → Act → World → Prop) (μ : List Loc) (a : Act) (w : World), (∀ x a w, ¬ Q (.panic x) a w) → SR c B W μ s a w → (∀ a' w', Later c B W μ s' a' w' → Q .normal a' w') →
      wpAnyD c.P ops Q (HeldL c.P ops []) ops.toList.length (none4 ops.toList.length) a w := by
  unfold mix4B at hm
  simp only [Bool.and_eq_true, Array.toArray_toList, beq_iff_eq] at hm
  obtain ⟨⟨⟨⟨hsel, hok⟩, hmain⟩, hlate⟩, hlen⟩ := hm
  unfold fl4Ok at hok
  simp only [Bool.and_eq_true] at hok
  obtain ⟨⟨⟨⟨hb1, hb2⟩, hdis⟩, hal⟩, hout⟩ := hok
  have hdis : ∀ d, f.o1.contains d = true → f.o2.contains d = false := fun d hd => by simpa using List.all_eq_true.1 hdis d (by simpa using hd)
  unfold run4 at h
  rw [runLateC_end, Option.bind_eq_some_iff] at h
  obtain ⟨⟨s1, ck1⟩, hend, h⟩ := h
  simp only [thrK_end] at h
  rw [Option.bind_eq_some_iff] at h
  obtain ⟨sf2, hf2, h⟩ := h
  obtain ⟨r', h, hr'⟩ := outK_spec h
  obtain ⟨s2, h, hs2⟩ := alK_spec h
  rw [runLate_end, Option.bind_eq_some_iff] at h
  obtain ⟨s', hL, hk⟩ := h
  refine ⟨s', hk, fun Q μ a w hQ sr hq => ?_⟩
  -- what the first row comes to
  have hfirst : ∃ sf1, thrGo c ops.toList s1.r f.o1 f.t1 ⟨junks s1.r, []⟩ = some sf1 ∧ ((f.al = none ∧ s2 = ⟨r', s1.h⟩) ∨ ∃ (d : Tmp) (v : Value), sf1.r = (junks s1.r).set d (.ptr 0 0) ∧ sf1.h = [.own 1 (v.cells.toList.map ofV1)] ∧ s2 = ⟨r'.set d (.ptr s1.h.length 0), s1.h ++ [.own 1 (v.cells.toList.map ofV1)]⟩) := by
    unfold alB at hal
    rcases hs2 with ⟨hn, rfl⟩ | ⟨t, d, p, hn, hp, rfl⟩
    · rw [hn] at hal
      have : f.t1 = [] := by simpa using hal
      rw [this]
      exact ⟨_, rfl, .inl ⟨hn, rfl⟩⟩
    · rw [hn] at hal
      simp only at hal
      split at hal
      · rename_i y ht1
        cases ho : ops[y.1]? with
        | none => rw [ho] at hal; cases hal
        | some o =>
          rw [ho] at hal
          simp only [Bool.and_eq_true, beq_iff_eq] at hal
          obtain ⟨hop, hdst⟩ := hal
          split at hop
          · rename_i t' hop'
            obtain rfl : t' = t := by simpa using hop
            rw [hs] at hp
            simp only [std] at hp
            unfold allocP at hp
            cases hz : zeroCellsT c.P t' with
            | none => rw [hz] at hp; simp at hp
            | some z =>
              rw [hz] at hp
              simp at hp
              subst hp
              obtain ⟨i, v, hi, hv, hone, rfl⟩ := zero_cells hz
              refine ⟨⟨(junks s1.r).set d (.ptr 0 0), [.own 1 (v.cells.toList.map ofV1)]⟩, ?_, .inr ⟨d, v, rfl, rfl, rfl⟩⟩
              rw [ht1]
              simp only [thrGo]
              rw [Array.getElem?_toList, ho, Option.bind_some, hop']
              simp only [pop, hs, std]
              unfold allocP
              rw [hz, hdst]
              rfl
          · cases hop
      · cases hal
  obtain ⟨sf1, hf1, hs2⟩ := hfirst
  have sr0 : SR c B (W.fr W.F) μ ⟨killR s.r (f.o1 ++ f.o2), s.h⟩ a w := sr.kill _
  have hR : a.tmps.size = s1.r.length := by rw [lateC_len _ _ _ hend]; exact sr0.fr.size
  have hfuel : ops.toList.length = (L41 c.P ops.toList f).length + (f.t1.length - 0) + (f.t2.length - 0) + (L42 c.P ops.toList f).length := by omega
  suffices key : wpAnyD c.P ops Q (HeldL c.P ops []) (((L41 c.P ops.toList f).length + (f.t1.length - 0) + (f.t2.length - 0)) + (L42 c.P ops.toList f).length) (none4 ops.toList.length) a w by rwa [← hfuel] at key
  refine thr_sound hs hc hb1 hb2 hdis hsel hQ hf1 hf2 _ (L41 c.P ops.toList f) 0 0 [] [] _ μ _ a w W.F rfl (Nat.zero_le _) (Nat.zero_le _) (by simp) hmain hend (TI.none sr0.sim hR) (TI.none sr0.sim hR) sr0 (fun _ h => h) (fun d hd => kill_set _ _ _ (.inl ?_)) ?_ (fun x hx => by cases hx) (fun r hr => by cases hr) ?_
  · rcases hd with hd | hd
    · exact List.mem_append.2 (.inl (by simpa using hd))
    · exact List.mem_append.2 (.inr (by simpa using hd))
  · show Closed ops (none4 _)
    exact Closed.none _
  · intro F' μ' rs' a' w' hpre sr' hWF t1 t2 hjk hcl htold hcov
    obtain ⟨g2, μ2, e1, e2, e3, e4, e5⟩ := t2
    rw [List.take_length, hf2] at e1
    cases e1
    have fr2 : FR μ' r' a' := by
      rcases hr' with ⟨_, rfl⟩ | ⟨d, _, hsc, rfl⟩
      · exact sr'.fr
      · exact sr'.fr.here2 fun _ => sc1_rep hsc (e3.get d)
    have fin : ∃ μ'', μ' <+: μ'' ∧ SR c B W μ'' s2 a' w' := by
      rcases hs2 with ⟨_, rfl⟩ | ⟨d, v, hr1, hh1, rfl⟩
      · exact ⟨μ', List.prefix_refl _, fr2, sr'.sim.fewer hWF, sr'.glob, sr'.marks⟩
      · obtain ⟨g1, μ1, b1, b2, b3, b4, b5⟩ := t1
        rw [List.take_length, hf1] at b1
        cases b1
        have hlen1 := b2.len
        rw [hh1] at b2 b4 hlen1
        obtain ⟨l, rfl⟩ : ∃ l, μ1 = [l] := by
          match μ1, hlen1 with
          | [l], _ => exact ⟨l, rfl⟩
        obtain ⟨hl, hn⟩ := b4 0 _ l rfl (by simp) rfl
        refine ⟨μ' ++ [l], List.prefix_append _ _, (fr2.mono (List.prefix_append _ _)).here2 fun hd => ?_, sr'.sim.adopt hWF b2 hl hn (fun p hp v hv μ3 => ?_), fun n => (sr'.glob n).mono (List.prefix_append _ _), sr'.marks⟩
        · have hlr : d < (junks s1.r).length := by
            rw [show (junks s1.r).length = s1.r.length by simp [junks]]
            exact Nat.lt_of_lt_of_eq hd (fr2.size.symm.trans sr'.fr.size)
          have hrep := b3.get d
          rw [hr1, List.getElem?_set_self hlr, Option.getD_some] at hrep
          obtain ⟨l', hl', hv⟩ := hrep
          cases hl'
          exact ⟨l, by rw [← sr'.sim.len]; simp, hv⟩
        · obtain ⟨u, _, rfl⟩ := List.mem_map.1 hp
          exact ofV1_any hv μ3
    obtain ⟨μ'', hpre', srf⟩ := fin
    exact late_sound hs hc hsel hQ _ ck1 rs' _ μ'' s2 a' w' hlate hL srf hcl (told_held hs sr'.sim hcov htold) (fun r hr => (hcov r hr).imp id fun ⟨x, hx, hxr⟩ => ⟨x, hx, hxr.mono hpre'⟩) (fun a'' w'' ⟨μ3, hp3, sr3⟩ => hq a'' w'' ⟨μ3, (hpre.trans hpre').trans hp3, sr3⟩)
end


def exitOf : PX → Exit
  | .normal => .normal
  | .exit id => .exit id
  | .ret => .ret

/-- What the interpreter's way through a code says of the machine's. -/
def Way (r : Option Nat) (c : Ctx) (B : Nat) (W : Base) (code : Code) (s : St) (x : PX) (s' : St) : Prop :=
  ∀ μ a w, SR c B W μ s a w → code.wpIn (wideR r) 0 c.P (fun e a' w' => e = exitOf x ∧ Later c B W μ s' a' w') a w

theorem rounds_mono {F : Fence} {P : Program} {x : Code} {Q Q' : Exit → Act → World → Prop} (h : ∀ e a w, Q e a w → Q' e a w) : ∀ (n : Nat) (a : Act) (w : World), Code.roundsIn F 0 P x Q n a w → Code.roundsIn F 0 P x Q' n a w
  | 0, _, _, hr => hr.elim
  | n + 1, a, w, hr => by
    rw [roundsIn_succ] at hr ⊢
    refine wpIn_mono hr ?_
    intro e a' w' he
    cases e with
    | normal => exact rounds_mono h n a' w' he
    | _ => exact h _ _ _ he

theorem ev_sound (hs : c.p = std c.P) (hc : CallOk c) (hmix : c.P.follows .mixedOrders = true) (B : Nat) (W : Base) : ∀ (code : Code), drawsOk code = true → ∀ (r : Option Nat), (r.isSome = true → roundOk code = true) → ∀ (s : St) (k : PX → St → Res) (res : PV × PHeap), ev c code s k = some res → ∃ x s', k x s' = some res ∧ Way r c B W code s x s' := by
  intro code
  induction code with
  | skip => intro _ r _ s k res h; exact ⟨.normal, s, h, fun μ a w sr => wpIn_skip ⟨rfl, μ, List.prefix_refl _, sr⟩⟩
  | ret => intro _ r _ s k res h; exact ⟨.ret, s, h, fun μ a w sr => wpIn_ret ⟨rfl, μ, List.prefix_refl _, sr⟩⟩
  | exit id => intro _ r _ s k res h; exact ⟨.exit id, s, h, fun μ a w sr => wpIn_exit ⟨rfl, μ, List.prefix_refl _, sr⟩⟩
  | region id ops draw =>
    intro hd r hro s k res h
    simp only [ev, runRegion] at h
    have hnone : draw = true → r = none := by
      intro hd1
      cases r with
      | none => rfl
      | some l => have := hro rfl; simp only [roundOk, hd1, Bool.not_true, Bool.false_eq_true] at this
    cases hb : draw && !(ops.toList.all fun o => quietOp o.op) && !(mixB c.P ops.toList) with
    | true =>
      rw [hb, cond_true] at h
      cases hm2 : mix2B c.P ops.toList with
      | false =>
        rw [hm2, cond_false] at h
        have four : (bif mix4B c.P ops.toList (find4 ops.toList) then run4 c ops.toList (find4 ops.toList) s (fun s' => k .normal ⟨killR s'.r (c.kl (2 * id)), s'.h⟩) else none) = some res → ∃ x s', k x s' = some res ∧ Way r c B W (.region id ops draw) s x s' := by
          intro h4
          cases hm4 : mix4B c.P ops.toList (find4 ops.toList) with
          | false => rw [hm4] at h4; cases h4
          | true =>
            rw [hm4, cond_true] at h4
            obtain ⟨s', hk, hgo⟩ := run4_sound (B := B) (W := W) hs hc hm4 h4
            refine ⟨.normal, _, hk, fun μ a w sr => ?_⟩
            have hdraw : draw = true := by cases draw with
              | true => rfl
              | false => simp at hb
            subst hdraw
            obtain rfl := hnone rfl
            refine wpIn_region_any (F := wideR none) hmix (wpAnyD_any (S := HeldL c.P ops []) _ _ _ _ ?_)
            have := hgo (fun e a' w' => e = exitOf .normal ∧ Later c B W μ ⟨killR s'.r (c.kl (2 * id)), s'.h⟩ a' w') μ a { w with drawn := w.drawn + 1 } (fun x a w hx => by cases hx.1) (sr.tape _) (by
              rintro a' w' ⟨μ', hpre, sr'⟩
              exact ⟨rfl, μ', hpre, sr'.kill _⟩)
            simpa [none4] using this
        split at h
        · exact four h
        rename_i f _
        cases hm3 : mix3B c.P ops.toList f && inF3 f s.r.length with
        | false => rw [hm3] at h; exact four h
        | true =>
        rw [hm3, cond_true, runEarly_end] at h
        simp only [Option.bind_eq_some_iff] at h
        obtain ⟨⟨s1, ck1⟩, hE, v, hv, h⟩ := h
        obtain ⟨cv, hcv, h⟩ := catK_spec h
        rw [runLate_end, Option.bind_eq_some_iff] at h
        obtain ⟨s', hL, hk⟩ := h
        refine ⟨.normal, _, hk, fun μ a w sr => ?_⟩
        have hdraw : draw = true := by cases draw with
          | true => rfl
          | false => simp at hb
        subst hdraw
        obtain rfl := hnone rfl
        rw [Bool.and_eq_true] at hm3
        obtain ⟨hm3, hin⟩ := hm3
        unfold inF3 at hin
        simp only [Bool.and_eq_true, Nat.blt_eq] at hin
        obtain ⟨⟨⟨lb, lx⟩, ll⟩, lk⟩ := hin
        have lk : ∀ k, f.k = some k → k.d < s.r.length := fun k hk => by rw [hk] at lk; simpa using lk
        unfold mix3B at hm3
        simp only [Bool.and_eq_true, Array.toArray_toList, beq_iff_eq] at hm3
        obtain ⟨⟨⟨⟨hsel, his⟩, hok1⟩, hLok⟩, hlen⟩ := hm3
        have ok := fltIs_spec his
        have sr1 : SR c B W μ ⟨killR s.r (killF f), s.h⟩ a { w with drawn := w.drawn + 1 } := (sr.tape _).kill _
        have klen : ∀ (ns : List Nat) (r : List PV), (killR r ns).length = r.length := fun ns => by
          induction ns with
          | nil => intro r; rfl
          | cons n ns ih => intro r; show (killR (r.set n .junk) ns).length = _; rw [ih, List.length_set]
        have kset : ∀ (ns : List Nat) (r : List PV) (n : Nat), (n ∈ ns ∨ r.set n .junk = r) → (killR r ns).set n .junk = killR r ns := fun ns => by
          induction ns with
          | nil => intro r n h; exact h.resolve_left (by simp)
          | cons n' ns ih =>
            intro r n h
            show (killR (r.set n' .junk) ns).set n .junk = killR (r.set n' .junk) ns
            refine ih _ _ ?_
            by_cases hn : n = n'
            · subst hn; exact .inr (by rw [List.set_set])
            · rcases h with h | h
              · exact .inl ((List.mem_cons.1 h).resolve_left hn)
              · exact .inr (by rw [List.set_comm _ _ (Ne.symm hn), h])
        have q0 : FI f v cv W W 0 μ ⟨killR s.r (killF f), s.h⟩ a { w with drawn := w.drawn + 1 } := by
          refine ⟨fun _ => rfl, fun h => (by omega), fun h => (by omega), kset _ _ _ (.inl ?_), kset _ _ _ (.inl ?_), kset _ _ _ (.inl ?_), ?_, ?_, ?_, fun k hk => kset _ _ _ (.inl ?_), fun k hk => ?_⟩
          · unfold killF; split <;> simp
          · unfold killF; split <;> simp
          · unfold killF; split <;> simp
          · rw [klen]; exact lb
          · rw [klen]; exact lx
          · rw [klen]; exact ll
          · unfold killF; rw [hk]; simp
          · rw [klen]; exact lk k hk
        have htop : ∀ m, lst f 4 m = lst f (topF f) m := fun m => by
          unfold topF
          split
          · rfl
          · rename_i hk
            show (match f.k with | some k => (lst3 f m).setIfInBounds k.i true | none => lst3 f m) = lst3 f m
            rw [hk]
        rw [htop] at hLok
        refine wpIn_region_any (F := wideR none) hmix (wpAnyD_any (S := fun _ _ => True) _ _ _ _ ?_)
        have hl1 : f.tl < s1.r.length := by rw [early_len _ _ _ hE]; exact q0.ll
        have := flt_sound (Q := fun e a' w' => e = exitOf .normal ∧ Later c B W μ ⟨killR s'.r (c.kl (2 * id)), s'.h⟩ a' w') (m := (fltL2 c.P ops.toList f).length) hs hc ok hsel (fun x a w hx => by cases hx.1) hl1 hv hcv _ (fltL1 c.P ops.toList f) 0 _ μ _ [] a _ W rfl (by omega) rfl hok1 hE q0 sr1 (Closed.none _) (fun μ' a' w' hpre sr' hcl => by
          refine wpAnyD_mono (S' := HeldL c.P ops []) (fun _ _ _ => trivial) _ _ _ _ ?_
          exact late_sound hs hc hsel (fun x a w hx => by cases hx.1) _ _ [] _ μ' _ a' w' hLok hL sr' hcl (fun r hr => by cases hr) (fun r hr => by cases hr) (by
            rintro a'' w'' ⟨μ'', hpre', sr''⟩
            exact ⟨rfl, μ'', hpre.trans hpre', sr''.kill _⟩))
        rw [Nat.sub_zero, hlen] at this
        simpa [lst] using this
      | true =>
        rw [hm2, cond_true, runEarly_end] at h
        simp only [runLate_end, Option.bind_eq_some_iff] at h
        obtain ⟨⟨s1, ck1⟩, hE, s', hL, hk⟩ := h
        refine ⟨.normal, _, hk, fun μ a w sr => ?_⟩
        have hdraw : draw = true := by cases draw with
          | true => rfl
          | false => simp at hb
        subst hdraw
        obtain rfl := hnone rfl
        have sr1 : SR c B W μ s a { w with drawn := w.drawn + 1 } := sr.tape _
        unfold mix2B at hm2
        simp only [Bool.and_eq_true, Array.toArray_toList, beq_iff_eq] at hm2
        obtain ⟨⟨⟨hsel, hEok⟩, hLok⟩, hlen⟩ := hm2
        obtain ⟨a1, rs, srE, ⟨nw, hnw, hrel⟩, hheld, hcl, hgo⟩ := early_sound (Q := fun e a' w' => e = exitOf .normal ∧ Later c B W μ ⟨killR s'.r (c.kl (2 * id)), s'.h⟩ a' w') hs hsel (fun x a w hx => by cases hx.1) _ _ s [] a s1 ck1 hEok hE sr1 (Closed.none _)
        rw [List.append_nil] at hnw
        subst hnw
        refine wpIn_region_any (F := wideR none) hmix (wpAnyD_any (S := HeldL c.P ops []) _ _ _ _ ?_)
        have := hgo [] (heldL c.P ops.toList).length (fun r hr => by cases hr) (by
          rw [List.append_nil]
          exact late_sound hs hc hsel (fun x a w hx => by cases hx.1) _ _ rs _ μ s1 a1 _ hLok hL srE hcl (fun r hr _ => hheld r hr) (fun r hr => .inr (rel_mem hrel r hr)) (by
            rintro a' w' ⟨μ', hpre, sr'⟩
            exact ⟨rfl, μ', hpre, sr'.kill _⟩))
        rw [Nat.add_comm, hlen] at this
        simpa using this
    | false =>
      rw [hb] at h
      simp only [cond_false, runOps_end, Option.bind_eq_some_iff] at h
      obtain ⟨s', hend, hk⟩ := h
      refine ⟨.normal, _, hk, fun μ a w sr => ?_⟩
      cases draw with
      | false =>
        refine wpIn_region_listE (ops_sound hs hc ops.toList μ s a w hend sr ?_)
        rintro a' w' ⟨μ', hpre, sr'⟩
        exact ⟨rfl, μ', hpre, sr'.kill _⟩
      | true =>
        obtain rfl := hnone rfl
        have sr1 : SR c B W μ s a { w with drawn := w.drawn + 1 } := sr.tape _
        by_cases hquiet : ops.toList.all (fun o => quietOp o.op) = true
        case neg =>
          have hm : mixB c.P ops.toList = true := by
            have hq' : ops.toList.all (fun o => quietOp o.op) = false := by simpa using hquiet
            rw [hq'] at hb
            simpa using hb
          unfold mixB at hm
          rw [Bool.and_eq_true, Array.toArray_toList] at hm
          refine wpIn_region_any (F := wideR none) hmix (wpAnyD_any _ _ _ _ (S := fun _ _ => True) ?_)
          have := mix_ops_sound (Q := fun e a' w' => e = exitOf .normal ∧ Later c B W μ ⟨killR s'.r (c.kl (2 * id)), s'.h⟩ a' w') hs hc hm.1 (fun x a w hx => by cases hx.1) ops.toList 0 (Array.replicate ops.toList.length false) μ s a _ (by simp) hm.2 hend sr1 (Closed.none _) (by
            rintro a' w' ⟨μ', hpre, sr'⟩
            exact ⟨rfl, μ', hpre, sr'.kill _⟩)
          simpa using this
        have hall : ∀ o ∈ ops.toList, quietOp o.op = true := List.all_eq_true.1 hquiet
        have hlex : Region.lexB .any ops = true := by
          simp only [drawsOk] at hd
          have : ops.toList.all (fun o => quietOp o.op) = true := List.all_eq_true.2 hall
          rw [this] at hd
          simpa using hd
        refine wpIn_wide.2 (wp_region_quiet (C := fun w' => w'.heap = w.heap ∧ ∃ n, w' = { w with drawn := n }) hmix hlex ⟨rfl, _, rfl⟩ ?_)
        refine quiet_ops_sound hs (w := w) ops.toList μ s a hall hend sr ?_
        intro a' sr' w' ⟨_, n, hn⟩
        subst hn
        exact ⟨rfl, μ, List.prefix_refl _, (sr'.tape n).kill _⟩
  | seq x y ihx ihy =>
    intro hd r hro s k res h
    simp only [drawsOk, Bool.and_eq_true] at hd
    obtain ⟨e1, s1, hk, w1⟩ := ihx hd.1 r (fun hx => by have := hro hx; simp only [roundOk, Bool.and_eq_true] at this; exact this.1) s _ res h
    cases e1 with
    | normal =>
      obtain ⟨e2, s2, hk2, w2⟩ := ihy hd.2 r (fun hx => by have := hro hx; simp only [roundOk, Bool.and_eq_true] at this; exact this.2) s1 k res hk
      refine ⟨e2, s2, hk2, fun μ a w sr => wpIn_seq (wpIn_mono (w1 μ a w sr) ?_)⟩
      rintro e a' w' ⟨rfl, μ', hpre, sr'⟩
      exact wpIn_mono (w2 μ' a' w' sr') fun e a'' w'' ⟨he, μ'', hpre', sr''⟩ => ⟨he, μ'', hpre.trans hpre', sr''⟩
    | exit id => exact ⟨.exit id, s1, hk, fun μ a w sr => wpIn_seq (wpIn_mono (w1 μ a w sr) (by rintro e a' w' ⟨rfl, h'⟩; exact ⟨rfl, h'⟩))⟩
    | ret => exact ⟨.ret, s1, hk, fun μ a w sr => wpIn_seq (wpIn_mono (w1 μ a w sr) (by rintro e a' w' ⟨rfl, h'⟩; exact ⟨rfl, h'⟩))⟩
  | cond x y z ihy ihz =>
    intro hd r hro s k res h
    simp only [drawsOk, Bool.and_eq_true] at hd
    simp only [ev, condP] at h
    split at h
    · rename_i t ht
      have hev : ∀ μ a w, SR c B W μ s a w → a.eval x = .bool t := by
        intro μ a w sr
        have := sr.fr.eval sr.glob x
        rw [ht] at this
        exact this
      cases t with
      | true =>
        obtain ⟨e1, s1, hk, w1⟩ := ihy hd.1 r (fun hx => by have := hro hx; simp only [roundOk, Bool.and_eq_true] at this; exact this.1) s k res h
        exact ⟨e1, s1, hk, fun μ a w sr => wpIn_cond_true (hev μ a w sr) (w1 μ a w sr)⟩
      | false =>
        obtain ⟨e1, s1, hk, w1⟩ := ihz hd.2 r (fun hx => by have := hro hx; simp only [roundOk, Bool.and_eq_true] at this; exact this.2) s k res h
        exact ⟨e1, s1, hk, fun μ a w sr => wpIn_cond_false (hev μ a w sr) (w1 μ a w sr)⟩
    · cases h
  | block id x ih =>
    intro hd r hro s k res h
    obtain ⟨e1, s1, hk, w0⟩ := ih hd r (fun hx => hro hx) ⟨killR s.r (c.kl (2 * id + 1)), s.h⟩ _ res h
    have w1 : Way r c B W x s e1 s1 := fun μ a w sr => w0 μ a w (sr.kill _)
    cases e1 with
    | normal => exact ⟨.normal, s1, hk, fun μ a w sr => wpIn_block (wpIn_mono (w1 μ a w sr) (by rintro e a' w' ⟨rfl, h'⟩; exact ⟨rfl, h'⟩))⟩
    | ret => exact ⟨.ret, s1, hk, fun μ a w sr => wpIn_block (wpIn_mono (w1 μ a w sr) (by rintro e a' w' ⟨rfl, h'⟩; exact ⟨rfl, h'⟩))⟩
    | exit j =>
      simp only [kBlock] at hk
      by_cases hj : j = id
      · subst hj
        simp only [BEq.rfl, cond_true] at hk
        refine ⟨.normal, s1, hk, fun μ a w sr => wpIn_block (wpIn_mono (w1 μ a w sr) ?_)⟩
        rintro e a' w' ⟨rfl, h'⟩
        simp only [exitOf, Exit.inBlock, if_true]
        exact ⟨trivial, h'⟩
      · have hb : (j == id) = false := by simpa using hj
        rw [hb] at hk
        refine ⟨.exit j, s1, hk, fun μ a w sr => wpIn_block (wpIn_mono (w1 μ a w sr) ?_)⟩
        rintro e a' w' ⟨rfl, h'⟩
        simp only [exitOf, Exit.inBlock, hj, if_false]
        exact ⟨trivial, h'⟩
  | loop x ih =>
    intro hd r hro s k res h
    simp only [ev] at h
    simp only [drawsOk] at hd
    have key : ∀ (n : Nat) (s : St), loopK (ev c x) n s k = some res → ∃ e s', k e s' = some res ∧ ∀ μ a w, SR c B W μ s a w → Code.roundsIn (wideR r) 0 c.P x (fun e' a' w' => e' = exitOf e ∧ Later c B W μ s' a' w') n a w := by
      intro n
      induction n with
      | zero => intro s h; cases h
      | succ n ihn =>
        intro s h
        obtain ⟨e1, s1, hk, w1⟩ := ih hd r (fun hx => hro hx) s _ res h
        cases e1 with
        | normal =>
          obtain ⟨e2, s2, hk2, w2⟩ := ihn s1 hk
          refine ⟨e2, s2, hk2, fun μ a w sr => ?_⟩
          rw [roundsIn_succ]
          refine wpIn_mono (w1 μ a w sr) ?_
          rintro e a' w' ⟨rfl, μ', hpre, sr'⟩
          refine rounds_mono ?_ n a' w' (w2 μ' a' w' sr')
          exact fun e a'' w'' ⟨he, μ'', hpre', sr''⟩ => ⟨he, μ'', hpre.trans hpre', sr''⟩
        | exit id => exact ⟨.exit id, s1, hk, fun μ a w sr => by rw [roundsIn_succ]; exact wpIn_mono (w1 μ a w sr) (by rintro e a' w' ⟨rfl, h'⟩; exact ⟨rfl, h'⟩)⟩
        | ret => exact ⟨.ret, s1, hk, fun μ a w sr => by rw [roundsIn_succ]; exact wpIn_mono (w1 μ a w sr) (by rintro e a' w' ⟨rfl, h'⟩; exact ⟨rfl, h'⟩)⟩
    obtain ⟨e, s', hk, w1⟩ := key _ s h
    exact ⟨e, s', hk, fun μ a w sr => wpIn_loop_rounds _ (w1 μ a w sr)⟩
  | rangeFunc g ps x y _ _ =>
    intro hd r hro s k res h
    cases r with
    | some l => have := hro rfl; cases this
    | none =>
    simp only [ev, Option.bind_eq_some_iff] at h
    obtain ⟨⟨v, h2⟩, hcall, hrk⟩ := h
    -- what the machine does, whatever the record says in the end
    have key : ∀ (st : Nat) (kl : Nat → List Nat) (r0 : List PV) (ps0 : List Tmp) (x0 y0 : Code) (pe : Option PX), st ≠ 1 → h2[s.h.length + 1]? = some (.lp st kl r0 ps0 x0 y0 pe) → ∀ (e : PX), (pe.bind codeOf = none ∧ e = .normal ∨ e ≠ .normal ∧ pe.bind codeOf = codeOf e) →
        Way none c B W (.rangeFunc g ps x y) s e ⟨s.r, h2.set (s.h.length + 1) .dead⟩ := by
      intro st kl r0 ps0 x0 y0 pe hst hlp e he μ a w sr
      refine wpIn_rangeFunc (F := Fence.wide) fun fn _ => ?_
      have hrec : RecOk μ 0 s.r ps.toList x y none { state := .ready, pending := none, fn, tmps := a.tmps, params := ps, assign := x, body := y, defers := w.heap.size } := ⟨rfl, rfl, rfl, rfl, rfl, sr.fr.regs⟩
      have sim1 := sr.sim.enter c.kl hrec
      have hh1 : s.h ++ [PObj.dead, PObj.lp 0 c.kl s.r ps.toList x y none] = s.h ++ [PObj.dead] ++ [PObj.lp 0 c.kl s.r ps.toList x y none] := by simp
      rw [hh1] at hcall
      obtain ⟨W1, hW1⟩ : ∃ W1, (w.alloc (.deferred (some []))).alloc (.loop { state := .ready, pending := none, fn, tmps := a.tmps, params := ps, assign := x, body := y, defers := w.heap.size }) = W1 := ⟨_, rfl⟩
      rw [hW1] at sim1
      have hpre1 : μ <+: μ ++ [(⟨0, 0, 0, 0⟩ : Loc)] ++ [⟨w.heap.size + 1, 0, 0, 0⟩] := by rw [List.append_assoc]; exact List.prefix_append _ _
      have hL1 : (μ ++ [(⟨0, 0, 0, 0⟩ : Loc)] ++ [⟨w.heap.size + 1, 0, 0, 0⟩])[s.h.length + 1]? = some ⟨w.heap.size + 1, 0, 0, 0⟩ := by
        rw [List.getElem?_append_right (by simp; have := sr.sim.len; omega)]; simp [sr.sim.len]
      have hD1 : W1.heap[w.heap.size]? = some (.deferred (some [])) := by
        rw [← hW1, Below.heap_alloc _ _ _ (by rw [World.size_alloc]; omega)]; exact World.alloc_heap_new w _
      have hold : KeepsD w W1 := fun d hd => by
        have hlt := (Array.getElem?_eq_some_iff.1 hd).1
        rw [← hW1, Below.heap_alloc _ _ _ (by rw [World.size_alloc]; omega), Below.heap_alloc _ _ _ hlt]; exact hd
      obtain ⟨gf, cap, hgv, hcf, hcalls⟩ := fcall_ok hc sim1.rebase (fun n => (sr.glob n).mono hpre1) ((sr.fr.eval sr.glob g).mono hpre1) (args := [.yld (s.h.length + 1)]) (xs := #[.func (.yield (w.heap.size + 1)) #[] #[]]) ⟨⟨_, hL1, rfl⟩, trivial⟩ hcall
      refine ⟨w.heap.size + 1, [{ target := .collected w.heap.size, args := #[] }], W1, { target := .fn (.func gf) cap, args := #[.func (.yield (w.heap.size + 1)) #[] #[]] }, W1, gf, #[.func (.yield (w.heap.size + 1)) #[] #[]] ++ cap, W1, ?_, ?_, fun _ _ => trivial, ?_, fun hx => (by cases hx), ?_⟩
      · rw [← hW1]; exact run_enterLoop_outer _ _ _ _ _
      · simp only [resolve, hgv]
        simp [Deferred.ofValue, Act.eval]
      · simp [invoke, hcf]
      · refine callsIn_wide.2 (hcalls.mono ?_)
        rintro e' w3 ⟨v', rfl, μ3, hpre3, _, sim3⟩
        have hL3 : μ3[s.h.length + 1]? = some ⟨w.heap.size + 1, 0, 0, 0⟩ := get_prefix hpre3 hL1
        obtain ⟨_, rec3, hrec3, hok3⟩ := sim3.obj _ _ _ hlp hL3
        have hbusy : rec3.state ≠ .busy := by
          rw [hok3.1]
          cases st with
          | zero => simp [stOf]
          | succ st => cases st with
            | zero => exact absurd rfl hst
            | succ st => simp [stOf]
        have hend := run_endLoop (P := c.P) hrec3 hbusy
        have sim4 := sim3.setLp hlp rfl hL3 (o' := .dead) (rec' := { rec3 with state := .exhausted }) (.inl rfl)
        obtain ⟨w4, hw4⟩ : ∃ w4, w3.putObj (w.heap.size + 1) (.loop { rec3 with state := .exhausted }) = w4 := ⟨_, rfl⟩
        have hend : (Instr.endLoop (w.heap.size + 1)).run c.P w3 = .ok rec3.pending w4 := by rw [← hw4]; exact hend
        have sim4 : Sim B (W.at W1) μ3 (h2.set (s.h.length + 1) .dead) w4 := by rw [← hw4]; exact sim4
        have fin : Later c B W μ ⟨s.r, h2.set (s.h.length + 1) .dead⟩ { a with defers := [{ target := .collected w.heap.size, args := #[] }] ++ a.defers } w4 := by
          refine ⟨μ3, hpre1.trans hpre3, ⟨⟨(sr.fr.mono (hpre1.trans hpre3)).regs⟩, sim1.back sim4, fun n => (sr.glob n).mono (hpre1.trans hpre3), ?_, ?_⟩⟩
          · intro d hd
            rcases List.mem_cons.1 hd with rfl | hd
            · exact ⟨w.heap.size, rfl, sr.sim.base, sr.sim.below.size, sim4.marks _ hD1⟩
            · exact (sr.marks.keep hold |>.keep sim4.marks).1 d hd
          · refine List.Pairwise.cons ?_ sr.marks.2
            rintro d hd rfl
            obtain ⟨D, e, _, _, h3⟩ := sr.marks.1 _ hd
            cases e
            have := (Array.getElem?_eq_some_iff.1 h3).1
            omega
        refine ⟨_, _, hend, ?_⟩
        rw [hok3.2.1]
        rcases he with ⟨hpe, rfl⟩ | ⟨hne, hpe⟩
        · rw [hpe]; exact ⟨rfl, fin⟩
        · rw [hpe]
          cases e with
          | normal => exact absurd rfl hne
          | ret => exact wpIn_ret ⟨rfl, fin⟩
          | exit j => exact wpIn_exit ⟨rfl, fin⟩
    unfold rangeK at hrk
    split at hrk
    · rename_i kl r0 ps0 x0 y0 hlp
      exact ⟨.normal, _, hrk, key 0 kl r0 ps0 x0 y0 none (by decide) hlp .normal (.inl ⟨rfl, rfl⟩)⟩
    · rename_i kl r0 ps0 x0 y0 hlp
      exact ⟨.ret, _, hrk, key 2 kl r0 ps0 x0 y0 _ (by decide) hlp .ret (.inr ⟨by simp, rfl⟩)⟩
    · rename_i kl r0 ps0 x0 y0 j hlp
      have pick : ∀ (l : List Nat), pickExit (l.map fun i => (i, fun h => k (.exit i) ⟨s.r, h⟩)) j (h2.set (s.h.length + 1) .dead) = some res → k (.exit j) ⟨s.r, h2.set (s.h.length + 1) .dead⟩ = some res := by
        intro l
        induction l with
        | nil => intro h; cases h
        | cons i l ih =>
          intro h
          simp only [List.map_cons, pickExit] at h
          cases hji : j == i with
          | true =>
            rw [hji, cond_true] at h
            rw [beq_iff_eq] at hji
            rw [hji]; exact h
          | false => rw [hji, cond_false] at h; exact ih h
      exact ⟨.exit j, _, pick _ hrk, key 2 kl r0 ps0 x0 y0 _ (by decide) hlp (.exit j) (.inr ⟨by simp, rfl⟩)⟩
    · cases hrk
  | _ => intro _ r _ s k res h; simp [ev] at h

theorem load_no_tup {P : Program} {t : TypeId} {a : PV} {h : PHeap} {p : PV} {μ : List Loc} {v : Value} (hp : loadP P t a h = some p) (hr : rep μ p v) (hc : ∀ (id j : Nat) q, (cellsAt h id)[j]? = some q → ∃ x, repc μ q x) : repa μ p v := by
  unfold loadP at hp
  split at hp
  · split at hp
    · obtain ⟨x, hx⟩ := hc _ _ _ hp
      cases p <;> first | exact hr | exact hx.elim
    · split at hp
      · split at hp
        · cases hp; exact hr
        · cases hp
      · cases hp
    · cases hp
  · cases hp

theorem result_sound {P : Program} {μ : List Loc} {h : PHeap} {w : World} (s : Sim B W μ h w) {r : List PV} {a : Act} (f : FR μ r a) {v : ResultVar} {p : PV} (hp : resultP P r h v = some p)
    (g : ResultVar → Sem Value) (g1 : ∀ t, g (.tmp t) = pure (a.tmps.getD t undef)) (g2 : ∀ t ty, g (.cell t ty) = (do loadVar ty (← asAddr (a.tmps.getD t undef)))) :
    ∃ x, repa μ p x ∧ (g v).run P w = .ok x w := by
  cases v with
  | tmp t =>
    simp only [resultP] at hp
    have hf := f.get t
    refine ⟨a.tmps.getD t undef, ?_, by rw [g1]; rfl⟩
    cases hq : r[t]? with
    | none => rw [hq] at hp; cases hp
    | some q =>
      rw [hq] at hp hf
      have hp : resV q = some p := hp
      simp only [Option.getD_some] at hf
      unfold resV at hp
      split at hp
      · cases hp
      · rename_i hno
        cases hp
        cases p <;> first | exact hf | exact absurd rfl (hno _)
  | cell t ty =>
    simp only [resultP] at hp
    split at hp
    · rename_i q hq
      have hg := f.get t
      rw [hq] at hg
      simp only [Option.getD_some] at hg
      obtain ⟨x, hx, hv⟩ := load_reads s hp hg
      have hv := hv w rfl
      have hptr : ∃ l, a.tmps.getD t undef = .pointer (some l) := by
        cases q <;> simp only [loadP] at hp <;> first | cases hp | (obtain ⟨l, _, h⟩ := rep_ptr hg; exact ⟨_, h⟩)
      obtain ⟨l, hl⟩ := hptr
      refine ⟨x, load_no_tup hp hx (fun id j q hj => ?_), ?_⟩
      · obtain ⟨l, hl⟩ := locAt s hj
        obtain ⟨x, _, hr⟩ := s.cellAt hl hj
        exact ⟨x, hr⟩
      · rw [g2, hl]
        rw [hl] at hv
        simpa [Instr.loadAt, Instr.sureAddr, asAddr] using hv
    · cases hp

theorem results_sound {P : Program} {μ : List Loc} {h : PHeap} {w : World} (s : Sim B W μ h w) {r : List PV} {a : Act} (f : FR μ r a) :
    ∀ (vs : List ResultVar) (ps : List PV), resultsP P r h vs = some ps →
      ∃ xs : List Value, All2 (repa μ) ps xs ∧ ∀ (g : ResultVar → Sem Value), (∀ t, g (.tmp t) = pure (a.tmps.getD t undef)) → (∀ t ty, g (.cell t ty) = (do loadVar ty (← asAddr (a.tmps.getD t undef)))) → (vs.mapM g).run P w = .ok xs w
  | [], ps, hp => by
    simp only [resultsP] at hp
    cases hp
    exact ⟨[], trivial, fun g _ _ => by simp⟩
  | v :: vs, ps, hp => by
    simp only [resultsP, Option.bind_eq_some_iff, Option.map_eq_some_iff] at hp
    obtain ⟨p, hp1, ps', hp2, rfl⟩ := hp
    let g0 : ResultVar → Sem Value := fun v => match v with | .tmp t => pure (a.tmps.getD t undef) | .cell t ty => do loadVar ty (← asAddr (a.tmps.getD t undef))
    obtain ⟨x, hx, hrun⟩ := result_sound s f hp1 g0 (fun _ => rfl) (fun _ _ => rfl)
    obtain ⟨xs, hxs, hruns⟩ := results_sound s f vs ps' hp2
    refine ⟨x :: xs, ⟨hx, hxs⟩, fun g g1 g2 => ?_⟩
    have hg : g v = g0 v := by cases v with
      | tmp t => rw [g1]
      | cell t ty => rw [g2]
    rw [List.mapM_cons, Sem.run_bind, hg, hrun]
    simp only [Result.andThen_ok, Sem.run_bind, hruns g g1 g2, Sem.run_pure]

/-- The marks among the deferred calls hand over nothing. -/
theorem leaves_marks {P : Program} {fn : Func} {tmps : Array Value} {R : Ending → World → Prop} {μ : List Loc} {h : PHeap} : ∀ (ds : List Deferred) (w : World), Marked B W.toWorld ds w → Sim B W μ h w →
    (∀ w', Sim B W μ h w' → ∃ v, (results fn tmps).run P w' = .ok v w' ∧ R (.returned v) w') → LeavesInM Fence.wide 0 P fn tmps R ds .returning w
  | [], w, _, sim, hR => hR w sim
  | d :: ds, w, m, sim, hR => by
    obtain ⟨D, rfl, h1, h2, h3⟩ := m.1 d (List.mem_cons_self ..)
    have hp := List.pairwise_cons.1 m.2
    refine ⟨by simp, .inl ⟨D, _, rfl, run_takeDeferred h3, leaves_marks ds _ ⟨fun d' hd' => ?_, hp.2⟩ (sim.shut h1 h2 h3) hR⟩⟩
    obtain ⟨D', rfl, h1', h2', h3'⟩ := m.1 d' (List.mem_cons_of_mem _ hd')
    refine ⟨D', rfl, h1', h2', ?_⟩
    rw [World.putObj_heap_other (by rintro rfl; exact hp.1 _ hd' rfl)]
    exact h3'

theorem body_sound (hs : c.p = std c.P) (hc : CallOk c) (hmix : c.P.follows .mixedOrders = true) {fn : Func} {f : FuncId} (hf : c.P.funcs[f]? = some fn) {body : Code} (hb : fn.body = some body) (hd : drawsOk body = true)
    {args : List PV} {h : PHeap} {res : PV × PHeap} (hr : runBody c fn args h = some res) {μ : List Loc} {w : World} {xs : Array Value} (sim : Sim B W μ h w)
    (hgl : ∀ n, rep μ (c.glob n) (.pointer (some ⟨n, 0, none⟩))) (ha : All2 (rep μ) args xs.toList) :
    Calls c.P f xs w fun e w' => ∃ v, e = .returned v ∧ Good B W μ res.1 res.2 v w' := by
  unfold runBody at hr
  have hbody : bodyOf fn = body := by simp [bodyOf, hb]
  rw [hbody] at hr
  obtain ⟨x, s', hk, way⟩ := ev_sound hs hc hmix B W body hd none (fun hx => by cases hx) _ _ res hr
  refine callsIn_wide.1 (callsIn_of_wp_marks (n := 0) hf hb trivial (wpIn_mono (way μ _ w ⟨⟨?_⟩, sim, hgl, Marked.nil⟩) ?_))
  · have h1 := ha.append (All2.replicate (undef_rep μ) (fn.ntmps - xs.size))
    have hl : args.length = xs.size := by have := ha.length; simpa using this
    simpa [start, hl] using h1
  · rintro e a' w' ⟨rfl, μ', hpre, sr'⟩
    have fin : ∀ (hk : resultsK c.P s'.r s'.h fn.results.toList (fun ys => some (oneP ys, s'.h)) = some res), LeavesInM Fence.wide 0 c.P fn a'.tmps (fun e w' => ∃ v, e = .returned v ∧ Good B W μ res.1 res.2 v w') a'.defers .returning w' := by
      intro hk
      rw [resultsK_eq, Option.bind_eq_some_iff] at hk
      obtain ⟨ps, hps, hk⟩ := hk
      cases hk
      refine leaves_marks _ w' sr'.marks sr'.sim fun w2 sim2 => ?_
      obtain ⟨ys, hys, hrun⟩ := results_sound sim2 sr'.fr fn.results.toList ps hps
      refine ⟨(if h : ys.toArray.size = 1 then ys.toArray[0] else .tuple ys.toArray), ?_, _, rfl, μ', hpre, ?_, sim2⟩
      · unfold results
        rw [Array.mapM_eq_mapM_toList]
        simp only [Sem.run_bind, Sem.run_map]
        rw [hrun _ (fun _ => rfl) (fun _ _ => rfl)]
        simp only [Result.andThen_ok, Sem.run_pure]
      · match ps, ys, hys with
        | [], [], _ => exact ⟨#[], rfl, trivial⟩
        | [p], [y], hys => exact hys.1.rep
        | p :: p' :: ps, y :: y' :: ys, hys => exact ⟨_, rfl, hys⟩
    cases x with
    | normal => exact fin hk
    | ret => exact fin hk
    | exit id => cases hk

theorem draws_of_round : ∀ (code : Code), roundOk code = true → drawsOk code = true := by
  intro code
  induction code with
  | region id ops draw => intro h; simp only [roundOk] at h; simp only [drawsOk, h, Bool.true_or]
  | seq a b iha ihb => intro h; simp only [roundOk, Bool.and_eq_true] at h; simp only [drawsOk, iha h.1, ihb h.2, Bool.and_self]
  | cond x a b iha ihb => intro h; simp only [roundOk, Bool.and_eq_true] at h; simp only [drawsOk, iha h.1, ihb h.2, Bool.and_self]
  | block id a ih => intro h; exact ih h
  | loop a ih => intro h; exact ih h
  | _ => intro _; rfl

theorem setPs_rep {μ : List Loc} : ∀ {ps : List Tmp} {args : List PV} {xs : List Value} {r : List PV} {tmps : Array Value}, All2 (rep μ) args xs → All2 (rep μ) r tmps.toList →
    All2 (rep μ) (setPs r ps args) ((ps.zip xs).foldl (fun (t : Array Value) (q : Tmp × Value) => t.setIfInBounds q.1 q.2) tmps).toList
  | [], _, _, _, _, _, h => by simpa [setPs] using h
  | _ :: _, [], [], _, _, _, h => by simpa [setPs] using h
  | p :: ps, v :: args, x :: xs, r, tmps, ha, h => by
    simp only [setPs, List.zip_cons_cons, List.foldl_cons]
    exact setPs_rep ha.2 (by rw [Array.toList_setIfInBounds]; exact h.set p ha.1)
  | _ :: _, [], _ :: _, _, _, ha, _ => ha.elim
  | _ :: _, _ :: _, [], _, _, ha, _ => ha.elim

/-- A round of a range over a function. -/
theorem round_sound (hs : c.p = std c.P) (hc : CallOk c) (hmix : c.P.follows .mixedOrders = true) {a b : Code} (ha : roundOk a = true) (hb : roundOk b = true) {id : Nat} {s : St} {res : PV × PHeap} (hr : roundK c a b id s = some res)
    {μ : List Loc} {act : Act} {w : World} (sr : SR c B W μ s act w) (hd : act.defers = []) {l : Loc} (hl : μ[id]? = some l) (f : FuncId) :
    RoundIn Fence.wide 0 c.P l.block f act.tmps a b w fun e w' => ∃ v, e = .returned v ∧ Good B W μ res.1 res.2 v w' := by
  unfold roundK at hr
  obtain ⟨x1, s1, hk1, way1⟩ := ev_sound hs hc hmix B W a (draws_of_round a ha) (some l.block) (fun _ => ha) _ _ res hr
  cases x1 with
  | exit j => cases hk1
  | ret => cases hk1
  | normal =>
  simp only [Option.bind_eq_some_iff] at hk1
  obtain ⟨h2, hbeg, hk1⟩ := hk1
  obtain ⟨x2, s2, hk2, way2⟩ := ev_sound hs hc hmix B W b (draws_of_round b hb) (some l.block) (fun _ => hb) _ _ res hk1
  refine roundIn_of_wpIn trivial ?_
  have hact : act = { tmps := act.tmps, defers := [] } := by rw [← hd]
  rw [← hact]
  refine wpIn_mono (way1 μ act w sr) ?_
  rintro e a1 w1 ⟨rfl, μ1, hpre1, sr1⟩
  unfold beginL at hbeg
  split at hbeg
  · rename_i kl r0 ps0 x0 y0 pe hlp
    cases hbeg
    have hl1 := get_prefix hpre1 hl
    obtain ⟨_, rec1, hrec1, hok1⟩ := sr1.sim.obj _ _ _ hlp hl1
    have sim2 := sr1.sim.setLp hlp rfl hl1 (o' := .lp 1 kl r0 ps0 x0 y0 pe) (rec' := { rec1 with state := .busy }) (.inr ⟨1, kl, r0, ps0, x0, y0, pe, rfl, rfl, hok1.2.1, hok1.2.2.1, hok1.2.2.2.1, hok1.2.2.2.2.1, hok1.2.2.2.2.2⟩)
    have hkeep : KeepsD w1 (w1.putObj l.block (.loop { rec1 with state := .busy })) := fun d hd => by
      rw [World.putObj_heap_other (by rintro rfl; rw [hrec1] at hd; cases hd)]; exact hd
    refine ⟨_, run_beginRound hrec1 hok1.1, wpIn_mono (way2 μ1 a1 _ ⟨sr1.fr, sim2, sr1.glob, sr1.marks.keep hkeep⟩) ?_⟩
    rintro e a2 w2 ⟨rfl, μ2, hpre2, sr2⟩
    have hl2 := get_prefix hpre2 hl1
    unfold endL at hk2
    split at hk2
    · rename_i kl' r1 ps1 x1 y1 pe1 hlp2
      cases hk2
      obtain ⟨_, rec2, hrec2, hok2⟩ := sr2.sim.obj _ _ _ hlp2 hl2
      exact ⟨_, _, run_endRound none hrec2, _, rfl, μ2, hpre1.trans hpre2, rfl, sr2.sim.setLp hlp2 rfl hl2 (.inr ⟨0, kl', r1, ps1, x1, y1, none, rfl, rfl, rfl, hok2.2.2.1, hok2.2.2.2.1, hok2.2.2.2.2.1, hok2.2.2.2.2.2⟩)⟩
    · rename_i x2 _ _ kl' r1 ps1 x1 y1 pe1 hlp2 hne
      cases hk2
      obtain ⟨_, rec2, hrec2, hok2⟩ := sr2.sim.obj _ _ _ hlp2 hl2
      cases x2 with
      | normal => exact absurd rfl hne
      | ret => exact ⟨_, _, run_endRound (some .ret) hrec2, _, rfl, μ2, hpre1.trans hpre2, rfl, sr2.sim.setLp hlp2 rfl hl2 (.inr ⟨2, kl', r1, ps1, x1, y1, some .ret, rfl, rfl, rfl, hok2.2.2.1, hok2.2.2.2.1, hok2.2.2.2.2.1, hok2.2.2.2.2.2⟩)⟩
      | exit j => exact ⟨_, _, run_endRound (some (.exit j)) hrec2, _, rfl, μ2, hpre1.trans hpre2, rfl, sr2.sim.setLp hlp2 rfl hl2 (.inr ⟨2, kl', r1, ps1, x1, y1, some (.exit j), rfl, rfl, rfl, hok2.2.2.1, hok2.2.2.2.1, hok2.2.2.2.2.1, hok2.2.2.2.2.2⟩)⟩
    · cases hk2
  · cases hbeg

/-- THE INTERPRETER IS SOUND. -/
theorem call_sound (P : Program) (glob : Nat → PV) (kl : FuncId → Nat → List Nat) (lf : Nat) (hmix : P.follows .mixedOrders = true) (hok : progOk P = true) : ∀ (n : Nat) (kl' : Nat → List Nat), CallOk ⟨P, glob, call P glob kl lf n, kl', lf, std P, yields P glob kl lf n⟩
  | 0, _ => ⟨(by intro f args h r hr; cases hr), (by intro f args h r hr; cases hr)⟩
  | n + 1, kl0 => by
    refine ⟨?_, ?_⟩
    · intro f args h r hr
      simp only [call, both] at hr
      split at hr
      · rename_i fn hfn
        split at hr
        · rename_i hsome
          obtain ⟨body, hb⟩ := Option.isSome_iff_exists.1 hsome
          have hmem : fn ∈ P.funcs.toList := by
            have : P.funcs.toList[f]? = some fn := by simpa using hfn
            exact List.mem_of_getElem? this
          have hthis := List.all_eq_true.1 hok fn hmem
          rw [hb] at hthis
          simp only [Bool.and_eq_true, Bool.not_eq_true'] at hthis
          refine ⟨⟨fn, hfn, hsome, hthis.1⟩, fun B W μ w xs sim hgl ha => ?_⟩
          exact body_sound (c := ⟨P, glob, call P glob kl lf n, kl f, lf, std P, yields P glob kl lf n⟩) rfl (call_sound P glob kl lf hmix hok n (kl f)) hmix hfn hb hthis.2 hr sim hgl ha
        · cases hr
      · cases hr
    · intro id args h r hr B W μ w xs l sim hgl ha hl
      simp only [yields, both] at hr
      split at hr
      · rename_i kl' r0 ps x y pe hlp
        split at hr
        · have hlen : args.length = ps.length := by assumption
          cases hro : roundOk x && roundOk y with
          | false => rw [hro] at hr; cases hr
          | true =>
            rw [hro, cond_true] at hr
            rw [Bool.and_eq_true] at hro
            obtain ⟨_, rec, hrec, hrok⟩ := sim.obj _ _ _ hlp hl
            obtain ⟨h1, h2, h3, h4, h5, h6⟩ := hrok
            have hsz : xs.size = rec.params.size := by
              have e1 := ha.length
              have e2 : rec.params.size = ps.length := by rw [← h3, Array.length_toList]
              rw [Array.length_toList] at e1
              exact (e1.symm.trans hlen).trans e2.symm
            have hy := run_yield (P := P) (args := xs) hrec hsz
            refine ⟨_, _, _, _, hy, ?_⟩
            rw [h4, h5]
            have hregs : All2 (rep μ) (setPs r0 ps args) ((rec.params.zip xs).foldl (fun (t : Array Value) (q : Tmp × Value) => t.setIfInBounds q.1 q.2) rec.tmps).toList := by
              have := setPs_rep (ps := ps) ha h6
              rw [← h3, ← Array.toList_zip, Array.foldl_toList] at this
              rw [← h3]; exact this
            exact round_sound (c := ⟨P, glob, call P glob kl lf n, kl', lf, std P, yields P glob kl lf n⟩) rfl (call_sound P glob kl lf hmix hok n kl') hmix hro.1 hro.2 hr
              (act := { tmps := (rec.params.zip xs).foldl (fun (t : Array Value) (q : Tmp × Value) => t.setIfInBounds q.1 q.2) rec.tmps, defers := [] }) ⟨⟨hregs⟩, sim, hgl, Marked.nil⟩ rfl hl rec.fn
        · cases hr
      · cases hr

end
end Go.Ip

