/- Texts of this seat, in their order, put together by program. -/
import Derived.Test.YtfgjbfaapbhppaaDoorK4
import Derived.OrdersHeld
import Derived.Tactics
import Derived.LoopN
import Derived.Deep.Quiet
set_option linter.unusedSimpArgs false
set_option linter.unusedVariables false
set_option linter.unusedSectionVars false
/- The interpreter is sound: what it computes for a call, the machine's call does, in every world that the interpreter's heap stands for. -/
namespace Go.Ip
open Go Go.RowKit

structure FR (μ : List Loc) (r : List PV) (a : Act) : Prop where
  defers : a.defers = []
  regs : All2 (rep μ) r a.tmps.toList

theorem FR.mono {μ μ' : List Loc} (h : μ <+: μ') {r : List PV} {a : Act} (f : FR μ r a) : FR μ' r a := ⟨f.defers, f.regs.mono fun _ _ => rep.mono h⟩

theorem FR.get {μ : List Loc} {r : List PV} {a : Act} (f : FR μ r a) (t : Nat) : rep μ ((r[t]?).getD .junk) (a.tmps.getD t undef) := by
  cases hp : r[t]? with
  | none => trivial
  | some p =>
    obtain ⟨v, hv, hr⟩ := f.regs.get hp
    have : a.tmps[t]? = some v := by simpa using hv
    simp only [Option.getD_some]
    rw [Array.getD_eq_getD_getElem?, this]
    exact hr

theorem FR.eval {μ : List Loc} {r : List PV} {a : Act} {g : Nat → PV} (f : FR μ r a) (hg : ∀ n, rep μ (g n) (.pointer (some ⟨n, 0, none⟩))) (x : Operand) : rep μ (evA g r x) (a.eval x) := by
  cases x with
  | tmp t => exact f.get t
  | const v => exact ofV_rep μ v
  | «global» n => exact hg n
  | func n => trivial

theorem FR.set {μ : List Loc} {r : List PV} {a : Act} (f : FR μ r a) (d : Option Tmp) {p : PV} {v : Value} (hr : rep μ p v) : FR μ (setR r d p) (a.put d v) := by
  cases d with
  | none => exact f
  | some d =>
    refine ⟨f.defers, ?_⟩
    have := f.regs.set d hr
    simpa [setR, Act.put] using this

theorem FR.kill {μ : List Loc} {a : Act} : ∀ (ns : List Nat) {r : List PV}, FR μ r a → FR μ (killR r ns) a
  | [], _, f => f
  | n :: ns, r, f => FR.kill ns (by
      refine ⟨f.defers, All2.of_get (by have := f.regs.length; simpa using this) (fun i p hp => ?_)⟩
      by_cases hi : n = i
      · subst hi
        have hlt : n < r.length := by
          have := (List.getElem?_eq_some_iff.1 hp).1
          simpa using this
        rw [List.getElem?_set_self hlt] at hp
        cases hp
        have hlt' : n < a.tmps.toList.length := by rw [← f.regs.length]; exact hlt
        exact ⟨a.tmps.toList[n], List.getElem?_eq_getElem hlt', trivial⟩
      · rw [List.getElem?_set_ne hi] at hp
        exact f.regs.get hp)

theorem undef_rep (μ : List Loc) : rep μ (.tup []) undef := ⟨#[], rfl, trivial⟩

theorem want_sound {μ : List Loc} {r : List PV} {a : Act} (f : FR μ r a) {ops : Array Oper} {o : Oper} {g : Bool} (h : wantP ops.toList r o.guard = some g) : Region.wanted o (yielded ops a.tmps) = g := by
  unfold wantP at h
  unfold Region.wanted
  cases hg : o.guard with
  | none => rw [hg] at h; cases h; rfl
  | some jw =>
    obtain ⟨j, want⟩ := jw
    rw [hg] at h
    simp only at h ⊢
    unfold yielded
    rw [Array.getElem?_toList] at h
    cases hd : (ops[j]?).bind (·.dst) with
    | none => rw [hd] at h; cases h
    | some d =>
      rw [hd] at h
      simp only at h
      cases hp : r[d]? with
      | none => rw [hp] at h; cases h
      | some p =>
        rw [hp] at h
        obtain ⟨v, hv, hr⟩ := f.regs.get hp
        have hv' : a.tmps[d]? = some v := by simpa using hv
        simp only [Option.bind_some, hv']
        have h : wantV p want = some g := h
        unfold wantV at h
        split at h
        · rename_i b
          cases h
          rw [rep_bool.1 hr]
          cases b <;> cases want <;> rfl
        · cases h
          obtain ⟨xs, rfl, _⟩ := hr
          rfl
        · cases h

section
variable {c : Ctx} {B : Nat} {W : World}

/-- The state of the machine that the interpreter's state stands for. -/
structure SR (c : Ctx) (B : Nat) (W : World) (μ : List Loc) (s : St) (a : Act) (w : World) : Prop where
  fr : FR μ s.r a
  sim : Sim B W μ s.h w
  glob : ∀ n, rep μ (c.glob n) (.pointer (some ⟨n, 0, none⟩))

/-- Some state behind it. -/
def Later (c : Ctx) (B : Nat) (W : World) (μ : List Loc) (s : St) (a : Act) (w : World) : Prop := ∃ μ', μ <+: μ' ∧ SR c B W μ' s a w

/-- Where the operations lead. -/
def endOps (c : Ctx) (all : List Oper) : List Oper → St → Option St
  | [], s => some s
  | o :: rest, s => (wantP all s.r o.guard).bind fun g => (doOp c o g s).bind fun p => endOps c all rest ⟨setR s.r o.dst p.1, p.2⟩

theorem runOps_end (all : List Oper) (k : St → Res) : ∀ (l : List Oper) (s : St), runOps c all l s k = (endOps c all l s).bind k
  | [], s => rfl
  | o :: l, s => by
    have key : runOps c all (o :: l) s k = (wantP all s.r o.guard).bind fun g => (doOp c o g s).bind fun p => runOps c all l ⟨setR s.r o.dst p.1, p.2⟩ k := by
      cases hg : o.guard with
      | none => simp only [runOps, hg, wantP, Option.bind_some, doOp, cond_true, popK_eq]
      | some g => simp only [runOps, hg]
    rw [key]
    simp only [endOps]
    cases wantP all s.r o.guard with
    | none => rfl
    | some g =>
      simp only [Option.bind_some]
      cases doOp c o g s with
      | none => rfl
      | some p => simp only [Option.bind_some]; exact runOps_end all k l _

theorem ops_sound (hs : c.p = std c.P) (hc : CallOk c) {all : Array Oper} {Q : Exit → Act → World → Prop} {s' : St} :
    ∀ (l : List Oper) (μ : List Loc) (s : St) (a : Act) (w : World), endOps c all.toList l s = some s' → SR c B W μ s a w →
      (∀ a' w', Later c B W μ s' a' w' → Q .normal a' w') → wpList c.P all Q l a w
  | [], μ, s, a, w, hr, sr, hq => by cases hr; exact hq a w ⟨μ, List.prefix_refl _, sr⟩
  | o :: l, μ, s, a, w, hr, sr, hq => by
    simp only [endOps, Option.bind_eq_some_iff] at hr
    obtain ⟨g, hg, ⟨p, h'⟩, hp, hr⟩ := hr
    have hw := want_sound sr.fr hg
    unfold wpList
    cases g with
    | false =>
      rw [hw]
      simp only [Bool.false_eq_true, if_false]
      simp only [doOp, cond_false, Option.some.injEq, Prod.mk.injEq] at hp
      obtain ⟨rfl, rfl⟩ := hp
      exact ops_sound hs hc l μ _ _ w hr ⟨sr.fr.set o.dst (undef_rep μ), sr.sim, sr.glob⟩ hq
    | true =>
      rw [hw]
      simp only [if_true]
      simp only [doOp, cond_true] at hp
      left
      have go := pop_sound hs hc sr.sim sr.glob (sr.fr.eval sr.glob) (fun _ => rfl) hp
      unfold OpGo at go
      unfold Oper.wp Oper.upon
      have step : ∀ v w', Good B W μ p h' v w' → wpList c.P all Q l (a.put o.dst v) w' := by
        intro v w' ⟨μ', hpre, hrep, hsim⟩
        exact ops_sound hs hc l μ' _ _ w' hr ⟨(sr.fr.mono hpre).set o.dst hrep, hsim, fun n => (sr.glob n).mono hpre⟩ (fun a' w'' ⟨μ'', hpre', sr'⟩ => hq a' w'' ⟨μ'', hpre.trans hpre', sr'⟩)
      generalize (execOp a.eval o).run c.P w = res' at go
      cases res' with
      | halt x w' => exact go.elim
      | ok n w' =>
        cases n with
        | value v => exact step v w' go
        | skip => exact step undef w' go
        | enter f args =>
          refine go.mono fun e w'' ⟨v, he, hgood⟩ => ?_
          subst he
          exact step v w'' hgood
        | _ => exact go.elim

/-- A region whose operations only read. -/
theorem quiet_ops_sound (hs : c.p = std c.P) {all : Array Oper} {Q : Act → Prop} {s' : St} {w : World} :
    ∀ (l : List Oper) (μ : List Loc) (s : St) (a : Act), (∀ o ∈ l, quietOp o.op = true) → endOps c all.toList l s = some s' → SR c B W μ s a w →
      (∀ a', SR c B W μ s' a' w → Q a') → wpQuiet c.P all (fun w' => w'.heap = w.heap ∧ ∃ n, w' = { w with drawn := n }) Q l a
  | [], μ, s, a, _, hr, sr, hq => by cases hr; exact hq a sr
  | o :: l, μ, s, a, hquiet, hr, sr, hq => by
    simp only [endOps, Option.bind_eq_some_iff] at hr
    obtain ⟨g, hg, ⟨p, h'⟩, hp, hr⟩ := hr
    have hw := want_sound sr.fr hg
    unfold wpQuiet
    cases g with
    | false =>
      rw [hw]
      simp only [Bool.false_eq_true, if_false]
      simp only [doOp, cond_false, Option.some.injEq, Prod.mk.injEq] at hp
      obtain ⟨rfl, rfl⟩ := hp
      exact quiet_ops_sound hs l μ _ _ (fun o ho => hquiet o (by simp [ho])) hr ⟨sr.fr.set o.dst (undef_rep μ), sr.sim, sr.glob⟩ hq
    | true =>
      rw [hw]
      simp only [if_true]
      simp only [doOp, cond_true] at hp
      obtain ⟨rfl, v, hrep, hv⟩ := pop_quiet (c := c) hs (ρ := a.eval) sr.sim (sr.fr.eval sr.glob) (hquiet o (by simp)) hp
      refine ⟨v, fun w' hw' => ?_, ?_⟩
      · unfold Oper.quietAt
        rw [hv w' hw'.1]
        exact ⟨rfl, rfl⟩
      · exact quiet_ops_sound hs l μ _ _ (fun o ho => hquiet o (by simp [ho])) hr ⟨sr.fr.set o.dst hrep, sr.sim, sr.glob⟩ hq

/-- A region whose order is drawn, and some of whose operations change the heap. -/
theorem mix_ops_sound (hs : c.p = std c.P) (hc : CallOk c) {all : Array Oper} {Q : Exit → Act → World → Prop} {s' : St} (hsel : Region.noSelect all = true) (hQ : ∀ x a w, ¬ Q (.panic x) a w) :
    ∀ (l : List Oper) (i : Nat) (listed : Array Bool) (μ : List Loc) (s : St) (a : Act) (w : World), all.toList.drop i = l → mixGo all i l listed = true → endOps c all.toList l s = some s' → SR c B W μ s a w →
      (∀ a' w', Later c B W μ s' a' w' → Q .normal a' w') → wpAny c.P .any all Q l.length listed a w
  | [], i, listed, μ, s, a, w, hl, hm, hr, sr, hq => by
    cases hr
    unfold mixGo at hm
    exact wpAny_done (by simpa using hm) (hq a w ⟨μ, List.prefix_refl _, sr⟩) 0
  | o :: l, i, listed, μ, s, a, w, hl, hm, hr, sr, hq => by
    simp only [endOps, Option.bind_eq_some_iff] at hr
    obtain ⟨g, hg, ⟨p, h'⟩, hp, hr⟩ := hr
    have hw := want_sound sr.fr hg
    have hi : all[i]? = some o := by
      rw [← Array.getElem?_toList]
      have : (all.toList.drop i)[0]? = some o := by rw [hl]; rfl
      simpa using this
    have hl' : all.toList.drop (i + 1) = l := by
      rw [← List.tail_drop, hl]; rfl
    unfold mixGo at hm
    rw [Bool.and_eq_true, Bool.or_eq_true] at hm
    obtain ⟨hm1, hm2⟩ := hm
    rcases hm1 with hm1 | hm1
    · simp only [Bool.and_eq_true] at hm1
      obtain ⟨⟨hpure, hfree⟩, hready⟩ := hm1
      cases g with
      | false =>
        simp only [doOp, cond_false, Option.some.injEq, Prod.mk.injEq] at hp
        obtain ⟨rfl, rfl⟩ := hp
        exact wpAny_take (v := undef) hi hsel hfree hready (fun x a w hx => absurd hx (hQ x _ w)) (.inr ⟨hw, rfl⟩)
          (mix_ops_sound hs hc hsel hQ l (i + 1) _ μ _ _ w hl' hm2 hr ⟨sr.fr.set o.dst (undef_rep μ), sr.sim, sr.glob⟩ hq)
      | true =>
        simp only [doOp, cond_true] at hp
        obtain ⟨rfl, v, hrep, hv⟩ := pop_pure (c := c) hs (ρ := a.eval) sr.sim (sr.fr.eval sr.glob) hpure hp
        exact wpAny_take (v := v) hi hsel hfree hready (fun x a w hx => absurd hx (hQ x _ w)) (.inl ⟨hw, hv⟩)
          (mix_ops_sound hs hc hsel hQ l (i + 1) _ μ _ _ w hl' hm2 hr ⟨sr.fr.set o.dst hrep, sr.sim, sr.glob⟩ hq)
    · refine wpAny_all (rs := [i]) (by simpa using hm1) (by simp) ?_
      intro j hj
      obtain rfl : j = i := by simpa using hj
      unfold wpOp
      simp only [hi]
      cases g with
      | false =>
        rw [hw]
        simp only [Bool.false_eq_true, if_false]
        simp only [doOp, cond_false, Option.some.injEq, Prod.mk.injEq] at hp
        obtain ⟨rfl, rfl⟩ := hp
        exact mix_ops_sound hs hc hsel hQ l (j + 1) _ μ _ _ w hl' hm2 hr ⟨sr.fr.set o.dst (undef_rep μ), sr.sim, sr.glob⟩ hq
      | true =>
        rw [hw]
        simp only [if_true]
        simp only [doOp, cond_true] at hp
        left
        have go := pop_sound hs hc sr.sim sr.glob (sr.fr.eval sr.glob) (fun _ => rfl) hp
        unfold OpGo at go
        unfold Oper.wp Oper.upon
        have step : ∀ v w', Good B W μ p h' v w' → wpAny c.P .any all Q l.length (listed.setIfInBounds j true) (a.put o.dst v) w' := by
          intro v w' ⟨μ', hpre, hrep, hsim⟩
          exact mix_ops_sound hs hc hsel hQ l (j + 1) _ μ' _ _ w' hl' hm2 hr ⟨(sr.fr.mono hpre).set o.dst hrep, hsim, fun n => (sr.glob n).mono hpre⟩ (fun a' w'' ⟨μ'', hpre', sr'⟩ => hq a' w'' ⟨μ'', hpre.trans hpre', sr'⟩)
        generalize (execOp a.eval o).run c.P w = res' at go
        cases res' with
        | halt x w' => exact go.elim
        | ok n w' =>
          cases n with
          | value v => exact step v w' go
          | skip => exact step undef w' go
          | enter f args =>
            refine go.mono fun e w'' ⟨v, he, hgood⟩ => ?_
            subst he
            exact step v w'' hgood
          | _ => exact go.elim

/-! ### regions whose order is drawn, that change the heap, and load: the loads first, and held -/
def chk (c : Ctx) : Cks → PHeap → Option Unit
  | [], _ => some ()
  | x :: l, h => (c.p.load x.1 x.2.1 h).bind fun p => bif plainEq x.2.2 p then chk c l h else none

theorem chkAll_eq (h : PHeap) (r : Res) : ∀ (l : Cks), chkAll c l h r = (chk c l h).bind fun _ => r
  | [] => rfl
  | x :: l => by
    simp only [chkAll, chk]
    cases c.p.load x.1 x.2.1 h with
    | none => rfl
    | some p =>
      simp only [Option.bind_some]
      cases plainEq x.2.2 p with
      | true => simp only [cond_true]; exact chkAll_eq h r l
      | false => rfl

def endEarly (c : Ctx) (all : List Oper) : List Nat → St → Cks → Option (St × Cks)
  | [], s, ck => some (s, ck)
  | i :: E, s, ck => (all[i]?).bind fun o => (pop c (evA c.glob s.r) o.op s.h).bind fun p => endEarly c all E ⟨setR s.r o.dst p.1, p.2⟩ (ckAdd o.op (evA c.glob s.r) p.1 ck)

theorem runEarly_end (all : List Oper) (k : St → Cks → Res) : ∀ (E : List Nat) (s : St) (ck : Cks), runEarly c all E s ck k = (endEarly c all E s ck).bind fun r => k r.1 r.2
  | [], s, ck => rfl
  | i :: E, s, ck => by
    simp only [runEarly, endEarly]
    cases all[i]? with
    | none => rfl
    | some o =>
      simp only [Option.bind_some, popK_eq]
      cases pop c (evA c.glob s.r) o.op s.h with
      | none => rfl
      | some p => simp only [Option.bind_some]; exact runEarly_end all k E _ _

def endLate (c : Ctx) (all : List Oper) : Cks → List (Nat × Bool) → St → Option St
  | _, [], s => some s
  | ck, (i, true) :: L, s => (all[i]?).bind fun o => (wantP all s.r o.guard).bind fun g => bif g then (pop c (evA c.glob s.r) o.op s.h).bind fun p => endLate c all (ckAdd o.op (evA c.glob s.r) p.1 ck) L ⟨setR s.r o.dst p.1, p.2⟩ else endLate c all ck L ⟨setR s.r o.dst (.tup []), s.h⟩
  | ck, (i, false) :: L, s => (all[i]?).bind fun o => (wantP all s.r o.guard).bind fun g => (doOp c o g s).bind fun p => (bif quietOp o.op then some () else chk c ck p.2).bind fun _ => endLate c all ck L ⟨setR s.r o.dst p.1, p.2⟩

theorem runLate_end (all : List Oper) (k : St → Res) : ∀ (L : List (Nat × Bool)) (ck : Cks) (s : St), runLate c all ck L s k = (endLate c all ck L s).bind k
  | [], ck, s => by simp only [runLate, endLate]; rfl
  | (i, true) :: L, ck, s => by
    simp only [runLate, endLate]
    cases all[i]? with
    | none => rfl
    | some o =>
      simp only [Option.bind_some]
      cases hg : o.guard with
      | none =>
        simp only [wantP, Option.bind_some, cond_true, popK_eq]
        cases pop c (evA c.glob s.r) o.op s.h with
        | none => rfl
        | some p => simp only [Option.bind_some]; exact runLate_end all k L _ _
      | some g =>
        simp only
        cases wantP all s.r (some g) with
        | none => rfl
        | some b =>
          simp only [Option.bind_some]
          cases b with
          | false => simp only [cond_false]; exact runLate_end all k L _ _
          | true =>
            simp only [cond_true, popK_eq]
            cases pop c (evA c.glob s.r) o.op s.h with
            | none => rfl
            | some p => simp only [Option.bind_some]; exact runLate_end all k L _ _
  | (i, false) :: L, ck, s => by
    have key : runLate c all ck ((i, false) :: L) s k = (all[i]?).bind fun o => (wantP all s.r o.guard).bind fun g => (doOp c o g s).bind fun p => (bif quietOp o.op then some () else chk c ck p.2).bind fun _ => runLate c all ck L ⟨setR s.r o.dst p.1, p.2⟩ k := by
      simp only [runLate]
      cases all[i]? with
      | none => rfl
      | some o =>
        simp only [Option.bind_some]
        cases hg : o.guard with
        | none =>
          simp only [wantP, Option.bind_some, doOp, cond_true, popK_eq, chkAll_eq]
          cases pop c (evA c.glob s.r) o.op s.h with
          | none => rfl
          | some p =>
            simp only [Option.bind_some]
            cases quietOp o.op <;> rfl
        | some g =>
          simp only [chkAll_eq]
          cases wantP all s.r (some g) with
          | none => rfl
          | some b =>
            simp only [Option.bind_some]
            cases doOp c o b s with
            | none => rfl
            | some p =>
              simp only [Option.bind_some]
              cases quietOp o.op <;> rfl
    rw [key]
    simp only [endLate]
    cases all[i]? with
    | none => rfl
    | some o =>
      simp only [Option.bind_some]
      cases wantP all s.r o.guard with
      | none => rfl
      | some g =>
        simp only [Option.bind_some]
        cases doOp c o g s with
        | none => rfl
        | some p =>
          simp only [Option.bind_some]
          cases (bif quietOp o.op then some () else chk c ck p.2) with
          | none => rfl
          | some u => simp only [Option.bind_some]; exact runLate_end all k L ck _

/-- A load that was taken, and what the machine makes of it. -/
def RelCk (μ : List Loc) (x : TypeId × PV × PV) (r : TypeId × Value × Value) : Prop := x.1 = r.1 ∧ rep μ x.2.1 r.2.1 ∧ rep μ x.2.2 r.2.2
def Held (P : Program) (rs : List (TypeId × Value × Value)) (w : World) : Prop := ∀ r ∈ rs, (Instr.loadAt r.1 r.2.1).run P w = .ok r.2.2 w

theorem plain1_rep {μ : List Loc} {p p' : PV} {v v' : Value} (h : plain1 p p' = true) (hp : repc μ p v) (hp' : repc μ p' v') : v = v' := by
  cases p <;> cases p' <;> simp only [plain1, Bool.false_eq_true, Bool.and_eq_true, decide_eq_true_eq] at h
  · obtain ⟨rfl, rfl⟩ := h
    simp only [repc] at hp hp'
    rw [hp, hp']
  · subst h
    simp only [repc] at hp hp'
    rw [hp, hp']

theorem plainL_rep {μ : List Loc} : ∀ {l l' : List PV} {xs xs' : List Value}, plainL l l' = true → All2 (repc μ) l xs → All2 (repc μ) l' xs' → xs = xs'
  | [], [], [], [], _, _, _ => rfl
  | a :: as, b :: bs, x :: xs, y :: ys, h, h1, h2 => by
    simp only [plainL, Bool.and_eq_true] at h
    rw [plain1_rep h.1 h1.1 h2.1, plainL_rep h.2 h1.2 h2.2]
  | [], _ :: _, _, _, h, _, _ => by cases h
  | _ :: _, [], _, _, h, _, _ => by cases h
  | [], [], _ :: _, _, _, h, _ => h.elim
  | [], [], _, _ :: _, _, _, h => h.elim
  | _ :: _, _ :: _, [], _, _, h, _ => h.elim
  | _ :: _, _ :: _, _, [], _, _, h => h.elim

theorem plain_rep {μ μ' : List Loc} {p p' : PV} {v v' : Value} (hpre : μ <+: μ') (h : plainEq p p' = true) (hp : rep μ p v) (hp' : rep μ' p' v') : v = v' := by
  have hp := hp.mono hpre
  cases p <;> cases p' <;> simp only [plainEq, Bool.false_eq_true, Bool.and_eq_true, decide_eq_true_eq] at h
  · obtain ⟨rfl, rfl⟩ := h
    rw [rep_int.1 hp, rep_int.1 hp']
  · subst h
    rw [rep_bool.1 hp, rep_bool.1 hp']
  · subst h
    obtain ⟨l, hl, rfl⟩ := hp
    obtain ⟨l', hl', rfl⟩ := hp'
    rw [hl] at hl'
    cases hl'; rfl
  · obtain ⟨xs, rfl, a⟩ := hp
    obtain ⟨xs', rfl, a'⟩ := hp'
    rw [Array.ext' (plainL_rep h a a')]

theorem chk_held (hs : c.p = std c.P) {μ μ' : List Loc} (hpre : μ <+: μ') {h : PHeap} {w : World} (sim : Sim B W μ' h w) : ∀ {ck : Cks} {rs : List (TypeId × Value × Value)}, All2 (RelCk μ) ck rs → chk c ck h = some () → Held c.P rs w
  | [], [], _, _ => fun r hr => by simp at hr
  | x :: ck, y :: rs, hrel, hck => by
    obtain ⟨⟨ht, ha, hv⟩, hrel⟩ := hrel
    simp only [chk, Option.bind_eq_some_iff] at hck
    obtain ⟨p, hp, hck⟩ := hck
    cases he : plainEq x.2.2 p with
    | false => rw [he] at hck; cases hck
    | true =>
      rw [he, cond_true] at hck
      intro r hr
      rcases List.mem_cons.1 hr with rfl | hr
      · rw [hs] at hp
        obtain ⟨v', hr', hv'⟩ := load_reads sim (show loadP c.P x.1 x.2.1 h = some p from hp) (ha.mono hpre)
        rw [← ht, hv' w rfl, plain_rep hpre he hv hr']
      · exact chk_held hs hpre sim hrel hck r hr
  | [], _ :: _, h, _ => h.elim
  | _ :: _, [], h, _ => h.elim

theorem early_sound (hs : c.p = std c.P) {all : Array Oper} {Q : Exit → Act → World → Prop} (hsel : Region.noSelect all = true) (hQ : ∀ x a w, ¬ Q (.panic x) a w) {μ : List Loc} {w : World} :
    ∀ (E : List Nat) (listed : Array Bool) (s : St) (ck : Cks) (a : Act) (s1 : St) (ck1 : Cks), earlyOkB all E listed = true → endEarly c all.toList E s ck = some (s1, ck1) → SR c B W μ s a w →
      ∃ a1 rs, SR c B W μ s1 a1 w ∧ (∃ nw, ck1 = nw ++ ck ∧ All2 (RelCk μ) nw rs) ∧ Held c.P rs w ∧
        ∀ (S : World → Prop) (fuel : Nat), (∀ w', S w' → Held c.P rs w') → S w → wpAnyH c.P .any all Q S fuel (markAll E listed) a1 w → wpAnyH c.P .any all Q S (fuel + E.length) listed a w
  | [], listed, s, ck, a, s1, ck1, _, hr, sr => by
    cases hr
    exact ⟨a, [], sr, ⟨[], rfl, trivial⟩, fun r hr => by simp at hr, fun S fuel _ _ h => h⟩
  | i :: E, listed, s, ck, a, s1, ck1, hok, hr, sr => by
    simp only [endEarly, Option.bind_eq_some_iff] at hr
    obtain ⟨o, ho, ⟨p, h'⟩, hp, hr⟩ := hr
    have hi : all[i]? = some o := by rw [← Array.getElem?_toList]; exact ho
    unfold earlyOkB at hok
    rw [hi, Bool.and_eq_true] at hok
    obtain ⟨hearly, hok⟩ := hok
    simp only [earlyB, Bool.and_eq_true] at hearly
    obtain ⟨⟨⟨hguard, hkind⟩, hfree⟩, hready⟩ := hearly
    have hg : o.guard = none := by cases hgg : o.guard with
      | none => rfl
      | some g => rw [hgg] at hguard; cases hguard
    have hwant : Region.wanted o (yielded all a.tmps) = true := by
      have := want_sound (ops := all) (o := o) (g := true) sr.fr (by rw [hg]; rfl)
      exact this
    by_cases hpure : pureOp o.op = true
    · obtain ⟨rfl, v, hrep, hv⟩ := pop_pure (c := c) hs (ρ := a.eval) sr.sim (sr.fr.eval sr.glob) hpure hp
      have hck : ckAdd o.op (evA c.glob s.r) p ck = ck := by
        unfold ckAdd
        split
        · rename_i e; rw [e] at hpure; cases hpure
        · rfl
      rw [hck] at hr
      obtain ⟨a1, rs, sr1, hnw, hheld, hgo⟩ := early_sound hs hsel hQ E _ _ ck (a.put o.dst v) s1 ck1 hok hr ⟨sr.fr.set o.dst hrep, sr.sim, sr.glob⟩
      refine ⟨a1, rs, sr1, hnw, hheld, fun S fuel hS hSw h => ?_⟩
      exact wpAnyH_take (v := v) hi hsel hfree hready (fun x a w hx => absurd hx (hQ x _ w)) (.inl ⟨hwant, fun w' _ => hv w'⟩) hSw (hgo S fuel hS hSw h)
    · have hpf : pureOp o.op = false := by simpa using hpure
      rw [hpf, Bool.false_or] at hkind
      obtain ⟨dst, op, ty, pos, after, guard⟩ := o
      simp only at hkind hp hg hwant hr hpf
      cases op <;> simp only [Bool.false_eq_true] at hkind
      rename_i t x
      simp only [pop, hs, std] at hp
      obtain ⟨hP, rfl⟩ := pv_some hp
      have hx := sr.fr.eval sr.glob x
      obtain ⟨v, hrep, hv⟩ := load_reads sr.sim hP hx
      have hrun := hv w rfl
      obtain ⟨a1, rs, sr1, ⟨nw, hnw, hrel⟩, hheld, hgo⟩ := early_sound hs hsel hQ E _ _ _ (a.put dst v) s1 ck1 hok hr ⟨sr.fr.set dst hrep, sr.sim, sr.glob⟩
      refine ⟨a1, rs ++ [(t, a.eval x, v)], sr1, ⟨nw ++ [(t, evA c.glob s.r x, p)], by rw [hnw]; simp [ckAdd], hrel.append ⟨⟨rfl, hx, hrep⟩, trivial⟩⟩, ?_, fun S fuel hS hSw h => ?_⟩
      · intro r hr
        rcases List.mem_append.1 hr with hr | hr
        · exact hheld r hr
        · obtain rfl : r = (t, a.eval x, v) := by simpa using hr
          exact hrun
      · refine wpAnyH_take (v := v) hi hsel hfree hready (fun x a w hx => absurd hx (hQ x _ w)) (.inl ⟨hwant, fun w' hw' => ?_⟩) hSw (hgo S fuel (fun w' hw' r hr => hS w' hw' r (by simp [hr])) hSw h)
        have := hS w' hw' (t, a.eval x, v) (by simp)
        show ((do pure (.value (← Instr.loadAt t (a.eval x)))) : Sem Next).run c.P w' = _
        rw [Sem.run_bind, this]; rfl

theorem wpAnyH_mono {P : Program} {md : Region.Mode} {ops : Array Oper} {Q : Exit → Act → World → Prop} {S S' : World → Prop} (hSS : ∀ w, S' w → S w) : ∀ (fuel : Nat) (listed : Array Bool) (a : Act) (w : World), wpAnyH P md ops Q S' fuel listed a w → wpAnyH P md ops Q S fuel listed a w
  | 0, _, _, _, h => h
  | fuel + 1, _, _, _, h => ⟨h.1, fun i hi => wpOp_mono (fun a' w' h' => ⟨hSS w' h'.1, wpAnyH_mono hSS fuel _ a' w' h'.2⟩) (h.2 i hi)⟩

theorem late_sound (hs : c.p = std c.P) (hc : CallOk c) {all : Array Oper} {Q : Exit → Act → World → Prop} {s' : St} (hsel : Region.noSelect all = true) (hQ : ∀ x a w, ¬ Q (.panic x) a w) :
    ∀ (L : List (Nat × Bool)) (ck : Cks) (S : World → Prop) (listed : Array Bool) (μ : List Loc) (s : St) (a : Act) (w : World), lateOkB all L listed = true → endLate c all.toList ck L s = some s' → SR c B W μ s a w → S w →
      (∀ μ' h' w', μ <+: μ' → Sim B W μ' h' w' → chk c ck h' = some () → S w') →
      (∀ a' w', Later c B W μ s' a' w' → Q .normal a' w') → wpAnyH c.P .any all Q S L.length listed a w
  | [], ck, S, listed, μ, s, a, w, hm, hr, sr, hS, hchk, hq => by
    simp only [endLate, Option.some.injEq] at hr
    subst hr
    unfold lateOkB at hm
    exact wpAnyH_done (by simpa using hm) (hq a w ⟨μ, List.prefix_refl _, sr⟩) 0
  | (i, true) :: L, ck, S, listed, μ, s, a, w, hm, hr, sr, hS, hchk, hq => by
    simp only [endLate, Option.bind_eq_some_iff] at hr
    obtain ⟨o, ho, g, hg, hr⟩ := hr
    have hw := want_sound (ops := all) sr.fr hg
    have hi : all[i]? = some o := by rw [← Array.getElem?_toList]; exact ho
    unfold lateOkB at hm
    rw [hi, Bool.and_eq_true] at hm
    simp only [cond_true, Bool.and_eq_true] at hm
    obtain ⟨⟨⟨hload, hfree⟩, hready⟩, hm2⟩ := hm
    cases g with
    | false =>
      rw [cond_false] at hr
      exact wpAnyH_take (v := undef) hi hsel hfree hready (fun x a w hx => absurd hx (hQ x _ w)) (.inr ⟨hw, rfl⟩) hS
        (late_sound hs hc hsel hQ L ck S _ μ _ _ w hm2 hr ⟨sr.fr.set o.dst (undef_rep μ), sr.sim, sr.glob⟩ hS hchk hq)
    | true =>
      rw [cond_true, Option.bind_eq_some_iff] at hr
      obtain ⟨⟨p, h'⟩, hp, hr⟩ := hr
      obtain ⟨dst, op, ty, pos, after, guard⟩ := o
      simp only at hload hp hw hr
      cases op <;> simp only [loadOp, Bool.false_eq_true] at hload
      rename_i t x
      simp only [pop, hs, std] at hp
      obtain ⟨hP, rfl⟩ := pv_some hp
      have hx := sr.fr.eval sr.glob x
      obtain ⟨v, hrep, hv⟩ := load_reads sr.sim hP hx
      have hrun := hv w rfl
      have ih := late_sound hs hc hsel hQ L _ (fun w' => S w' ∧ (Instr.loadAt t (a.eval x)).run c.P w' = .ok v w') _ μ _ (a.put dst v) w hm2 hr ⟨sr.fr.set dst hrep, sr.sim, sr.glob⟩ ⟨hS, hrun⟩ (fun μ' h'' w' hpre hsim hck => by
        simp only [ckAdd, chk, Option.bind_eq_some_iff] at hck
        obtain ⟨p', hp', hck⟩ := hck
        cases he : plainEq p p' with
        | false => rw [he] at hck; cases hck
        | true =>
          rw [he, cond_true] at hck
          rw [hs] at hp'
          obtain ⟨v', hr', hv'⟩ := load_reads hsim (show loadP c.P t (evA c.glob s.r x) h'' = some p' from hp') (hx.mono hpre)
          refine ⟨hchk μ' h'' w' hpre hsim hck, ?_⟩
          rw [hv' w' rfl, plain_rep hpre he hrep hr']) hq
      refine wpAnyH_mono (S' := fun w' => S w' ∧ (Instr.loadAt t (a.eval x)).run c.P w' = .ok v w') (fun w' h => h.1) _ _ _ _ ?_
      refine wpAnyH_take (v := v) hi hsel hfree hready (fun x a w hx => absurd hx (hQ x _ w)) (.inl ⟨hw, fun w' hw' => ?_⟩) ⟨hS, hrun⟩ ih
      show ((do pure (.value (← Instr.loadAt t (a.eval x)))) : Sem Next).run c.P w' = _
      rw [Sem.run_bind, hw'.2]; rfl
  | (i, false) :: L, ck, S, listed, μ, s, a, w, hm, hr, sr, hS, hchk, hq => by
    simp only [endLate, Option.bind_eq_some_iff] at hr
    obtain ⟨o, ho, g, hg, ⟨p, h'⟩, hp, u, hck, hr⟩ := hr
    have hw := want_sound (ops := all) sr.fr hg
    have hi : all[i]? = some o := by rw [← Array.getElem?_toList]; exact ho
    unfold lateOkB at hm
    rw [hi, Bool.and_eq_true] at hm
    simp only [cond_false, Bool.or_eq_true] at hm
    obtain ⟨hm1, hm2⟩ := hm
    rcases hm1 with hm1 | hm1
    · simp only [Bool.and_eq_true] at hm1
      obtain ⟨⟨hpure, hfree⟩, hready⟩ := hm1
      cases g with
      | false =>
        simp only [doOp, cond_false, Option.some.injEq, Prod.mk.injEq] at hp
        obtain ⟨rfl, rfl⟩ := hp
        exact wpAnyH_take (v := undef) hi hsel hfree hready (fun x a w hx => absurd hx (hQ x _ w)) (.inr ⟨hw, rfl⟩) hS
          (late_sound hs hc hsel hQ L ck S _ μ _ _ w hm2 hr ⟨sr.fr.set o.dst (undef_rep μ), sr.sim, sr.glob⟩ hS hchk hq)
      | true =>
        simp only [doOp, cond_true] at hp
        obtain ⟨rfl, v, hrep, hv⟩ := pop_pure (c := c) hs (ρ := a.eval) sr.sim (sr.fr.eval sr.glob) hpure hp
        exact wpAnyH_take (v := v) hi hsel hfree hready (fun x a w hx => absurd hx (hQ x _ w)) (.inl ⟨hw, fun w' _ => hv w'⟩) hS
          (late_sound hs hc hsel hQ L ck S _ μ _ _ w hm2 hr ⟨sr.fr.set o.dst hrep, sr.sim, sr.glob⟩ hS hchk hq)
    · refine wpAnyH_all (rs := [i]) (by simpa using hm1) (by simp) ?_
      intro j hj
      obtain rfl : j = i := by simpa using hj
      unfold wpOp
      simp only [hi]
      cases g with
      | false =>
        rw [hw]
        simp only [Bool.false_eq_true, if_false]
        simp only [doOp, cond_false, Option.some.injEq, Prod.mk.injEq] at hp
        obtain ⟨rfl, rfl⟩ := hp
        exact ⟨hS, late_sound hs hc hsel hQ L ck S _ μ _ _ w hm2 hr ⟨sr.fr.set o.dst (undef_rep μ), sr.sim, sr.glob⟩ hS hchk hq⟩
      | true =>
        rw [hw]
        simp only [if_true]
        simp only [doOp, cond_true] at hp
        left
        by_cases hquiet : quietOp o.op = true
        · obtain ⟨rfl, v, hrep, hv⟩ := pop_quiet (c := c) hs (ρ := a.eval) sr.sim (sr.fr.eval sr.glob) hquiet hp
          unfold Oper.wp Oper.upon
          rw [hv w rfl]
          exact ⟨hS, late_sound hs hc hsel hQ L ck S _ μ _ _ w hm2 hr ⟨sr.fr.set o.dst hrep, sr.sim, sr.glob⟩ hS hchk hq⟩
        · have hqf : quietOp o.op = false := by simpa using hquiet
          rw [hqf, cond_false] at hck
          have go := pop_sound hs hc sr.sim sr.glob (sr.fr.eval sr.glob) (fun _ => rfl) hp
          unfold OpGo at go
          unfold Oper.wp Oper.upon
          have step : ∀ v w', Good B W μ p h' v w' → S w' ∧ wpAnyH c.P .any all Q S L.length (listed.setIfInBounds j true) (a.put o.dst v) w' := by
            intro v w' ⟨μ', hpre, hrep, hsim⟩
            have hS' := hchk μ' h' w' hpre hsim hck
            exact ⟨hS', late_sound hs hc hsel hQ L ck S _ μ' _ _ w' hm2 hr ⟨(sr.fr.mono hpre).set o.dst hrep, hsim, fun n => (sr.glob n).mono hpre⟩ hS' (fun μ'' h'' w'' hp'' => hchk μ'' h'' w'' (hpre.trans hp'')) (fun a' w'' ⟨μ'', hpre', sr'⟩ => hq a' w'' ⟨μ'', hpre.trans hpre', sr'⟩)⟩
          generalize (execOp a.eval o).run c.P w = res' at go
          cases res' with
          | halt x w' => exact go.elim
          | ok n w' =>
            cases n with
            | value v => exact step v w' go
            | skip => exact step undef w' go
            | enter f args =>
              refine go.mono fun e w'' ⟨v, he, hgood⟩ => ?_
              subst he
              exact step v w'' hgood
            | _ => exact go.elim

def exitOf : PX → Exit
  | .normal => .normal
  | .exit id => .exit id
  | .ret => .ret

/-- What the interpreter's way through a code says of the machine's. -/
def Way (c : Ctx) (B : Nat) (W : World) (code : Code) (s : St) (x : PX) (s' : St) : Prop :=
  ∀ μ a w, SR c B W μ s a w → code.wp c.P (fun e a' w' => e = exitOf x ∧ Later c B W μ s' a' w') a w

theorem rounds_mono {P : Program} {x : Code} {Q Q' : Exit → Act → World → Prop} (h : ∀ e a w, Q e a w → Q' e a w) : ∀ (n : Nat) (a : Act) (w : World), Code.rounds P x Q n a w → Code.rounds P x Q' n a w
  | 0, _, _, hr => hr.elim
  | n + 1, a, w, hr => by
    rw [rounds_succ] at hr ⊢
    refine wp_mono hr ?_
    intro e a' w' he
    cases e with
    | normal => exact rounds_mono h n a' w' he
    | _ => exact h _ _ _ he

theorem ev_sound (hs : c.p = std c.P) (hc : CallOk c) (hmix : c.P.follows .mixedOrders = true) (B : Nat) (W : World) : ∀ (code : Code), drawsOk code = true → ∀ (s : St) (k : PX → St → Res) (res : PV × PHeap), ev c code s k = some res → ∃ x s', k x s' = some res ∧ Way c B W code s x s' := by
  intro code
  induction code with
  | skip => intro _ s k res h; exact ⟨.normal, s, h, fun μ a w sr => wp_skip ⟨rfl, μ, List.prefix_refl _, sr⟩⟩
  | ret => intro _ s k res h; exact ⟨.ret, s, h, fun μ a w sr => wp_ret ⟨rfl, μ, List.prefix_refl _, sr⟩⟩
  | exit id => intro _ s k res h; exact ⟨.exit id, s, h, fun μ a w sr => wp_exit ⟨rfl, μ, List.prefix_refl _, sr⟩⟩
  | region id ops draw =>
    intro hd s k res h
    simp only [ev, runRegion] at h
    cases hb : draw && !(ops.toList.all fun o => quietOp o.op) && !(mixB ops.toList) with
    | true =>
      rw [hb, cond_true] at h
      cases hm2 : mix2B ops.toList with
      | false => rw [hm2] at h; cases h
      | true =>
        rw [hm2, cond_true, runEarly_end] at h
        simp only [runLate_end, Option.bind_eq_some_iff] at h
        obtain ⟨⟨s1, ck1⟩, hE, s', hL, hk⟩ := h
        refine ⟨.normal, _, hk, fun μ a w sr => ?_⟩
        have hdraw : draw = true := by cases draw with
          | true => rfl
          | false => simp at hb
        subst hdraw
        have sr1 : SR c B W μ s a { w with drawn := w.drawn + 1 } := ⟨sr.fr, sr.sim.tape _, sr.glob⟩
        unfold mix2B at hm2
        simp only [Bool.and_eq_true, Array.toArray_toList, beq_iff_eq] at hm2
        obtain ⟨⟨⟨hsel, hEok⟩, hLok⟩, hlen⟩ := hm2
        obtain ⟨a1, rs, srE, ⟨nw, hnw, hrel⟩, hheld, hgo⟩ := early_sound (Q := fun e a' w' => e = exitOf .normal ∧ Later c B W μ ⟨killR s'.r (c.kl (2 * id)), s'.h⟩ a' w') hs hsel (fun x a w hx => by cases hx.1) _ _ s [] a s1 ck1 hEok hE sr1
        rw [List.append_nil] at hnw
        subst hnw
        refine wp_region_held (S := Held c.P rs) hmix ?_
        have := hgo (Held c.P rs) (heldL ops.toList).length (fun w' h => h) hheld (late_sound hs hc hsel (fun x a w hx => by cases hx.1) _ _ _ _ μ s1 a1 _ hLok hL srE hheld (fun μ' h' w' hpre hsim hck => chk_held hs hpre hsim hrel hck) (by
          rintro a' w' ⟨μ', hpre, sr'⟩
          exact ⟨rfl, μ', hpre, ⟨sr'.fr.kill _, sr'.sim, sr'.glob⟩⟩))
        rw [Nat.add_comm, hlen] at this
        simpa using this
    | false =>
      rw [hb] at h
      simp only [cond_false, runOps_end, Option.bind_eq_some_iff] at h
      obtain ⟨s', hend, hk⟩ := h
      refine ⟨.normal, _, hk, fun μ a w sr => ?_⟩
      cases draw with
      | false =>
        refine wp_region_list (ops_sound hs hc ops.toList μ s a w hend sr ?_)
        rintro a' w' ⟨μ', hpre, sr'⟩
        exact ⟨rfl, μ', hpre, ⟨sr'.fr.kill _, sr'.sim, sr'.glob⟩⟩
      | true =>
        have sr1 : SR c B W μ s a { w with drawn := w.drawn + 1 } := ⟨sr.fr, sr.sim.tape _, sr.glob⟩
        by_cases hquiet : ops.toList.all (fun o => quietOp o.op) = true
        case neg =>
          have hm : mixB ops.toList = true := by
            have hq' : ops.toList.all (fun o => quietOp o.op) = false := by simpa using hquiet
            rw [hq'] at hb
            simpa using hb
          unfold mixB at hm
          rw [Bool.and_eq_true, Array.toArray_toList] at hm
          refine wp_region_any hmix ?_
          have := mix_ops_sound (Q := fun e a' w' => e = exitOf .normal ∧ Later c B W μ ⟨killR s'.r (c.kl (2 * id)), s'.h⟩ a' w') hs hc hm.1 (fun x a w hx => by cases hx.1) ops.toList 0 (Array.replicate ops.toList.length false) μ s a _ (by simp) hm.2 hend sr1 (by
            rintro a' w' ⟨μ', hpre, sr'⟩
            exact ⟨rfl, μ', hpre, ⟨sr'.fr.kill _, sr'.sim, sr'.glob⟩⟩)
          simpa using this
        have hall : ∀ o ∈ ops.toList, quietOp o.op = true := List.all_eq_true.1 hquiet
        have hlex : Region.lexB .any ops = true := by
          simp only [drawsOk] at hd
          have : ops.toList.all (fun o => quietOp o.op) = true := List.all_eq_true.2 hall
          rw [this] at hd
          simpa using hd
        refine wp_region_quiet (C := fun w' => w'.heap = w.heap ∧ ∃ n, w' = { w with drawn := n }) hmix hlex ⟨rfl, _, rfl⟩ ?_
        refine quiet_ops_sound hs (w := w) ops.toList μ s a hall hend sr ?_
        intro a' sr' w' ⟨_, n, hn⟩
        subst hn
        exact ⟨rfl, μ, List.prefix_refl _, ⟨sr'.fr.kill _, sr'.sim.tape n, sr'.glob⟩⟩
  | seq x y ihx ihy =>
    intro hd s k res h
    simp only [drawsOk, Bool.and_eq_true] at hd
    obtain ⟨e1, s1, hk, w1⟩ := ihx hd.1 s _ res h
    cases e1 with
    | normal =>
      obtain ⟨e2, s2, hk2, w2⟩ := ihy hd.2 s1 k res hk
      refine ⟨e2, s2, hk2, fun μ a w sr => wp_seq (wp_mono (w1 μ a w sr) ?_)⟩
      rintro e a' w' ⟨rfl, μ', hpre, sr'⟩
      exact wp_mono (w2 μ' a' w' sr') fun e a'' w'' ⟨he, μ'', hpre', sr''⟩ => ⟨he, μ'', hpre.trans hpre', sr''⟩
    | exit id => exact ⟨.exit id, s1, hk, fun μ a w sr => wp_seq (wp_mono (w1 μ a w sr) (by rintro e a' w' ⟨rfl, h'⟩; exact ⟨rfl, h'⟩))⟩
    | ret => exact ⟨.ret, s1, hk, fun μ a w sr => wp_seq (wp_mono (w1 μ a w sr) (by rintro e a' w' ⟨rfl, h'⟩; exact ⟨rfl, h'⟩))⟩
  | cond x y z ihy ihz =>
    intro hd s k res h
    simp only [drawsOk, Bool.and_eq_true] at hd
    simp only [ev, condP] at h
    split at h
    · rename_i t ht
      have hev : ∀ μ a w, SR c B W μ s a w → a.eval x = .bool t := by
        intro μ a w sr
        have := sr.fr.eval sr.glob x
        rw [ht] at this
        exact this
      cases t with
      | true =>
        obtain ⟨e1, s1, hk, w1⟩ := ihy hd.1 s k res h
        exact ⟨e1, s1, hk, fun μ a w sr => wp_cond_true (hev μ a w sr) (w1 μ a w sr)⟩
      | false =>
        obtain ⟨e1, s1, hk, w1⟩ := ihz hd.2 s k res h
        exact ⟨e1, s1, hk, fun μ a w sr => wp_cond_false (hev μ a w sr) (w1 μ a w sr)⟩
    · cases h
  | block id x ih =>
    intro hd s k res h
    obtain ⟨e1, s1, hk, w0⟩ := ih hd ⟨killR s.r (c.kl (2 * id + 1)), s.h⟩ _ res h
    have w1 : Way c B W x s e1 s1 := fun μ a w sr => w0 μ a w ⟨sr.fr.kill _, sr.sim, sr.glob⟩
    cases e1 with
    | normal => exact ⟨.normal, s1, hk, fun μ a w sr => wp_block (wp_mono (w1 μ a w sr) (by rintro e a' w' ⟨rfl, h'⟩; exact ⟨rfl, h'⟩))⟩
    | ret => exact ⟨.ret, s1, hk, fun μ a w sr => wp_block (wp_mono (w1 μ a w sr) (by rintro e a' w' ⟨rfl, h'⟩; exact ⟨rfl, h'⟩))⟩
    | exit j =>
      simp only [kBlock] at hk
      by_cases hj : j = id
      · subst hj
        simp only [BEq.rfl, cond_true] at hk
        refine ⟨.normal, s1, hk, fun μ a w sr => wp_block (wp_mono (w1 μ a w sr) ?_)⟩
        rintro e a' w' ⟨rfl, h'⟩
        simp only [exitOf, Exit.inBlock, if_true]
        exact ⟨trivial, h'⟩
      · have hb : (j == id) = false := by simpa using hj
        rw [hb] at hk
        refine ⟨.exit j, s1, hk, fun μ a w sr => wp_block (wp_mono (w1 μ a w sr) ?_)⟩
        rintro e a' w' ⟨rfl, h'⟩
        simp only [exitOf, Exit.inBlock, hj, if_false]
        exact ⟨trivial, h'⟩
  | loop x ih =>
    intro hd s k res h
    simp only [ev] at h
    simp only [drawsOk] at hd
    have key : ∀ (n : Nat) (s : St), loopK (ev c x) n s k = some res → ∃ e s', k e s' = some res ∧ ∀ μ a w, SR c B W μ s a w → Code.rounds c.P x (fun e' a' w' => e' = exitOf e ∧ Later c B W μ s' a' w') n a w := by
      intro n
      induction n with
      | zero => intro s h; cases h
      | succ n ihn =>
        intro s h
        obtain ⟨e1, s1, hk, w1⟩ := ih hd s _ res h
        cases e1 with
        | normal =>
          obtain ⟨e2, s2, hk2, w2⟩ := ihn s1 hk
          refine ⟨e2, s2, hk2, fun μ a w sr => ?_⟩
          rw [rounds_succ]
          refine wp_mono (w1 μ a w sr) ?_
          rintro e a' w' ⟨rfl, μ', hpre, sr'⟩
          refine rounds_mono ?_ n a' w' (w2 μ' a' w' sr')
          exact fun e a'' w'' ⟨he, μ'', hpre', sr''⟩ => ⟨he, μ'', hpre.trans hpre', sr''⟩
        | exit id => exact ⟨.exit id, s1, hk, fun μ a w sr => by rw [rounds_succ]; exact wp_mono (w1 μ a w sr) (by rintro e a' w' ⟨rfl, h'⟩; exact ⟨rfl, h'⟩)⟩
        | ret => exact ⟨.ret, s1, hk, fun μ a w sr => by rw [rounds_succ]; exact wp_mono (w1 μ a w sr) (by rintro e a' w' ⟨rfl, h'⟩; exact ⟨rfl, h'⟩)⟩
    obtain ⟨e, s', hk, w1⟩ := key _ s h
    exact ⟨e, s', hk, fun μ a w sr => wp_loop_rounds _ (w1 μ a w sr)⟩
  | _ => intro _ s k res h; simp [ev] at h

theorem load_no_tup {P : Program} {t : TypeId} {a : PV} {h : PHeap} {p : PV} {μ : List Loc} {v : Value} (hp : loadP P t a h = some p) (hr : rep μ p v) (hc : ∀ (id j : Nat) q, (cellsAt h id)[j]? = some q → ∃ x, repc μ q x) : repa μ p v := by
  unfold loadP at hp
  split at hp
  · split at hp
    · obtain ⟨x, hx⟩ := hc _ _ _ hp
      cases p <;> first | exact hr | exact hx.elim
    · split at hp
      · split at hp
        · cases hp; exact hr
        · cases hp
      · cases hp
    · cases hp
  · cases hp

theorem result_sound {P : Program} {μ : List Loc} {h : PHeap} {w : World} (s : Sim B W μ h w) {r : List PV} {a : Act} (f : FR μ r a) {v : ResultVar} {p : PV} (hp : resultP P r h v = some p)
    (g : ResultVar → Sem Value) (g1 : ∀ t, g (.tmp t) = pure (a.tmps.getD t undef)) (g2 : ∀ t ty, g (.cell t ty) = (do loadVar ty (← asAddr (a.tmps.getD t undef)))) :
    ∃ x, repa μ p x ∧ (g v).run P w = .ok x w := by
  cases v with
  | tmp t =>
    simp only [resultP] at hp
    have hf := f.get t
    refine ⟨a.tmps.getD t undef, ?_, by rw [g1]; rfl⟩
    cases hq : r[t]? with
    | none => rw [hq] at hp; cases hp
    | some q =>
      rw [hq] at hp hf
      have hp : resV q = some p := hp
      simp only [Option.getD_some] at hf
      unfold resV at hp
      split at hp
      · cases hp
      · rename_i hno
        cases hp
        cases p <;> first | exact hf | exact absurd rfl (hno _)
  | cell t ty =>
    simp only [resultP] at hp
    split at hp
    · rename_i q hq
      have hg := f.get t
      rw [hq] at hg
      simp only [Option.getD_some] at hg
      obtain ⟨x, hx, hv⟩ := load_reads s hp hg
      have hv := hv w rfl
      have hptr : ∃ l, a.tmps.getD t undef = .pointer (some l) := by
        cases q <;> simp only [loadP] at hp <;> first | cases hp | (obtain ⟨l, _, h⟩ := rep_ptr hg; exact ⟨_, h⟩)
      obtain ⟨l, hl⟩ := hptr
      refine ⟨x, load_no_tup hp hx (fun id j q hj => ?_), ?_⟩
      · obtain ⟨l, hl⟩ := locAt s hj
        obtain ⟨x, _, hr⟩ := s.cellAt hl hj
        exact ⟨x, hr⟩
      · rw [g2, hl]
        rw [hl] at hv
        simpa [Instr.loadAt, Instr.sureAddr, asAddr] using hv
    · cases hp

theorem results_sound {P : Program} {μ : List Loc} {h : PHeap} {w : World} (s : Sim B W μ h w) {r : List PV} {a : Act} (f : FR μ r a) :
    ∀ (vs : List ResultVar) (ps : List PV), resultsP P r h vs = some ps →
      ∃ xs : List Value, All2 (repa μ) ps xs ∧ ∀ (g : ResultVar → Sem Value), (∀ t, g (.tmp t) = pure (a.tmps.getD t undef)) → (∀ t ty, g (.cell t ty) = (do loadVar ty (← asAddr (a.tmps.getD t undef)))) → (vs.mapM g).run P w = .ok xs w
  | [], ps, hp => by
    simp only [resultsP] at hp
    cases hp
    exact ⟨[], trivial, fun g _ _ => by simp⟩
  | v :: vs, ps, hp => by
    simp only [resultsP, Option.bind_eq_some_iff, Option.map_eq_some_iff] at hp
    obtain ⟨p, hp1, ps', hp2, rfl⟩ := hp
    let g0 : ResultVar → Sem Value := fun v => match v with | .tmp t => pure (a.tmps.getD t undef) | .cell t ty => do loadVar ty (← asAddr (a.tmps.getD t undef))
    obtain ⟨x, hx, hrun⟩ := result_sound s f hp1 g0 (fun _ => rfl) (fun _ _ => rfl)
    obtain ⟨xs, hxs, hruns⟩ := results_sound s f vs ps' hp2
    refine ⟨x :: xs, ⟨hx, hxs⟩, fun g g1 g2 => ?_⟩
    have hg : g v = g0 v := by cases v with
      | tmp t => rw [g1]
      | cell t ty => rw [g2]
    rw [List.mapM_cons, Sem.run_bind, hg, hrun]
    simp only [Result.andThen_ok, Sem.run_bind, hruns g g1 g2, Sem.run_pure]

theorem body_sound (hs : c.p = std c.P) (hc : CallOk c) (hmix : c.P.follows .mixedOrders = true) {fn : Func} {f : FuncId} (hf : c.P.funcs[f]? = some fn) {body : Code} (hb : fn.body = some body) (hd : drawsOk body = true)
    {args : List PV} {h : PHeap} {res : PV × PHeap} (hr : runBody c fn args h = some res) {μ : List Loc} {w : World} {xs : Array Value} (sim : Sim B W μ h w)
    (hgl : ∀ n, rep μ (c.glob n) (.pointer (some ⟨n, 0, none⟩))) (ha : All2 (rep μ) args xs.toList) :
    Calls c.P f xs w fun e w' => ∃ v, e = .returned v ∧ Good B W μ res.1 res.2 v w' := by
  unfold runBody at hr
  have hbody : bodyOf fn = body := by simp [bodyOf, hb]
  rw [hbody] at hr
  obtain ⟨x, s', hk, way⟩ := ev_sound hs hc hmix B W body hd _ _ res hr
  refine calls_of_wp hf hb (wp_mono (way μ _ w ⟨⟨rfl, ?_⟩, sim, hgl⟩) ?_)
  · have h1 := ha.append (All2.replicate (undef_rep μ) (fn.ntmps - xs.size))
    have hl : args.length = xs.size := by have := ha.length; simpa using this
    simpa [start, hl] using h1
  · rintro e a' w' ⟨rfl, μ', hpre, sr'⟩
    have fin : ∀ (hk : resultsK c.P s'.r s'.h fn.results.toList (fun ys => some (oneP ys, s'.h)) = some res), a'.defers = [] ∧ ∃ v, (results fn a'.tmps).run c.P w' = .ok v w' ∧ ∃ v', Ending.returned v = .returned v' ∧ Good B W μ res.1 res.2 v' w' := by
      intro hk
      rw [resultsK_eq, Option.bind_eq_some_iff] at hk
      obtain ⟨ps, hps, hk⟩ := hk
      cases hk
      obtain ⟨ys, hys, hrun⟩ := results_sound sr'.sim sr'.fr fn.results.toList ps hps
      refine ⟨sr'.fr.defers, (if h : ys.toArray.size = 1 then ys.toArray[0] else .tuple ys.toArray), ?_, _, rfl, μ', hpre, ?_, sr'.sim⟩
      · unfold results
        rw [Array.mapM_eq_mapM_toList]
        simp only [Sem.run_bind, Sem.run_map]
        rw [hrun _ (fun _ => rfl) (fun _ _ => rfl)]
        simp only [Result.andThen_ok, Sem.run_pure]
      · match ps, ys, hys with
        | [], [], _ => exact ⟨#[], rfl, trivial⟩
        | [p], [y], hys => exact hys.1.rep
        | p :: p' :: ps, y :: y' :: ys, hys => exact ⟨_, rfl, hys⟩
    cases x with
    | normal => exact fin hk
    | ret => exact fin hk
    | exit id => cases hk

/-- THE INTERPRETER IS SOUND. -/
theorem call_sound (P : Program) (glob : Nat → PV) (kl : FuncId → Nat → List Nat) (lf : Nat) (hmix : P.follows .mixedOrders = true) (hok : progOk P = true) : ∀ (n : Nat) (f : FuncId), CallOk ⟨P, glob, call P glob kl lf n, kl f, lf, std P⟩
  | 0, _ => by intro f args h r hr; cases hr
  | n + 1, f0 => by
    intro f args h r hr
    simp only [call] at hr
    split at hr
    · rename_i fn hfn
      split at hr
      · rename_i hsome
        obtain ⟨body, hb⟩ := Option.isSome_iff_exists.1 hsome
        have hmem : fn ∈ P.funcs.toList := by
          have : P.funcs.toList[f]? = some fn := by simpa using hfn
          exact List.mem_of_getElem? this
        have hthis := List.all_eq_true.1 hok fn hmem
        rw [hb] at hthis
        simp only [Bool.and_eq_true, Bool.not_eq_true'] at hthis
        refine ⟨⟨fn, hfn, hsome, hthis.1⟩, fun B W μ w xs sim hgl ha => ?_⟩
        exact body_sound (c := ⟨P, glob, call P glob kl lf n, kl f, lf, std P⟩) rfl (call_sound P glob kl lf hmix hok n f) hmix hfn hb hthis.2 hr sim hgl ha
      · cases hr
    · cases hr

end
end Go.Ip

