/- Every operation of the interpreter is the machine's. -/
import Derived.Test.YtiflfnlpkhghpaaDoorIpOps4
namespace Go.Ip
open Go Go.RowKit

/-- What is asked of the calls that a function makes. -/
def CallOk (c : Ctx) : Prop := ∀ (f : FuncId) (args : List PV) (h : PHeap) (r : PV × PHeap), c.call f args h = some r →
  (∃ fn, c.P.funcs[f]? = some fn ∧ fn.body.isSome = true ∧ (fn.name == "runtime.NumGoroutine") = false) ∧
  ∀ B W μ w (xs : Array Value), Sim B W μ h w → (∀ g, rep μ (c.glob g) (.pointer (some ⟨g, 0, none⟩))) → All2 (rep μ) args xs.toList →
    Calls c.P f xs w fun e w' => ∃ v, e = .returned v ∧ Good B W μ r.1 r.2 v w'

section
variable {c : Ctx} {B : Nat} {W : World} {μ : List Loc} {h : PHeap} {w : World} {e : Operand → PV} {ρ : Operand → Value}

theorem Reads.value {P : Program} {C : World → Prop} {p : PV} {m : Sem Value} (r : Reads P μ C p m) {n : Sem Next} (hn : n = (do pure (.value (← m)))) :
    ∃ v, rep μ p v ∧ ∀ w' : World, C w' → n.run P w' = .ok (.value v) w' := by
  obtain ⟨v, hr, hv⟩ := r
  exact ⟨v, hr, fun w' hw => by rw [hn, Sem.run_bind, hv w' hw]; rfl⟩

theorem pv_some {x : Option PV} {p : PV} {h' : PHeap} (hp : pv h x = some (p, h')) : x = some p ∧ h' = h := by
  unfold pv at hp
  cases x with
  | none => simp at hp
  | some y => simp at hp; exact ⟨by rw [hp.1], hp.2.symm⟩

theorem parts_ok (he : ∀ x, rep μ (e x) (ρ x)) (parts : Array (Nat × Operand)) : PartsOk μ (parts.toList.map fun p => (p.1, e p.2)) (parts.map fun (i, x) => (i, ρ x)).toList := by
  rw [Array.toList_map]
  exact All2.map _ _ _ fun x _ => ⟨rfl, he x.2⟩

theorem args_ok (he : ∀ x, rep μ (e x) (ρ x)) (l : List Operand) : All2 (rep μ) (l.map e) (l.map ρ) := All2.map e ρ l fun x _ => he x

theorem opt_ok (he : ∀ x, rep μ (e x) (ρ x)) (o : Option Operand) : ∀ q, o.map e = some q → ∃ b, o.map ρ = some b ∧ rep μ q b := by
  intro q hq
  cases o with
  | none => cases hq
  | some x => cases hq; exact ⟨_, rfl, he x⟩

theorem pop_reads (hs : c.p = std c.P) (s : Sim B W μ h w) (he : ∀ x, rep μ (e x) (ρ x)) {o : Oper} {p : PV} {h' : PHeap} (hq : quietOp o.op = true) (hp : pop c e o.op h = some (p, h'))
    (C : World → Prop) (hC : pureOp o.op = false → ∀ w', C w' → w'.heap = w.heap) :
    h' = h ∧ ∃ v, rep μ p v ∧ ∀ w' : World, C w' → (execOp ρ o).run c.P w' = .ok (.value v) w' := by
  obtain ⟨dst, op, ty, pos, after, guard⟩ := o
  simp only at hq hp hC
  cases op <;> simp only [quietOp, Bool.false_eq_true] at hq <;> simp only [pop, hs, std] at hp
  case move x => cases hp; exact ⟨rfl, _, he x, fun w' _ => rfl⟩
  case assign x => cases hp; exact ⟨rfl, _, he x, fun w' _ => rfl⟩
  case pick x a b =>
    obtain ⟨hP, rfl⟩ := pv_some hp; clear hp; have hp := hP
    refine ⟨rfl, ?_⟩
    unfold pickP at hp
    split at hp
    · rename_i t ht
      cases hp
      have hx := he x
      rw [ht] at hx
      have hx' : ρ x = .bool t := hx
      refine ⟨bif t then ρ a else ρ b, ?_, fun w' _ => ?_⟩
      · cases t
        · exact he b
        · exact he a
      · cases t <;> simp [execOp, hx', asBool]
    · cases hp
  case build t parts =>
    obtain ⟨hP, rfl⟩ := pv_some hp; clear hp; have hp := hP
    exact ⟨rfl, (build_reads hp (parts_ok he parts)).value rfl⟩
  case load t a =>
    obtain ⟨hP, rfl⟩ := pv_some hp; clear hp; have hp := hP
    obtain ⟨v, hr, hv⟩ := (load_reads s hp (he a)).value rfl
    exact ⟨rfl, v, hr, fun w' hw => hv w' (hC rfl w' hw)⟩
  case nilCheck x =>
    obtain ⟨hP, rfl⟩ := pv_some hp; clear hp; have hp := hP
    obtain ⟨hr, l, hl⟩ := ptr_reads hp (he x)
    exact ⟨rfl, _, hr, fun w' _ => by simp [execOp, hl]⟩
  case binOp op t x y yt =>
    obtain ⟨hP, rfl⟩ := pv_some hp; clear hp; have hp := hP
    exact ⟨rfl, (bin_reads hp (he x) (he y)).value rfl⟩
  case unOp op t x =>
    obtain ⟨hP, rfl⟩ := pv_some hp; clear hp; have hp := hP
    exact ⟨rfl, (un_reads hp (he x)).value rfl⟩
  case convert a b x =>
    obtain ⟨hP, rfl⟩ := pv_some hp; clear hp; have hp := hP
    exact ⟨rfl, (conv_reads hp (he x)).value rfl⟩
  case slice t x lo hi mx =>
    cases mx with
    | some m => cases hp
    | none =>
      obtain ⟨hP, rfl⟩ := pv_some hp; clear hp; have hp := hP
      obtain ⟨v, hr, hv⟩ := (slice_reads s hp (he x) (opt_ok he lo) (by cases lo <;> simp) (opt_ok he hi) (by cases hi <;> simp)).value rfl
      exact ⟨rfl, v, hr, fun w' hw => hv w' (hC rfl w' hw)⟩
  case fieldAddr t x f =>
    obtain ⟨hP, rfl⟩ := pv_some hp; clear hp; have hp := hP
    exact ⟨rfl, (fieldAddr_reads hp (he x)).value rfl⟩
  case field t x f =>
    obtain ⟨hP, rfl⟩ := pv_some hp; clear hp; have hp := hP
    exact ⟨rfl, (field_reads hp (he x)).value rfl⟩
  case indexAddr t x i =>
    obtain ⟨hP, rfl⟩ := pv_some hp; clear hp; have hp := hP
    exact ⟨rfl, (indexAddr_reads hp (he x) (he i)).value rfl⟩
  case index t x i =>
    obtain ⟨hP, rfl⟩ := pv_some hp; clear hp; have hp := hP
    exact ⟨rfl, (index_reads hp (he x) (he i)).value rfl⟩
  case extract x i =>
    obtain ⟨hP, rfl⟩ := pv_some hp; clear hp; have hp := hP
    exact ⟨rfl, (extract_reads hp (he x)).value rfl⟩
  case call cl =>
    obtain ⟨callee, args, argTypes⟩ := cl
    cases callee with
    | value f => simp at hq
    | invoke r m => simp at hq
    | builtin b =>
      cases b <;> simp only [Bool.false_eq_true] at hq <;> simp only [callP, hs, std] at hp
      case len =>
        split at hp
        · rename_i t ts x xs ht hx
          obtain ⟨hP, rfl⟩ := pv_some hp; clear hp; have hp := hP
          refine ⟨rfl, ?_⟩
          have h1 : argTypes[0]? = some t := by rw [← Array.getElem?_toList, ht]; rfl
          have h2 : (args.map ρ)[0]? = some (ρ x) := by
            have : args[0]? = some x := by rw [← Array.getElem?_toList, hx]; rfl
            simp [this]
          obtain ⟨v, hr, hv⟩ := len_reads (P := c.P) (w := C) (ty := ty) hp (he x) h1 h2
          refine ⟨v, hr, fun w' hw => ?_⟩
          simp [execOp, resolve, invoke, builtin, hv w' hw]
        · cases hp
      case max =>
        split at hp
        · rename_i x ys hx
          obtain ⟨hP, rfl⟩ := pv_some hp; clear hp; have hp := hP
          refine ⟨rfl, ?_⟩
          obtain ⟨v, hr, hv⟩ := fold_reads (P := c.P) (w := C) max2_reads (ys.map e) (ys.map ρ) (e x) (ρ x) p hp (he x) (args_ok he ys)
          refine ⟨v, hr, fun w' hw => ?_⟩
          simp [execOp, resolve, invoke, builtin, Builtin.max_, hx, hv w' hw]
        · cases hp
      case min =>
        split at hp
        · rename_i x ys hx
          obtain ⟨hP, rfl⟩ := pv_some hp; clear hp; have hp := hP
          refine ⟨rfl, ?_⟩
          obtain ⟨v, hr, hv⟩ := fold_reads (P := c.P) (w := C) min2_reads (ys.map e) (ys.map ρ) (e x) (ρ x) p hp (he x) (args_ok he ys)
          refine ⟨v, hr, fun w' hw => ?_⟩
          simp [execOp, resolve, invoke, builtin, Builtin.min_, hx, hv w' hw]
        · cases hp

theorem pop_quiet (hs : c.p = std c.P) (s : Sim B W μ h w) (he : ∀ x, rep μ (e x) (ρ x)) {o : Oper} {p : PV} {h' : PHeap} (hq : quietOp o.op = true) (hp : pop c e o.op h = some (p, h')) :
    h' = h ∧ ∃ v, rep μ p v ∧ ∀ w' : World, w'.heap = w.heap → (execOp ρ o).run c.P w' = .ok (.value v) w' :=
  pop_reads hs s he hq hp (fun w' => w'.heap = w.heap) fun _ _ hw => hw

theorem quiet_of_pure {o : Op} (h : pureOp o = true) : quietOp o = true := by
  unfold pureOp at h
  split at h <;> first | rfl | cases h

theorem pop_pure (hs : c.p = std c.P) (s : Sim B W μ h w) (he : ∀ x, rep μ (e x) (ρ x)) {o : Oper} {p : PV} {h' : PHeap} (hq : pureOp o.op = true) (hp : pop c e o.op h = some (p, h')) :
    h' = h ∧ ∃ v, rep μ p v ∧ ∀ w' : World, (execOp ρ o).run c.P w' = .ok (.value v) w' := by
  obtain ⟨hh, v, hr, hv⟩ := pop_reads hs s he (quiet_of_pure hq) hp (fun _ => True) fun hn => by rw [hq] at hn; cases hn
  exact ⟨hh, v, hr, fun w' => hv w' trivial⟩

theorem GoodM.go {P : Program} {p : PV} {h' : PHeap} {m : Sem Value} (g : GoodM P B W μ p h' w m) {o : Oper} (hn : execOp ρ o = (do pure (.value (← m)))) : OpGo P ρ o w (Good B W μ p h') := by
  obtain ⟨v, w', hrun, hg⟩ := g
  unfold OpGo
  rw [hn, Sem.run_bind, hrun]
  exact hg

theorem pop_sound (hs : c.p = std c.P) (hc : CallOk c) (s : Sim B W μ h w) (hgl : ∀ g, rep μ (c.glob g) (.pointer (some ⟨g, 0, none⟩))) (he : ∀ x, rep μ (e x) (ρ x)) (hf : ∀ f, ρ (.func f) = .func (.func f) #[] #[])
    {o : Oper} {p : PV} {h' : PHeap} (hp : pop c e o.op h = some (p, h')) : OpGo c.P ρ o w (Good B W μ p h') := by
  by_cases hq : quietOp o.op = true
  · obtain ⟨rfl, v, hr, hv⟩ := pop_quiet (c := c) hs s he hq hp
    unfold OpGo
    rw [hv w rfl]
    exact ⟨μ, List.prefix_refl _, hr, s⟩
  · obtain ⟨dst, op, ty, pos, after, guard⟩ := o
    simp only at hq hp
    cases op <;> simp only [quietOp, not_true_eq_false] at hq <;> simp only [pop, hs, std] at hp <;> try cases hp
    case alloc t => exact (alloc_good s hp).go rfl
    case box t x => exact (box_good s hp (he x)).go rfl
    case buildSlice t len parts => exact (buildSlice_good s hp (parts_ok he parts)).go rfl
    case store t a v =>
      cases hs : storeP c.P t (e a) (e v) h with
      | none => simp [hs] at hp
      | some h1 =>
        simp [hs] at hp
        obtain ⟨rfl, rfl⟩ := hp
        obtain ⟨w', hrun, s'⟩ := store_good s hs (he a) (he v)
        unfold OpGo
        simp only [execOp, Sem.run_bind, hrun, Result.andThen_ok, Sem.run_pure]
        exact ⟨μ, List.prefix_refl _, ⟨#[], rfl, trivial⟩, s'⟩
    case makeSlice t l m => exact (make_good s hp (he l) (he m)).go rfl
    case call cl =>
      obtain ⟨callee, args, argTypes⟩ := cl
      simp only [callP, hs, std] at hp
      split at hp
      · rename_i f
        obtain ⟨⟨fn, hfn, hbody, hname⟩, hcall⟩ := hc _ _ _ _ hp
        unfold OpGo
        have hrun : (execOp ρ ⟨dst, .call ⟨.value (.func f), args, argTypes⟩, ty, pos, after, guard⟩).run c.P w = .ok (.enter f (args.map ρ)) w := by
          have hb : fn.body ≠ none := by cases hfb : fn.body <;> simp_all
          have hn : fn.name ≠ "runtime.NumGoroutine" := by simpa using hname
          simp [execOp, resolve, Deferred.ofValue, hf, invoke, callFunc, hfn, hn, hb]
        rw [hrun]
        exact hcall B W μ w (args.map ρ) s hgl (by rw [Array.toList_map]; exact args_ok he _)
      · simp at hq
      · split at hp
        · rename_i t t2 x y ht hx
          have h1 : argTypes = #[t, t2] := by apply Array.ext'; simpa using ht
          have h2 : args = #[x, y] := by apply Array.ext'; simpa using hx
          subst h1 h2
          exact (append_good (ty := ty) s hp (he x) (he y)).go (by simp [execOp, resolve, invoke, builtin])
        · cases hp
      · simp at hq
      · simp at hq
      · cases hp

end
end Go.Ip
