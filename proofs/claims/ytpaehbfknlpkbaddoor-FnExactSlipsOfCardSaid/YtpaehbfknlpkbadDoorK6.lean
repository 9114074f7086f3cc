/- Texts of this seat, in their order, put together by program. -/
import Derived.Test.YtpaehbfknlpkbadDoorK5
import GoSem.Extern.Table
set_option linter.unusedSimpArgs false
set_option linter.unusedVariables false
set_option linter.unusedSectionVars false
/- Every operation of the interpreter is the machine's. -/
set_option maxRecDepth 20000
namespace Go.Ip
open Go Go.RowKit

/-- What is asked of the calls that a function makes. -/
structure CallOk (c : Ctx) : Prop where
  call : ∀ (f : FuncId) (args : List PV) (h : PHeap) (r : PV × PHeap), c.call f args h = some r →
    (∃ fn, c.P.funcs[f]? = some fn ∧ fn.body.isSome = true ∧ (fn.name == "runtime.NumGoroutine") = false) ∧
    ∀ B W μ w (xs : Array Value), Sim B W μ h w → (∀ g, rep μ (c.glob g) (.pointer (some ⟨g, 0, none⟩))) → All2 (rep μ) args xs.toList →
      Calls c.P f xs w fun e w' => ∃ v, e = .returned v ∧ Good B W μ r.1 r.2 v w'
  yld : ∀ (id : Nat) (args : List PV) (h : PHeap) (r : PV × PHeap), c.yld id args h = some r →
    ∀ B W μ w (xs : Array Value) l, Sim B W μ h w → (∀ g, rep μ (c.glob g) (.pointer (some ⟨g, 0, none⟩))) → All2 (rep μ) args xs.toList → μ[id]? = some l →
      ∃ f tmps a b, (Instr.yield l.block xs).run c.P w = .ok (.round l.block f tmps a b) w ∧
        RoundIn Fence.wide 0 c.P l.block f tmps a b w fun e w' => ∃ v, e = .returned v ∧ Good B W μ r.1 r.2 v w'

theorem callFunc_run {P : Program} {f : FuncId} {fn : Func} (hfn : P.funcs[f]? = some fn) (hbody : fn.body.isSome = true) (hname : (fn.name == "runtime.NumGoroutine") = false) (xs : Array Value) (w : World) :
    (callFunc f xs).run P w = .ok (.enter f xs) w := by
  have hb : fn.body ≠ none := by cases hfb : fn.body <;> simp_all
  have hn : fn.name ≠ "runtime.NumGoroutine" := by simpa using hname
  simp [callFunc, hfn, hn, hb]

/-- A function without a text, for which the model stands in. -/
theorem ext_nextI : Extern.allNextRows.lookup "internal/bytealg.IndexByteString" = none := by kernel_rfl
theorem ext_nextC : Extern.allNextRows.lookup "internal/bytealg.CountString" = none := by kernel_rfl
theorem ext_next0 : Extern.allNextRows.lookup "" = none := by kernel_rfl
theorem ext_genI : Extern.allGenericRows.lookup "internal/bytealg.IndexByteString" = none := by kernel_rfl
theorem ext_genC : Extern.allGenericRows.lookup "internal/bytealg.CountString" = none := by kernel_rfl
theorem ext_typI : Extern.allTypedRows.lookup "internal/bytealg.IndexByteString" = none := by kernel_rfl
theorem ext_typC : Extern.allTypedRows.lookup "internal/bytealg.CountString" = none := by kernel_rfl
theorem ext_rowI : Extern.allRows.lookup "internal/bytealg.IndexByteString" = some Extern.BytealgIndexByte.indexByte := by kernel_rfl
theorem ext_rowC : Extern.allRows.lookup "internal/bytealg.CountString" = some Extern.BytealgCount.count := by kernel_rfl
theorem ext_foundI {fn : Func} (h : fn.name = "internal/bytealg.IndexByteString") (h0 : fn.origin = "") : Extern.findNext fn = none ∧ Extern.find fn = some Extern.BytealgIndexByte.indexByte := by
  unfold Extern.findNext Extern.find
  simp only [h, h0, ext_nextI, ext_next0, ext_genI, ext_typI, ext_rowI]
  exact ⟨rfl, rfl⟩
theorem ext_foundC {fn : Func} (h : fn.name = "internal/bytealg.CountString") (h0 : fn.origin = "") : Extern.findNext fn = none ∧ Extern.find fn = some Extern.BytealgCount.count := by
  unfold Extern.findNext Extern.find
  simp only [h, h0, ext_nextC, ext_next0, ext_genC, ext_typC, ext_rowC]
  exact ⟨rfl, rfl⟩
theorem ext_run {P : Program} {μ : List Loc} {f : FuncId} {args : List PV} {p : PV} (h : extP P f args = some p) {xs : Array Value} (ha : All2 (rep μ) args xs.toList) :
    ∃ v, rep μ p v ∧ ∀ w : World, (callFunc f xs).run P w = .ok (.value v) w := by
  unfold extP at h
  split at h
  · rename_i fn s c hfn
    have hx : xs = #[.string s, .int .u8 c] := by
      obtain ⟨l⟩ := xs
      match l, ha with
      | [], ha => exact ha.elim
      | [_], ha => exact ha.2.elim
      | [a, b], ha =>
        have h1 := rep_str.1 ha.1
        have h2 := rep_int.1 ha.2.1
        rw [h1, h2]
      | _ :: _ :: _ :: _, ha => exact ha.2.2.elim
    subst hx
    cases hI : extB fn "internal/bytealg.IndexByteString" with
    | true =>
      rw [hI, cond_true] at h
      cases h
      unfold extB at hI
      simp only [Bool.and_eq_true, beq_iff_eq] at hI
      obtain ⟨hb, hn, ho⟩ := hI
      obtain ⟨e1, e2⟩ := ext_foundI hn ho
      refine ⟨_, rep_int.2 rfl, fun w => ?_⟩
      rw [run_callFunc_extern hfn (by rw [hn]; rfl) hb e1 e2, Lib.run_indexByteString]; rfl
    | false =>
      rw [hI, cond_false] at h
      cases hC : extB fn "internal/bytealg.CountString" with
      | true =>
        rw [hC, cond_true] at h
        cases h
        unfold extB at hC
        simp only [Bool.and_eq_true, beq_iff_eq] at hC
        obtain ⟨hb, hn, ho⟩ := hC
        obtain ⟨e1, e2⟩ := ext_foundC hn ho
        refine ⟨_, rep_int.2 rfl, fun w => ?_⟩
        rw [run_callFunc_extern hfn (by rw [hn]; rfl) hb e1 e2, Lib.run_countString]; rfl
      | false => rw [hC, cond_false] at h; cases h
  · cases h

/-- The boxes that a function literal captures. -/
theorem ptrs_rep {μ : List Loc} : ∀ {l : List PV} {cs : List (Nat × Nat)} {xs : List Value}, ptrsP l = some cs → All2 (rep μ) l xs →
    All2 (fun (p : Nat × Nat) (x : Value) => ∃ l, μ[p.1]? = some l ∧ x = .pointer (some ⟨l.block, l.off + p.2, none⟩)) cs xs
  | [], cs, [], h, _ => by cases h; trivial
  | [], _, _ :: _, _, h => h.elim
  | p :: l, cs, [], _, h => h.elim
  | p :: l, cs, x :: xs, h, ha => by
    cases p <;> simp only [ptrsP] at h <;> try cases h
    rw [Option.map_eq_some_iff] at h
    obtain ⟨cs', h', rfl⟩ := h
    exact ⟨ha.1, ptrs_rep h' ha.2⟩
theorem rep_ptrs {μ : List Loc} : ∀ {cs : List (Nat × Nat)} {xs : List Value}, All2 (fun (p : Nat × Nat) (x : Value) => ∃ l, μ[p.1]? = some l ∧ x = .pointer (some ⟨l.block, l.off + p.2, none⟩)) cs xs → All2 (rep μ) (cs.map ptrOf) xs
  | [], [], _ => trivial
  | _ :: _, _ :: _, h => ⟨h.1, rep_ptrs h.2⟩
  | [], _ :: _, h => h.elim
  | _ :: _, [], h => h.elim

/-- The call of a function value: what function it enters, with what. -/
theorem fcall_ok {c : Ctx} (hc : CallOk c) {B : Nat} {W : Base} {μ : List Loc} {h : PHeap} {w : World} (s : Sim B W μ h w) (hgl : ∀ g, rep μ (c.glob g) (.pointer (some ⟨g, 0, none⟩))) {v : PV} {x : Value} (hv : rep μ v x)
    {args : List PV} {xs : Array Value} (ha : All2 (rep μ) args xs.toList) {r : PV × PHeap} (hp : fcall c.call v args h = some r) :
    ∃ f cap, x = .func (.func f) #[] cap ∧ (callFunc f (xs ++ cap)).run c.P w = .ok (.enter f (xs ++ cap)) w ∧ Calls c.P f (xs ++ cap) w fun e w' => ∃ v, e = .returned v ∧ Good B W μ r.1 r.2 v w' := by
  unfold fcall at hp
  split at hp
  · rename_i f
    obtain ⟨⟨fn, hfn, hbody, hname⟩, hcall⟩ := hc.call _ _ _ _ hp
    have hx : x = .func (.func f) #[] #[] := hv
    exact ⟨f, #[], hx, callFunc_run hfn hbody hname _ _, by rw [Array.append_empty]; exact hcall B W μ w xs s hgl ha⟩
  · rename_i f cs
    obtain ⟨⟨fn, hfn, hbody, hname⟩, hcall⟩ := hc.call _ _ _ _ hp
    obtain ⟨cap, hx, hcap⟩ : ∃ ys : Array Value, x = .func (.func f) #[] ys ∧ All2 (fun (p : Nat × Nat) (x : Value) => ∃ l, μ[p.1]? = some l ∧ x = .pointer (some ⟨l.block, l.off + p.2, none⟩)) cs ys.toList := hv
    exact ⟨f, cap, hx, callFunc_run hfn hbody hname _ _, hcall B W μ w (xs ++ cap) s hgl (by rw [Array.toList_append]; exact ha.append (rep_ptrs hcap))⟩
  · cases hp

section
variable {c : Ctx} {B : Nat} {W : Base} {μ : List Loc} {h : PHeap} {w : World} {e : Operand → PV} {ρ : Operand → Value}

theorem Reads.value {P : Program} {C : World → Prop} {p : PV} {m : Sem Value} (r : Reads P μ C p m) {n : Sem Next} (hn : n = (do pure (.value (← m)))) :
    ∃ v, rep μ p v ∧ ∀ w' : World, C w' → n.run P w' = .ok (.value v) w' := by
  obtain ⟨v, hr, hv⟩ := r
  exact ⟨v, hr, fun w' hw => by rw [hn, Sem.run_bind, hv w' hw]; rfl⟩

theorem pv_some {x : Option PV} {p : PV} {h' : PHeap} (hp : pv h x = some (p, h')) : x = some p ∧ h' = h := by
  unfold pv at hp
  cases x with
  | none => simp at hp
  | some y => simp at hp; exact ⟨by rw [hp.1], hp.2.symm⟩

theorem parts_ok (he : ∀ x, rep μ (e x) (ρ x)) (parts : Array (Nat × Operand)) : PartsOk μ (parts.toList.map fun p => (p.1, e p.2)) (parts.map fun (i, x) => (i, ρ x)).toList := by
  rw [Array.toList_map]
  exact All2.map _ _ _ fun x _ => ⟨rfl, he x.2⟩

theorem args_ok (he : ∀ x, rep μ (e x) (ρ x)) (l : List Operand) : All2 (rep μ) (l.map e) (l.map ρ) := All2.map e ρ l fun x _ => he x

theorem opt_ok (he : ∀ x, rep μ (e x) (ρ x)) (o : Option Operand) : ∀ q, o.map e = some q → ∃ b, o.map ρ = some b ∧ rep μ q b := by
  intro q hq
  cases o with
  | none => cases hq
  | some x => cases hq; exact ⟨_, rfl, he x⟩

theorem pop_reads (hs : c.p = std c.P) (s : Sim B W μ h w) (he : ∀ x, rep μ (e x) (ρ x)) {o : Oper} {p : PV} {h' : PHeap} (hq : quietOp o.op = true) (hp : pop c e o.op h = some (p, h'))
    (C : World → Prop) (hC : pureOp c.P o.op = false → ∀ w', C w' → w'.heap = w.heap) :
    h' = h ∧ ∃ v, rep μ p v ∧ ∀ w' : World, C w' → (execOp ρ o).run c.P w' = .ok (.value v) w' := by
  obtain ⟨dst, op, ty, pos, after, guard⟩ := o
  simp only at hq hp hC
  cases op <;> simp only [quietOp, Bool.false_eq_true] at hq <;> simp only [pop, hs, std] at hp
  case move x => cases hp; exact ⟨rfl, _, he x, fun w' _ => rfl⟩
  case assign x => cases hp; exact ⟨rfl, _, he x, fun w' _ => rfl⟩
  case pick x a b =>
    obtain ⟨hP, rfl⟩ := pv_some hp; clear hp; have hp := hP
    refine ⟨rfl, ?_⟩
    unfold pickP at hp
    split at hp
    · rename_i t ht
      cases hp
      have hx := he x
      rw [ht] at hx
      have hx' : ρ x = .bool t := hx
      refine ⟨bif t then ρ a else ρ b, ?_, fun w' _ => ?_⟩
      · cases t
        · exact he b
        · exact he a
      · cases t <;> simp [execOp, hx', asBool]
    · cases hp
  case build t parts =>
    obtain ⟨hP, rfl⟩ := pv_some hp; clear hp; have hp := hP
    exact ⟨rfl, (build_reads hp (parts_ok he parts)).value rfl⟩
  case load t a =>
    obtain ⟨hP, rfl⟩ := pv_some hp; clear hp; have hp := hP
    obtain ⟨v, hr, hv⟩ := (load_reads s hp (he a)).value rfl
    exact ⟨rfl, v, hr, fun w' hw => hv w' (hC rfl w' hw)⟩
  case nilCheck x =>
    obtain ⟨hP, rfl⟩ := pv_some hp; clear hp; have hp := hP
    obtain ⟨hr, l, hl⟩ := ptr_reads hp (he x)
    exact ⟨rfl, _, hr, fun w' _ => by simp [execOp, hl]⟩
  case binOp op t x y yt =>
    obtain ⟨hP, rfl⟩ := pv_some hp; clear hp; have hp := hP
    exact ⟨rfl, (bin_reads hp (he x) (he y)).value rfl⟩
  case unOp op t x =>
    obtain ⟨hP, rfl⟩ := pv_some hp; clear hp; have hp := hP
    exact ⟨rfl, (un_reads hp (he x)).value rfl⟩
  case convert a b x =>
    cases hsl : isSliceT c.P a with
    | true =>
      rw [hsl, cond_true] at hp
      obtain ⟨hP, rfl⟩ := pv_some hp
      obtain ⟨v, hr, hv⟩ := (bstr_reads s hP (he x)).value rfl
      exact ⟨rfl, v, hr, fun w' hw => hv w' (hC (by simp only [pureOp, hsl, Bool.not_true]) w' hw)⟩
    | false =>
      rw [hsl, cond_false] at hp
      obtain ⟨hP, rfl⟩ := pv_some hp; clear hp; have hp := hP
      exact ⟨rfl, (conv_reads hp (he x)).value rfl⟩
  case slice t x lo hi mx =>
    cases mx with
    | some m => cases hp
    | none =>
      obtain ⟨hP, rfl⟩ := pv_some hp; clear hp; have hp := hP
      cases hst : isStrT c.P t with
      | true => exact ⟨rfl, (strSlice_reads hst hp (he x) (opt_ok he lo) (by cases lo <;> simp) (opt_ok he hi) (by cases hi <;> simp)).value rfl⟩
      | false =>
      have hC := hC (by simp only [pureOp, hst])
      obtain ⟨v, hr, hv⟩ := (slice_reads s hp (he x) (opt_ok he lo) (by cases lo <;> simp) (opt_ok he hi) (by cases hi <;> simp)).value rfl
      exact ⟨rfl, v, hr, fun w' hw => hv w' (hC w' hw)⟩
  case fieldAddr t x f =>
    obtain ⟨hP, rfl⟩ := pv_some hp; clear hp; have hp := hP
    exact ⟨rfl, (fieldAddr_reads hp (he x)).value rfl⟩
  case field t x f =>
    obtain ⟨hP, rfl⟩ := pv_some hp; clear hp; have hp := hP
    exact ⟨rfl, (field_reads hp (he x)).value rfl⟩
  case indexAddr t x i =>
    obtain ⟨hP, rfl⟩ := pv_some hp; clear hp; have hp := hP
    exact ⟨rfl, (indexAddr_reads hp (he x) (he i)).value rfl⟩
  case index t x i =>
    obtain ⟨hP, rfl⟩ := pv_some hp; clear hp; have hp := hP
    exact ⟨rfl, (index_reads hp (he x) (he i)).value rfl⟩
  case extract x i =>
    obtain ⟨hP, rfl⟩ := pv_some hp; clear hp; have hp := hP
    exact ⟨rfl, (extract_reads hp (he x)).value rfl⟩
  case makeFunc f first caps =>
    split at hp
    · rename_i g hfirst
      obtain ⟨hP, rfl⟩ := pv_some hp; clear hp
      unfold closP at hP
      rw [Option.map_eq_some_iff] at hP
      obtain ⟨cs, hcs, rfl⟩ := hP
      have h1 : first = #[] := by apply Array.ext'; simpa using hfirst
      subst h1
      refine ⟨rfl, .func (.func g) #[] (caps.map ρ), ⟨caps.map ρ, rfl, ?_⟩, fun w' _ => by simp [execOp, Instr.makeFunc]⟩
      rw [Array.toList_map]
      exact ptrs_rep hcs (args_ok he _)
    · cases hp
  case lookup t m k ok =>
    obtain ⟨hP, rfl⟩ := pv_some hp; clear hp; have hp := hP
    obtain ⟨v, hr, hv⟩ := (lookup_reads s hp (he m) (he k)).value rfl
    exact ⟨rfl, v, hr, fun w' hw => hv w' (hC rfl w' hw)⟩
  case call cl =>
    obtain ⟨callee, args, argTypes⟩ := cl
    cases callee with
    | value f => simp at hq
    | invoke r m => simp at hq
    | builtin b =>
      cases b <;> simp only [Bool.false_eq_true] at hq <;> simp only [callP, hs, std] at hp
      case len =>
        split at hp
        · rename_i t ts x xs ht hx
          obtain ⟨hP, rfl⟩ := pv_some hp; clear hp; have hp := hP
          refine ⟨rfl, ?_⟩
          have h1 : argTypes[0]? = some t := by rw [← Array.getElem?_toList, ht]; rfl
          have h2 : (args.map ρ)[0]? = some (ρ x) := by
            have : args[0]? = some x := by rw [← Array.getElem?_toList, hx]; rfl
            simp [this]
          obtain ⟨v, hr, hv⟩ := len_reads (P := c.P) (w := C) (ty := ty) hp (he x) h1 h2
          refine ⟨v, hr, fun w' hw => ?_⟩
          simp [execOp, resolve, invoke, builtin, hv w' hw]
        · cases hp
      case max =>
        split at hp
        · rename_i x ys hx
          obtain ⟨hP, rfl⟩ := pv_some hp; clear hp; have hp := hP
          refine ⟨rfl, ?_⟩
          obtain ⟨v, hr, hv⟩ := fold_reads (P := c.P) (w := C) max2_reads (ys.map e) (ys.map ρ) (e x) (ρ x) p hp (he x) (args_ok he ys)
          refine ⟨v, hr, fun w' hw => ?_⟩
          simp [execOp, resolve, invoke, builtin, Builtin.max_, hx, hv w' hw]
        · cases hp
      case min =>
        split at hp
        · rename_i x ys hx
          obtain ⟨hP, rfl⟩ := pv_some hp; clear hp; have hp := hP
          refine ⟨rfl, ?_⟩
          obtain ⟨v, hr, hv⟩ := fold_reads (P := c.P) (w := C) min2_reads (ys.map e) (ys.map ρ) (e x) (ρ x) p hp (he x) (args_ok he ys)
          refine ⟨v, hr, fun w' hw => ?_⟩
          simp [execOp, resolve, invoke, builtin, Builtin.min_, hx, hv w' hw]
        · cases hp

theorem pop_quiet (hs : c.p = std c.P) (s : Sim B W μ h w) (he : ∀ x, rep μ (e x) (ρ x)) {o : Oper} {p : PV} {h' : PHeap} (hq : quietOp o.op = true) (hp : pop c e o.op h = some (p, h')) :
    h' = h ∧ ∃ v, rep μ p v ∧ ∀ w' : World, w'.heap = w.heap → (execOp ρ o).run c.P w' = .ok (.value v) w' :=
  pop_reads hs s he hq hp (fun w' => w'.heap = w.heap) fun _ _ hw => hw

theorem quiet_of_pure {P : Program} {o : Op} (h : pureOp P o = true) : quietOp o = true := by
  unfold pureOp at h
  split at h <;> first | rfl | cases h

theorem pop_pure (hs : c.p = std c.P) (s : Sim B W μ h w) (he : ∀ x, rep μ (e x) (ρ x)) {o : Oper} {p : PV} {h' : PHeap} (hq : pureOp c.P o.op = true) (hp : pop c e o.op h = some (p, h')) :
    h' = h ∧ ∃ v, rep μ p v ∧ ∀ w' : World, (execOp ρ o).run c.P w' = .ok (.value v) w' := by
  obtain ⟨hh, v, hr, hv⟩ := pop_reads hs s he (quiet_of_pure hq) hp (fun _ => True) fun hn => by rw [hq] at hn; cases hn
  exact ⟨hh, v, hr, fun w' => hv w' trivial⟩

theorem GoodM.go {P : Program} {p : PV} {h' : PHeap} {m : Sem Value} (g : GoodM P B W μ p h' w m) {o : Oper} (hn : execOp ρ o = (do pure (.value (← m)))) : OpGo P ρ o w (Good B W μ p h') := by
  obtain ⟨v, w', hrun, hg⟩ := g
  unfold OpGo
  rw [hn, Sem.run_bind, hrun]
  exact hg

theorem pop_sound (hs : c.p = std c.P) (hc : CallOk c) (s : Sim B W μ h w) (hgl : ∀ g, rep μ (c.glob g) (.pointer (some ⟨g, 0, none⟩))) (he : ∀ x, rep μ (e x) (ρ x)) (hf : ∀ f, ρ (.func f) = .func (.func f) #[] #[])
    {o : Oper} {p : PV} {h' : PHeap} (hp : pop c e o.op h = some (p, h')) : OpGo c.P ρ o w (Good B W μ p h') := by
  by_cases hq : quietOp o.op = true
  · obtain ⟨rfl, v, hr, hv⟩ := pop_quiet (c := c) hs s he hq hp
    unfold OpGo
    rw [hv w rfl]
    exact ⟨μ, List.prefix_refl _, hr, s⟩
  · obtain ⟨dst, op, ty, pos, after, guard⟩ := o
    simp only at hq hp
    cases op <;> simp only [quietOp, not_true_eq_false] at hq <;> simp only [pop, hs, std] at hp <;> try cases hp
    case alloc t => exact (alloc_good s hp).go rfl
    case box t x => exact (box_good s hp (he x)).go rfl
    case buildSlice t len parts => exact (buildSlice_good s hp (parts_ok he parts)).go rfl
    case store t a v =>
      cases hs : storeP c.P t (e a) (e v) h with
      | none => simp [hs] at hp
      | some h1 =>
        simp [hs] at hp
        obtain ⟨rfl, rfl⟩ := hp
        obtain ⟨w', hrun, s'⟩ := store_good s hs (he a) (he v)
        unfold OpGo
        simp only [execOp, Sem.run_bind, hrun, Result.andThen_ok, Sem.run_pure]
        exact ⟨μ, List.prefix_refl _, ⟨#[], rfl, trivial⟩, s'⟩
    case makeMap t r => exact (makeMap_good s hp (r' := r.map ρ) (by cases r <;> simp)).go rfl
    case mapUpdate t m k v =>
      cases hs : updateP c.P t (e m) (e k) (e v) h with
      | none => simp [hs] at hp
      | some h1 =>
        simp [hs] at hp
        obtain ⟨rfl, rfl⟩ := hp
        obtain ⟨w', hrun, s'⟩ := update_good s hs (he m) (he k) (he v)
        unfold OpGo
        simp only [execOp, Sem.run_bind, hrun, Result.andThen_ok, Sem.run_pure]
        exact ⟨μ, List.prefix_refl _, ⟨#[], rfl, trivial⟩, s'⟩
    case makeSlice t l m => exact (make_good s hp (he l) (he m)).go rfl
    case call cl =>
      obtain ⟨callee, args, argTypes⟩ := cl
      simp only [callP, hs, std] at hp
      split at hp
      · rename_i f
        cases hx : isExt c.P f with
        | true =>
          rw [hx, cond_true] at hp
          obtain ⟨hP, rfl⟩ := pv_some hp
          obtain ⟨v, hr, hv⟩ := ext_run hP (xs := args.map ρ) (by rw [Array.toList_map]; exact args_ok he _)
          unfold OpGo
          have hrun : (execOp ρ ⟨dst, .call ⟨.value (.func f), args, argTypes⟩, ty, pos, after, guard⟩).run c.P w = .ok (.value v) w := by
            simp [execOp, resolve, Deferred.ofValue, hf, invoke, hv w]
          rw [hrun]
          exact ⟨μ, List.prefix_refl _, hr, s⟩
        | false =>
        rw [hx, cond_false] at hp
        obtain ⟨⟨fn, hfn, hbody, hname⟩, hcall⟩ := hc.call _ _ _ _ hp
        unfold OpGo
        have hrun : (execOp ρ ⟨dst, .call ⟨.value (.func f), args, argTypes⟩, ty, pos, after, guard⟩).run c.P w = .ok (.enter f (args.map ρ)) w := by
          have hb : fn.body ≠ none := by cases hfb : fn.body <;> simp_all
          have hn : fn.name ≠ "runtime.NumGoroutine" := by simpa using hname
          simp [execOp, resolve, Deferred.ofValue, hf, invoke, callFunc, hfn, hn, hb]
        rw [hrun]
        exact hcall B W μ w (args.map ρ) s hgl (by rw [Array.toList_map]; exact args_ok he _)
      · rename_i t
        unfold OpGo
        unfold vcall at hp
        split at hp
        · rename_i id hid
          obtain ⟨l, hl, hval⟩ : ∃ l, μ[id]? = some l ∧ ρ (.tmp t) = .func (.yield l.block) #[] #[] := by
            have := he (.tmp t); rw [hid] at this; exact this
          obtain ⟨f, tmps, a, b, hrun, hround⟩ := hc.yld _ _ _ _ hp B W μ w (args.map ρ) l s hgl (by rw [Array.toList_map]; exact args_ok he _) hl
          have hrun' : (execOp ρ ⟨dst, .call ⟨.value (.tmp t), args, argTypes⟩, ty, pos, after, guard⟩).run c.P w = .ok (.round l.block f tmps a b) w := by
            simp [execOp, resolve, Deferred.ofValue, hval, invoke, hrun]
          rw [hrun']
          exact hround
        · obtain ⟨f, cap, hval, hcf, hcall⟩ := fcall_ok hc s hgl (he (.tmp t)) (xs := args.map ρ) (by rw [Array.toList_map]; exact args_ok he _) hp
          have hrun : (execOp ρ ⟨dst, .call ⟨.value (.tmp t), args, argTypes⟩, ty, pos, after, guard⟩).run c.P w = .ok (.enter f (args.map ρ ++ cap)) w := by
            simp [execOp, resolve, Deferred.ofValue, hval, invoke, hcf]
          rw [hrun]
          exact hcall
      · simp at hq
      · split at hp
        · rename_i t t2 x y ht hx
          have h1 : argTypes = #[t, t2] := by apply Array.ext'; simpa using ht
          have h2 : args = #[x, y] := by apply Array.ext'; simpa using hx
          subst h1 h2
          exact (append_good (ty := ty) s hp (he x) (he y)).go (by simp [execOp, resolve, invoke, builtin])
        · cases hp
      · simp at hq
      · simp at hq
      · cases hp

end
end Go.Ip

