/- Texts of this seat, in their order, put together by program. -/
import Derived.Test.YtocjdekcmhgjeaaDoorK9
set_option linter.unusedSimpArgs false
set_option linter.unusedVariables false
set_option linter.unusedSectionVars false
/- The program's search of the reverse game: its map, the iterator over the cells that are safe, and who wins what stands. -/
set_option maxRecDepth 20000
namespace Go.Proofs.YtocjdekcmhgjeaaDoor
open Go Go.Ip G

/-- Every entry of the map tells who wins. -/
def RMemo (R C : Nat) (es : List (PV × PV)) : Prop := ∀ p ∈ es, ∃ f a b t, Stands R C f a b t ∧ p = (stP f a b t, .int .i64 (revN R C a b t : Int))

theorem rmemo_find {R C f a b t : Nat} : ∀ {es : List (PV × PV)} {v : PV}, RMemo R C es → findM es (stP f a b t) = some v → v = .int .i64 (revN R C a b t : Int)
  | [], v, _, h => by cases h
  | p :: es, v, hm, h => by
    obtain ⟨f', a', b', t', _, rfl⟩ := hm p (by simp)
    unfold findM at h
    cases e : eqK (stP f' a' b' t') (stP f a b t) with
    | true =>
      rw [e] at h
      obtain ⟨_, rfl, rfl, rfl⟩ := eqK_st e
      cases h; rfl
    | false =>
      rw [e] at h
      exact rmemo_find (fun q hq => hm q (by simp [hq])) h
theorem rmemo_put {R C f a b t : Nat} (hs : Stands R C f a b t) : ∀ {es : List (PV × PV)}, RMemo R C es → RMemo R C (putM es (stP f a b t) (.int .i64 (revN R C a b t : Int)))
  | [], _ => fun p hp => by
    simp only [putM, List.mem_singleton] at hp
    exact ⟨f, a, b, t, hs, hp⟩
  | p :: es, hm => by
    obtain ⟨f', a', b', t', hs', rfl⟩ := hm p (by simp)
    have hr : RMemo R C es := fun q hq => hm q (by simp [hq])
    unfold putM
    cases e : eqK (stP f' a' b' t') (stP f a b t) with
    | true =>
      obtain ⟨rfl, rfl, rfl, rfl⟩ := eqK_st e
      intro q hq
      rcases List.mem_cons.1 hq with rfl | hq
      · exact ⟨f', a', b', t', hs, rfl⟩
      · exact hr q hq
    | false =>
      intro q hq
      rcases List.mem_cons.1 hq with rfl | hq
      · exact ⟨f', a', b', t', hs', rfl⟩
      · exact rmemo_put hs hr q hq

theorem rkeys_memo {R C : Nat} {es : List (PV × PV)} (hB : BoardOf R C) (hm : RMemo R C es) {f a b t : Nat} (hs : Stands R C f a b t) : keysB Tryd.prog 54 es (stP f a b t) = true := by
  unfold keysB
  rw [keyedSt, isKey_st hB hs, Bool.and_self, Bool.true_and, List.all_eq_true]
  intro p hp
  obtain ⟨f', a', b', t', hs', rfl⟩ := hm p hp
  exact isKey_st hB hs'

theorem rlook_st {R C m : Nat} {es : List (PV × PV)} {h : PHeap} (hB : BoardOf R C) (hM : MapAt h m es) (hm : RMemo R C es) {f a b t : Nat} (hs : Stands R C f a b t) :
    lookupP Tryd.prog 47 (.mapv m) (stP f a b t) true h = some (foundP true (.int .i64 0) (findM es (stP f a b t))) := by
  have hk := rkeys_memo hB hm hs
  have hma : mapAt h m = some es := by unfold mapAt; rw [show h[m]? = some (.mp es) from hM]
  simp only [lookupP, tyMp, hma, zeroInt, hk, cond_true]
theorem rupd_st {R C m : Nat} {es : List (PV × PV)} {h : PHeap} (hB : BoardOf R C) (hM : MapAt h m es) (hm : RMemo R C es) {f a b t : Nat} (hs : Stands R C f a b t) (x : Int) :
    updateP Tryd.prog 47 (.mapv m) (stP f a b t) (.int .i64 x) h = some (h.set m (.mp (putM es (stP f a b t) (.int .i64 x)))) := by
  have hk := rkeys_memo hB hm hs
  have hma : mapAt h m = some es := by unfold mapAt; rw [show h[m]? = some (.mp es) from hM]
  simp only [updateP, tyMp, hma, hk, PV.oneCell, Bool.and_self, cond_true]


/-! ### the pair of a search and a map -/
def rvC (s m : Nat) : List PV := [.ptr s 0, .mapv m]
def rvP (s m : Nat) : PV := .agg (rvC s m)
theorem tyRvA : isAggT Tryd.prog 49 = some true := by kernel_rfl
theorem tyRv2 : sizeT Tryd.prog 49 = some 2 := by kernel_rfl
theorem tyRvZ : zeroCellsT Tryd.prog 49 = some [.nilp, .junk] := by kernel_rfl
theorem tySpA : isAggT Tryd.prog 46 = some false := by kernel_rfl
theorem tyIntZ : zeroCellsT Tryd.prog 3 = some [.int .i64 0] := by kernel_rfl
theorem fR0 (id : Nat) : fieldAddrP Tryd.prog 49 (.ptr id 0) 0 = some (.ptr id 0) := by kernel_rfl
theorem fR1 (id : Nat) : fieldAddrP Tryd.prog 49 (.ptr id 0) 1 = some (.ptr id 1) := by kernel_rfl
theorem ldQ {h : PHeap} {id s m : Nat} (a : At h id (rvC s m)) : loadP Tryd.prog 46 (.ptr id 0) h = some (.ptr s 0) := by
  simp [loadP, tySpA, cellsAt, show h[id]? = some (.own 1 (rvC s m)) from a, PObj.get, rvC]
theorem ldRM {h : PHeap} {id s m : Nat} (a : At h id (rvC s m)) : loadP Tryd.prog 47 (.ptr id 1) h = some (.mapv m) := ldM a rfl
theorem ldR {h : PHeap} {id s m : Nat} (a : At h id (rvC s m)) : loadP Tryd.prog 49 (.ptr id 0) h = some (rvP s m) := by
  simp [loadP, tyRvA, tyRv2, cellsAt, show h[id]? = some (.own 1 (rvC s m)) from a, PObj.get, rvC, rvP]
theorem boxR (h : PHeap) (s m : Nat) : boxP (rvP s m) h = some (.ptr h.length 0, h ++ [.own 1 (rvC s m)]) := by simp [boxP, rvP, rvC, PV.cells, PV.oneCell]
theorem plainR {s m : Nat} : plainEq (rvP s m) (rvP s m) = true := plain_pm
theorem alI (h : PHeap) : allocP Tryd.prog 3 h = some (.ptr h.length 0, h ++ [.own 1 [.int .i64 0]]) := by simp [allocP, tyIntZ]
theorem alR (h : PHeap) : allocP Tryd.prog 49 h = some (.ptr h.length 0, h ++ [.own 1 [.nilp, .junk]]) := by simp [allocP, tyRvZ]
theorem stR {h : PHeap} {id s m : Nat} {l : List PV} (o : At h id l) (hl : l.length = 2) : storeP Tryd.prog 49 (.ptr id 0) (rvP s m) h = some (h.set id (.own 1 (rvC s m))) := by
  match l, hl with
  | [x, y], _ => simp [storeP, show h[id]? = some (.own 1 [x, y]) from o, rvP, rvC, PV.cells, PV.oneCell, tyRv2, setCells]

section
variable {Q : PV → PHeap → Prop} {h : PHeap} {id s m : Nat}
theorem wboxR {F : PV × PHeap → Res} (hf : ∀ h' id, At h' id (rvC s m) → Keep h.length h h' → h.length ≤ id → W (F (.ptr id 0, h')) Q) : W ((boxP (rvP s m) h).bind F) Q := wnew (boxR h s m) hf
theorem walI {F : PV × PHeap → Res} (hf : ∀ h' id, At h' id [.int .i64 0] → Keep h.length h h' → h.length ≤ id → W (F (.ptr id 0, h')) Q) : W ((allocP Tryd.prog 3 h).bind F) Q := wnew (alI h) hf
theorem walR {F : PV × PHeap → Res} (hf : ∀ h' id, At h' id [.nilp, .junk] → Keep h.length h h' → h.length ≤ id → W (F (.ptr id 0, h')) Q) : W ((allocP Tryd.prog 49 h).bind F) Q := wnew (alR h) hf
theorem wstR {l : List PV} (o : At h id l) (hl : l.length = 2) {F : PHeap → Res} (hf : ∀ h', At h' id (rvC s m) → KB id h h' → W (F h') Q) : W ((storeP Tryd.prog 49 (.ptr id 0) (rvP s m) h).bind F) Q := by
  rw [stR o hl]; exact hf _ (put_at o).1 (put_at o).2
theorem wvY {C : FuncId → List PV → PHeap → Res} {Y : Nat → List PV → PHeap → Res} {args : List PV} {F : PV × PHeap → Res} (hf : W ((Y id args h).bind F) Q) : W ((vcall C Y (.yld id) args h).bind F) Q := hf
end

/-! ### the record of a range over a function -/
def LpAt (h : PHeap) (id : Nat) (kl : Nat → List Nat) (r : List PV) (ps : List Tmp) (a b : Code) (st : Nat) (pe : Option PX) : Prop := h[id]? = some (.lp st kl r ps a b pe)
section
variable {Q : PV → PHeap → Prop} {h : PHeap} {id : Nat} {kl : Nat → List Nat} {r : List PV} {ps : List Tmp} {a b : Code} {pe : Option PX} {st : Nat}
theorem LpAt.lt (l : LpAt h id kl r ps a b st pe) : id < h.length := (List.getElem?_eq_some_iff.1 l).1
theorem LpAt.ne (l : LpAt h id kl r ps a b st pe) {m : Nat} {es : List (PV × PV)} (c : MapAt h m es) : id ≠ m := by
  intro e; subst e; unfold LpAt at l; unfold MapAt at c; rw [l] at c; cases c
theorem LpAt.neAt (l : LpAt h id kl r ps a b st pe) {i : Nat} {x : List PV} (c : At h i x) : i ≠ id := by
  intro e; subst e; unfold LpAt at l; unfold At at c; rw [l] at c; cases c
theorem LpAt.kb (l : LpAt h id kl r ps a b st pe) {m : Nat} {h' : PHeap} (k : KB m h h') (hn : id ≠ m) : LpAt h' id kl r ps a b st pe := by unfold LpAt; rw [k.2 id l.lt hn]; exact l
theorem LpAt.keep (l : LpAt h id kl r ps a b st pe) {h' : PHeap} (k : Keep h.length h h') : LpAt h' id kl r ps a b st pe := by unfold LpAt; rw [k.2 id l.lt]; exact l
theorem LpAt.put (l : LpAt h id kl r ps a b st pe) (st' : Nat) (pe' : Option PX) : LpAt (h.set id (.lp st' kl r ps a b pe')) id kl r ps a b st' pe' ∧ KB id h (h.set id (.lp st' kl r ps a b pe')) := by
  refine ⟨by unfold LpAt; rw [List.getElem?_set_self l.lt], by simp, fun i _ hn => List.getElem?_set_ne (by omega)⟩
theorem LpAt.dead (l : LpAt h id kl r ps a b st pe) : KB id h (h.set id .dead) := ⟨by simp, fun i _ hn => List.getElem?_set_ne (by omega)⟩
theorem wbeg (l : LpAt h id kl r ps a b 0 pe) {F : PHeap → Res} (hf : ∀ h', LpAt h' id kl r ps a b 1 pe → KB id h h' → W (F h') Q) : W ((beginL id h).bind F) Q := by
  have : beginL id h = some (h.set id (.lp 1 kl r ps a b pe)) := by unfold beginL; rw [show h[id]? = _ from l]; rfl
  rw [this]; exact hf _ (l.put 1 pe).1 (l.put 1 pe).2
theorem wendN (l : LpAt h id kl r ps a b 1 pe) (hf : ∀ h', LpAt h' id kl r ps a b 0 none → KB id h h' → Q (.bool true) h') : W (endL id .normal h) Q := by
  have : endL id .normal h = some (.bool true, h.set id (.lp 0 kl r ps a b none)) := by unfold endL; rw [show h[id]? = _ from l]; rfl
  rw [this]; exact W.ret (hf _ (l.put 0 none).1 (l.put 0 none).2)
theorem wendR (l : LpAt h id kl r ps a b 1 pe) (hf : ∀ h', LpAt h' id kl r ps a b 2 (some .ret) → KB id h h' → Q (.bool false) h') : W (endL id .ret h) Q := by
  have : endL id .ret h = some (.bool false, h.set id (.lp 2 kl r ps a b (some .ret))) := by unfold endL; rw [show h[id]? = _ from l]; rfl
  rw [this]; exact W.ret (hf _ (l.put 2 (some .ret)).1 (l.put 2 (some .ret)).2)
theorem wrkN (l : LpAt h id kl r ps a b 0 none) {kn kr : PHeap → Res} {ke : List (Nat × (PHeap → Res))} (hf : ∀ h', KB id h h' → W (kn h') Q) : W (rangeK id h kn kr ke) Q := by
  have : rangeK id h kn kr ke = kn (h.set id .dead) := by unfold rangeK; rw [show h[id]? = _ from l]; rfl
  rw [this]; exact hf _ l.dead
theorem wrkR (l : LpAt h id kl r ps a b 2 (some .ret)) {kn kr : PHeap → Res} {ke : List (Nat × (PHeap → Res))} (hf : ∀ h', KB id h h' → W (kr h') Q) : W (rangeK id h kn kr ke) Q := by
  have : rangeK id h kn kr ke = kr (h.set id .dead) := by unfold rangeK; rw [show h[id]? = _ from l]; rfl
  rw [this]; exact hf _ l.dead
/-- A range over a function begins. -/
theorem lp_new (h : PHeap) (kl : Nat → List Nat) (r : List PV) (ps : List Tmp) (a b : Code) : ∃ h', h ++ [PObj.dead, PObj.lp 0 kl r ps a b none] = h' ∧ LpAt h' (h.length + 1) kl r ps a b 0 none ∧ Keep h.length h h' := by
  refine ⟨_, rfl, ?_, Keep.append _ _ _ (Nat.le_refl _)⟩
  unfold LpAt; rw [List.getElem?_append_right (by omega)]; simp
end

/-- The reverse search of a board: the tables, and a map, right in every entry. -/
def RSch (R C : Nat) (h : PHeap) (s m : Nat) : Prop := (∃ m0, At h s (srchC R C m0)) ∧ ∃ es, MapAt h m es ∧ RMemo R C es
theorem RSch.keep {R C s m : Nat} {h h' : PHeap} (hs : RSch R C h s m) (k : Keep h.length h h') : RSch R C h' s m := by
  obtain ⟨⟨m0, a⟩, es, b, c⟩ := hs; exact ⟨⟨m0, a.keep k⟩, es, b.keep k, c⟩
theorem RSch.ne {R C s m id : Nat} {h : PHeap} {l : List PV} (hs : RSch R C h s m) (a : At h id l) : id ≠ m := by
  obtain ⟨_, es, b, _⟩ := hs; exact a.ne b
theorem RSch.lt {R C s m : Nat} {h : PHeap} (hs : RSch R C h s m) : m < h.length := by
  obtain ⟨_, es, b, _⟩ := hs; exact b.lt
/-- Another object has been written to. -/
theorem RSch.kbo {R C s m i : Nat} {h h' : PHeap} (hs : RSch R C h s m) (k : KB i h h') (h1 : s ≠ i) (h2 : m ≠ i) : RSch R C h' s m := by
  obtain ⟨⟨m0, a⟩, es, b, c⟩ := hs; exact ⟨⟨m0, a.kb k h1⟩, es, b.kb k h2, c⟩
theorem RSch.slt {R C s m : Nat} {h : PHeap} (hs : RSch R C h s m) : s < h.length := by
  obtain ⟨⟨m0, a⟩, _⟩ := hs; exact a.lt
theorem Tab64.kbr {g : Nat → PV} {R C s m : Nat} {h h' : PHeap} (t : Tab64 g h) (hs : RSch R C h s m) (k : KB m h h') : Tab64 g h' := fun id e => by
  have ho := t id e
  obtain ⟨_, es, b, _⟩ := hs
  rw [k.2 id (List.getElem?_eq_some_iff.1 ho).1 (fun e => by subst e; unfold MapAt at b; rw [ho] at b; cases b)]; exact ho
theorem who_rev {R C a b t : Nat} (hB : BoardOf R C) (hp : Pos R C a b) : (whoN R C a b ≠ 0 → revN R C a b t = 3 - whoN R C a b ∧ (whoN R C a b = 1 ∨ whoN R C a b = 2)) ∧ (whoN R C a b = 0 → joinsN R C 1 a = false ∧ joinsN R C 2 b = false) ∧ whoN R C a b ≤ 2 := by
  unfold whoN
  cases h1 : joinsN R C 1 a with
  | true => exact ⟨fun _ => ⟨rev_first h1, .inl rfl⟩, fun h => by simp at h, by simp⟩
  | false =>
    cases h2 : joinsN R C 2 b with
    | true => exact ⟨fun _ => ⟨by rw [rev_second hB hp h2]; rfl, .inr rfl⟩, fun h => by simp at h, by simp⟩
    | false => exact ⟨fun h => by simp at h, fun _ => ⟨rfl, rfl⟩, by simp⟩

/-! ### the cells that are yielded -/
/-- Is a free cell one after which the one to move wins? -/
def selB (R C f a b t k : Nat) : Bool := f.testBit k && decide (revN R C (putA t k a) (putB t k b) (3 - t) = t)
def yieldedTo (R C f a b t j : Nat) : List Nat := (List.range j).filter (selB R C f a b t)
theorem yielded_skip {R C f a b t j k : Nat} (hjk : j ≤ k) (hno : ∀ i, j ≤ i → i < k → f.testBit i = false) : yieldedTo R C f a b t k = yieldedTo R C f a b t j := by
  obtain ⟨d, rfl⟩ : ∃ d, k = j + d := ⟨k - j, by omega⟩
  unfold yieldedTo
  rw [List.range_eq_range', List.range_eq_range', ← List.range'_append_1, List.filter_append]
  have : (List.range' (0 + j) d).filter (selB R C f a b t) = [] := by
    rw [List.filter_eq_nil_iff]
    intro i hi
    rw [List.mem_range'_1] at hi
    unfold selB
    rw [hno i (by omega) (by omega)]; simp
  rw [this, List.append_nil]
theorem yielded_one {R C f a b t k : Nat} : yieldedTo R C f a b t (k + 1) = if selB R C f a b t k = true then yieldedTo R C f a b t k ++ [k] else yieldedTo R C f a b t k := by
  unfold yieldedTo
  rw [List.range_succ, List.filter_append]
  cases h : selB R C f a b t k with
  | true => simp [h]
  | false => simp [h]

variable (g : Nat → PV) (lf n : Nat)

def RWinOk (R C s m : Nat) (b : Nat) : Prop := ∀ (f a b' t N : Nat) (h : PHeap), frN (R * C) a b' ≤ b → Stands R C f a b' t → 3 * b + 9 ≤ N → RSch R C h s m → Tab64 g h →
  W (CL g lf N fn_impl_reverse_winner [rvP s m, stP f a b' t] h) fun v h' => v = .int .i64 (revN R C a b' t : Int) ∧ RSch R C h' s m ∧ KB m h h'

/-- The iterator: it yields the cells after which the one to move wins, in ascending order, until it is told to stop. -/
theorem safe1_W {R C s m B : Nat} (hB : BoardOf R C) (hbig : Big g) (hlf : 1000 < lf) (ih : ∀ b, b < B → RWinOk g lf R C s m b) {f a b t : Nat} (hfr : frN (R * C) a b ≤ B) (hst : Stands R C f a b t) {i1 i2 y : Nat}
    (I F : List Nat → PHeap → Prop) (hI : ∀ l h h', I l h → RSch R C h s m → KB m h h' → I l h')
    (N : Nat) (hN : 3 * B + 7 ≤ N)
    (hy : ∀ (l : List Nat) (k : Nat) (h : PHeap), I l h → RSch R C h s m → Tab64 g h → At h i1 (rvC s m) → At h i2 (stC f a b t) → selB R C f a b t k = true → l.length ≤ 9 →
      ∃ bo h', YL g lf (N - 1) y [.int .i64 (k : Int)] h = some (.bool bo, h') ∧ RSch R C h' s m ∧ Tab64 g h' ∧ At h' i1 (rvC s m) ∧ At h' i2 (stC f a b t) ∧ (bo = true → I (l ++ [k]) h') ∧ (bo = false → F (l ++ [k]) h'))
    {h : PHeap} (hs : RSch R C h s m) (ht : Tab64 g h) (h1 : At h i1 (rvC s m)) (h2 : At h i2 (stC f a b t)) (h0 : I [] h) :
    W (CL g lf N fn_impl_reverse_safe_1 [.yld y, .ptr i2 0, .ptr i1 0] h) fun _ h' => RSch R C h' s m ∧ Tab64 g h' ∧ ((I (yieldedTo R C f a b t 9) h' ) ∨ ∃ k, selB R C f a b t k = true ∧ F (yieldedTo R C f a b t (k + 1)) h') := by
  obtain ⟨n, rfl⟩ : ∃ n, N = n + 1 := ⟨N - 1, by omega⟩
  obtain ⟨hp, hf9, hfree, hT⟩ := id hst
  have h9 := hB.2.2.2.2
  have l9 := hp.lt9 hB
  have hy := hy
  rw [show n + 1 - 1 = n by omega] at hy
  rw [impl_reverse_safe_1.call_eq]
  unfold impl_reverse_safe_1.main
  simp only [env_lf, env_load, env_fieldAddr, env_indexAddr]
  repeat (first | (with_reducible refine wbd (fSt0 _) ?_) | (with_reducible refine wia30 ?_) | (with_reducible refine wbd (ld1 (by assumption) rfl) ?_))
  refine loopW (fun m' st => ∃ (r j : Nat) (h3 : PHeap), st = impl_reverse_safe_1.st0 (.yld y) (.ptr i2 0) (.ptr i1 0) (.int .i64 (r : Int)) h3 ∧ r < 2 ^ 9 ∧ j ≤ 9 ∧ (∀ k, r.testBit k = true ↔ f.testBit k = true ∧ j ≤ k) ∧
    RSch R C h3 s m ∧ Tab64 g h3 ∧ At h3 i1 (rvC s m) ∧ At h3 i2 (stC f a b t) ∧ I (yieldedTo R C f a b t j) h3 ∧ m' = r) ?_ lf f _ (by omega) ⟨f, 0, h, rfl, hf9, by omega, fun k => by simp, hs, ht, h1, h2, h0, rfl⟩
  rintro n1 m1 st ⟨r, j, h3, rfl, hr, hj9, hrf, hs3, ht3, a1, a2, hI3, hm⟩ next
  rw [impl_reverse_safe_1.body0_eq]
  unfold impl_reverse_safe_1.body0
  simp only [env_C, env_Y, env_pick, env_load, env_bin, env_un, env_fieldAddr]
  by_cases e4 : r = 0
  · subst e4
    repeat (first | with_reducible refine wF ?_ | with_reducible refine wneqF (by omega) ?_ | rw [kLoop_exit] | rw [impl_reverse_safe_1.after0_se0_0_1_2_4_10])
    refine W.ret ⟨hs3, ht3, .inl ?_⟩
    rw [yielded_skip (j := j) hj9 (fun i hi1 hi2 => ?_)]
    · exact hI3
    · cases hh : f.testBit i with
      | false => rfl
      | true => have := (hrf i).2 ⟨hh, hi1⟩; rw [Nat.zero_testBit] at this; cases this
  · have el := leastIn_W g lf hr e4 hbig ht3 n (by omega)
    obtain ⟨c1, c2, c3, c4⟩ := low_ok hr e4
    obtain ⟨d1, d2⟩ := f_drop hr e4
    have hlt := without_less hr e4
    have hwl := without_lt9 (k := lowN r) hr
    obtain ⟨k, hk⟩ : ∃ k, k = lowN r := ⟨_, rfl⟩
    rw [← hk] at el c1 c2 c3 d2 hlt hwl
    obtain ⟨hkf, hjk⟩ := (hrf k).1 c1
    have hfr' := fr_put' hst hkf
    have hst' := hst.put hkf
    have hyk : yieldedTo R C f a b t k = yieldedTo R C f a b t j := yielded_skip hjk fun i hi1 hi2 => by
      cases hh : f.testBit i with
      | false => rfl
      | true => have := (hrf i).2 ⟨hh, hi1⟩; rw [c3 i hi2] at this; cases this
    have hrest : ∀ i, (without r k).testBit i = true ↔ f.testBit i = true ∧ k + 1 ≤ i := fun i => by
      rw [without_bit, Bool.and_eq_true, hrf, decide_eq_true_iff]
      constructor
      · rintro ⟨⟨x1, x2⟩, x3⟩
        refine ⟨x1, ?_⟩
        rcases Nat.lt_or_ge i k with hlt' | hge
        · have := (hrf i).2 ⟨x1, x2⟩; rw [c3 i hlt'] at this; cases this
        · omega
      · rintro ⟨x1, x2⟩; exact ⟨⟨x1, by omega⟩, by omega⟩
    repeat (first | with_reducible refine wT ?_ | with_reducible refine wbd (by assumption) ?_ | (with_reducible refine wbd (fSt1 _) ?_) | (with_reducible refine wbd (ld1 (by assumption) rfl) ?_) | (with_reducible refine wbd (ldS (by assumption)) ?_) | (with_reducible refine wbd (ldR (by assumption)) ?_) | with_reducible refine wneqT (by omega) ?_ | dsimp only)
    refine wcall (after_W g lf hf9 l9.1 l9.2 c2 hT n (by omega) h3) fun v h4 ⟨hv, k4⟩ => ?_
    subst hv
    have b1 := a1.keep k4
    have b2 := a2.keep k4
    have hs4 := hs3.keep k4
    have ht4 := ht3.keep k4
    have hI4 := hI _ _ _ hI3 hs3 k4.kb
    repeat (first | with_reducible refine wck plain_int ?_ | (with_reducible refine wbd (ld1 (by assumption) rfl) ?_) | (with_reducible refine wbd (ldS (by assumption)) ?_) | (with_reducible refine wbd (ldR (by assumption)) ?_) | (with_reducible refine wck plainS ?_) | (with_reducible refine wck plainR ?_) | dsimp only)
    refine wcall (ih (B - 1) (by omega) _ _ _ _ n h4 (by omega) hst' (by omega) hs4 ht4) fun v h5 ⟨hv, hs5, k5⟩ => ?_
    subst hv
    have q1 := b1.kb k5 (hs4.ne b1)
    have q2 := b2.kb k5 (hs4.ne b2)
    have ht5 := ht4.kbr hs4 k5
    have hI5 := hI _ _ _ hI4 hs4 k5
    repeat (first | with_reducible refine wck plain_int ?_ | (with_reducible refine wbd (ld1 (by assumption) rfl) ?_) | (with_reducible refine wbd (ldS (by assumption)) ?_) | (with_reducible refine wbd (ldR (by assumption)) ?_) | (with_reducible refine wck plainS ?_) | (with_reducible refine wck plainR ?_) | dsimp only)
    refine weql (fun e5 => ?_) (fun e5 => ?_)
    · have hsel : selB R C f a b t k = true := by unfold selB; rw [hkf, Bool.true_and, decide_eq_true_iff]; omega
      obtain ⟨bo, h6, ey, hs6, ht6, p1, p2, hT6, hF6⟩ := hy _ k h5 hI5 hs5 ht5 q1 q2 hsel (Nat.le_trans (by unfold yieldedTo; exact Nat.le_trans (List.length_filter_le _ _) (by simp)) hj9)
      have hy1 : yieldedTo R C f a b t (k + 1) = yieldedTo R C f a b t j ++ [k] := by rw [yielded_one, if_pos hsel, hyk]
      cases bo with
      | true =>
        repeat (first | with_reducible refine wF ?_ | with_reducible refine wg1 rfl ?_ | with_reducible refine wpT ?_ | with_reducible refine wnT ?_ | with_reducible refine wpv ?_ | with_reducible refine wsm ?_ | with_reducible refine wck plain_int ?_ | with_reducible refine wbd (by assumption) ?_ | (with_reducible refine wbd (ld1 (by assumption) rfl) ?_) | (with_reducible refine wbd (ldS (by assumption)) ?_) | (with_reducible refine wbd (ldR (by assumption)) ?_) | (with_reducible refine wck plainS ?_) | (with_reducible refine wck plainR ?_) | (with_reducible refine wvY ?_) | dsimp only)
        refine next _ _ (hm ▸ hlt) ⟨_, k + 1, h6, rfl, hwl, by omega, hrest, hs6, ht6, p1, p2, by rw [hy1]; exact hT6 rfl, rfl⟩
      | false =>
        repeat (first | with_reducible refine wT ?_ | with_reducible refine wg1 rfl ?_ | with_reducible refine wpT ?_ | with_reducible refine wnF ?_ | with_reducible refine wpv ?_ | with_reducible refine wsm ?_ | with_reducible refine wck plain_int ?_ | with_reducible refine wbd (by assumption) ?_ | (with_reducible refine wbd (ld1 (by assumption) rfl) ?_) | (with_reducible refine wbd (ldS (by assumption)) ?_) | (with_reducible refine wbd (ldR (by assumption)) ?_) | (with_reducible refine wck plainS ?_) | (with_reducible refine wck plainR ?_) | (with_reducible refine wvY ?_) | rw [kLoop_ret] | rw [impl_reverse_safe_1.K0_ret] | rw [impl_reverse_safe_1.top_sr_0_1_2_4_30] | dsimp only)
        exact W.ret ⟨hs6, ht6, .inr ⟨k, hsel, by rw [hy1]; exact hF6 rfl⟩⟩
    · have hsel : selB R C f a b t k = false := by unfold selB; rw [hkf, Bool.true_and, decide_eq_false_iff_not]; omega
      have hy1 : yieldedTo R C f a b t (k + 1) = yieldedTo R C f a b t j := by rw [yielded_one, hsel, hyk]; rfl
      repeat (first | with_reducible refine wF ?_ | with_reducible refine wg0 rfl ?_ | with_reducible refine wpF ?_ | with_reducible refine wsm ?_ | with_reducible refine wck plain_int ?_ | with_reducible refine wbd (by assumption) ?_ | (with_reducible refine wbd (ld1 (by assumption) rfl) ?_) | (with_reducible refine wbd (ldS (by assumption)) ?_) | (with_reducible refine wbd (ldR (by assumption)) ?_) | (with_reducible refine wck plainS ?_) | (with_reducible refine wck plainR ?_) | dsimp only)
      exact next _ _ (hm ▸ hlt) ⟨_, k + 1, h5, rfl, hwl, by omega, hrest, hs5, ht5, q1, q2, by rw [hy1]; exact hI5, rfl⟩

/-- The iterator is made: its two boxes. -/
theorem safe_W {s m f a b t : Nat} (N : Nat) (hN : 1 ≤ N) (h : PHeap) :
    W (CL g lf N fn_impl_reverse_safe [rvP s m, stP f a b t] h) fun v h' => ∃ i1 i2, v = .clo fn_impl_reverse_safe_1 [(i2, 0), (i1, 0)] ∧ At h' i1 (rvC s m) ∧ At h' i2 (stC f a b t) ∧ Keep h.length h h' ∧ h.length ≤ i1 ∧ h.length ≤ i2 := by
  obtain ⟨n, rfl⟩ : ∃ n, N = n + 1 := ⟨N - 1, by omega⟩
  rw [impl_reverse_safe.call_eq]
  unfold impl_reverse_safe.main
  simp only [env_box, env_clos]
  refine wboxR fun h1 i1 o1 k1 l1 => ?_
  dsimp only
  refine wboxS fun h2 i2 o2 k2 l2 => ?_
  dsimp only
  refine wbd (v := .clo fn_impl_reverse_safe_1 [(i2, 0), (i1, 0)]) rfl ?_
  refine wbd (v := .clo fn_impl_reverse_safe_1 [(i2, 0), (i1, 0)]) rfl ?_
  exact W.ret ⟨i1, i2, rfl, o1.keep k2, o2, k1.trans (k2.mono k1.1), l1, Nat.le_trans k1.1 l2⟩

theorem rsolved_W {R C s m B : Nat} (hB : BoardOf R C) (hbig : Big g) (hlf : 1000 < lf) (ih : ∀ b, b < B → RWinOk g lf R C s m b) {f a b t : Nat} (hfr : frN (R * C) a b ≤ B) (hst : Stands R C f a b t) (N : Nat) (hN : 3 * B + 8 ≤ N) {h : PHeap} (hs : RSch R C h s m) (ht : Tab64 g h) :
    W (CL g lf N fn_impl_reverse_solved [rvP s m, stP f a b t] h) fun v h' => v = .int .i64 (revN R C a b t : Int) ∧ RSch R C h' s m ∧ KB m h h' := by
  obtain ⟨n, rfl⟩ : ∃ n, N = n + 1 := ⟨N - 1, by omega⟩
  obtain ⟨hp, hf9, hfree, hT⟩ := id hst
  have h9 := hB.2.2.2.2
  obtain ⟨w1, w2, w3⟩ := who_rev (t := t) hB hp
  rw [impl_reverse_solved.call_eq]
  unfold impl_reverse_solved.main
  simp only [env_C, env_alloc, env_box, env_load, env_store, env_bin, env_fieldAddr]
  refine wboxR fun h1 i1 o1 k1 l1 => ?_
  dsimp only
  refine wboxS fun h2 i2 o2 k2 l2 => ?_
  dsimp only
  refine walI fun h3 i3 o3 k3 l3 => ?_
  dsimp only
  have p1 := (o1.keep k2).keep k3
  have p2 := o2.keep k3
  have hs3 := ((hs.keep k1).keep k2).keep k3
  have ht3 := ((ht.keep k1).keep k2).keep k3
  have kk3 : Keep h.length h h3 := (k1.trans (k2.mono k1.1)).trans (k3.mono (Nat.le_trans k1.1 k2.1))
  have n12 : i1 ≠ i2 := by have := o1.lt; omega
  have n13 : i1 ≠ i3 := by have := (o1.keep k2).lt; omega
  have n23 : i2 ≠ i3 := by have := o2.lt; omega
  obtain ⟨⟨m0, hs3a⟩, _⟩ := id hs3
  obtain ⟨h4, e4, k4⟩ := joined_W g lf (f := f) (t := t) hB hp hbig hs3a ht3 n (by omega) hlf
  have q1 := p1.keep k4
  have q2 := p2.keep k4
  have q3 := o3.keep k4
  have hs4 := hs3.keep k4
  have ht4 := ht3.keep k4
  have kk4 : Keep h.length h h4 := kk3.trans (k4.mono kk3.1)
  have lm := hs.lt
  have lk1 := k1.1
  have lk2 := k2.1
  have lk3 := k3.1
  repeat (first | with_reducible refine wbd (by assumption) ?_ | (with_reducible refine wbd (fR0 _) ?_) | (with_reducible refine wbd (ldS (by assumption)) ?_) | (with_reducible refine wbd (ldQ (by assumption)) ?_) | dsimp only)
  refine wneq (fun e => ?_) (fun e => ?_)
  · obtain ⟨w1a, w1b⟩ := w1 (by omega)
    have ex : ∀ h, CL g lf n fn_impl_exchanged [.int .i64 (whoN R C a b : Int)] h = some (.int .i64 ((3 - whoN R C a b : Nat) : Int), h) := fun h => exchanged_W g lf n (by omega) h w1b
    have ex4 := ex h4
    repeat (first | with_reducible refine wT ?_ | with_reducible refine wbd (by assumption) ?_ | dsimp only)
    refine wst1 q3 (show 0 < 1 by decide) fun h5 q5 k5 => ?_
    have q5 : At h5 i3 [.int .i64 ((3 - whoN R C a b : Nat) : Int)] := q5
    repeat (first | (with_reducible refine wbd (ld1 (by assumption) rfl) ?_))
    have hs5 := hs4.kbo k5 (by have := hs.slt; have := kk3.1; omega) (by omega)
    exact W.ret ⟨by rw [w1a], hs5, (kk4.kbs (Nat.le_refl _) k5 (by omega)).kb⟩
  · obtain ⟨j1, j2⟩ := w2 (by omega)
    have hwo := rev_open (t := t) j1 j2
    have ex : ∀ h, CL g lf n fn_impl_exchanged [.int .i64 (t : Int)] h = some (.int .i64 ((3 - t : Nat) : Int), h) := fun h => exchanged_W g lf n (by omega) h hT
    repeat (first | with_reducible refine wF ?_ | (with_reducible refine wbd (ldS (by assumption)) ?_) | (with_reducible refine wbd (ldR (by assumption)) ?_))
    refine wcall (safe_W g lf n (by omega) h4) fun v h5 ⟨b1, b2, hv, o5, o5', k5, l5, l5'⟩ => ?_
    subst hv
    have r1 := q1.keep k5
    have r2 := q2.keep k5
    have r3 := q3.keep k5
    have hs5 := hs4.keep k5
    have ht5 := ht4.keep k5
    have kk5 : Keep h.length h h5 := kk4.trans (k5.mono kk4.1)
    dsimp only
    obtain ⟨h6, eh6, L6, k6⟩ := lp_new h5 impl_reverse_solved.kl [.junk, .junk, .junk, .ptr i2 0, .ptr i3 0, .junk, .junk, .junk, .junk, .junk, .junk, .junk, .junk, .junk, .junk, .junk, .clo fn_impl_reverse_safe_1 [(b2, 0), (b1, 0)], .junk, .junk, .junk, .junk, .junk, .junk] [17] impl_reverse_solved.ra0 impl_reverse_solved.rb0
    rw [eh6]
    obtain ⟨y, hy⟩ : ∃ y, List.length h5 + 1 = y := ⟨_, rfl⟩
    rw [hy] at L6 ⊢
    have s2 := r2.keep k6
    have s3 := r3.keep k6
    have hs6 := hs5.keep k6
    have ht6 := ht5.keep k6
    have kk6 : Keep h.length h h6 := kk5.trans (k6.mono kk5.1)
    have ny : ∀ {i : Nat} {x : List PV}, At h5 i x → i ≠ y := fun a => by have := a.lt; omega
    have my : m ≠ y := by have := hs5.lt; omega
    have sy : s ≠ y := by have := hs5.slt; omega
    have m3 : m ≠ i3 := by omega
    have s3n : s ≠ i3 := by have := hs.slt; have := kk3.1; omega
    obtain ⟨n', rfl⟩ : ∃ n', n = n' + 1 := ⟨n - 1, by omega⟩
    have hcl := safe1_W g lf hB hbig hlf ih hfr hst (i1 := b1) (i2 := b2) (y := y)
      (fun l h' => l = [] ∧ KB m h6 h') (fun l h' => h.length ≤ h'.length ∧ (∀ i, i < h.length → i ≠ m → h'[i]? = h[i]?) ∧ RSch R C h' s m ∧ At h' i3 [.int .i64 (t : Int)] ∧ LpAt h' y impl_reverse_solved.kl [.junk, .junk, .junk, .ptr i2 0, .ptr i3 0, .junk, .junk, .junk, .junk, .junk, .junk, .junk, .junk, .junk, .junk, .junk, .clo fn_impl_reverse_safe_1 [(b2, 0), (b1, 0)], .junk, .junk, .junk, .junk, .junk, .junk] [17] impl_reverse_solved.ra0 impl_reverse_solved.rb0 2 (some .ret))
      (fun l h' h'' hl _ k => ⟨hl.1, hl.2.trans k⟩) (n' + 1) (by omega) ?_ hs6 ht6 (o5.keep k6) (o5'.keep k6) ⟨rfl, KB.refl _ _⟩
    · refine wcall (show W (fcall (CL g lf (n' + 1)) (.clo fn_impl_reverse_safe_1 [(b2, 0), (b1, 0)]) [.yld y] h6) _ from hcl) ?_
      rintro v h7 ⟨hs7, ht7, h7o⟩
      dsimp only
      rcases h7o with ⟨hnil, k7⟩ | ⟨k, hsel, hlen, hsame, hs7', a3, L7⟩
      · have L7 := L6.kb k7 my.symm
        refine wrkN L7 fun h8 k8 => ?_
        have t2 : At h8 i2 (stC f a b t) := (s2.kb k7 (hs6.ne s2)).kb k8 (ny r2)
        have t3 : At h8 i3 [.int .i64 0] := (s3.kb k7 (hs6.ne s3)).kb k8 (ny r3)
        have hs8 := hs7.kbo k8 sy my
        have ex8 := ex h8
        repeat (first | with_reducible refine wbd (by assumption) ?_ | (with_reducible refine wbd (fSt1 _) ?_) | (with_reducible refine wbd (ld1 (by assumption) rfl) ?_) | dsimp only)
        refine wst1 t3 (show 0 < 1 by decide) fun h9 q9 k9 => ?_
        have q9 : At h9 i3 [.int .i64 ((3 - t : Nat) : Int)] := q9
        repeat (first | (with_reducible refine wbd (ld1 (by assumption) rfl) ?_))
        refine W.ret ⟨?_, hs8.kbo k9 s3n m3, ?_⟩
        · have hmv : rmoveB R C a b t = false := by
            cases hh : rmoveB R C a b t with
            | false => rfl
            | true =>
              obtain ⟨k, c1, c2, c3⟩ := rmoveB_iff.1 hh
              have hin : k ∈ yieldedTo R C f a b t 9 := by
                unfold yieldedTo
                rw [List.mem_filter, List.mem_range]
                refine ⟨by omega, ?_⟩
                unfold selB
                rw [(hfree k).2 ⟨c1, c2⟩, Bool.true_and, decide_eq_true_iff]; exact c3
              rw [hnil] at hin; cases hin
          rw [hwo, hmv]; rfl
        · have e6 : KB m h h7 := kk6.kb.trans k7
          refine ⟨by have := e6.1; have := k8.1; have := k9.1; omega, fun i hi hn => ?_⟩
          rw [k9.2 i (by have := e6.1; have := k8.1; omega) (by omega), k8.2 i (by have := e6.1; omega) (by have := kk5.1; omega)]
          exact e6.2 i hi hn
      · refine wrkR L7 fun h8 k8 => ?_
        have t3 : At h8 i3 [.int .i64 (t : Int)] := a3.kb k8 (ny r3)
        have hs8 := hs7.kbo k8 sy my
        repeat (first | (with_reducible refine wbd (ld1 (by assumption) rfl) ?_))
        refine W.ret ⟨?_, hs8, ⟨by have := k8.1; omega, fun i hi hn => ?_⟩⟩
        · unfold selB at hsel
          rw [Bool.and_eq_true, decide_eq_true_iff] at hsel
          obtain ⟨z1, z2⟩ := (hfree k).1 hsel.1
          have hmv : rmoveB R C a b t = true := rmoveB_iff.2 ⟨k, z1, z2, hsel.2⟩
          rw [hwo, hmv]; rfl
        · rw [k8.2 i (by omega) (by have := kk5.1; omega)]
          exact hsame i hi hn
    · rintro l k h7 ⟨rfl, k7⟩ hs7 ht7 c1 c2 hsel _
      have L7 := L6.kb k7 my.symm
      have t2 : At h7 i2 (stC f a b t) := s2.kb k7 (hs6.ne s2)
      have t3 : At h7 i3 [.int .i64 0] := s3.kb k7 (hs6.ne s3)
      obtain ⟨n'', rfl⟩ : ∃ n'', n' = n'' + 1 := ⟨n' - 1, by omega⟩
      suffices hW : W (YL g lf (n'' + 1) y [.int .i64 (k : Int)] h7) fun v h' => v = .bool false ∧ RSch R C h' s m ∧ Tab64 g h' ∧ At h' b1 (rvC s m) ∧ At h' b2 (stC f a b t) ∧ h.length ≤ h'.length ∧ (∀ i, i < h.length → i ≠ m → h'[i]? = h[i]?) ∧ RSch R C h' s m ∧ At h' i3 [.int .i64 (t : Int)] ∧ LpAt h' y impl_reverse_solved.kl [.junk, .junk, .junk, .ptr i2 0, .ptr i3 0, .junk, .junk, .junk, .junk, .junk, .junk, .junk, .junk, .junk, .junk, .junk, .clo fn_impl_reverse_safe_1 [(b2, 0), (b1, 0)], .junk, .junk, .junk, .junk, .junk, .junk] [17] impl_reverse_solved.ra0 impl_reverse_solved.rb0 2 (some .ret) by
        obtain ⟨v, h', e', rfl, x1, x2, x3, x4, x5⟩ := hW
        exact ⟨false, h', e', x1, x2, x3, x4, fun hx => (by cases hx), fun _ => x5⟩
      rw [impl_reverse_solved.yield0_eq g lf n'' _ _ _ none y _ h7 L7]
      unfold impl_reverse_solved.round0
      refine wbeg L7 fun h8 L8 k8 => ?_
      have nb : ∀ {i : Nat} {x : List PV}, At h7 i x → i ≠ y := fun a => L7.neAt a
      have u2 := t2.kb k8 (nb t2)
      have u3 := t3.kb k8 (nb t3)
      simp only [env_fieldAddr, env_load, env_store]
      repeat (first | (with_reducible refine wbd (fSt1 _) ?_) | (with_reducible refine wbd (ld1 (by assumption) rfl) ?_))
      refine wst1 u3 (show 0 < 1 by decide) fun h9 q9 k9 => ?_
      have q9 : At h9 i3 [.int .i64 (t : Int)] := q9
      have L9 := L8.kb k9 (fun e => absurd e.symm (nb t3))
      refine wendR L9 fun h10 L10 k10 => ?_
      have n1b : b1 ≠ i3 := by have := r3.lt; have := q3.lt; omega
      have n2b : b2 ≠ i3 := by have := r3.lt; have := q3.lt; omega
      have hs10 := ((hs7.kbo k8 sy my).kbo k9 s3n m3).kbo k10 sy my
      refine ⟨rfl, hs10, ?_, ((c1.kb k8 (nb c1)).kb k9 n1b).kb k10 (nb c1), ((c2.kb k8 (nb c2)).kb k9 n2b).kb k10 (nb c2), ?_, ?_, hs10, q9.kb k10 (nb t3), L10⟩
      · intro id e
        have hx := ht7 id e
        have hid := (List.getElem?_eq_some_iff.1 hx).1
        have e1 : id ≠ y := fun e1 => by subst e1; rw [show h7[id]? = _ from L7] at hx; cases hx
        have e2 : id ≠ i3 := fun e2 => by subst e2; rw [show h7[id]? = _ from t3] at hx; cases hx
        rw [k10.2 id (by have := k8.1; have := k9.1; omega) e1, k9.2 id (by have := k8.1; omega) e2, k8.2 id hid e1]; exact hx
      · have := kk6.1; have := k7.1; have := k8.1; have := k9.1; have := k10.1; omega
      · intro i hi hn
        have e6 : KB m h h7 := kk6.kb.trans k7
        have hy5 := kk5.1
        rw [k10.2 i (by have := e6.1; have := k8.1; have := k9.1; omega) (by omega), k9.2 i (by have := e6.1; have := k8.1; omega) (by omega), k8.2 i (by have := e6.1; omega) (by omega)]
        exact e6.2 i hi hn

theorem rWinner_W {R C s m : Nat} (hB : BoardOf R C) (hbig : Big g) (hlf : 1000 < lf) (B : Nat) : RWinOk g lf R C s m B := by
  induction B using Nat.strongRecOn with
  | _ B ih =>
  intro f a b t N h hfr hst hN hs ht
  obtain ⟨n, rfl⟩ : ∃ n, N = n + 1 := ⟨N - 1, by omega⟩
  rw [impl_reverse_winner.call_eq]
  unfold impl_reverse_winner.main
  simp only [env_C, env_box, env_load, env_un, env_fieldAddr, env_extract, env_lookup, env_update]
  refine wboxR fun h1 i1 o1 k1 l1 => ?_
  dsimp only
  refine wboxS fun h2 i2 o2 k2 l2 => ?_
  dsimp only
  have p1 := o1.keep k2
  have hs1 := (hs.keep k1).keep k2
  have ht1 := (ht.keep k1).keep k2
  have kk : Keep h.length h h2 := k1.trans (k2.mono k1.1)
  obtain ⟨sa, es, ma, mm⟩ := _root_.id hs1
  have hlook := rlook_st hB ma mm hst
  repeat (first | with_reducible refine wbd (by assumption) ?_ | (with_reducible refine wbd (fR1 _) ?_) | (with_reducible refine wbd (ldS (by assumption)) ?_) | (with_reducible refine wbd (ldRM (by assumption)) ?_))
  cases hfd : findM es (stP f a b t) with
  | some v =>
    have hv := rmemo_find mm hfd
    subst hv
    refine wx0 ?_
    refine wx1 ?_
    repeat (first | with_reducible refine wF ?_ | with_reducible refine wnT ?_ | with_reducible refine wrI ?_)
    exact W.ret ⟨rfl, hs1, kk.kb⟩
  | none =>
    refine wx0 ?_
    refine wx1 ?_
    repeat (first | with_reducible refine wT ?_ | with_reducible refine wnF ?_ | (with_reducible refine wbd (ldS (by assumption)) ?_) | (with_reducible refine wbd (ldR (by assumption)) ?_))
    refine wcall (rsolved_W g lf hB hbig hlf ih hfr hst n (by omega) hs1 ht1) fun v h3 ⟨hv, hs3, k3⟩ => ?_
    subst hv
    have q1 := p1.kb k3 (hs1.ne p1)
    have q2 := o2.kb k3 (hs1.ne o2)
    obtain ⟨sa2, es2, ma2, mm2⟩ := _root_.id hs3
    repeat (first | (with_reducible refine wbd (fR1 _) ?_) | (with_reducible refine wbd (ldS (by assumption)) ?_) | (with_reducible refine wbd (ldRM (by assumption)) ?_) | dsimp only)
    refine wbd (rupd_st hB ma2 mm2 hst _) ?_
    have ma3 : MapAt (h3.set m (.mp (putM es2 (stP f a b t) (.int .i64 (revN R C a b t : Int))))) m (putM es2 (stP f a b t) (.int .i64 (revN R C a b t : Int))) := by
      unfold MapAt; rw [List.getElem?_set_self ma2.lt]
    have k4 : KB m h3 (h3.set m (.mp (putM es2 (stP f a b t) (.int .i64 (revN R C a b t : Int))))) := ⟨by simp, fun i _ hn => List.getElem?_set_ne (by omega)⟩
    generalize h3.set m (.mp (putM es2 (stP f a b t) (.int .i64 (revN R C a b t : Int)))) = h4 at ma3 k4 ⊢
    obtain ⟨m0, sa2⟩ := sa2
    have sa3 := sa2.kb k4 (sa2.ne ma2)
    repeat (first | with_reducible refine wrI ?_)
    exact W.ret ⟨rfl, ⟨⟨m0, sa3⟩, _, ma3, rmemo_put hst mm2⟩, (kk.kb.trans k3).trans k4⟩

end Go.Proofs.YtocjdekcmhgjeaaDoor

/- The program's chapter 4: PairCell and PairFilled compute what the model's do, and boards that are free or wider. -/
set_option maxRecDepth 20000
namespace Go.Proofs.YtocjdekcmhgjeaaDoor
open Go Go.Ip G

/-! ### a number's lowest bit -/
section
variable {Q : PV → PHeap → Prop} {x : Nat} {f : PV → Res}
end

variable (g : Nat → PV) (lf n : Nat)

/-! ### boards that are free, and boards that are wider -/
theorem freeBoard_W (N : Nat) (hN : 3 ≤ N) (h : PHeap) (r c : Int) :
    ∃ q h', CL g lf N fn_impl_freeBoard [.int .i64 r, .int .i64 c] h = some (q, h') ∧ OwnSl h.length h' q (if boardB r c = true then freeL r.toNat c.toNat else []) ∧ Keep h.length h h' := by
  obtain ⟨n, rfl⟩ : ∃ n, N = n + 1 := ⟨N - 1, by omega⟩
  have e1 := boardOk_N g lf n (by omega) h r c
  suffices this : W (CL g lf (n + 1) fn_impl_freeBoard [.int .i64 r, .int .i64 c] h) fun q h' => OwnSl h.length h' q (if boardB r c = true then freeL r.toNat c.toNat else []) ∧ Keep h.length h h' by
    obtain ⟨q, h', e, o, k⟩ := this
    exact ⟨q, h', e, o, k⟩
  rw [impl_freeBoard.call_eq]
  unfold impl_freeBoard.main
  simp only [env_C, env_bin, env_un, env_make]
  cases hb : boardB r c with
  | false =>
    rw [hb] at e1
    repeat (first | with_reducible refine wT ?_ | with_reducible refine wnF ?_ | with_reducible refine wrN ?_ | with_reducible refine wbd (by assumption) ?_ | dsimp only)
    exact W.ret ⟨OwnSl.nil _ _, Keep.refl _ _⟩
  | true =>
    rw [hb] at e1
    obtain ⟨R, C, rfl, rfl, hB⟩ := boardB_of hb
    obtain ⟨h1, h2, h3, h4, h9⟩ := id hB
    repeat (first | with_reducible refine wF ?_ | with_reducible refine wnT ?_ | with_reducible refine wbd (by assumption) ?_ | (refine wmake (by omega) fun q h1 o1 k1 => ?_) | with_reducible refine wmulN (by omega) ?_ | with_reducible refine wresO (by assumption) ?_ | dsimp only | simp only [env_C, env_Y, env_g, env_lf, env_pick, env_alloc, env_box, env_build, env_buildSlice, env_load, env_store, env_ptr, env_bin, env_un, env_conv, env_make, env_slice, env_fieldAddr, env_field, env_indexAddr, env_index, env_extract, env_len, env_append, env_max, env_min, env_makeMap, env_lookup, env_update, env_clos])
    exact W.ret ⟨o1, k1⟩

/-! ### partners -/
/-! ### pairs that are shared -/
end Go.Proofs.YtocjdekcmhgjeaaDoor

/- What the program's functions of chapter 8 compute. -/
set_option maxRecDepth 20000
namespace Go.Proofs.YtocjdekcmhgjeaaDoor
open Go Go.Ip G

theorem bldR (s m : Nat) : buildP Tryd.prog 49 [(0, .ptr s 0), (1, .mapv m)] = some (rvP s m) := by kernel_rfl
theorem tySlA : isAggT Tryd.prog 23 = some false := by kernel_rfl
theorem tySl1 : sizeT Tryd.prog 23 = some 1 := by kernel_rfl
theorem slat_cells {i : Nat} {h : PHeap} {q : PV} {ys : List Int} (s : SlAt i h q ys) : q.cells = some [q] := by
  rcases s with ⟨rfl, _⟩ | ⟨rfl, _⟩ <;> rfl
theorem ldSl {h : PHeap} {id : Nat} {q : PV} (a : At h id [q]) : loadP Tryd.prog 23 (.ptr id 0) h = some q := by
  simp [loadP, tySlA, cellsAt, show h[id]? = some (.own 1 [q]) from a, PObj.get]
theorem stSl {h : PHeap} {id : Nat} {q q' : PV} (a : At h id [q]) (hc : q'.cells = some [q']) : storeP Tryd.prog 23 (.ptr id 0) q' h = some (h.set id (.own 1 [q'])) := by
  simp [storeP, show h[id]? = some (.own 1 [q]) from a, hc, tySl1, setCells]
theorem At.keepN {n : Nat} {h h' : PHeap} {id : Nat} {l : List PV} (a : At h id l) (k : Keep n h h') (hn : id < n) : At h' id l := by unfold At; rw [k.2 id hn]; exact a
theorem RSch.keepN {R C s m n : Nat} {h h' : PHeap} (hs : RSch R C h s m) (k : Keep n h h') (h1 : s < n) (h2 : m < n) : RSch R C h' s m := by
  obtain ⟨⟨m0, a⟩, es, b, c⟩ := hs
  exact ⟨⟨m0, a.keepN k h1⟩, es, by unfold MapAt; rw [k.2 m h2]; exact b, c⟩

/-- The cells that are safe are those that the iterator yields. -/
theorem safe_list {R C T : Nat} {xs : List Int} (hb : posB (R : Int) (C : Int) xs = true) (hS : Sides (R : Int) (C : Int) R C xs) (hT : T = 1 ∨ T = 2) (hw : whoN R C (setL xs 1) (setL xs 2) = 0) :
    safeL (R : Int) (C : Int) xs (T : Int) = (yieldedTo R C (setL xs 0) (setL xs 1) (setL xs 2) T 9).map fun k : Nat => (k : Int) := by
  have hx9 : xs.length ≤ 9 := by have := hS.2.2.2.2.2.2.2.1; have := hS.2.2.2.2.2.2.1; omega
  have hT' : 3 - T = 1 ∨ 3 - T = 2 := by omega
  have e3 : (3 : Int) - (T : Int) = ((3 - T : Nat) : Int) := by omega
  unfold safeL yieldedTo
  congr 1
  have h9 : List.range 9 = List.range xs.length ++ (List.range' xs.length (9 - xs.length)) := by
    rw [List.range_eq_range', List.range_eq_range', show 9 = xs.length + (9 - xs.length) by omega, ← List.range'_append_1]; simp
  rw [h9, List.filter_append]
  have hnil : (List.range' xs.length (9 - xs.length)).filter (selB R C (setL xs 0) (setL xs 1) (setL xs 2) T) = [] := by
    rw [List.filter_eq_nil_iff]
    intro k hk
    rw [List.mem_range'_1] at hk
    intro h
    unfold selB at h
    rw [Bool.and_eq_true] at h
    have := set_in hS h.1
    have := hS.2.2.2.2.2.2.2.1
    omega
  rw [hnil, List.append_nil]
  apply List.filter_congr
  intro k hk
  have hz := (who_zero hb).1 hw
  rw [Bool.eq_iff_iff, safeWB_iff, moveL_iff]
  unfold selB
  rw [Bool.and_eq_true, decide_eq_true_iff, setL_bit]
  constructor
  · rintro ⟨⟨_, _, h3, h4, h5⟩, h6⟩
    rw [e3, revL_set hb hT hT' h3] at h6
    exact ⟨h3, by omega⟩
  · rintro ⟨h3, h6⟩
    refine ⟨⟨hb, playerB_of hT, h3, hz.1, hz.2⟩, ?_⟩
    rw [e3, revL_set hb hT hT' h3]; omega

variable (g : Nat → PV) (lf n : Nat)

theorem newReverse_W {R C : Nat} (hB : BoardOf R C) (N : Nat) (hN : 8 ≤ N) (hlf : 1000 < lf) {h : PHeap} (ht : Tab g h) :
    W (CL g lf N fn_impl_newReverse [.int .i64 (R : Int), .int .i64 (C : Int)] h) fun v h' => ∃ s m, v = rvP s m ∧ RSch R C h' s m ∧ Keep h.length h h' ∧ h.length ≤ s ∧ h.length ≤ m := by
  obtain ⟨n, rfl⟩ : ∃ n, N = n + 1 := ⟨N - 1, by omega⟩
  rw [impl_newReverse.call_eq]
  unfold impl_newReverse.main
  simp only [env_C, env_alloc, env_build, env_store, env_makeMap]
  refine walR fun h1 i1 o1 k1 l1 => ?_
  dsimp only
  refine wcall (newSearch_W g lf hB n (by omega) hlf (ht.keep k1)) fun v h2 ⟨s, m0, hv, hs, k2, l2, l2'⟩ => ?_
  subst hv
  dsimp only
  refine wmkM fun h3 m ma k3 lm => ?_
  dsimp only
  refine wbd (bldR s m) ?_
  have o3 := (o1.keep k2).keep k3
  refine wstR o3 rfl fun h4 o4 k4 => ?_
  refine wbd (ldR o4) ?_
  have lk1 := k1.1
  have lk2 := k2.1
  have lk3 := k3.1
  have hi := o1.lt
  have hsl := hs.1.lt
  have hsa := hs.1.keep k3
  exact W.ret ⟨s, m, rfl, ⟨⟨m0, hsa.kb k4 (by omega)⟩, [], ma.kb k4 (by omega), fun p hp => by cases hp⟩, ((k1.trans (k2.mono k1.1)).trans (k3.mono (by omega))).kbs (Nat.le_refl _) k4 l1, by omega, by omega⟩

/-- All that the iterator yields, as a list. -/
theorem collect_W {R C s m : Nat} (hB : BoardOf R C) (hbig : Big g) (hlf : 1000 < lf) {f a b t : Nat} (hst : Stands R C f a b t) {i1 i2 : Nat} (N : Nat) (hN : 38 ≤ N) {h : PHeap} (hs : RSch R C h s m) (ht : Tab64 g h) (a1 : At h i1 (rvC s m)) (a2 : At h i2 (stC f a b t)) :
    W (CL g lf N fn_slices_Collect_int_ [.clo fn_impl_reverse_safe_1 [(i2, 0), (i1, 0)]] h) fun q h' => OwnSl h.length h' q ((yieldedTo R C f a b t 9).map fun k : Nat => (k : Int)) ∧ KB m h h' := by
  obtain ⟨n, rfl⟩ : ∃ n, N = n + 1 := ⟨N - 1, by omega⟩
  obtain ⟨hp, hf9, hfree, hT⟩ := id hst
  have h9 := hB.2.2.2.2
  suffices hW : W (CL g lf n fn_slices_AppendSeq___int_int_ [.nilsl, .clo fn_impl_reverse_safe_1 [(i2, 0), (i1, 0)]] h) fun q h' => OwnSl h.length h' q ((yieldedTo R C f a b t 9).map fun k : Nat => (k : Int)) ∧ KB m h h' by
    rw [slices_Collect_int_.call_eq]
    unfold slices_Collect_int_.main
    simp only [env_C]
    refine wcall hW fun q h' ⟨o, k⟩ => ?_
    dsimp only
    refine wbd o.res ?_
    exact W.ret ⟨o, k⟩
  obtain ⟨n, rfl⟩ : ∃ m, n = m + 1 := ⟨n - 1, by omega⟩
  rw [slices_AppendSeq___int_int_.call_eq]
  unfold slices_AppendSeq___int_int_.main
  simp only [env_C, env_box, env_load]
  refine wnew (l := [.nilsl]) (by rfl) fun h1 ib o1 k1 l1 => ?_
  dsimp only
  obtain ⟨h2, eh2, L2, k2⟩ := lp_new h1 slices_AppendSeq___int_int_.kl [.junk, .junk, .ptr ib 0, .junk, .junk, .junk, .clo fn_impl_reverse_safe_1 [(i2, 0), (i1, 0)], .junk, .junk, .junk, .junk, .junk, .junk] [7] slices_AppendSeq___int_int_.ra0 slices_AppendSeq___int_int_.rb0
  rw [eh2]
  obtain ⟨y, hy⟩ : ∃ y, List.length h1 + 1 = y := ⟨_, rfl⟩
  rw [hy] at L2 ⊢
  have lk1 := k1.1
  have lk2 := k2.1
  have kk2 : Keep h.length h h2 := k1.trans (k2.mono k1.1)
  have lm := hs.lt
  have lsl := hs.slt
  have li1 := a1.lt
  have li2 := a2.lt
  have lib := o1.lt
  have ly := L2.lt
  have hcl := safe1_W g lf hB hbig hlf (fun b _ => rWinner_W g lf hB hbig hlf b) (B := 9) (Nat.le_trans (fr_le _ _ _) h9) hst (i1 := i1) (i2 := i2) (y := y)
    (fun l h' => ∃ q i, At h' ib [q] ∧ SlAt i h' q (l.map fun k : Nat => (k : Int)) ∧ h.length ≤ i ∧ i ≠ ib ∧ i ≠ y ∧ LpAt h' y slices_AppendSeq___int_int_.kl [.junk, .junk, .ptr ib 0, .junk, .junk, .junk, .clo fn_impl_reverse_safe_1 [(i2, 0), (i1, 0)], .junk, .junk, .junk, .junk, .junk, .junk] [7] slices_AppendSeq___int_int_.ra0 slices_AppendSeq___int_int_.rb0 0 none ∧ KB m h h' ∧ h2.length ≤ h'.length)
    (fun _ _ => False)
    (fun l h' h'' ⟨q, i, x1, x2, x3, x4, x5, x6, x7, x8⟩ hs' k => ⟨q, i, x1.kb k (by omega), x2.kb k (by omega), x3, x4, x5, x6.kb k (by omega), x7.trans k, Nat.le_trans x8 k.1⟩)
    n (by omega) ?_ (hs.keepN kk2 lsl lm) ((ht.keep k1).keep k2) (a1.keepN kk2 li1) (a2.keepN kk2 li2) ⟨.nilsl, y + 1, o1.keep k2, .inl ⟨rfl, rfl⟩, by omega, by omega, by omega, L2, kk2.kb, Nat.le_refl _⟩
  · refine wcall (show W (fcall (CL g lf n) (.clo fn_impl_reverse_safe_1 [(i2, 0), (i1, 0)]) [.yld y] h2) _ from hcl) ?_
    rintro v h3 ⟨hs3, ht3, h3o⟩
    dsimp only
    rcases h3o with ⟨q, i, x1, x2, x3, x4, x5, x6, x7, x8⟩ | ⟨k, _, hF⟩
    · refine wrkN x6 fun h4 k4 => ?_
      have z1 : At h4 ib [q] := x1.kb k4 (x6.neAt x1)
      have z2 := x2.kb k4 x5
      refine wbd (ldSl z1) ?_
      refine wbd (z2.own (n := h.length) x3).res ?_
      exact W.ret ⟨z2.own x3, ⟨by have := x7.1; have := k4.1; omega, fun j hj hn => by rw [k4.2 j (by have := x7.1; omega) (by omega)]; exact x7.2 j hj hn⟩⟩
    · exact hF.elim
  · rintro l k h3 ⟨q, i, x1, x2, x3, x4, x5, x6, x7, x8⟩ hs3 ht3 c1 c2 hsel hl9
    obtain ⟨n', rfl⟩ : ∃ n', n = n' + 1 := ⟨n - 1, by omega⟩
    obtain ⟨n', rfl⟩ : ∃ m, n' = m + 1 := ⟨n' - 1, by omega⟩
    suffices hW : W (YL g lf (n' + 1) y [.int .i64 (k : Int)] h3) fun v h' => v = .bool true ∧ Keep h.length h3 h' ∧ ∃ q i, At h' ib [q] ∧ SlAt i h' q ((l ++ [k]).map fun k : Nat => (k : Int)) ∧ h.length ≤ i ∧ i ≠ ib ∧ i ≠ y ∧ LpAt h' y slices_AppendSeq___int_int_.kl [.junk, .junk, .ptr ib 0, .junk, .junk, .junk, .clo fn_impl_reverse_safe_1 [(i2, 0), (i1, 0)], .junk, .junk, .junk, .junk, .junk, .junk] [7] slices_AppendSeq___int_int_.ra0 slices_AppendSeq___int_int_.rb0 0 none ∧ h2.length ≤ h'.length by
      obtain ⟨v, h', e', rfl, kp, q', i', w1, w2, w3, w4, w5, w6, w7⟩ := hW
      refine ⟨true, h', e', hs3.keepN kp lsl lm, ?_, c1.keepN kp li1, c2.keepN kp li2, fun _ => ⟨q', i', w1, w2, w3, w4, w5, w6, ⟨by have := x7.1; have := kp.1; omega, fun j hj hn => by rw [kp.2 j hj]; exact x7.2 j hj hn⟩, w7⟩, fun hx => by cases hx⟩
      intro id e
      have hid := (List.getElem?_eq_some_iff.1 (ht id e)).1
      rw [kp.2 id hid]; exact ht3 id e
    rw [slices_AppendSeq___int_int_.yield0_eq g lf n' _ _ none y _ h3 x6]
    unfold slices_AppendSeq___int_int_.round0
    refine wbeg x6 fun h4 L4 k4 => ?_
    have z1 : At h4 ib [q] := x1.kb k4 (x6.neAt x1)
    have z2 := x2.kb k4 x5
    simp only [env_load, env_buildSlice, env_append, env_store]
    refine wbd (ldSl z1) ?_
    have hll : (l.map fun k : Nat => (k : Int)).length + 1 ≤ 2 ^ 36 := by
      rw [List.length_map]; omega
    refine wapS z2 hll fun q' h5 j z5 k5 lj => ?_
    dsimp only
    have lk4 := k4.1
    have lk5 := k5.1
    have y1 : At h5 ib [q] := z1.kb k5 (by omega)
    have L5 := L4.kb k5 (by omega)
    refine wbd (stSl y1 (slat_cells z5)) ?_
    have hp6 := put_at (l' := [q']) y1
    generalize h5.set ib (.own 1 [q']) = h6 at hp6 ⊢
    obtain ⟨y6, k6⟩ := hp6
    have lk6 := k6.1
    have L6 := L5.kb k6 (by omega)
    refine wendN L6 fun h7 L7 k7 => ?_
    have x7' := x7.1
    refine ⟨rfl, ((k4.keep (by omega) (by omega)).trans ((k5.keep (by omega) (by omega)).trans ((k6.keep (by omega) (by omega)).trans (k7.keep (by omega) (by omega))))), q', j, y6.kb k7 (by omega), ?_, by omega, by omega, by omega, L7, by have := k7.1; omega⟩
    have z7 := (z5.kb k6 (by omega)).kb k7 (by omega)
    rw [List.map_append]; exact z7

theorem reverse_W (hbig : Big g) (hlf : 1000 < lf) (N : Nat) (hN : 37 ≤ N) (r c t : Int) {xs : List Int} {p : PV} {h : PHeap} (ht : TabOk g h) (hp : IntSl .i64 h p xs) (hl : xs.length ≤ 2 ^ 35) (hf : xs.length < lf) :
    ∃ h', CL g lf N fn_impl_ReverseWinner [.int .i64 r, .int .i64 c, p, .int .i64 t] h = some (.int .i64 (revL r c xs t), h') ∧ Keep h.length h h' := by
  obtain ⟨n, rfl⟩ : ∃ n, N = n + 1 := ⟨N - 1, by omega⟩
  have hpos := positionOk_N g lf n (by omega) r c hp (by omega) hf
  have hplay := playerOk_W g lf n (by omega) h t
  have : W (CL g lf (n + 1) fn_impl_ReverseWinner [.int .i64 r, .int .i64 c, p, .int .i64 t] h) fun v h' => v = .int .i64 (revL r c xs t) ∧ Keep h.length h h' := by
    rw [impl_ReverseWinner.call_eq]
    unfold impl_ReverseWinner.main
    simp only [env_C, env_pick, env_un]
    cases hb : posB r c xs with
    | false =>
      rw [hb] at hpos
      repeat (first | with_reducible refine wT ?_ | with_reducible refine wg0 rfl ?_ | with_reducible refine wpT ?_ | with_reducible refine wnF ?_ | with_reducible refine wsm ?_ | with_reducible refine wrI ?_ | with_reducible refine wbd (by assumption) ?_ | dsimp only)
      exact W.ret ⟨by rw [revL_none (.inl hb)], Keep.refl _ _⟩
    | true =>
      rw [hb] at hpos
      cases hpl : playerB t with
      | false =>
        rw [hpl] at hplay
        repeat (first | with_reducible refine wT ?_ | with_reducible refine wg1 rfl ?_ | with_reducible refine wpF ?_ | with_reducible refine wnT ?_ | with_reducible refine wnF ?_ | with_reducible refine wpv ?_ | with_reducible refine wsm ?_ | with_reducible refine wrI ?_ | with_reducible refine wbd (by assumption) ?_ | dsimp only)
        refine W.ret ⟨?_, Keep.refl _ _⟩
        unfold revL; rw [hpl, Bool.and_false]; rfl
      | true =>
        rw [hpl] at hplay
        obtain ⟨R, C, hS⟩ := sides_of hb
        obtain ⟨T, rfl, hT⟩ := player_of hpl
        have hB := board_of_sides hS
        obtain ⟨rfl, rfl, _, _, _, _, h9, hlen, _⟩ := id hS
        repeat (first | with_reducible refine wF ?_ | with_reducible refine wg1 rfl ?_ | with_reducible refine wpF ?_ | with_reducible refine wnT ?_ | with_reducible refine wpv ?_ | with_reducible refine wsm ?_ | with_reducible refine wbd (by assumption) ?_ | dsimp only)
        refine wcall (newReverse_W g lf hB n (by omega) hlf ht.1) fun v h1 ⟨s, m, hv, hs, k1, l1, l2⟩ => ?_
        subst hv
        repeat (first | dsimp only)
        refine wcall (standingOf_W g lf (hp.keep k1) (by omega) T n (by omega) hlf) fun v h2 ⟨hv, k2⟩ => ?_
        subst hv
        repeat (first | dsimp only)
        refine wcall (rWinner_W g lf hB hbig hlf 9 _ _ _ _ n h2 (Nat.le_trans (fr_le _ _ _) h9) (stands_of hS hT) (by omega) (hs.keep k2) ((ht.2.keep k1).keep k2)) fun v h3 ⟨hv, hs3, k3⟩ => ?_
        subst hv
        repeat (first | with_reducible refine wrI ?_ | dsimp only)
        exact W.ret ⟨by rw [revL_eq hb hT], (k1.trans (k2.mono k1.1)).kbs (Nat.le_refl _) k3 l2⟩
  obtain ⟨_, h', e, rfl, k⟩ := this
  exact ⟨h', e, k⟩

theorem reverseOk (hbig : Big g) (hlf : 1000 < lf) : ReverseOk g lf := fun N hN r c t _ _ _ ht hp hl hf => reverse_W g lf hbig hlf N (by omega) r c t ht hp hl hf

theorem squareOk (hbig : Big g) (hlf : 1000 < lf) : SquareOk g lf := by
  intro N hN s h ht
  obtain ⟨n, rfl⟩ : ∃ n, N = n + 1 := ⟨N - 1, by omega⟩
  obtain ⟨q, h1, e1, o1, k1⟩ := freeBoard_W g lf n (by omega) h s s
  have hlen : (if boardB s s = true then freeL s.toNat s.toNat else []).length ≤ 9 := by
    cases hb : boardB s s with
    | false => simp
    | true =>
      obtain ⟨R, C, e, e', hB⟩ := boardB_of hb
      obtain rfl : R = C := by omega
      subst e
      have := hB.2.2.2.2
      rw [if_pos rfl]
      unfold freeL
      simpa using this
  obtain ⟨h2, e2, k2⟩ := reverse_W g lf hbig hlf n (by omega) s s 1 (ht.keep k1) o1.int (by omega) (by omega)
  have : W (CL g lf (n + 1) fn_impl_SquareReverse [.int .i64 s] h) fun v h' => v = .int .i64 (squareL s) ∧ Keep h.length h h' := by
    rw [impl_SquareReverse.call_eq]
    unfold impl_SquareReverse.main
    simp only [env_C]
    repeat (first | with_reducible refine wrI ?_ | with_reducible refine wbd (by assumption) ?_ | dsimp only)
    refine W.ret ⟨?_, k1.trans (k2.mono k1.1)⟩
    congr 1
    cases hb : boardB s s with
    | false =>
      rw [if_neg (by simp), revL_none]
      · unfold squareL
        have hne : s ≠ 1 ∧ s ≠ 2 ∧ s ≠ 3 := by
          refine ⟨?_, ?_, ?_⟩ <;> (rintro rfl; revert hb; decide)
        rw [if_neg hne.1, if_neg hne.2.1, if_neg hne.2.2]
      · left
        unfold posB; rw [hb]; simp
    | true =>
      rw [if_pos rfl]
      obtain ⟨R, C, e, e', hB⟩ := boardB_of hb
      obtain rfl : R = C := by omega
      subst e
      obtain ⟨b1, b2, b3, b4, b9⟩ := hB
      have h3 : R ≤ 3 := by
        rcases Nat.lt_or_ge 3 R with hlt | hle
        · have := Nat.mul_le_mul hlt hlt; omega
        · exact hle
      exact square_rev (S := R) (by omega) h3
  obtain ⟨_, h', e, rfl, k⟩ := this
  exact ⟨h', e, k⟩

theorem safeOk (hbig : Big g) (hlf : 1000 < lf) : SafeOk g lf := by
  intro N hN r c pl xs p h ht hp hl hf
  obtain ⟨n, rfl⟩ : ∃ n, N = n + 1 := ⟨N - 1, by omega⟩
  have hpos := positionOk_N g lf n (by omega) r c hp (by omega) hf
  have hplay := playerOk_W g lf n (by omega) h pl
  suffices this : W (CL g lf (n + 1) fn_impl_SafeCells [.int .i64 r, .int .i64 c, p, .int .i64 pl] h) fun q h' => OwnSl h.length h' q (safeL r c xs pl) ∧ Keep h.length h h' by
    obtain ⟨q, h', e, o, k⟩ := this
    exact ⟨q, h', e, o, k⟩
  rw [impl_SafeCells.call_eq]
  unfold impl_SafeCells.main
  simp only [env_C, env_pick, env_alloc, env_load, env_store, env_bin, env_un, env_fieldAddr]
  cases hb : posB r c xs with
  | false =>
    rw [hb] at hpos
    rw [safeL_none (.inl hb)]
    repeat (first | with_reducible refine wT ?_ | with_reducible refine wg0 rfl ?_ | with_reducible refine wpT ?_ | with_reducible refine wnF ?_ | with_reducible refine wsm ?_ | with_reducible refine wrN ?_ | with_reducible refine wbd (by assumption) ?_ | dsimp only)
    exact W.ret ⟨OwnSl.nil _ _, Keep.refl _ _⟩
  | true =>
    rw [hb] at hpos
    cases hpl : playerB pl with
    | false =>
      rw [hpl] at hplay
      have : safeL r c xs pl = [] := by
        unfold safeL
        rw [List.filter_eq_nil_iff.2, List.map_nil]
        intro k _ hk
        rw [safeWB_iff, moveL_iff, hpl] at hk
        exact absurd hk.1.2.1 (by decide)
      rw [this]
      repeat (first | with_reducible refine wT ?_ | with_reducible refine wg1 rfl ?_ | with_reducible refine wpF ?_ | with_reducible refine wnT ?_ | with_reducible refine wnF ?_ | with_reducible refine wpv ?_ | with_reducible refine wsm ?_ | with_reducible refine wrN ?_ | with_reducible refine wbd (by assumption) ?_ | dsimp only)
      exact W.ret ⟨OwnSl.nil _ _, Keep.refl _ _⟩
    | true =>
      rw [hpl] at hplay
      obtain ⟨R, C, hS⟩ := sides_of hb
      obtain ⟨T, rfl, hT⟩ := player_of hpl
      have hB := board_of_sides hS
      obtain ⟨rfl, rfl, _, _, _, _, h9, hlen, _⟩ := id hS
      have hst := stands_of hS hT
      obtain ⟨w1, w2, w3⟩ := who_rev (t := T) hB hst.1
      repeat (first | with_reducible refine wF ?_ | with_reducible refine wg1 rfl ?_ | with_reducible refine wpF ?_ | with_reducible refine wnT ?_ | with_reducible refine wpv ?_ | with_reducible refine wsm ?_ | with_reducible refine wbd (by assumption) ?_ | dsimp only)
      refine wcall (newReverse_W g lf hB n (by omega) hlf ht.1) fun v h1 ⟨s, m, hv, hs, k1, l1, l2⟩ => ?_
      subst hv
      repeat (first | dsimp only)
      refine wcall (standingOf_W g lf (hp.keep k1) (by omega) T n (by omega) hlf) fun v h2 ⟨hv, k2⟩ => ?_
      subst hv
      dsimp only
      refine walR fun h3 ir o3 k3 l3 => ?_
      dsimp only
      refine walS fun h4 is o4 k4 l4 => ?_
      dsimp only
      have o3' := o3.keep k4
      have lk1 := k1.1
      have lk2 := k2.1
      have lk3 := k3.1
      have lk4 := k4.1
      have li3 := o3.lt
      have hs4 := ((hs.keep k2).keep k3).keep k4
      have ht4 := (((ht.2.keep k1).keep k2).keep k3).keep k4
      have ls := hs.slt
      have lm := hs.lt
      have kk4 : Keep h.length h h4 := (((k1.trans (k2.mono k1.1)).trans (k3.mono (by omega))).trans (k4.mono (by omega)))
      refine wstR o3' rfl fun h5 o5 k5 => ?_
      have o4' := o4.kb k5 (by omega)
      refine wstS o4' fun h6 o6 k6 => ?_
      have q1 := o5.kb k6 (by omega)
      have hs6 := (hs4.kbo k5 (by omega) (by omega)).kbo k6 (by omega) (by omega)
      have kk6 : Keep h.length h h6 := (kk4.kbs (Nat.le_refl _) k5 (by omega)).kbs (Nat.le_refl _) k6 (by omega)
      have ht6 : Tab64 g h6 := by
        intro id e
        have hx := ht.2 id e
        rw [kk6.2 id (List.getElem?_eq_some_iff.1 hx).1]; exact hx
      have lk5 := k5.1
      have lk6 := k6.1
      obtain ⟨⟨m0, hs6a⟩, _⟩ := id hs6
      obtain ⟨h7, e7, k7⟩ := joined_W g lf (f := setL xs 0) (t := T) hB hst.1 hbig hs6a ht6 n (by omega) hlf
      have u1 := q1.keep k7
      have u2 := o6.keep k7
      have hs7 := hs6.keep k7
      have ht7 := ht6.keep k7
      have kk7 : Keep h.length h h7 := kk6.trans (k7.mono kk6.1)
      repeat (first | with_reducible refine wbd (by assumption) ?_ | (with_reducible refine wbd (fR0 _) ?_) | (with_reducible refine wbd (ldS (by assumption)) ?_) | (with_reducible refine wbd (ldQ (by assumption)) ?_) | dsimp only)
      refine wneq (fun e => ?_) (fun e => ?_)
      · have hw : ¬ whoN R C (setL xs 1) (setL xs 2) = 0 := by omega
        have hnil : safeL (R : Int) (C : Int) xs (T : Int) = [] := safe_done (by
          have := mt (who_zero hb).2 hw
          cases h1 : joinsL (R : Int) (C : Int) xs 1 with
          | true => exact .inl rfl
          | false =>
            cases h2 : joinsL (R : Int) (C : Int) xs 2 with
            | true => exact .inr rfl
            | false => exact absurd ⟨h1, h2⟩ this)
        rw [hnil]
        repeat (first | with_reducible refine wT ?_ | with_reducible refine wrN ?_)
        exact W.ret ⟨OwnSl.nil _ _, kk7⟩
      · have hw : whoN R C (setL xs 1) (setL xs 2) = 0 := by omega
        rw [safe_list hb hS hT hw]
        repeat (first | with_reducible refine wF ?_ | (with_reducible refine wbd (ldS (by assumption)) ?_) | (with_reducible refine wbd (ldR (by assumption)) ?_))
        refine wcall (safe_W g lf n (by omega) h7) fun v h8 ⟨i1, i2, hv, a1, a2, k8, l8, l8'⟩ => ?_
        subst hv
        dsimp only
        refine wcall (collect_W g lf hB hbig hlf hst n (by omega) (hs7.keep k8) (ht7.keep k8) a1 a2) fun q h9' ⟨o9, k9⟩ => ?_
        dsimp only
        refine wbd o9.res ?_
        have kk8 : Keep h.length h h8 := kk7.trans (k8.mono kk7.1)
        exact W.ret ⟨o9.mono kk8.1, kk8.kbs (Nat.le_refl _) k9 l2⟩

end Go.Proofs.YtocjdekcmhgjeaaDoor

