/- The neighbours of a cell: the program's loop over its table of steps, the model's two loops, and the exact law. -/
import Derived.Test.YtiflfnlpkhghpaaDoorP4
import Derived.Test.YtiflfnlpkhghpaaDoorC6
namespace Go.Proofs.YtiflfnlpkhghpaaDoor
open Go Go.Ip G

/-! ### the table of steps -/
def tabCells : List PV := [.int .i64 (-1), .int .i64 0, .int .i64 (-1), .int .i64 1, .int .i64 0, .int .i64 (-1), .int .i64 0, .int .i64 1, .int .i64 1, .int .i64 (-1), .int .i64 1, .int .i64 0]
def steps : List (Int × Int) := [(-1, 0), (-1, 1), (0, -1), (0, 1), (1, -1), (1, 0)]
def stp (i : Nat) : Int × Int := steps.getD i (0, 0)

/-- The table lies at an object that is only read. -/
def Tab (g : Nat → PV) (h : PHeap) : Prop := ∃ id, g 0 = .ptr id 0 ∧ h[id]? = some (.ro 1 tabCells)

theorem Tab.keep {g : Nat → PV} {h h' : PHeap} (t : Tab g h) (k : Keep h.length h h') : Tab g h' := by
  obtain ⟨id, e, ho⟩ := t
  exact ⟨id, e, by rw [k.2 id (List.getElem?_eq_some_iff.1 ho).1]; exact ho⟩

theorem tyTabAgg : isAggT Tryd.prog 57 = some true := by kernel_rfl
theorem tyTabSize : sizeT Tryd.prog 57 = some 12 := by kernel_rfl
theorem tyPairZ : zeroCellsT Tryd.prog 56 = some [.int .i64 0, .int .i64 0] := by kernel_rfl
theorem tyPairSize : sizeT Tryd.prog 56 = some 2 := by kernel_rfl
theorem tyPairU : Tryd.prog.underlying 56 = some (.array 2 3) := by kernel_rfl

theorem tab_load {g : Nat → PV} {h : PHeap} (t : Tab g h) : loadP Tryd.prog 57 (g 0) h = some (.agg tabCells) := by
  obtain ⟨id, e, ho⟩ := t
  rw [e]
  simp [loadP, tyTabAgg, tyTabSize, cellsAt, ho, PObj.get, tabCells]

theorem tab_index (i : Nat) (hi : i < 6) : indexP Tryd.prog 57 (.agg tabCells) (.int .i64 (i : Int)) = some (.agg [.int .i64 (stp i).1, .int .i64 (stp i).2]) := by
  have t0 : indexP Tryd.prog 57 (.agg tabCells) (.int .i64 ((0 : Nat) : Int)) = some (.agg [.int .i64 (stp 0).1, .int .i64 (stp 0).2]) := by kernel_rfl
  have t1 : indexP Tryd.prog 57 (.agg tabCells) (.int .i64 ((1 : Nat) : Int)) = some (.agg [.int .i64 (stp 1).1, .int .i64 (stp 1).2]) := by kernel_rfl
  have t2 : indexP Tryd.prog 57 (.agg tabCells) (.int .i64 ((2 : Nat) : Int)) = some (.agg [.int .i64 (stp 2).1, .int .i64 (stp 2).2]) := by kernel_rfl
  have t3 : indexP Tryd.prog 57 (.agg tabCells) (.int .i64 ((3 : Nat) : Int)) = some (.agg [.int .i64 (stp 3).1, .int .i64 (stp 3).2]) := by kernel_rfl
  have t4 : indexP Tryd.prog 57 (.agg tabCells) (.int .i64 ((4 : Nat) : Int)) = some (.agg [.int .i64 (stp 4).1, .int .i64 (stp 4).2]) := by kernel_rfl
  have t5 : indexP Tryd.prog 57 (.agg tabCells) (.int .i64 ((5 : Nat) : Int)) = some (.agg [.int .i64 (stp 5).1, .int .i64 (stp 5).2]) := by kernel_rfl
  have : i = 0 ∨ i = 1 ∨ i = 2 ∨ i = 3 ∨ i = 4 ∨ i = 5 := by omega
  rcases this with rfl | rfl | rfl | rfl | rfl | rfl
  · exact t0
  · exact t1
  · exact t2
  · exact t3
  · exact t4
  · exact t5

theorem stp_small (i : Nat) : -1 ≤ (stp i).1 ∧ (stp i).1 ≤ 1 ∧ -1 ≤ (stp i).2 ∧ (stp i).2 ≤ 1 := by
  by_cases hi : i < 6
  · have : i = 0 ∨ i = 1 ∨ i = 2 ∨ i = 3 ∨ i = 4 ∨ i = 5 := by omega
    rcases this with rfl | rfl | rfl | rfl | rfl | rfl <;> decide
  · have : stp i = (0, 0) := by
      unfold stp
      rw [List.getD_eq_getElem?_getD, List.getElem?_eq_none (by show 6 ≤ i; omega)]; rfl
    rw [this]; decide

theorem pair_alloc (h : PHeap) : allocP Tryd.prog 56 h = some (.ptr h.length 0, h ++ [.own 1 [.int .i64 0, .int .i64 0]]) := by simp [allocP, tyPairZ]
theorem pair_store (h : PHeap) (a b : Int) : storeP Tryd.prog 56 (.ptr h.length 0) (.agg [.int .i64 a, .int .i64 b]) (h ++ [.own 1 [.int .i64 0, .int .i64 0]]) = some (h ++ [.own 1 [.int .i64 a, .int .i64 b]]) := by
  simp [storeP, tyPairSize, PV.cells, PV.oneCell, setCells]
theorem pair_addr0 (id : Nat) : indexAddrP Tryd.prog 56 (.ptr id 0) (.int .i64 0) = some (.ptr id 0) := by simp [indexAddrP, tySize]
theorem pair_addr1 (id : Nat) : indexAddrP Tryd.prog 56 (.ptr id 0) (.int .i64 1) = some (.ptr id 1) := by simp [indexAddrP, tySize]
theorem pair_load0 (h : PHeap) (a b : PV) : loadP Tryd.prog 3 (.ptr h.length 0) (h ++ [.own 1 [a, b]]) = some a := by simp [loadP, tyAgg, cellsAt, PObj.get]
theorem pair_load1 (h : PHeap) (a b : PV) : loadP Tryd.prog 3 (.ptr h.length 1) (h ++ [.own 1 [a, b]]) = some b := by simp [loadP, tyAgg, cellsAt, PObj.get]

/-! ### what is meant -/
def rowAt (C k : Nat) (s : Int × Int) : Int := ((k / C : Nat) : Int) + s.1
def colAt (C k : Nat) (s : Int × Int) : Int := ((k % C : Nat) : Int) + s.2
def inB (R C k : Nat) (s : Int × Int) : Bool := decide (0 ≤ rowAt C k s) && decide (rowAt C k s < R) && decide (0 ≤ colAt C k s) && decide (colAt C k s < C)
def nearFrom (R C k : Nat) (ss : List (Int × Int)) : List Int := (ss.filter (inB R C k)).map fun s => rowAt C k s * C + colAt C k s
def nearN (R C k : Nat) : List Int := nearFrom R C k steps
def cellB (r c k : Int) : Bool := boardB r c && decide (0 ≤ k ∧ k < r * c)
def nearL (r c k : Int) : List Int := if cellB r c k = true then nearN r.toNat c.toNat k.toNat else []

theorem nearFrom_append (R C k : Nat) (a b : List (Int × Int)) : nearFrom R C k (a ++ b) = nearFrom R C k a ++ nearFrom R C k b := by
  unfold nearFrom; rw [List.filter_append, List.map_append]
theorem nearFrom_length (R C k : Nat) (a : List (Int × Int)) : (nearFrom R C k a).length ≤ a.length := by
  unfold nearFrom; rw [List.length_map]; exact List.length_filter_le _ _
theorem nearL_length (r c k : Int) : (nearL r c k).length ≤ 6 := by
  unfold nearL
  split
  · exact nearFrom_length _ _ _ steps
  · simp

/-- A cell of a board, as numbers. -/
def CellOf (r c k : Int) (R C K : Nat) : Prop := r = (R : Int) ∧ c = (C : Int) ∧ k = (K : Int) ∧ 1 ≤ R ∧ R ≤ 4 ∧ 1 ≤ C ∧ C ≤ 4 ∧ R * C ≤ 9 ∧ K < R * C

theorem cell_of {r c k : Int} (h : cellB r c k = true) : ∃ R C K, CellOf r c k R C K := by
  unfold cellB at h
  rw [Bool.and_eq_true] at h
  have hb := h.1
  unfold boardB at hb
  have hm := of_decide_eq_true hb
  have hk := of_decide_eq_true h.2
  obtain ⟨R, rfl⟩ := Int.eq_ofNat_of_zero_le (show 0 ≤ r by omega)
  obtain ⟨C, rfl⟩ := Int.eq_ofNat_of_zero_le (show 0 ≤ c by omega)
  obtain ⟨K, rfl⟩ := Int.eq_ofNat_of_zero_le (show 0 ≤ k by omega)
  have h9 := hm.2.2.2.2
  rw [← Int.natCast_mul] at h9 hk
  exact ⟨R, C, K, rfl, rfl, rfl, by omega, by omega, by omega, by omega, by omega, by omega⟩

theorem row_small (C k : Nat) (s : Int × Int) (hk : k ≤ 9) (hs : -1 ≤ s.1 ∧ s.1 ≤ 1 ∧ -1 ≤ s.2 ∧ s.2 ≤ 1) : -1 ≤ rowAt C k s ∧ rowAt C k s ≤ 10 ∧ -1 ≤ colAt C k s ∧ colAt C k s ≤ 10 := by
  unfold rowAt colAt
  have e1 : ((k / C : Nat) : Int) ≤ 9 := Int.ofNat_le.2 (Nat.le_trans (Nat.div_le_self k C) hk)
  have e2 : ((k % C : Nat) : Int) ≤ 9 := Int.ofNat_le.2 (Nat.le_trans (Nat.mod_le k C) hk)
  have e3 : (0 : Int) ≤ ((k / C : Nat) : Int) := Int.natCast_nonneg _
  have e4 : (0 : Int) ≤ ((k % C : Nat) : Int) := Int.natCast_nonneg _
  refine ⟨?_, ?_, ?_, ?_⟩ <;> omega

theorem mul_in {y : Int} {C : Nat} (h0 : 0 ≤ y) (h1 : y ≤ 10) (h2 : 1 ≤ C) (h3 : C ≤ 4) : 0 ≤ y * C ∧ y * C ≤ 40 := by
  have : C = 1 ∨ C = 2 ∨ C = 3 ∨ C = 4 := by omega
  rcases this with rfl | rfl | rfl | rfl <;> omega

/-- An operation under a guard. -/
theorem gd {α β : Type} {b t : Bool} {x y : Option α} {f : α → Option β} {r : Option β} (hb : b = t) (hx : x.bind f = r) : ((wantV (.bool b) t).bind fun v => (bif v then x else y).bind f) = r := by
  subst hb; simpa using hx
theorem gn {α β : Type} {b t : Bool} {x y : Option α} {f : α → Option β} {r : Option β} (hb : b = !t) (hy : y.bind f = r) : ((wantV (.bool b) t).bind fun v => (bif v then x else y).bind f) = r := by
  subst hb; cases t <;> simpa using hy

variable (g : Nat → PV) (lf n : Nat)

/-! ### the program -/
theorem near_step {R C k i : Nat} (h1 : 1 ≤ R) (h2 : R ≤ 4) (h3 : 1 ≤ C) (h4 : C ≤ 4) (hk : k ≤ 9) (hi : i < 6) (K : PX → St → Res) {q : PV} {ys : List Int} {h : PHeap} {b : Nat} (ho : OwnSl b h q ys) (hb : b ≤ h.length) (hy : ys.length ≤ 10) :
    ∃ q' h', impl_NearCells.body0 (env g lf n) K (.int .i64 (R : Int)) (.int .i64 (C : Int)) (.int .i64 (k : Int)) q (.agg tabCells) (.int .i64 (i : Int)) h = K .normal (impl_NearCells.st0 (.int .i64 (R : Int)) (.int .i64 (C : Int)) (.int .i64 (k : Int)) q' (.agg tabCells) (.int .i64 ((i + 1 : Nat) : Int)) h') ∧
      OwnSl b h' q' (ys ++ nearFrom R C k [stp i]) ∧ Keep b h h' := by
  have hs := stp_small i
  have hsm := row_small C k (stp i) hk hs
  have kp : Keep h.length h (h ++ [PObj.own 1 [.int .i64 (stp i).1, .int .i64 (stp i).2]]) := Keep.append _ _ _ (Nat.le_refl _)
  have ho1 := ho.keep kp
  have f1 : binP Tryd.prog .lss 3 (.int .i64 (i : Int)) (.int .i64 6) = some (.bool true) := by rw [bin_lss, decide_eq_true (by omega)]
  have fq := f_quo k C h3 (by omega)
  have fr := f_rem k C h3
  have fy : binP Tryd.prog .add 3 (.int .i64 ((k / C : Nat) : Int)) (.int .i64 (stp i).1) = some (.int .i64 (rowAt C k (stp i))) := by
    rw [bin_add]; unfold rowAt at hsm ⊢; rw [wr (by omega)]
  have fx : binP Tryd.prog .add 3 (.int .i64 ((k % C : Nat) : Int)) (.int .i64 (stp i).2) = some (.int .i64 (colAt C k (stp i))) := by
    rw [bin_add]; unfold colAt at hsm ⊢; rw [wr (by omega)]
  have fn' : binP Tryd.prog .add 3 (.int .i64 (i : Int)) (.int .i64 1) = some (.int .i64 ((i + 1 : Nat) : Int)) := by rw [bin_add, nx (by omega)]
  have hnf : nearFrom R C k [stp i] = if inB R C k (stp i) = true then [rowAt C k (stp i) * C + colAt C k (stp i)] else [] := by
    unfold nearFrom; cases e : inB R C k (stp i) <;> simp [List.filter_cons, e]
  obtain ⟨y, hyy⟩ : ∃ y, y = rowAt C k (stp i) := ⟨_, rfl⟩
  obtain ⟨x, hxx⟩ : ∃ x, x = colAt C k (stp i) := ⟨_, rfl⟩
  rw [← hyy] at fy; rw [← hxx] at fx; rw [← hyy, ← hxx] at hsm hnf
  have hin : inB R C k (stp i) = (decide (0 ≤ y) && decide (y < R) && decide (0 ≤ x) && decide (x < C)) := by unfold inB; rw [← hyy, ← hxx]
  have g1 : binP Tryd.prog .geq 3 (.int .i64 y) (.int .i64 0) = some (.bool (decide (0 ≤ y))) := bin_geq
  have g2 : binP Tryd.prog .lss 3 (.int .i64 y) (.int .i64 (R : Int)) = some (.bool (decide (y < R))) := bin_lss
  have g3 : binP Tryd.prog .geq 3 (.int .i64 x) (.int .i64 0) = some (.bool (decide (0 ≤ x))) := bin_geq
  have g4 : binP Tryd.prog .lss 3 (.int .i64 x) (.int .i64 (C : Int)) = some (.bool (decide (x < C))) := bin_lss
  cases hin' : (decide (0 ≤ y) && decide (y < R) && decide (0 ≤ x) && decide (x < C)) with
  | true =>
    have hc := hin'
    simp only [Bool.and_eq_true, decide_eq_true_eq] at hc
    rw [hin, hin', if_pos rfl] at hnf
    have hm := mul_in (C := C) hc.1.1.1 (show y ≤ 10 by omega) h3 h4
    obtain ⟨v, q2, h2', hb2, ha2, ho2, hk2⟩ := ho1.append (by have := kp.1; omega) (y * C + x) (by omega)
    rw [decide_eq_true hc.1.1.1] at g1
    rw [decide_eq_true hc.1.1.2] at g2
    rw [decide_eq_true hc.1.2] at g3
    rw [decide_eq_true hc.2] at g4
    have m1 : binP Tryd.prog .mul 3 (.int .i64 y) (.int .i64 (C : Int)) = some (.int .i64 (y * C)) := by rw [bin_mul, wr (by omega)]
    have m2 : binP Tryd.prog .add 3 (.int .i64 (y * C)) (.int .i64 x) = some (.int .i64 (y * C + x)) := by rw [bin_add, wr (by omega)]
    refine ⟨q2, h2', ?_, by rw [hnf]; exact ho2, (kp.mono hb).trans hk2⟩
    unfold impl_NearCells.body0
    refine bd f1 (cdT (bd (tab_index i hi) (bd (pair_alloc h) (bd (pair_store h _ _) (bd fq (bd (pair_addr0 _) (bd (pair_load0 h _ _) (bd fy (bd fr (bd (pair_addr1 _) (bd (pair_load1 h _ _) (bd fx ?_))))))))))))
    refine bd g1 (gd rfl (bd rfl (gd rfl (bd rfl (gd rfl (bd (congrArg (pv _) g2) (bd (v := PV.bool true) rfl ?_)))))))
    refine gd rfl (bd rfl (gd rfl (bd (congrArg (pv _) g3) (bd (v := PV.bool true) rfl ?_))))
    refine gd rfl (bd rfl (gd rfl (bd rfl (gd rfl (bd (congrArg (pv _) g4) (bd (v := PV.bool true) rfl (cdT ?_)))))))
    exact bd m1 (bd m2 (bd hb2 (bd ha2 (bd fn' rfl))))
  | false =>
    rw [hin, hin', if_neg (by decide), ] at hnf
    refine ⟨q, _, ?_, by rw [hnf, List.append_nil]; exact ho1, kp.mono hb⟩
    unfold impl_NearCells.body0
    refine bd f1 (cdT (bd (tab_index i hi) (bd (pair_alloc h) (bd (pair_store h _ _) (bd fq (bd (pair_addr0 _) (bd (pair_load0 h _ _) (bd fy (bd fr (bd (pair_addr1 _) (bd (pair_load1 h _ _) (bd fx ?_))))))))))))
    cases c1 : decide (0 ≤ y) with
    | false =>
      rw [c1] at g1
      refine bd g1 (gn rfl (bd rfl (gn rfl (bd rfl (gn rfl (bd rfl (bd (v := PV.bool false) rfl ?_)))))))
      refine gn rfl (bd rfl (gn rfl (bd rfl (bd (v := PV.bool false) rfl ?_))))
      refine gn rfl (bd rfl (gn rfl (bd rfl (gn rfl (bd rfl (bd (v := PV.bool false) rfl (cdF (bd fn' rfl))))))))
    | true =>
      rw [c1] at g1
      refine bd g1 (gd rfl (bd rfl (gd rfl (bd rfl (gd rfl (bd (congrArg (pv _) g2) (bd (v := PV.bool (decide (y < R))) rfl ?_)))))))
      cases c2 : decide (y < (R : Int)) with
      | false =>
        refine gn rfl (bd rfl (gn rfl (bd rfl (bd (v := PV.bool false) rfl ?_))))
        refine gn rfl (bd rfl (gn rfl (bd rfl (gn rfl (bd rfl (bd (v := PV.bool false) rfl (cdF (bd fn' rfl))))))))
      | true =>
        refine gd rfl (bd rfl (gd rfl (bd (congrArg (pv _) g3) (bd (v := PV.bool (decide (0 ≤ x))) rfl ?_))))
        cases c3 : decide (0 ≤ x) with
        | false => refine gn rfl (bd rfl (gn rfl (bd rfl (gn rfl (bd rfl (bd (v := PV.bool false) rfl (cdF (bd fn' rfl))))))))
        | true =>
          have c4 : decide (x < (C : Int)) = false := by rw [c1, c2, c3] at hin'; simpa using hin'
          rw [c4] at g4
          refine gd rfl (bd rfl (gd rfl (bd rfl (gd rfl (bd (congrArg (pv _) g4) (bd (v := PV.bool false) rfl (cdF (bd fn' rfl))))))))

theorem near_loop {R C k : Nat} (h1 : 1 ≤ R) (h2 : R ≤ 4) (h3 : 1 ≤ C) (h4 : C ≤ 4) (hk : k ≤ 9) : ∀ (m i fuel : Nat) (q : PV) (ys : List Int) (h : PHeap) (b : Nat), i + m = 6 → m < fuel → ys.length ≤ i → OwnSl b h q ys → b ≤ h.length →
    ∃ q' h', loopK (ev ((env g lf n).cx Tryd.prog impl_NearCells.kl) impl_NearCells.lp0) fuel (impl_NearCells.st0 (.int .i64 (R : Int)) (.int .i64 (C : Int)) (.int .i64 (k : Int)) q (.agg tabCells) (.int .i64 (i : Int)) h) (impl_NearCells.K0 (env g lf n) (kTop Tryd.prog Tryd.f26)) = some (q', h') ∧
      OwnSl b h' q' (ys ++ nearFrom R C k (steps.drop i)) ∧ Keep b h h'
  | 0, i, fuel, q, ys, h, b, him, hf, hy, ho, hb => by
    obtain ⟨f, rfl⟩ : ∃ f, fuel = f + 1 := ⟨fuel - 1, by omega⟩
    obtain rfl : i = 6 := by omega
    refine ⟨q, h, ?_, by rw [show steps.drop 6 = [] from rfl]; simpa [nearFrom] using ho, Keep.refl _ _⟩
    rw [loopK_succ, impl_NearCells.body0_eq]
    have f1 : binP Tryd.prog .lss 3 (.int .i64 ((6 : Nat) : Int)) (.int .i64 6) = some (.bool false) := by rw [bin_lss]; rfl
    unfold impl_NearCells.body0
    refine bd f1 (cdF ?_)
    rw [kLoop_exit, impl_NearCells.after0_se0_0_1_2_7_17_18_19]
    exact bd ho.res rfl
  | m + 1, i, fuel, q, ys, h, b, him, hf, hy, ho, hb => by
    obtain ⟨f, rfl⟩ : ∃ f, fuel = f + 1 := ⟨fuel - 1, by omega⟩
    have hi : i < 6 := by omega
    obtain ⟨q1, h', e1, o1, k1⟩ := near_step g lf n h1 h2 h3 h4 hk hi (kLoop (ev ((env g lf n).cx Tryd.prog impl_NearCells.kl) impl_NearCells.lp0) f (impl_NearCells.K0 (env g lf n) (kTop Tryd.prog Tryd.f26))) ho hb (by omega)
    have hl := nearFrom_length R C k [stp i]
    obtain ⟨q2, h'', e2, o2, k2⟩ := near_loop h1 h2 h3 h4 hk m (i + 1) f q1 (ys ++ nearFrom R C k [stp i]) h' b (by omega) (by omega) (by rw [List.length_append]; simp at hl; omega) o1 (by have := k1.1; omega)
    refine ⟨q2, h'', ?_, ?_, k1.trans k2⟩
    · rw [loopK_succ, impl_NearCells.body0_eq, e1, kLoop_normal]; exact e2
    · have hd : steps.drop i = [stp i] ++ steps.drop (i + 1) := by
        have : i = 0 ∨ i = 1 ∨ i = 2 ∨ i = 3 ∨ i = 4 ∨ i = 5 := by omega
        rcases this with rfl | rfl | rfl | rfl | rfl | rfl <;> rfl
      rw [hd, nearFrom_append, ← List.append_assoc]; exact o2

theorem cellOk_N (N : Nat) (hN : 3 ≤ N) (h : PHeap) (r c k : Int) : CL g lf N fn_impl_cellOk [.int .i64 r, .int .i64 c, .int .i64 k] h = some (.bool (cellB r c k), h) := by
  obtain ⟨n, rfl⟩ : ∃ n, N = n + 3 := ⟨N - 3, by omega⟩
  rw [impl_cellOk.call_eq]
  unfold cellB
  cases hb : boardB r c with
  | false => simp [impl_cellOk.main, boardOk_calls, hb]
  | true =>
    have hb' := hb
    unfold boardB at hb'
    have hm := of_decide_eq_true hb'
    have hmul := mul_small hm.1 hm.2.1 hm.2.2.1 hm.2.2.2.1
    by_cases h0 : 0 ≤ k <;> simp [impl_cellOk.main, boardOk_calls, hb, hmul, h0]

theorem nearCells_calls (N : Nat) (hN : 4 ≤ N) (hlf : 20 < lf) {h : PHeap} (ht : Tab g h) (r c k : Int) :
    ∃ q h', CL g lf N fn_impl_NearCells [.int .i64 r, .int .i64 c, .int .i64 k] h = some (q, h') ∧ OwnSl h.length h' q (nearL r c k) ∧ Keep h.length h h' := by
  obtain ⟨n, rfl⟩ : ∃ n, N = n + 1 := ⟨N - 1, by omega⟩
  rw [impl_NearCells.call_eq]
  have hc := cellOk_N g lf n (by omega) h r c k
  unfold nearL
  cases hb : cellB r c k with
  | false =>
    rw [hb] at hc
    refine ⟨.nilsl, h, ?_, OwnSl.nil _ _, Keep.refl _ _⟩
    unfold impl_NearCells.main
    exact bd hc (bd un_not (cdT (bd res_nilsl rfl)))
  | true =>
    rw [hb] at hc
    obtain ⟨R, C, K, rfl, rfl, rfl, h1, h2, h3, h4, h9, hK⟩ := cell_of hb
    obtain ⟨q', h', e, o, k'⟩ := near_loop g lf n h1 h2 h3 h4 (show K ≤ 9 by omega) 6 0 lf .nilsl [] h h.length (by omega) (by omega) (by simp) (OwnSl.nil _ _) (Nat.le_refl _)
    refine ⟨q', h', ?_, by rw [if_pos rfl]; simpa [nearN] using o, k'⟩
    unfold impl_NearCells.main
    exact bd hc (bd un_not (cdF (bd (tab_load ht) e)))

end Go.Proofs.YtiflfnlpkhghpaaDoor
