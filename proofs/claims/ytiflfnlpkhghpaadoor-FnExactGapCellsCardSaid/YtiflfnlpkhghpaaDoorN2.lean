/- The model's neighbours, 'is a number in a list', and the exact law on neighbours. -/
import Derived.Test.YtiflfnlpkhghpaaDoorN1
namespace Go.Proofs.YtiflfnlpkhghpaaDoor
open Go Go.Ip G

variable (g : Nat → PV) (lf n : Nat)

theorem l1In_N (N : Nat) (hN : 1 ≤ N) (h : PHeap) (a lo hi : Int) : CL g lf N fn_spec_l1In [.int .i64 a, .int .i64 lo, .int .i64 hi] h = some (.bool (decide (lo ≤ a ∧ a ≤ hi)), h) := by
  obtain ⟨n, rfl⟩ : ∃ n, N = n + 1 := ⟨N - 1, by omega⟩
  exact l1In_calls g lf n h a lo hi

def rowSteps (i : Int) : List (Int × Int) := [(i, -1), (i, 0), (i, 1)].filter fun s => s.1 != s.2
theorem rowSteps_all : rowSteps (-1) ++ rowSteps 0 ++ rowSteps 1 = steps := by decide

theorem l1_step {R C k : Nat} (hn : 1 ≤ n) (h2 : R ≤ 4) (h3 : 1 ≤ C) (h4 : C ≤ 4) (hk : k ≤ 9) (s : Int × Int) (hs : -1 ≤ s.1 ∧ s.1 ≤ 1 ∧ -1 ≤ s.2 ∧ s.2 ≤ 1) (y x x' : Int) (hy : y = rowAt C k s) (hx : x = colAt C k s) (hx' : x' = x + 1)
    (K : PX → St → Res) {q : PV} {ys : List Int} {h : PHeap} {b : Nat} (ho : OwnSl b h q ys) (hb : b ≤ h.length) (hl : ys.length ≤ 20) :
    ∃ q' h', spec_l1Near.body1 (env g lf n) K (.int .i64 (R : Int)) (.int .i64 (C : Int)) q (.int .i64 ((k / C : Nat) : Int)) (.int .i64 ((k % C : Nat) : Int)) (.int .i64 y) (.int .i64 x) h =
        K .normal (spec_l1Near.st1 (.int .i64 (R : Int)) (.int .i64 (C : Int)) q' (.int .i64 ((k / C : Nat) : Int)) (.int .i64 ((k % C : Nat) : Int)) (.int .i64 y) (.int .i64 x') h') ∧
      OwnSl b h' q' (ys ++ nearFrom R C k ([s].filter fun s => s.1 != s.2)) ∧ Keep b h h' := by
  have hsm := row_small C k s hk hs
  have e1 : ((k / C : Nat) : Int) ≤ 9 := Int.ofNat_le.2 (Nat.le_trans (Nat.div_le_self k C) hk)
  have e2 : ((k % C : Nat) : Int) ≤ 9 := Int.ofNat_le.2 (Nat.le_trans (Nat.mod_le k C) hk)
  have e3 : (0 : Int) ≤ ((k / C : Nat) : Int) := Int.natCast_nonneg _
  have e4 : (0 : Int) ≤ ((k % C : Nat) : Int) := Int.natCast_nonneg _
  have hy' : y = ((k / C : Nat) : Int) + s.1 := hy
  have hxx : x = ((k % C : Nat) : Int) + s.2 := hx
  rw [← hy, ← hx] at hsm
  have hin : inB R C k s = (decide (0 ≤ y ∧ y ≤ (R : Int) - 1) && decide (0 ≤ x ∧ x ≤ (C : Int) - 1)) := by
    unfold inB
    rw [← hy, ← hx, Bool.eq_iff_iff]
    simp only [Bool.and_eq_true, decide_eq_true_eq]
    omega
  have hnf : ∀ t : Bool, (s.1 != s.2) = t → nearFrom R C k ([s].filter fun s => s.1 != s.2) = if (t && inB R C k s) = true then [y * C + x] else [] := by
    intro t ht
    unfold nearFrom
    cases t with
    | false => simp [ht]
    | true => cases e : inB R C k s <;> simp [ht, e, hy, hx]
  obtain ⟨a, ha⟩ : ∃ a, a = ((k / C : Nat) : Int) := ⟨_, rfl⟩
  obtain ⟨c, hc⟩ : ∃ c, c = ((k % C : Nat) : Int) := ⟨_, rfl⟩
  rw [← ha, ← hc]
  rw [← ha] at e1 e3 hy'
  rw [← hc] at e2 e4 hxx
  have f1 : binP Tryd.prog .add 3 (.int .i64 c) (.int .i64 1) = some (.int .i64 (c + 1)) := by rw [bin_add, wr (by omega)]
  have f2 : binP Tryd.prog .leq 3 (.int .i64 x) (.int .i64 (c + 1)) = some (.bool true) := by rw [bin_leq, decide_eq_true (by omega)]
  have f3 : binP Tryd.prog .sub 3 (.int .i64 y) (.int .i64 a) = some (.int .i64 s.1) := by rw [bin_sub, wr (by omega), show y - a = s.1 by omega]
  have f4 : binP Tryd.prog .sub 3 (.int .i64 x) (.int .i64 c) = some (.int .i64 s.2) := by rw [bin_sub, wr (by omega), show x - c = s.2 by omega]
  have f5 : binP Tryd.prog .neq 3 (.int .i64 s.1) (.int .i64 s.2) = some (.bool (s.1 != s.2)) := bin_neq
  have f6 : binP Tryd.prog .sub 3 (.int .i64 (R : Int)) (.int .i64 1) = some (.int .i64 ((R : Int) - 1)) := by rw [bin_sub, wr (by omega)]
  have f7 : binP Tryd.prog .sub 3 (.int .i64 (C : Int)) (.int .i64 1) = some (.int .i64 ((C : Int) - 1)) := by rw [bin_sub, wr (by omega)]
  have f8 : binP Tryd.prog .add 3 (.int .i64 x) (.int .i64 1) = some (.int .i64 x') := by rw [bin_add, wr (by omega), hx']
  have l1 := l1In_N g lf n hn h y 0 ((R : Int) - 1)
  have l2 := l1In_N g lf n hn h x 0 ((C : Int) - 1)
  unfold spec_l1Near.body1
  cases c1 : (s.1 != s.2) with
  | false =>
    have := hnf false c1
    rw [Bool.false_and, if_neg (by decide)] at this
    refine ⟨q, h, ?_, by rw [this, List.append_nil]; exact ho, Keep.refl _ _⟩
    rw [c1] at f5
    refine bd f1 (bd f2 (cdT (bd f3 (bd f4 (bd f5 ?_)))))
    refine gn rfl (bd rfl (gn rfl (bd rfl (gn rfl (bd rfl (gn rfl (bd rfl (bd (v := PV.bool false) rfl ?_))))))))
    exact gn rfl (bd rfl (gn rfl (bd rfl (gn rfl (bd rfl (gn rfl (bd rfl (bd (v := PV.bool false) rfl (cdF (bd f8 rfl))))))))))
  | true =>
    have hnf := hnf true c1
    rw [Bool.true_and, hin] at hnf
    rw [c1] at f5
    cases c2 : decide (0 ≤ y ∧ y ≤ (R : Int) - 1) with
    | false =>
      rw [c2, Bool.false_and, if_neg (by decide)] at hnf
      rw [c2] at l1
      refine ⟨q, h, ?_, by rw [hnf, List.append_nil]; exact ho, Keep.refl _ _⟩
      refine bd f1 (bd f2 (cdT (bd f3 (bd f4 (bd f5 ?_)))))
      refine gd rfl (bd rfl (gd rfl (bd rfl (gd rfl (bd (congrArg (pv _) f6) (gd rfl (bd l1 (bd (v := PV.bool false) rfl ?_))))))))
      exact gn rfl (bd rfl (gn rfl (bd rfl (gn rfl (bd rfl (gn rfl (bd rfl (bd (v := PV.bool false) rfl (cdF (bd f8 rfl))))))))))
    | true =>
      rw [c2, Bool.true_and] at hnf
      rw [c2] at l1
      cases c3 : decide (0 ≤ x ∧ x ≤ (C : Int) - 1) with
      | false =>
        rw [c3, if_neg (by decide)] at hnf
        rw [c3] at l2
        refine ⟨q, h, ?_, by rw [hnf, List.append_nil]; exact ho, Keep.refl _ _⟩
        refine bd f1 (bd f2 (cdT (bd f3 (bd f4 (bd f5 ?_)))))
        refine gd rfl (bd rfl (gd rfl (bd rfl (gd rfl (bd (congrArg (pv _) f6) (gd rfl (bd l1 (bd (v := PV.bool true) rfl ?_))))))))
        exact gd rfl (bd rfl (gd rfl (bd rfl (gd rfl (bd (congrArg (pv _) f7) (gd rfl (bd l2 (bd (v := PV.bool false) rfl (cdF (bd f8 rfl))))))))))
      | true =>
        rw [c3, if_pos rfl] at hnf
        rw [c3] at l2
        have hyb := of_decide_eq_true c2
        have hxb := of_decide_eq_true c3
        have hm := mul_in (C := C) hyb.1 (show y ≤ 10 by omega) h3 h4
        have m1 : binP Tryd.prog .mul 3 (.int .i64 y) (.int .i64 (C : Int)) = some (.int .i64 (y * C)) := by rw [bin_mul, wr (by omega)]
        have m2 : binP Tryd.prog .add 3 (.int .i64 (y * C)) (.int .i64 x) = some (.int .i64 (y * C + x)) := by rw [bin_add, wr (by omega)]
        obtain ⟨v, q2, h2', hb2, ha2, ho2, hk2⟩ := ho.append hb (y * C + x) (by omega)
        refine ⟨q2, h2', ?_, by rw [hnf]; exact ho2, hk2⟩
        refine bd f1 (bd f2 (cdT (bd f3 (bd f4 (bd f5 ?_)))))
        refine gd rfl (bd rfl (gd rfl (bd rfl (gd rfl (bd (congrArg (pv _) f6) (gd rfl (bd l1 (bd (v := PV.bool true) rfl ?_))))))))
        exact gd rfl (bd rfl (gd rfl (bd rfl (gd rfl (bd (congrArg (pv _) f7) (gd rfl (bd l2 (bd (v := PV.bool true) rfl (cdT (bd m1 (bd m2 (bd hb2 (bd ha2 (bd f8 rfl))))))))))))))

theorem l1_row {R C k : Nat} (hn : 1 ≤ n) (hlf : 20 < lf) (h2 : R ≤ 4) (h3 : 1 ≤ C) (h4 : C ≤ 4) (hk : k ≤ 9) (i : Int) (hi : -1 ≤ i ∧ i ≤ 1) (y y' : Int) (hy : y = rowAt C k (i, 0)) (hy' : y' = y + 1)
    (K : PX → St → Res) {q : PV} {ys : List Int} {h : PHeap} {b : Nat} (ho : OwnSl b h q ys) (hb : b ≤ h.length) (hl : ys.length ≤ 10) :
    ∃ q' h', spec_l1Near.body0 (env g lf n) K (.int .i64 (R : Int)) (.int .i64 (C : Int)) q (.int .i64 ((k / C : Nat) : Int)) (.int .i64 ((k % C : Nat) : Int)) (.int .i64 y) h =
        K .normal (spec_l1Near.st0 (.int .i64 (R : Int)) (.int .i64 (C : Int)) q' (.int .i64 ((k / C : Nat) : Int)) (.int .i64 ((k % C : Nat) : Int)) (.int .i64 y') h') ∧
      OwnSl b h' q' (ys ++ nearFrom R C k (rowSteps i)) ∧ Keep b h h' := by
  obtain ⟨F, rfl⟩ : ∃ F, lf = F + 4 := ⟨lf - 4, by omega⟩
  have e1 : ((k / C : Nat) : Int) ≤ 9 := Int.ofNat_le.2 (Nat.le_trans (Nat.div_le_self k C) hk)
  have e2 : ((k % C : Nat) : Int) ≤ 9 := Int.ofNat_le.2 (Nat.le_trans (Nat.mod_le k C) hk)
  have e3 : (0 : Int) ≤ ((k / C : Nat) : Int) := Int.natCast_nonneg _
  have e4 : (0 : Int) ≤ ((k % C : Nat) : Int) := Int.natCast_nonneg _
  have hyv : y = ((k / C : Nat) : Int) + i := hy
  obtain ⟨L, hL⟩ : ∃ L : St → (PX → St → Res) → Res, L = ev ((env g (F + 4) n).cx Tryd.prog spec_l1Near.kl) spec_l1Near.lp1 := ⟨_, rfl⟩
  obtain ⟨q1, h1', b1, o1, k1⟩ := l1_step g (F + 4) n hn h2 h3 h4 hk (i, -1) ⟨hi.1, hi.2, (show (-1 : Int) ≤ -1 by decide), (show (-1 : Int) ≤ 1 by decide)⟩ y (((k % C : Nat) : Int) - 1) ((k % C : Nat) : Int) hy rfl (by omega) (kLoop L (F + 3) (spec_l1Near.K1 (env g (F + 4) n) K)) ho hb (by omega)
  have L1 := nearFrom_length R C k ([((i, -1) : Int × Int)].filter fun s => s.1 != s.2)
  have L1' : ([((i, -1) : Int × Int)].filter fun s => s.1 != s.2).length ≤ 1 := List.length_filter_le _ _
  obtain ⟨q2, h2', b2, o2, k2⟩ := l1_step g (F + 4) n hn h2 h3 h4 hk (i, 0) ⟨hi.1, hi.2, (show (-1 : Int) ≤ 0 by decide), (show (0 : Int) ≤ 1 by decide)⟩ y ((k % C : Nat) : Int) (((k % C : Nat) : Int) + 1) hy (by show _ = ((k % C : Nat) : Int) + 0; omega) rfl (kLoop L (F + 2) (spec_l1Near.K1 (env g (F + 4) n) K)) o1 (by have := k1.1; omega) (by rw [List.length_append]; omega)
  have L2 := nearFrom_length R C k ([((i, 0) : Int × Int)].filter fun s => s.1 != s.2)
  have L2' : ([((i, 0) : Int × Int)].filter fun s => s.1 != s.2).length ≤ 1 := List.length_filter_le _ _
  obtain ⟨q3, h3', b3, o3, k3⟩ := l1_step g (F + 4) n hn h2 h3 h4 hk (i, 1) ⟨hi.1, hi.2, (show (-1 : Int) ≤ 1 by decide), (show (1 : Int) ≤ 1 by decide)⟩ y (((k % C : Nat) : Int) + 1) (((k % C : Nat) : Int) + 2) hy rfl (by omega) (kLoop L (F + 1) (spec_l1Near.K1 (env g (F + 4) n) K)) o2 (by have := k1.1; have := k2.1; omega) (by rw [List.length_append, List.length_append]; omega)
  refine ⟨q3, h3', ?_, ?_, (k1.trans k2).trans k3⟩
  · have f1 : binP Tryd.prog .add 3 (.int .i64 ((k / C : Nat) : Int)) (.int .i64 1) = some (.int .i64 (((k / C : Nat) : Int) + 1)) := by rw [bin_add, wr (by omega)]
    have f2 : binP Tryd.prog .leq 3 (.int .i64 y) (.int .i64 (((k / C : Nat) : Int) + 1)) = some (.bool true) := by rw [bin_leq, decide_eq_true (by omega)]
    have f3 : binP Tryd.prog .sub 3 (.int .i64 ((k % C : Nat) : Int)) (.int .i64 1) = some (.int .i64 (((k % C : Nat) : Int) - 1)) := by rw [bin_sub, wr (by omega)]
    have f4 : binP Tryd.prog .add 3 (.int .i64 ((k % C : Nat) : Int)) (.int .i64 1) = some (.int .i64 (((k % C : Nat) : Int) + 1)) := by rw [bin_add, wr (by omega)]
    have f5 : binP Tryd.prog .leq 3 (.int .i64 (((k % C : Nat) : Int) + 2)) (.int .i64 (((k % C : Nat) : Int) + 1)) = some (.bool false) := by rw [bin_leq, decide_eq_false (by omega)]
    have f6 : binP Tryd.prog .add 3 (.int .i64 y) (.int .i64 1) = some (.int .i64 y') := by rw [bin_add, wr (by omega), hy']
    unfold spec_l1Near.body0
    refine bd f1 (bd f2 (cdT (bd f3 ?_)))
    rw [env_lf, loopK_succ, spec_l1Near.body1_eq, ← hL]
    rw [b1, kLoop_normal, loopK_succ, hL, spec_l1Near.body1_eq, ← hL, b2, kLoop_normal, loopK_succ, hL, spec_l1Near.body1_eq, ← hL, b3, kLoop_normal, loopK_succ, hL, spec_l1Near.body1_eq]
    unfold spec_l1Near.body1
    refine bd f4 (bd f5 (cdF ?_))
    rw [kLoop_exit, spec_l1Near.after1_se2_0_1_7_8_9_10_11_32]
    exact bd f6 rfl
  · have : rowSteps i = ([((i, -1) : Int × Int)].filter fun s => s.1 != s.2) ++ ([((i, 0) : Int × Int)].filter fun s => s.1 != s.2) ++ ([((i, 1) : Int × Int)].filter fun s => s.1 != s.2) := by
      unfold rowSteps
      rw [← List.filter_append, ← List.filter_append]; rfl
    rw [this, nearFrom_append, nearFrom_append, ← List.append_assoc, ← List.append_assoc]
    exact o3

theorem rowSteps_length (i : Int) : (rowSteps i).length ≤ 3 := List.length_filter_le _ _

theorem l1Near_calls (N : Nat) (hN : 2 ≤ N) (hlf : 20 < lf) {h : PHeap} {R C k : Nat} (h2 : R ≤ 4) (h3 : 1 ≤ C) (h4 : C ≤ 4) (hk : k ≤ 9) :
    ∃ q h', CL g lf N fn_spec_l1Near [.int .i64 (R : Int), .int .i64 (C : Int), .int .i64 (k : Int)] h = some (q, h') ∧ OwnSl h.length h' q (nearN R C k) ∧ Keep h.length h h' := by
  obtain ⟨n, rfl⟩ : ∃ n, N = n + 1 := ⟨N - 1, by omega⟩
  rw [spec_l1Near.call_eq]
  obtain ⟨F, rfl⟩ : ∃ F, lf = F + 4 := ⟨lf - 4, by omega⟩
  obtain ⟨q0, h0, e0, o0, k0⟩ := empty_lit (h := h)
  have e1 : ((k / C : Nat) : Int) ≤ 9 := Int.ofNat_le.2 (Nat.le_trans (Nat.div_le_self k C) hk)
  have e3 : (0 : Int) ≤ ((k / C : Nat) : Int) := Int.natCast_nonneg _
  obtain ⟨L, hL⟩ : ∃ L : St → (PX → St → Res) → Res, L = ev ((env g (F + 4) n).cx Tryd.prog spec_l1Near.kl) spec_l1Near.lp0 := ⟨_, rfl⟩
  obtain ⟨q1, h1', b1, o1, k1⟩ := l1_row g (F + 4) n (by omega) hlf h2 h3 h4 hk (-1) (by decide) (((k / C : Nat) : Int) - 1) ((k / C : Nat) : Int) rfl (by omega) (kLoop L (F + 3) (spec_l1Near.K0 (env g (F + 4) n) (kTop Tryd.prog Tryd.f68))) o0 k0.1 (by simp)
  have L1 := nearFrom_length R C k (rowSteps (-1))
  have L1' := rowSteps_length (-1)
  obtain ⟨q2, h2', b2, o2, k2⟩ := l1_row g (F + 4) n (by omega) hlf h2 h3 h4 hk 0 (by decide) ((k / C : Nat) : Int) (((k / C : Nat) : Int) + 1) (by show _ = ((k / C : Nat) : Int) + 0; omega) rfl (kLoop L (F + 2) (spec_l1Near.K0 (env g (F + 4) n) (kTop Tryd.prog Tryd.f68))) o1 (by have := k1.1; have := k0.1; omega) (by rw [List.length_append]; simp; omega)
  have L2 := nearFrom_length R C k (rowSteps 0)
  have L2' := rowSteps_length 0
  obtain ⟨q3, h3', b3, o3, k3⟩ := l1_row g (F + 4) n (by omega) hlf h2 h3 h4 hk 1 (by decide) (((k / C : Nat) : Int) + 1) (((k / C : Nat) : Int) + 2) rfl (by omega) (kLoop L (F + 1) (spec_l1Near.K0 (env g (F + 4) n) (kTop Tryd.prog Tryd.f68))) o2 (by have := k1.1; have := k0.1; have := k2.1; omega) (by rw [List.length_append, List.length_append]; simp; omega)
  refine ⟨q3, h3', ?_, ?_, ((k0.trans k1).trans k2).trans k3⟩
  · have f3 : binP Tryd.prog .sub 3 (.int .i64 ((k / C : Nat) : Int)) (.int .i64 1) = some (.int .i64 (((k / C : Nat) : Int) - 1)) := by rw [bin_sub, wr (by omega)]
    have f4 : binP Tryd.prog .add 3 (.int .i64 ((k / C : Nat) : Int)) (.int .i64 1) = some (.int .i64 (((k / C : Nat) : Int) + 1)) := by rw [bin_add, wr (by omega)]
    have f5 : binP Tryd.prog .leq 3 (.int .i64 (((k / C : Nat) : Int) + 2)) (.int .i64 (((k / C : Nat) : Int) + 1)) = some (.bool false) := by rw [bin_leq, decide_eq_false (by omega)]
    unfold spec_l1Near.main
    refine bd e0 (bd (f_quo k C h3 (by omega)) (bd (f_rem k C h3) (bd f3 ?_)))
    rw [env_lf, loopK_succ, spec_l1Near.body0_eq, ← hL]
    rw [b1, kLoop_normal, loopK_succ, hL, spec_l1Near.body0_eq, ← hL, b2, kLoop_normal, loopK_succ, hL, spec_l1Near.body0_eq, ← hL, b3, kLoop_normal, loopK_succ, hL, spec_l1Near.body0_eq]
    unfold spec_l1Near.body0
    refine bd f4 (bd f5 (cdF ?_))
    rw [kLoop_exit, spec_l1Near.after0_se0_0_1_7_8_9_10_24]
    exact bd o3.res rfl
  · unfold nearN
    rw [← rowSteps_all, nearFrom_append, nearFrom_append]
    simpa using o3

/-! ### hasInt -/
theorem has_loop {xs : List Int} {p : PV} {h : PHeap} (x : Int) (hp : IntSl .i64 h p xs) (hl : xs.length ≤ 2 ^ 36) : ∀ (m i fuel : Nat), i + m = xs.length → m < fuel →
    loopK (ev ((env g lf n).cx Tryd.prog laws_hasInt.kl) laws_hasInt.lp0) fuel (laws_hasInt.st0 p (.int .i64 x) (.int .i64 (i : Int)) h) (laws_hasInt.K0 (env g lf n) (kTop Tryd.prog Tryd.f27)) = some (.bool (decide (x ∈ xs.drop i)), h)
  | 0, i, fuel, him, hf => by
    obtain ⟨f, rfl⟩ : ∃ f, fuel = f + 1 := ⟨fuel - 1, by omega⟩
    rw [loopK_succ, laws_hasInt.body0_eq]
    have f1 : binP Tryd.prog .lss 3 (.int .i64 (i : Int)) (.int .i64 (xs.length : Int)) = some (.bool false) := by rw [bin_lss, decide_eq_false (by omega)]
    have hd : xs.drop i = [] := List.drop_eq_nil_of_le (by omega)
    unfold laws_hasInt.body0
    refine bd hp.len' (bd f1 (cdF ?_))
    rw [kLoop_exit, laws_hasInt.after0_se0_0_1_5_9, hd]
    exact bd res_bool rfl
  | m + 1, i, fuel, him, hf => by
    obtain ⟨f, rfl⟩ : ∃ f, fuel = f + 1 := ⟨fuel - 1, by omega⟩
    have hi : i < xs.length := by omega
    obtain ⟨a, ha, hla⟩ := hp.at' hi
    have ih := has_loop x hp hl m (i + 1) f (by omega) (by omega)
    rw [loopK_succ, laws_hasInt.body0_eq]
    have f1 : binP Tryd.prog .lss 3 (.int .i64 (i : Int)) (.int .i64 (xs.length : Int)) = some (.bool true) := by rw [bin_lss, decide_eq_true (by omega)]
    have f2 : binP Tryd.prog .eql 3 (.int .i64 xs[i]) (.int .i64 x) = some (.bool (xs[i] == x)) := bin_eql
    have f3 : binP Tryd.prog .add 3 (.int .i64 (i : Int)) (.int .i64 1) = some (.int .i64 ((i + 1 : Nat) : Int)) := by rw [bin_add, nx (by omega)]
    have hdx : xs.drop i = xs[i] :: xs.drop (i + 1) := List.drop_eq_getElem_cons hi
    unfold laws_hasInt.body0
    refine bd hp.len' (bd f1 (cdT (bd ha (bd hla (bd f2 ?_)))))
    by_cases he : xs[i] = x
    · rw [show (xs[i] == x) = true by simp [he]]
      refine cdT ?_
      rw [kLoop_ret, laws_hasInt.K0_ret, laws_hasInt.top_sr_4, hdx, he]
      exact bd res_bool (by simp)
    · rw [show (xs[i] == x) = false by simp [he]]
      refine cdF (bd f3 ?_)
      rw [kLoop_normal, ih, hdx]
      congr 3
      apply decide_eq_decide.2
      rw [List.mem_cons]
      exact ⟨.inr, fun h => h.elim (fun e => absurd e.symm he) id⟩

theorem hasInt_N (N : Nat) (hN : 1 ≤ N) {xs : List Int} {p : PV} {h : PHeap} (x : Int) (hp : IntSl .i64 h p xs) (hl : xs.length ≤ 2 ^ 36) (hf : xs.length < lf) :
    CL g lf N fn_laws_hasInt [p, .int .i64 x] h = some (.bool (decide (x ∈ xs)), h) := by
  obtain ⟨n, rfl⟩ : ∃ n, N = n + 1 := ⟨N - 1, by omega⟩
  rw [laws_hasInt.call_eq]
  have := has_loop g lf n x hp hl xs.length 0 lf (by omega) hf
  unfold laws_hasInt.main
  rw [List.drop_zero] at this
  exact this

/-! ### the exact law -/
theorem eqIntS_N {xs ys : List Int} {p q : PV} {h : PHeap} (N : Nat) (hN : 1 ≤ N) (hp : IntSl .i64 h p xs) (hq : IntSl .i64 h q ys) (hl : xs.length ≤ 2 ^ 36) (hf : xs.length < lf) :
    CL g lf N fn_laws_eqIntS [p, q] h = some (.bool (decide (xs = ys)), h) := by
  obtain ⟨n, rfl⟩ : ∃ n, N = n + 1 := ⟨N - 1, by omega⟩
  exact eqIntS_calls g lf n hp hq hl hf

end Go.Proofs.YtiflfnlpkhghpaaDoor
