/- The model's sets of cells: masks, sides, the cells with a stone, growing, and whether sides are joined. -/
import Derived.Test.YtiflfnlpkhghpaaDoorT2
namespace Go.Proofs.YtiflfnlpkhghpaaDoor
open Go Go.Ip G

def masksN (R C : Nat) : List Nat := (List.range (R * C)).map fun k => orAll 0 (nearN R C k)
def ints (M : List Nat) : List Int := M.map fun x : Nat => (x : Int)
theorem ints_length (M : List Nat) : (ints M).length = M.length := List.length_map ..
theorem ints_get {M : List Nat} {k : Nat} (hk : k < M.length) : (ints M)[k]'(by rw [ints_length]; exact hk) = ((M.getD k 0 : Nat) : Int) := by
  simp [ints, List.getD_eq_getElem?_getD, hk]

/-- A board, as numbers. -/
def BoardOf (R C : Nat) : Prop := 1 ≤ R ∧ R ≤ 4 ∧ 1 ≤ C ∧ C ≤ 4 ∧ R * C ≤ 9

theorem masksN_length (R C : Nat) : (masksN R C).length = R * C := by simp [masksN]
theorem masksN_lt {R C : Nat} (hb : BoardOf R C) : ∀ m ∈ masksN R C, m < 2 ^ 9 := by
  intro m hm
  obtain ⟨k, hk, rfl⟩ := List.mem_map.1 hm
  rw [List.mem_range] at hk
  obtain ⟨h1, h2, h3, h4, h9⟩ := hb
  exact orAll_lt _ _ (fun e he => by have := near_in h1 h2 h3 h4 h9 hk e he; omega) (by decide)

/-- An operation under a guard that holds nothing. -/
theorem gu {α : Type} {t : Bool} {β : Type} {x y : Option α} {f : α → Option β} {r : Option β} (hy : y.bind f = r) : ((wantV (.tup []) t).bind fun v => (bif v then x else y).bind f) = r := by
  simpa using hy

variable (g : Nat → PV) (lf n : Nat)

/-! ### masks -/
theorem mask_inner {L : List Int} {p : PV} {h : PHeap} (hp : IntSl .i64 h p L) (hL : ∀ e ∈ L, 0 ≤ e ∧ e < 9) (hl : L.length ≤ 10) (R C q X : PV) (K : PX → St → Res) : ∀ (m j fuel w : Nat), j + m = L.length → m < fuel → w < 2 ^ 9 →
    loopK (ev ((env g lf n).cx Tryd.prog spec_l2Masks.kl) spec_l2Masks.lp1) fuel (spec_l2Masks.st1 R C q X (.int .i64 (w : Int)) p (.int .i64 (j : Int)) h) (spec_l2Masks.K1 (env g lf n) K) =
      spec_l2Masks.K1 (env g lf n) K (.exit 2) (spec_l2Masks.se2_0_1_5_6_7_8_9_25 R C q X (.int .i64 (orAll w (L.drop j) : Int)) p (.int .i64 (L.length : Int)) (.bool false) h)
  | 0, j, fuel, w, hjm, hf, hw => by
    obtain ⟨f, rfl⟩ : ∃ f, fuel = f + 1 := ⟨fuel - 1, by omega⟩
    obtain rfl : j = L.length := by omega
    rw [loopK_succ, spec_l2Masks.body1_eq]
    have f1 : binP Tryd.prog .lss 3 (.int .i64 (L.length : Int)) (.int .i64 (L.length : Int)) = some (.bool false) := by rw [bin_lss, decide_eq_false (by omega)]
    unfold spec_l2Masks.body1
    refine bd hp.len' (bd f1 (cdF ?_))
    rw [kLoop_exit, List.drop_length, orAll]
  | m + 1, j, fuel, w, hjm, hf, hw => by
    obtain ⟨f, rfl⟩ : ∃ f, fuel = f + 1 := ⟨fuel - 1, by omega⟩
    have hj : j < L.length := by omega
    obtain ⟨a, ha, hla⟩ := hp.at' hj
    have he := hL _ (List.getElem_mem hj)
    obtain ⟨E, hE⟩ := Int.eq_ofNat_of_zero_le he.1
    rw [hE] at hla
    have hE9 : E < 9 := by omega
    have ih := mask_inner hp hL hl R C q X K m (j + 1) f (w ||| (1 <<< E)) (by omega) (by omega) (Nat.or_lt_two_pow hw (shl_lt hE9))
    have f1 : binP Tryd.prog .lss 3 (.int .i64 (j : Int)) (.int .i64 (L.length : Int)) = some (.bool true) := by rw [bin_lss, decide_eq_true (by omega)]
    have f2 := f_shl E (by omega)
    have f3 := f_or (a := w) (b := 1 <<< E) (by omega) (by have := shl_lt hE9; omega)
    have f4 : binP Tryd.prog .add 3 (.int .i64 (j : Int)) (.int .i64 1) = some (.int .i64 ((j + 1 : Nat) : Int)) := by rw [bin_add, nx (by omega)]
    have hdx : L.drop j = L[j] :: L.drop (j + 1) := List.drop_eq_getElem_cons hj
    rw [loopK_succ, spec_l2Masks.body1_eq, hdx, orAll, hE, show ((E : Int).toNat) = E from rfl]
    unfold spec_l2Masks.body1
    exact bd hp.len' (bd f1 (cdT (bd ha (bd hla (bd f2 (bd f3 (bd f4 ih)))))))

theorem mask_loop {R C : Nat} (hB : BoardOf R C) (hn : 2 ≤ n) (hlf : 20 < lf) : ∀ (m i fuel : Nat) (q : PV) (ys : List Int) (h : PHeap) (b : Nat), i + m = R * C → m < fuel → ys = ints ((masksN R C).take i) → OwnSl b h q ys → b ≤ h.length →
    ∃ q' h', loopK (ev ((env g lf n).cx Tryd.prog spec_l2Masks.kl) spec_l2Masks.lp0) fuel (spec_l2Masks.st0 (.int .i64 (R : Int)) (.int .i64 (C : Int)) q (.int .i64 (i : Int)) h) (spec_l2Masks.K0 (env g lf n) (kTop Tryd.prog Tryd.f51)) = some (q', h') ∧
      OwnSl b h' q' (ints (masksN R C)) ∧ Keep b h h'
  | 0, i, fuel, q, ys, h, b, him, hf, hy, ho, hb => by
    obtain ⟨f, rfl⟩ : ∃ f, fuel = f + 1 := ⟨fuel - 1, by omega⟩
    obtain rfl : i = R * C := by omega
    obtain ⟨h1, h2, h3, h4, h9⟩ := hB
    rw [← masksN_length R C, List.take_length] at hy
    refine ⟨q, h, ?_, by rw [← hy]; exact ho, Keep.refl _ _⟩
    rw [loopK_succ, spec_l2Masks.body0_eq]
    have f1 : binP Tryd.prog .lss 3 (.int .i64 ((R * C : Nat) : Int)) (.int .i64 ((R * C : Nat) : Int)) = some (.bool false) := by rw [bin_lss, decide_eq_false (by omega)]
    unfold spec_l2Masks.body0
    refine bd (f_mul R C (by omega)) (bd f1 (cdF ?_))
    rw [kLoop_exit, spec_l2Masks.after0_se0_0_1_5_6_15]
    exact bd ho.res rfl
  | m + 1, i, fuel, q, ys, h, b, him, hf, hy, ho, hb => by
    obtain ⟨f, rfl⟩ : ∃ f, fuel = f + 1 := ⟨fuel - 1, by omega⟩
    obtain ⟨h1, h2, h3, h4, h9⟩ := id hB
    have f1 : binP Tryd.prog .lss 3 (.int .i64 (i : Int)) (.int .i64 ((R * C : Nat) : Int)) = some (.bool true) := by rw [bin_lss, decide_eq_true (by omega)]
    obtain ⟨p, hn1, eN, oN, kN⟩ := l1Near_calls g lf n (by omega) hlf (h := h) h2 h3 h4 (show i ≤ 9 by omega)
    have hl6 := nearN_length R C i
    have hin : ∀ e ∈ nearN R C i, 0 ≤ e ∧ e < 9 := fun e he => by have := near_in h1 h2 h3 h4 h9 (show i < R * C by omega) e he; omega
    have inner := mask_inner g lf n oN.int hin (by omega) (.int .i64 (R : Int)) (.int .i64 (C : Int)) q (.int .i64 (i : Int)) (kLoop (ev ((env g lf n).cx Tryd.prog spec_l2Masks.kl) spec_l2Masks.lp0) f (spec_l2Masks.K0 (env g lf n) (kTop Tryd.prog Tryd.f51))) (nearN R C i).length 0 lf 0 (by omega) (by omega) (by decide)
    rw [List.drop_zero] at inner
    have ho1 := ho.keep kN
    have hlen : ys.length ≤ 9 := by rw [hy, ints_length, List.length_take]; omega
    obtain ⟨v, q2, h2', hb2, ha2, ho2, hk2⟩ := ho1.append (by have := kN.1; omega) ((orAll 0 (nearN R C i) : Nat) : Int) (by omega)
    have f4 : binP Tryd.prog .add 3 (.int .i64 (i : Int)) (.int .i64 1) = some (.int .i64 ((i + 1 : Nat) : Int)) := by rw [bin_add, nx (by omega)]
    have hy2 : ys ++ [((orAll 0 (nearN R C i) : Nat) : Int)] = ints ((masksN R C).take (i + 1)) := by
      have hi : i < (masksN R C).length := by rw [masksN_length]; omega
      rw [hy, List.take_add_one, List.getElem?_eq_getElem hi]
      simp [ints, masksN]
    obtain ⟨q', h', ih, o', k'⟩ := mask_loop hB hn hlf m (i + 1) f q2 _ h2' b (by omega) (by omega) hy2 ho2 (by have := hk2.1; have := kN.1; omega)
    refine ⟨q', h', ?_, o', ((kN.mono hb).trans hk2).trans k'⟩
    rw [loopK_succ, spec_l2Masks.body0_eq]
    unfold spec_l2Masks.body0
    refine bd (f_mul R C (by omega)) (bd f1 (cdT (bd eN (inner.trans ?_))))
    rw [spec_l2Masks.after1_se2_0_1_5_6_7_8_9_25]
    exact bd hb2 (bd ha2 (bd f4 ih))

theorem l2Masks_calls {R C : Nat} (hB : BoardOf R C) (N : Nat) (hN : 3 ≤ N) (hlf : 20 < lf) {h : PHeap} :
    ∃ q h', CL g lf N fn_spec_l2Masks [.int .i64 (R : Int), .int .i64 (C : Int)] h = some (q, h') ∧ OwnSl h.length h' q (ints (masksN R C)) ∧ Keep h.length h h' := by
  obtain ⟨n, rfl⟩ : ∃ n, N = n + 1 := ⟨N - 1, by omega⟩
  rw [spec_l2Masks.call_eq]
  obtain ⟨q0, h0, e0, o0, k0⟩ := empty_lit (h := h)
  obtain ⟨q', h', e, o, k⟩ := mask_loop g lf n hB (by omega) hlf (R * C) 0 lf q0 [] h0 h.length (by omega) (by have := hB.2.2.2.2; omega) (by simp [ints]) o0 k0.1
  refine ⟨q', h', ?_, o, k0.trans k⟩
  unfold spec_l2Masks.main
  exact bd e0 e

/-! ### sides -/
def atSide (C P i : Nat) : Nat := if P = 2 then i % C else i / C
def endSide (R C P : Nat) : Nat := if P = 2 then C - 1 else R - 1
def sideFrom (R C P : Nat) (last : Bool) : Nat → Nat → Nat → Nat
  | 0, _, w => w
  | m + 1, i, w => sideFrom R C P last m (i + 1) (if (bif last then decide (atSide C P i = endSide R C P) else decide (atSide C P i = 0)) = true then w ||| (1 <<< i) else w)
def sideN (R C P : Nat) (last : Bool) : Nat := sideFrom R C P last (R * C) 0 0

theorem side_step {R C P i : Nat} (hB : BoardOf R C) (hP : P = 1 ∨ P = 2) (last : Bool) (hi : i < R * C) (w : Nat) (hw : w < 2 ^ 9) (K : PX → St → Res) (h : PHeap) :
    spec_l2Side.body0 (env g lf n) K (.int .i64 (R : Int)) (.int .i64 (C : Int)) (.int .i64 (P : Int)) (.bool last) (.int .i64 (w : Int)) (.int .i64 (i : Int)) h =
      K .normal (spec_l2Side.st0 (.int .i64 (R : Int)) (.int .i64 (C : Int)) (.int .i64 (P : Int)) (.bool last) (.int .i64 ((if (bif last then decide (atSide C P i = endSide R C P) else decide (atSide C P i = 0)) = true then w ||| (1 <<< i) else w : Nat) : Int)) (.int .i64 ((i + 1 : Nat) : Int)) h) := by
  obtain ⟨h1, h2, h3, h4, h9⟩ := hB
  have f1 : binP Tryd.prog .lss 3 (.int .i64 (i : Int)) (.int .i64 ((R * C : Nat) : Int)) = some (.bool true) := by rw [bin_lss, decide_eq_true (by omega)]
  have fq := f_quo i C h3 (by omega)
  have fr := f_rem i C h3
  have fs := f_shl i (by omega)
  have fo := f_or (a := w) (b := 1 <<< i) (by omega) (by have := shl_lt (show i < 9 by omega); omega)
  have fn' : binP Tryd.prog .add 3 (.int .i64 (i : Int)) (.int .i64 1) = some (.int .i64 ((i + 1 : Nat) : Int)) := by rw [bin_add, nx (by omega)]
  have fR : binP Tryd.prog .sub 3 (.int .i64 (R : Int)) (.int .i64 1) = some (.int .i64 ((R - 1 : Nat) : Int)) := by rw [bin_sub, wr (by omega), show (R : Int) - 1 = ((R - 1 : Nat) : Int) by omega]
  have fC : binP Tryd.prog .sub 3 (.int .i64 (C : Int)) (.int .i64 1) = some (.int .i64 ((C - 1 : Nat) : Int)) := by rw [bin_sub, wr (by omega), show (C : Int) - 1 = ((C - 1 : Nat) : Int) by omega]
  have eqz : ∀ x y : Nat, binP Tryd.prog .eql 3 (.int .i64 (x : Int)) (.int .i64 (y : Int)) = some (.bool (decide (x = y))) := fun x y => by rw [bin_eql, natEq]
  have eq0 : ∀ x : Nat, binP Tryd.prog .eql 3 (.int .i64 (x : Int)) (.int .i64 0) = some (.bool (decide (x = 0))) := fun x => eqz x 0
  unfold spec_l2Side.body0
  rcases hP with rfl | rfl
  · have fP : binP Tryd.prog .eql 3 (.int .i64 ((1 : Nat) : Int)) (.int .i64 2) = some (.bool false) := by rw [bin_eql]; rfl
    have ea : atSide C 1 i = i / C := rfl
    have ee : endSide R C 1 = R - 1 := rfl
    rw [ea, ee]
    refine bd (f_mul R C (by omega)) (bd f1 (cdT (bd fq (bd fR (bd fP (cdF ?_))))))
    cases last with
    | true =>
      simp only [cond_true]
      by_cases e : i / C = R - 1
      · have g1 := eqz (i / C) (R - 1)
        rw [decide_eq_true e] at g1
        rw [if_pos (decide_eq_true e)]
        refine gd rfl (bd rfl (gd rfl (bd rfl (gd rfl (bd (congrArg (pv _) g1) (bd (v := PV.bool true) rfl ?_))))))
        refine gn rfl (bd rfl (gn rfl (bd rfl (gn rfl (bd rfl (gu (bd rfl (gu (bd rfl (gn rfl (bd rfl (bd (v := PV.bool true) rfl (cdT ?_)))))))))))))
        exact bd fs (bd fo (bd fn' rfl))
      · have g1 := eqz (i / C) (R - 1)
        rw [decide_eq_false e] at g1
        rw [if_neg (by simpa using e)]
        refine gd rfl (bd rfl (gd rfl (bd rfl (gd rfl (bd (congrArg (pv _) g1) (bd (v := PV.bool false) rfl ?_))))))
        refine gd rfl (bd rfl (gd rfl (bd (v := (PV.bool false, h)) rfl (gd rfl (bd rfl (gn rfl (bd rfl (gn rfl (bd rfl (gd rfl (bd (v := (PV.bool false, h)) rfl (bd (v := PV.bool false) rfl (cdF ?_)))))))))))))
        exact bd fn' rfl
    | false =>
      simp only [cond_false]
      have g1 := eq0 (i / C)
      refine gn rfl (bd rfl (gn rfl (bd rfl (gn rfl (bd rfl (bd (v := PV.bool false) rfl ?_))))))
      refine gd rfl (bd rfl (gd rfl (bd (v := (PV.bool true, h)) rfl (gd rfl (bd rfl (gd rfl (bd rfl (gd rfl (bd (congrArg (pv _) g1) (gd rfl (bd (v := (PV.bool (decide (i / C = 0)), h)) rfl (bd (v := PV.bool (decide (i / C = 0))) rfl ?_))))))))))))
      by_cases e : i / C = 0
      · rw [decide_eq_true e, if_pos rfl]
        exact cdT (bd fs (bd fo (bd fn' rfl)))
      · rw [decide_eq_false e, if_neg (by decide)]
        exact cdF (bd fn' rfl)
  · have fP : binP Tryd.prog .eql 3 (.int .i64 ((2 : Nat) : Int)) (.int .i64 2) = some (.bool true) := by rw [bin_eql]; rfl
    have ea : atSide C 2 i = i % C := rfl
    have ee : endSide R C 2 = C - 1 := rfl
    rw [ea, ee]
    refine bd (f_mul R C (by omega)) (bd f1 (cdT (bd fq (bd fR (bd fP (cdT (bd fr (bd fC ?_))))))))
    cases last with
    | true =>
      simp only [cond_true]
      by_cases e : i % C = C - 1
      · have g1 := eqz (i % C) (C - 1)
        rw [decide_eq_true e] at g1
        rw [if_pos (decide_eq_true e)]
        refine gd rfl (bd rfl (gd rfl (bd rfl (gd rfl (bd (congrArg (pv _) g1) (bd (v := PV.bool true) rfl ?_))))))
        refine gn rfl (bd rfl (gn rfl (bd rfl (gn rfl (bd rfl (gu (bd rfl (gu (bd rfl (gn rfl (bd rfl (bd (v := PV.bool true) rfl (cdT ?_)))))))))))))
        exact bd fs (bd fo (bd fn' rfl))
      · have g1 := eqz (i % C) (C - 1)
        rw [decide_eq_false e] at g1
        rw [if_neg (by simpa using e)]
        refine gd rfl (bd rfl (gd rfl (bd rfl (gd rfl (bd (congrArg (pv _) g1) (bd (v := PV.bool false) rfl ?_))))))
        refine gd rfl (bd rfl (gd rfl (bd (v := (PV.bool false, h)) rfl (gd rfl (bd rfl (gn rfl (bd rfl (gn rfl (bd rfl (gd rfl (bd (v := (PV.bool false, h)) rfl (bd (v := PV.bool false) rfl (cdF ?_)))))))))))))
        exact bd fn' rfl
    | false =>
      simp only [cond_false]
      have g1 := eq0 (i % C)
      refine gn rfl (bd rfl (gn rfl (bd rfl (gn rfl (bd rfl (bd (v := PV.bool false) rfl ?_))))))
      refine gd rfl (bd rfl (gd rfl (bd (v := (PV.bool true, h)) rfl (gd rfl (bd rfl (gd rfl (bd rfl (gd rfl (bd (congrArg (pv _) g1) (gd rfl (bd (v := (PV.bool (decide (i % C = 0)), h)) rfl (bd (v := PV.bool (decide (i % C = 0))) rfl ?_))))))))))))
      by_cases e : i % C = 0
      · rw [decide_eq_true e, if_pos rfl]
        exact cdT (bd fs (bd fo (bd fn' rfl)))
      · rw [decide_eq_false e, if_neg (by decide)]
        exact cdF (bd fn' rfl)

theorem sideFrom_lt {R C P : Nat} {last : Bool} (h9 : R * C ≤ 9) : ∀ (m i w : Nat), i + m = R * C → w < 2 ^ 9 → sideFrom R C P last m i w < 2 ^ 9
  | 0, _, _, _, hw => hw
  | m + 1, i, w, him, hw => by
    rw [sideFrom]
    refine sideFrom_lt h9 m (i + 1) _ (by omega) ?_
    split
    · exact Nat.or_lt_two_pow hw (shl_lt (by omega))
    · exact hw
theorem sideN_lt {R C P : Nat} {last : Bool} (hB : BoardOf R C) : sideN R C P last < 2 ^ 9 := sideFrom_lt hB.2.2.2.2 _ _ _ (by omega) (by decide)

theorem side_loop {R C P : Nat} (hB : BoardOf R C) (hP : P = 1 ∨ P = 2) (last : Bool) (h : PHeap) : ∀ (m i fuel w : Nat), i + m = R * C → m < fuel → w < 2 ^ 9 →
    loopK (ev ((env g lf n).cx Tryd.prog spec_l2Side.kl) spec_l2Side.lp0) fuel (spec_l2Side.st0 (.int .i64 (R : Int)) (.int .i64 (C : Int)) (.int .i64 (P : Int)) (.bool last) (.int .i64 (w : Int)) (.int .i64 (i : Int)) h) (spec_l2Side.K0 (env g lf n) (kTop Tryd.prog Tryd.f67)) = some (.int .i64 (sideFrom R C P last m i w : Int), h)
  | 0, i, fuel, w, him, hf, hw => by
    obtain ⟨f, rfl⟩ : ∃ f, fuel = f + 1 := ⟨fuel - 1, by omega⟩
    obtain ⟨h1, h2, h3, h4, h9⟩ := hB
    rw [loopK_succ, spec_l2Side.body0_eq]
    have f1 : binP Tryd.prog .lss 3 (.int .i64 (i : Int)) (.int .i64 ((R * C : Nat) : Int)) = some (.bool false) := by rw [bin_lss, decide_eq_false (by omega)]
    unfold spec_l2Side.body0
    refine bd (f_mul R C (by omega)) (bd f1 (cdF ?_))
    rw [kLoop_exit, spec_l2Side.after0_se0_0_1_2_3_9_10_17]
    exact bd res_int rfl
  | m + 1, i, fuel, w, him, hf, hw => by
    obtain ⟨f, rfl⟩ : ∃ f, fuel = f + 1 := ⟨fuel - 1, by omega⟩
    rw [loopK_succ, spec_l2Side.body0_eq, side_step g lf n hB hP last (by omega) w hw, kLoop_normal, sideFrom]
    refine side_loop hB hP last h m (i + 1) f _ (by omega) (by omega) ?_
    split
    · exact Nat.or_lt_two_pow hw (shl_lt (by have := hB.2.2.2.2; omega))
    · exact hw

theorem l2Side_calls {R C P : Nat} (hB : BoardOf R C) (hP : P = 1 ∨ P = 2) (last : Bool) (N : Nat) (hN : 1 ≤ N) (hlf : 20 < lf) (h : PHeap) :
    CL g lf N fn_spec_l2Side [.int .i64 (R : Int), .int .i64 (C : Int), .int .i64 (P : Int), .bool last] h = some (.int .i64 (sideN R C P last : Int), h) := by
  obtain ⟨n, rfl⟩ : ∃ n, N = n + 1 := ⟨N - 1, by omega⟩
  rw [spec_l2Side.call_eq]
  unfold spec_l2Side.main
  exact side_loop g lf n hB hP last h (R * C) 0 lf 0 (by omega) (by have := hB.2.2.2.2; omega) (by decide)

/-! ### the cells with a stone -/
def setFrom (what : Int) : Nat → List Int → Nat → Nat
  | _, [], w => w
  | k, x :: xs, w => setFrom what (k + 1) xs (if x = what then w ||| (1 <<< k) else w)
def setL (xs : List Int) (what : Int) : Nat := setFrom what 0 xs 0

theorem setFrom_lt (what : Int) {n : Nat} : ∀ (xs : List Int) (k w : Nat), k + xs.length ≤ n → w < 2 ^ n → setFrom what k xs w < 2 ^ n
  | [], _, _, _, hw => hw
  | x :: xs, k, w, hk, hw => by
    rw [setFrom]
    rw [List.length_cons] at hk
    refine setFrom_lt what xs (k + 1) _ (by omega) ?_
    split
    · refine Nat.or_lt_two_pow hw ?_
      rw [Nat.one_shiftLeft]; exact Nat.pow_lt_pow_right (by decide) (by omega)
    · exact hw
theorem setL_lt (what : Int) {xs : List Int} {n : Nat} (h : xs.length ≤ n) : setL xs what < 2 ^ n := setFrom_lt what xs 0 0 (by omega) (Nat.two_pow_pos n)

theorem setFrom_bit (what : Int) (j : Nat) : ∀ (xs : List Int) (k w : Nat), (setFrom what k xs w).testBit j = true ↔ w.testBit j = true ∨ ∃ i, j = k + i ∧ xs[i]? = some what
  | [], k, w => by simp [setFrom]
  | x :: xs, k, w => by
    rw [setFrom, setFrom_bit what j xs (k + 1)]
    have hs : (∃ i, j = k + i ∧ (x :: xs)[i]? = some what) ↔ (j = k ∧ x = what) ∨ ∃ i, j = k + 1 + i ∧ xs[i]? = some what := by
      constructor
      · rintro ⟨i, h1, h2⟩
        cases i with
        | zero => exact .inl ⟨by omega, by simpa using h2⟩
        | succ i => exact .inr ⟨i, by omega, by simpa using h2⟩
      · rintro (⟨h1, h2⟩ | ⟨i, h1, h2⟩)
        · exact ⟨0, by omega, by simp [h2]⟩
        · exact ⟨i + 1, by omega, by simpa using h2⟩
    rw [hs]
    by_cases e : x = what
    · rw [if_pos e, Nat.testBit_or, one_bit, Bool.or_eq_true, decide_eq_true_iff]
      simp [e, or_assoc]
    · rw [if_neg e]; simp [e]

theorem setL_bit {xs : List Int} {what : Int} {j : Nat} : (setL xs what).testBit j = true ↔ xs[j]? = some what := by
  unfold setL
  rw [setFrom_bit]
  constructor
  · rintro (h | ⟨i, h1, h2⟩)
    · rw [Nat.zero_testBit] at h; cases h
    · rw [Nat.zero_add] at h1; subst h1; exact h2
  · intro h; exact .inr ⟨j, by omega, h⟩

theorem set_loop {xs : List Int} {p : PV} {h : PHeap} (what : Int) (hp : IntSl .i64 h p xs) (hl : xs.length ≤ 20) : ∀ (m i fuel w : Nat), i + m = xs.length → m < fuel → w < 2 ^ 30 →
    loopK (ev ((env g lf n).cx Tryd.prog spec_l2Set.kl) spec_l2Set.lp0) fuel (spec_l2Set.st0 p (.int .i64 what) (.int .i64 (w : Int)) (.int .i64 (i : Int)) h) (spec_l2Set.K0 (env g lf n) (kTop Tryd.prog Tryd.f52)) = some (.int .i64 (setFrom what i (xs.drop i) w : Int), h)
  | 0, i, fuel, w, him, hf, hw => by
    obtain ⟨f, rfl⟩ : ∃ f, fuel = f + 1 := ⟨fuel - 1, by omega⟩
    rw [loopK_succ, spec_l2Set.body0_eq]
    have f1 : binP Tryd.prog .lss 3 (.int .i64 (i : Int)) (.int .i64 (xs.length : Int)) = some (.bool false) := by rw [bin_lss, decide_eq_false (by omega)]
    unfold spec_l2Set.body0
    refine bd hp.len' (bd f1 (cdF ?_))
    rw [kLoop_exit, spec_l2Set.after0_se0_0_1_5_6_10, List.drop_eq_nil_of_le (by omega), setFrom]
    exact bd res_int rfl
  | m + 1, i, fuel, w, him, hf, hw => by
    obtain ⟨f, rfl⟩ : ∃ f, fuel = f + 1 := ⟨fuel - 1, by omega⟩
    have hi : i < xs.length := by omega
    obtain ⟨a, ha, hla⟩ := hp.at' hi
    have hdx : xs.drop i = xs[i] :: xs.drop (i + 1) := List.drop_eq_getElem_cons hi
    have f1 : binP Tryd.prog .lss 3 (.int .i64 (i : Int)) (.int .i64 (xs.length : Int)) = some (.bool true) := by rw [bin_lss, decide_eq_true (by omega)]
    have f2 : binP Tryd.prog .eql 3 (.int .i64 xs[i]) (.int .i64 what) = some (.bool (decide (xs[i] = what))) := by rw [bin_eql]; rfl
    have f4 : binP Tryd.prog .add 3 (.int .i64 (i : Int)) (.int .i64 1) = some (.int .i64 ((i + 1 : Nat) : Int)) := by rw [bin_add, nx (by omega)]
    have h30 : 1 <<< i < 2 ^ 30 := by rw [Nat.one_shiftLeft]; exact Nat.pow_lt_pow_right (by decide) (by omega)
    rw [loopK_succ, spec_l2Set.body0_eq, hdx, setFrom]
    unfold spec_l2Set.body0
    refine bd hp.len' (bd f1 (cdT (bd ha (bd hla (bd f2 ?_)))))
    by_cases e : xs[i] = what
    · rw [decide_eq_true e, if_pos e]
      refine cdT (bd (f_shl i (by omega)) (bd (f_or (a := w) (b := 1 <<< i) (by omega) (by omega)) (bd f4 ?_)))
      rw [kLoop_normal]
      exact set_loop what hp hl m (i + 1) f _ (by omega) (by omega) (Nat.or_lt_two_pow hw h30)
    · rw [decide_eq_false e, if_neg e]
      refine cdF (bd f4 ?_)
      rw [kLoop_normal]
      exact set_loop what hp hl m (i + 1) f _ (by omega) (by omega) hw

theorem l2Set_calls {xs : List Int} {p : PV} {h : PHeap} (what : Int) (hp : IntSl .i64 h p xs) (hl : xs.length ≤ 20) (N : Nat) (hN : 1 ≤ N) (hlf : 20 < lf) :
    CL g lf N fn_spec_l2Set [p, .int .i64 what] h = some (.int .i64 (setL xs what : Int), h) := by
  obtain ⟨n, rfl⟩ : ∃ n, N = n + 1 := ⟨N - 1, by omega⟩
  rw [spec_l2Set.call_eq]
  unfold spec_l2Set.main
  have := set_loop g lf n what hp hl xs.length 0 lf 0 (by omega) (by omega) (by decide)
  rw [List.drop_zero] at this
  exact this

/-! ### growing -/
theorem bitq (x k : Nat) (hk : k ≤ 20) : binP Tryd.prog .shr 3 (.int .i64 (x : Int)) (.int .i64 (k : Int)) = some (.int .i64 ((x >>> k : Nat) : Int)) ∧ binP Tryd.prog .rem 3 (.int .i64 ((x >>> k : Nat) : Int)) (.int .i64 2) = some (.int .i64 ((x >>> k % 2 : Nat) : Int)) ∧
    binP Tryd.prog .eql 3 (.int .i64 ((x >>> k % 2 : Nat) : Int)) (.int .i64 1) = some (.bool (decide (x >>> k % 2 = 1))) :=
  ⟨f_shr x k (by omega), f_rem (x >>> k) 2 (by decide), by rw [bin_eql]; exact congrArg (fun z => some (PV.bool z)) (natEq _ 1)⟩

theorem stepFrom_lt {set now : Nat} (hs : set < 2 ^ 9) : ∀ (ms : List Nat) (k nx : Nat), nx < 2 ^ 9 → stepFrom set now k ms nx < 2 ^ 9
  | [], _, _, h => h
  | m :: ms, k, nx, h => by
    rw [stepFrom]
    refine stepFrom_lt hs ms (k + 1) _ ?_
    split
    · exact Nat.or_lt_two_pow h (Nat.and_lt_two_pow m hs)
    · exact h

theorem grow_inner {M : List Nat} {p : PV} {h : PHeap} (hp : IntSl .i64 h p (ints M)) (hM : ∀ m ∈ M, m < 2 ^ 9) (hl : M.length ≤ 9) {set now : Nat} (hs : set < 2 ^ 9) (K : PX → St → Res) : ∀ (m k fuel nx : Nat), k + m = M.length → m < fuel → nx < 2 ^ 9 →
    loopK (ev ((env g lf n).cx Tryd.prog spec_l2Grow.kl) spec_l2Grow.lp1) fuel (spec_l2Grow.st1 p (.int .i64 (set : Int)) (.int .i64 (now : Int)) (.int .i64 (nx : Int)) (.int .i64 (k : Int)) h) (spec_l2Grow.K1 (env g lf n) K) =
      K .normal (spec_l2Grow.st0 p (.int .i64 (set : Int)) (.int .i64 (stepFrom set now k (M.drop k) nx : Int)) (.bool (!decide (stepFrom set now k (M.drop k) nx = now))) h)
  | 0, k, fuel, nx', hkm, hf, hnx => by
    obtain ⟨f, rfl⟩ : ∃ f, fuel = f + 1 := ⟨fuel - 1, by omega⟩
    rw [loopK_succ, spec_l2Grow.body1_eq]
    have f1 : binP Tryd.prog .lss 3 (.int .i64 (k : Int)) (.int .i64 ((ints M).length : Int)) = some (.bool false) := by rw [bin_lss, ints_length, decide_eq_false (by omega)]
    have f2 : binP Tryd.prog .neq 3 (.int .i64 (nx' : Int)) (.int .i64 (now : Int)) = some (.bool (!decide (nx' = now))) := by
      rw [bin_neq, bne, natEq]
    unfold spec_l2Grow.body1
    refine bd hp.len' (bd f1 (cdF ?_))
    rw [kLoop_exit, spec_l2Grow.after1_se2_0_1_7_9_10_19, List.drop_eq_nil_of_le (by omega), stepFrom]
    exact bd f2 rfl
  | m + 1, k, fuel, nx', hkm, hf, hnx => by
    obtain ⟨f, rfl⟩ : ∃ f, fuel = f + 1 := ⟨fuel - 1, by omega⟩
    have hk : k < M.length := by omega
    obtain ⟨a, ha, hla⟩ := hp.at' (show k < (ints M).length by rw [ints_length]; exact hk)
    rw [ints_get hk] at hla
    have hmk : M.getD k 0 < 2 ^ 9 := by
      rw [List.getD_eq_getElem?_getD, List.getElem?_eq_getElem hk]; exact hM _ (List.getElem_mem hk)
    have hdx : M.drop k = M.getD k 0 :: M.drop (k + 1) := by
      rw [List.getD_eq_getElem?_getD, List.getElem?_eq_getElem hk]; exact List.drop_eq_getElem_cons hk
    have f1 : binP Tryd.prog .lss 3 (.int .i64 (k : Int)) (.int .i64 ((ints M).length : Int)) = some (.bool true) := by rw [bin_lss, ints_length, decide_eq_true (by omega)]
    obtain ⟨b1, b2, b3⟩ := bitq now k (by omega)
    have f4 : binP Tryd.prog .add 3 (.int .i64 (k : Int)) (.int .i64 1) = some (.int .i64 ((k + 1 : Nat) : Int)) := by rw [bin_add, nx (by omega)]
    rw [loopK_succ, spec_l2Grow.body1_eq, hdx, stepFrom]
    unfold spec_l2Grow.body1
    refine bd hp.len' (bd f1 (cdT (bd b1 (bd b2 (bd b3 ?_)))))
    by_cases e : now >>> k % 2 = 1
    · rw [decide_eq_true e, if_pos e]
      have ha2 := f_and (a := M.getD k 0) (b := set) (by omega) (by omega)
      have hlt := Nat.and_lt_two_pow (M.getD k 0) hs
      have ho2 := f_or (a := nx') (b := M.getD k 0 &&& set) (by omega) (by omega)
      refine cdT (bd ha (bd hla (bd ha2 (bd ho2 (bd f4 ?_)))))
      rw [kLoop_normal]
      exact grow_inner hp hM hl hs K m (k + 1) f _ (by omega) (by omega) (Nat.or_lt_two_pow hnx hlt)
    · rw [decide_eq_false e, if_neg e]
      refine cdF (bd f4 ?_)
      rw [kLoop_normal]
      exact grow_inner hp hM hl hs K m (k + 1) f _ (by omega) (by omega) hnx

theorem grow_loop {M : List Nat} {p : PV} {h : PHeap} (hp : IntSl .i64 h p (ints M)) (hM : ∀ m ∈ M, m < 2 ^ 9) (hl : M.length ≤ 9) {set : Nat} (hs : set < 2 ^ 9) (hlf : 20 < lf) : ∀ (f fuel now : Nat), (∀ j, now.testBit j = true → set.testBit j = true) → set < now + f → f + 1 < fuel →
    loopK (ev ((env g lf n).cx Tryd.prog spec_l2Grow.kl) spec_l2Grow.lp0) fuel (spec_l2Grow.st0 p (.int .i64 (set : Int)) (.int .i64 (now : Int)) (.bool true) h) (spec_l2Grow.K0 (env g lf n) (kTop Tryd.prog Tryd.f62)) = some (.int .i64 (growF M set f now : Int), h)
  | 0, fuel, now, hsub, hf, hfu => by have := sub_le hsub; omega
  | f + 1, fuel, now, hsub, hf, hfu => by
    obtain ⟨F, rfl⟩ : ∃ F, fuel = F + 1 := ⟨fuel - 1, by omega⟩
    have hnow : now < 2 ^ 9 := Nat.lt_of_le_of_lt (sub_le hsub) hs
    have inner := grow_inner g lf n hp hM hl (set := set) (now := now) hs (kLoop (ev ((env g lf n).cx Tryd.prog spec_l2Grow.kl) spec_l2Grow.lp0) F (spec_l2Grow.K0 (env g lf n) (kTop Tryd.prog Tryd.f62))) M.length 0 lf now (by omega) (by omega) hnow
    rw [List.drop_zero] at inner
    rw [loopK_succ, spec_l2Grow.body0_eq]
    unfold spec_l2Grow.body0
    refine cdT (inner.trans ?_)
    rw [kLoop_normal, growF]
    by_cases e : stepFrom set now 0 M now = now
    · rw [if_pos e, e, decide_eq_true rfl, Bool.not_true]
      obtain ⟨F', rfl⟩ : ∃ F', F = F' + 1 := ⟨F - 1, by omega⟩
      rw [loopK_succ, spec_l2Grow.body0_eq]
      unfold spec_l2Grow.body0
      refine cdF ?_
      rw [kLoop_exit, spec_l2Grow.after0_se0_0_1_7_14]
      exact bd res_int rfl
    · rw [if_neg e, decide_eq_false e, Bool.not_false]
      have hle := stepFrom_le set now M 0 now
      exact grow_loop hp hM hl hs hlf f F _ (step_sub hsub) (by omega) (by omega)

theorem l2Grow_calls {M : List Nat} {p : PV} {h : PHeap} (hp : IntSl .i64 h p (ints M)) (hM : ∀ m ∈ M, m < 2 ^ 9) (hl : M.length ≤ 9) {set fr : Nat} (hs : set < 2 ^ 9) (hfr : fr < 2 ^ 62) (N : Nat) (hN : 1 ≤ N) (hlf : 1000 < lf) :
    CL g lf N fn_spec_l2Grow [p, .int .i64 (set : Int), .int .i64 (fr : Int)] h = some (.int .i64 (growN M set fr : Int), h) := by
  obtain ⟨n, rfl⟩ : ∃ n, N = n + 1 := ⟨N - 1, by omega⟩
  rw [spec_l2Grow.call_eq]
  unfold spec_l2Grow.main
  refine bd (f_and (a := fr) (b := set) hfr (by omega)) ?_
  exact grow_loop g lf n hp hM hl hs (by omega) 600 lf (fr &&& set) (fun j hj => by rw [Nat.testBit_and, Bool.and_eq_true] at hj; exact hj.2) (by omega) (by omega)

def joinsN (R C P S : Nat) : Bool := !decide (growN (masksN R C) S (sideN R C P false) &&& sideN R C P true = 0)

theorem l2Joins_calls {R C P S : Nat} (hB : BoardOf R C) (hP : P = 1 ∨ P = 2) {p : PV} {h : PHeap} (hp : IntSl .i64 h p (ints (masksN R C))) (hs : S < 2 ^ 9) (N : Nat) (hN : 2 ≤ N) (hlf : 1000 < lf) :
    CL g lf N fn_spec_l2Joins [.int .i64 (R : Int), .int .i64 (C : Int), p, .int .i64 (S : Int), .int .i64 (P : Int)] h = some (.bool (joinsN R C P S), h) := by
  obtain ⟨n, rfl⟩ : ∃ n, N = n + 1 := ⟨N - 1, by omega⟩
  rw [spec_l2Joins.call_eq]
  have s1 := l2Side_calls g lf hB hP false n (by omega) (by omega) h
  have s2 := l2Side_calls g lf hB hP true n (by omega) (by omega) h
  have l1 := sideN_lt (P := P) (last := false) hB
  have l2 := sideN_lt (P := P) (last := true) hB
  have gr := l2Grow_calls g lf hp (masksN_lt hB) (by rw [masksN_length]; exact hB.2.2.2.2) hs (fr := sideN R C P false) (by omega) n (by omega) hlf
  have lg := grow_lt (M := masksN R C) (fr := sideN R C P false) hs
  have fa := f_and (a := growN (masksN R C) S (sideN R C P false)) (b := sideN R C P true) (by omega) (by omega)
  have fn' : binP Tryd.prog .neq 3 (.int .i64 ((growN (masksN R C) S (sideN R C P false) &&& sideN R C P true : Nat) : Int)) (.int .i64 0) = some (.bool (joinsN R C P S)) := by
    rw [bin_neq]
    unfold joinsN
    exact congrArg (fun z => some (PV.bool (!z))) (natEq _ 0)
  unfold spec_l2Joins.main
  exact bd s1 (bd gr (bd s2 (bd fa (bd fn' (bd res_bool rfl)))))

end Go.Proofs.YtiflfnlpkhghpaaDoor
