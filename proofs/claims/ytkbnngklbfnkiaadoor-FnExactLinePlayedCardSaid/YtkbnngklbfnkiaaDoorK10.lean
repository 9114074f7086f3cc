/- Texts of this seat, in their order, put together by program. -/
import Derived.Test.YtkbnngklbfnkiaaDoorK9
set_option linter.unusedSimpArgs false
set_option linter.unusedVariables false
/- The model's sets of cells: masks, sides, the cells with a stone, growing, and whether sides are joined. -/
namespace Go.Proofs.YtkbnngklbfnkiaaDoor
open Go Go.Ip G

def masksN (R C : Nat) : List Nat := (List.range (R * C)).map fun k => orAll 0 (nearN R C k)
def ints (M : List Nat) : List Int := M.map fun x : Nat => (x : Int)
theorem ints_length (M : List Nat) : (ints M).length = M.length := List.length_map ..
theorem ints_get {M : List Nat} {k : Nat} (hk : k < M.length) : (ints M)[k]'(by rw [ints_length]; exact hk) = ((M.getD k 0 : Nat) : Int) := by
  simp [ints, List.getD_eq_getElem?_getD, hk]

/-- A board, as numbers. -/
def BoardOf (R C : Nat) : Prop := 1 ≤ R ∧ R ≤ 4 ∧ 1 ≤ C ∧ C ≤ 4 ∧ R * C ≤ 9

theorem masksN_length (R C : Nat) : (masksN R C).length = R * C := by simp [masksN]
theorem masksN_lt {R C : Nat} (hb : BoardOf R C) : ∀ m ∈ masksN R C, m < 2 ^ 9 := by
  intro m hm
  obtain ⟨k, hk, rfl⟩ := List.mem_map.1 hm
  rw [List.mem_range] at hk
  obtain ⟨h1, h2, h3, h4, h9⟩ := hb
  exact orAll_lt _ _ (fun e he => by have := near_in h1 h2 h3 h4 h9 hk e he; omega) (by decide)

/-- An operation under a guard that holds nothing. -/
theorem gu {α : Type} {t : Bool} {β : Type} {x y : Option α} {f : α → Option β} {r : Option β} (hy : y.bind f = r) : ((wantV (.tup []) t).bind fun v => (bif v then x else y).bind f) = r := by
  simpa using hy

variable (g : Nat → PV) (lf n : Nat)

/-! ### masks -/
theorem mask_inner {L : List Int} {p : PV} {h : PHeap} (hp : IntSl .i64 h p L) (hL : ∀ e ∈ L, 0 ≤ e ∧ e < 9) (hl : L.length ≤ 10) (R C q X : PV) (K : PX → St → Res) : ∀ (m j fuel w : Nat), j + m = L.length → m < fuel → w < 2 ^ 9 →
    loopK (ev ((env g lf n).cx Tryd.prog spec_l2Masks.kl) spec_l2Masks.lp1) fuel (spec_l2Masks.st1 R C q X (.int .i64 (w : Int)) p (.int .i64 (j : Int)) h) (spec_l2Masks.K1 (env g lf n) K) =
      spec_l2Masks.K1 (env g lf n) K (.exit 2) (spec_l2Masks.se2_0_1_5_6_7_8_9_25 R C q X (.int .i64 (orAll w (L.drop j) : Int)) p (.int .i64 (L.length : Int)) (.bool false) h)
  | 0, j, fuel, w, hjm, hf, hw => by
    obtain ⟨f, rfl⟩ : ∃ f, fuel = f + 1 := ⟨fuel - 1, by omega⟩
    obtain rfl : j = L.length := by omega
    rw [loopK_succ, spec_l2Masks.body1_eq]
    have f1 : binP Tryd.prog .lss 3 (.int .i64 (L.length : Int)) (.int .i64 (L.length : Int)) = some (.bool false) := by rw [bin_lss, decide_eq_false (by omega)]
    unfold spec_l2Masks.body1
    refine bd hp.len' (bd f1 (cdF ?_))
    rw [kLoop_exit, List.drop_length, orAll]
  | m + 1, j, fuel, w, hjm, hf, hw => by
    obtain ⟨f, rfl⟩ : ∃ f, fuel = f + 1 := ⟨fuel - 1, by omega⟩
    have hj : j < L.length := by omega
    obtain ⟨a, ha, hla⟩ := hp.at' hj
    have he := hL _ (List.getElem_mem hj)
    obtain ⟨E, hE⟩ := Int.eq_ofNat_of_zero_le he.1
    rw [hE] at hla
    have hE9 : E < 9 := by omega
    have ih := mask_inner hp hL hl R C q X K m (j + 1) f (w ||| (1 <<< E)) (by omega) (by omega) (Nat.or_lt_two_pow hw (shl_lt hE9))
    have f1 : binP Tryd.prog .lss 3 (.int .i64 (j : Int)) (.int .i64 (L.length : Int)) = some (.bool true) := by rw [bin_lss, decide_eq_true (by omega)]
    have f2 := f_shl E (by omega)
    have f3 := f_or (a := w) (b := 1 <<< E) (by omega) (by have := shl_lt hE9; omega)
    have f4 : binP Tryd.prog .add 3 (.int .i64 (j : Int)) (.int .i64 1) = some (.int .i64 ((j + 1 : Nat) : Int)) := by rw [bin_add, nx (by omega)]
    have hdx : L.drop j = L[j] :: L.drop (j + 1) := List.drop_eq_getElem_cons hj
    rw [loopK_succ, spec_l2Masks.body1_eq, hdx, orAll, hE, show ((E : Int).toNat) = E from rfl]
    unfold spec_l2Masks.body1
    exact bd hp.len' (bd f1 (cdT (bd ha (bd hla (bd f2 (bd f3 (bd f4 ih)))))))

theorem mask_loop {R C : Nat} (hB : BoardOf R C) (hn : 2 ≤ n) (hlf : 20 < lf) : ∀ (m i fuel : Nat) (q : PV) (ys : List Int) (h : PHeap) (b : Nat), i + m = R * C → m < fuel → ys = ints ((masksN R C).take i) → OwnSl b h q ys → b ≤ h.length →
    ∃ q' h', loopK (ev ((env g lf n).cx Tryd.prog spec_l2Masks.kl) spec_l2Masks.lp0) fuel (spec_l2Masks.st0 (.int .i64 (R : Int)) (.int .i64 (C : Int)) q (.int .i64 (i : Int)) h) (spec_l2Masks.K0 (env g lf n) (kTop Tryd.prog Tryd.f75)) = some (q', h') ∧
      OwnSl b h' q' (ints (masksN R C)) ∧ Keep b h h'
  | 0, i, fuel, q, ys, h, b, him, hf, hy, ho, hb => by
    obtain ⟨f, rfl⟩ : ∃ f, fuel = f + 1 := ⟨fuel - 1, by omega⟩
    obtain rfl : i = R * C := by omega
    obtain ⟨h1, h2, h3, h4, h9⟩ := hB
    rw [← masksN_length R C, List.take_length] at hy
    refine ⟨q, h, ?_, by rw [← hy]; exact ho, Keep.refl _ _⟩
    rw [loopK_succ, spec_l2Masks.body0_eq]
    have f1 : binP Tryd.prog .lss 3 (.int .i64 ((R * C : Nat) : Int)) (.int .i64 ((R * C : Nat) : Int)) = some (.bool false) := by rw [bin_lss, decide_eq_false (by omega)]
    unfold spec_l2Masks.body0
    refine bd (f_mul R C (by omega)) (bd f1 (cdF ?_))
    rw [kLoop_exit, spec_l2Masks.after0_se0_0_1_5_6_15]
    exact bd ho.res rfl
  | m + 1, i, fuel, q, ys, h, b, him, hf, hy, ho, hb => by
    obtain ⟨f, rfl⟩ : ∃ f, fuel = f + 1 := ⟨fuel - 1, by omega⟩
    obtain ⟨h1, h2, h3, h4, h9⟩ := id hB
    have f1 : binP Tryd.prog .lss 3 (.int .i64 (i : Int)) (.int .i64 ((R * C : Nat) : Int)) = some (.bool true) := by rw [bin_lss, decide_eq_true (by omega)]
    obtain ⟨p, hn1, eN, oN, kN⟩ := l1Near_calls g lf n (by omega) hlf (h := h) h2 h3 h4 (show i ≤ 9 by omega)
    have hl6 := nearN_length R C i
    have hin : ∀ e ∈ nearN R C i, 0 ≤ e ∧ e < 9 := fun e he => by have := near_in h1 h2 h3 h4 h9 (show i < R * C by omega) e he; omega
    have inner := mask_inner g lf n oN.int hin (by omega) (.int .i64 (R : Int)) (.int .i64 (C : Int)) q (.int .i64 (i : Int)) (kLoop (ev ((env g lf n).cx Tryd.prog spec_l2Masks.kl) spec_l2Masks.lp0) f (spec_l2Masks.K0 (env g lf n) (kTop Tryd.prog Tryd.f75))) (nearN R C i).length 0 lf 0 (by omega) (by omega) (by decide)
    rw [List.drop_zero] at inner
    have ho1 := ho.keep kN
    have hlen : ys.length ≤ 9 := by rw [hy, ints_length, List.length_take]; omega
    obtain ⟨v, q2, h2', hb2, ha2, ho2, hk2⟩ := ho1.append (by have := kN.1; omega) ((orAll 0 (nearN R C i) : Nat) : Int) (by omega)
    have f4 : binP Tryd.prog .add 3 (.int .i64 (i : Int)) (.int .i64 1) = some (.int .i64 ((i + 1 : Nat) : Int)) := by rw [bin_add, nx (by omega)]
    have hy2 : ys ++ [((orAll 0 (nearN R C i) : Nat) : Int)] = ints ((masksN R C).take (i + 1)) := by
      have hi : i < (masksN R C).length := by rw [masksN_length]; omega
      rw [hy, List.take_add_one, List.getElem?_eq_getElem hi]
      simp [ints, masksN]
    obtain ⟨q', h', ih, o', k'⟩ := mask_loop hB hn hlf m (i + 1) f q2 _ h2' b (by omega) (by omega) hy2 ho2 (by have := hk2.1; have := kN.1; omega)
    refine ⟨q', h', ?_, o', ((kN.mono hb).trans hk2).trans k'⟩
    rw [loopK_succ, spec_l2Masks.body0_eq]
    unfold spec_l2Masks.body0
    refine bd (f_mul R C (by omega)) (bd f1 (cdT (bd eN (inner.trans ?_))))
    rw [spec_l2Masks.after1_se2_0_1_5_6_7_8_9_25]
    exact bd hb2 (bd ha2 (bd f4 ih))

theorem l2Masks_calls {R C : Nat} (hB : BoardOf R C) (N : Nat) (hN : 3 ≤ N) (hlf : 20 < lf) {h : PHeap} :
    ∃ q h', CL g lf N fn_spec_l2Masks [.int .i64 (R : Int), .int .i64 (C : Int)] h = some (q, h') ∧ OwnSl h.length h' q (ints (masksN R C)) ∧ Keep h.length h h' := by
  obtain ⟨n, rfl⟩ : ∃ n, N = n + 1 := ⟨N - 1, by omega⟩
  rw [spec_l2Masks.call_eq]
  obtain ⟨q0, h0, e0, o0, k0⟩ := empty_lit (h := h)
  obtain ⟨q', h', e, o, k⟩ := mask_loop g lf n hB (by omega) hlf (R * C) 0 lf q0 [] h0 h.length (by omega) (by have := hB.2.2.2.2; omega) (by simp [ints]) o0 k0.1
  refine ⟨q', h', ?_, o, k0.trans k⟩
  unfold spec_l2Masks.main
  exact bd e0 e

/-! ### sides -/
def atSide (C P i : Nat) : Nat := if P = 2 then i % C else i / C
def endSide (R C P : Nat) : Nat := if P = 2 then C - 1 else R - 1
def sideFrom (R C P : Nat) (last : Bool) : Nat → Nat → Nat → Nat
  | 0, _, w => w
  | m + 1, i, w => sideFrom R C P last m (i + 1) (if (bif last then decide (atSide C P i = endSide R C P) else decide (atSide C P i = 0)) = true then w ||| (1 <<< i) else w)
def sideN (R C P : Nat) (last : Bool) : Nat := sideFrom R C P last (R * C) 0 0

theorem side_step {R C P i : Nat} (hB : BoardOf R C) (hP : P = 1 ∨ P = 2) (last : Bool) (hi : i < R * C) (w : Nat) (hw : w < 2 ^ 9) (K : PX → St → Res) (h : PHeap) :
    spec_l2Side.body0 (env g lf n) K (.int .i64 (R : Int)) (.int .i64 (C : Int)) (.int .i64 (P : Int)) (.bool last) (.int .i64 (w : Int)) (.int .i64 (i : Int)) h =
      K .normal (spec_l2Side.st0 (.int .i64 (R : Int)) (.int .i64 (C : Int)) (.int .i64 (P : Int)) (.bool last) (.int .i64 ((if (bif last then decide (atSide C P i = endSide R C P) else decide (atSide C P i = 0)) = true then w ||| (1 <<< i) else w : Nat) : Int)) (.int .i64 ((i + 1 : Nat) : Int)) h) := by
  obtain ⟨h1, h2, h3, h4, h9⟩ := hB
  have f1 : binP Tryd.prog .lss 3 (.int .i64 (i : Int)) (.int .i64 ((R * C : Nat) : Int)) = some (.bool true) := by rw [bin_lss, decide_eq_true (by omega)]
  have fq := f_quo i C h3 (by omega)
  have fr := f_rem i C h3
  have fs := f_shl i (by omega)
  have fo := f_or (a := w) (b := 1 <<< i) (by omega) (by have := shl_lt (show i < 9 by omega); omega)
  have fn' : binP Tryd.prog .add 3 (.int .i64 (i : Int)) (.int .i64 1) = some (.int .i64 ((i + 1 : Nat) : Int)) := by rw [bin_add, nx (by omega)]
  have fR : binP Tryd.prog .sub 3 (.int .i64 (R : Int)) (.int .i64 1) = some (.int .i64 ((R - 1 : Nat) : Int)) := by rw [bin_sub, wr (by omega), show (R : Int) - 1 = ((R - 1 : Nat) : Int) by omega]
  have fC : binP Tryd.prog .sub 3 (.int .i64 (C : Int)) (.int .i64 1) = some (.int .i64 ((C - 1 : Nat) : Int)) := by rw [bin_sub, wr (by omega), show (C : Int) - 1 = ((C - 1 : Nat) : Int) by omega]
  have eqz : ∀ x y : Nat, binP Tryd.prog .eql 3 (.int .i64 (x : Int)) (.int .i64 (y : Int)) = some (.bool (decide (x = y))) := fun x y => by rw [bin_eql, natEq]
  have eq0 : ∀ x : Nat, binP Tryd.prog .eql 3 (.int .i64 (x : Int)) (.int .i64 0) = some (.bool (decide (x = 0))) := fun x => eqz x 0
  unfold spec_l2Side.body0
  rcases hP with rfl | rfl
  · have fP : binP Tryd.prog .eql 3 (.int .i64 ((1 : Nat) : Int)) (.int .i64 2) = some (.bool false) := by rw [bin_eql]; rfl
    have ea : atSide C 1 i = i / C := rfl
    have ee : endSide R C 1 = R - 1 := rfl
    rw [ea, ee]
    refine bd (f_mul R C (by omega)) (bd f1 (cdT (bd fq (bd fR (bd fP (cdF ?_))))))
    cases last with
    | true =>
      simp only [cond_true]
      by_cases e : i / C = R - 1
      · have g1 := eqz (i / C) (R - 1)
        rw [decide_eq_true e] at g1
        rw [if_pos (decide_eq_true e)]
        refine gd rfl (bd rfl (gd rfl (bd rfl (gd rfl (bd (congrArg (pv _) g1) (bd (v := PV.bool true) rfl ?_))))))
        refine gn rfl (bd rfl (gn rfl (bd rfl (gn rfl (bd rfl (gu (bd rfl (gu (bd rfl (gn rfl (bd rfl (bd (v := PV.bool true) rfl (cdT ?_)))))))))))))
        exact bd fs (bd fo (bd fn' rfl))
      · have g1 := eqz (i / C) (R - 1)
        rw [decide_eq_false e] at g1
        rw [if_neg (by simpa using e)]
        refine gd rfl (bd rfl (gd rfl (bd rfl (gd rfl (bd (congrArg (pv _) g1) (bd (v := PV.bool false) rfl ?_))))))
        refine gd rfl (bd rfl (gd rfl (bd (v := (PV.bool false, h)) rfl (gd rfl (bd rfl (gn rfl (bd rfl (gn rfl (bd rfl (gd rfl (bd (v := (PV.bool false, h)) rfl (bd (v := PV.bool false) rfl (cdF ?_)))))))))))))
        exact bd fn' rfl
    | false =>
      simp only [cond_false]
      have g1 := eq0 (i / C)
      refine gn rfl (bd rfl (gn rfl (bd rfl (gn rfl (bd rfl (bd (v := PV.bool false) rfl ?_))))))
      refine gd rfl (bd rfl (gd rfl (bd (v := (PV.bool true, h)) rfl (gd rfl (bd rfl (gd rfl (bd rfl (gd rfl (bd (congrArg (pv _) g1) (gd rfl (bd (v := (PV.bool (decide (i / C = 0)), h)) rfl (bd (v := PV.bool (decide (i / C = 0))) rfl ?_))))))))))))
      by_cases e : i / C = 0
      · rw [decide_eq_true e, if_pos rfl]
        exact cdT (bd fs (bd fo (bd fn' rfl)))
      · rw [decide_eq_false e, if_neg (by decide)]
        exact cdF (bd fn' rfl)
  · have fP : binP Tryd.prog .eql 3 (.int .i64 ((2 : Nat) : Int)) (.int .i64 2) = some (.bool true) := by rw [bin_eql]; rfl
    have ea : atSide C 2 i = i % C := rfl
    have ee : endSide R C 2 = C - 1 := rfl
    rw [ea, ee]
    refine bd (f_mul R C (by omega)) (bd f1 (cdT (bd fq (bd fR (bd fP (cdT (bd fr (bd fC ?_))))))))
    cases last with
    | true =>
      simp only [cond_true]
      by_cases e : i % C = C - 1
      · have g1 := eqz (i % C) (C - 1)
        rw [decide_eq_true e] at g1
        rw [if_pos (decide_eq_true e)]
        refine gd rfl (bd rfl (gd rfl (bd rfl (gd rfl (bd (congrArg (pv _) g1) (bd (v := PV.bool true) rfl ?_))))))
        refine gn rfl (bd rfl (gn rfl (bd rfl (gn rfl (bd rfl (gu (bd rfl (gu (bd rfl (gn rfl (bd rfl (bd (v := PV.bool true) rfl (cdT ?_)))))))))))))
        exact bd fs (bd fo (bd fn' rfl))
      · have g1 := eqz (i % C) (C - 1)
        rw [decide_eq_false e] at g1
        rw [if_neg (by simpa using e)]
        refine gd rfl (bd rfl (gd rfl (bd rfl (gd rfl (bd (congrArg (pv _) g1) (bd (v := PV.bool false) rfl ?_))))))
        refine gd rfl (bd rfl (gd rfl (bd (v := (PV.bool false, h)) rfl (gd rfl (bd rfl (gn rfl (bd rfl (gn rfl (bd rfl (gd rfl (bd (v := (PV.bool false, h)) rfl (bd (v := PV.bool false) rfl (cdF ?_)))))))))))))
        exact bd fn' rfl
    | false =>
      simp only [cond_false]
      have g1 := eq0 (i % C)
      refine gn rfl (bd rfl (gn rfl (bd rfl (gn rfl (bd rfl (bd (v := PV.bool false) rfl ?_))))))
      refine gd rfl (bd rfl (gd rfl (bd (v := (PV.bool true, h)) rfl (gd rfl (bd rfl (gd rfl (bd rfl (gd rfl (bd (congrArg (pv _) g1) (gd rfl (bd (v := (PV.bool (decide (i % C = 0)), h)) rfl (bd (v := PV.bool (decide (i % C = 0))) rfl ?_))))))))))))
      by_cases e : i % C = 0
      · rw [decide_eq_true e, if_pos rfl]
        exact cdT (bd fs (bd fo (bd fn' rfl)))
      · rw [decide_eq_false e, if_neg (by decide)]
        exact cdF (bd fn' rfl)

theorem sideFrom_lt {R C P : Nat} {last : Bool} (h9 : R * C ≤ 9) : ∀ (m i w : Nat), i + m = R * C → w < 2 ^ 9 → sideFrom R C P last m i w < 2 ^ 9
  | 0, _, _, _, hw => hw
  | m + 1, i, w, him, hw => by
    rw [sideFrom]
    refine sideFrom_lt h9 m (i + 1) _ (by omega) ?_
    split
    · exact Nat.or_lt_two_pow hw (shl_lt (by omega))
    · exact hw
theorem sideN_lt {R C P : Nat} {last : Bool} (hB : BoardOf R C) : sideN R C P last < 2 ^ 9 := sideFrom_lt hB.2.2.2.2 _ _ _ (by omega) (by decide)

theorem side_loop {R C P : Nat} (hB : BoardOf R C) (hP : P = 1 ∨ P = 2) (last : Bool) (h : PHeap) : ∀ (m i fuel w : Nat), i + m = R * C → m < fuel → w < 2 ^ 9 →
    loopK (ev ((env g lf n).cx Tryd.prog spec_l2Side.kl) spec_l2Side.lp0) fuel (spec_l2Side.st0 (.int .i64 (R : Int)) (.int .i64 (C : Int)) (.int .i64 (P : Int)) (.bool last) (.int .i64 (w : Int)) (.int .i64 (i : Int)) h) (spec_l2Side.K0 (env g lf n) (kTop Tryd.prog Tryd.f85)) = some (.int .i64 (sideFrom R C P last m i w : Int), h)
  | 0, i, fuel, w, him, hf, hw => by
    obtain ⟨f, rfl⟩ : ∃ f, fuel = f + 1 := ⟨fuel - 1, by omega⟩
    obtain ⟨h1, h2, h3, h4, h9⟩ := hB
    rw [loopK_succ, spec_l2Side.body0_eq]
    have f1 : binP Tryd.prog .lss 3 (.int .i64 (i : Int)) (.int .i64 ((R * C : Nat) : Int)) = some (.bool false) := by rw [bin_lss, decide_eq_false (by omega)]
    unfold spec_l2Side.body0
    refine bd (f_mul R C (by omega)) (bd f1 (cdF ?_))
    rw [kLoop_exit, spec_l2Side.after0_se0_0_1_2_3_9_10_17]
    exact bd res_int rfl
  | m + 1, i, fuel, w, him, hf, hw => by
    obtain ⟨f, rfl⟩ : ∃ f, fuel = f + 1 := ⟨fuel - 1, by omega⟩
    rw [loopK_succ, spec_l2Side.body0_eq, side_step g lf n hB hP last (by omega) w hw, kLoop_normal, sideFrom]
    refine side_loop hB hP last h m (i + 1) f _ (by omega) (by omega) ?_
    split
    · exact Nat.or_lt_two_pow hw (shl_lt (by have := hB.2.2.2.2; omega))
    · exact hw

theorem l2Side_calls {R C P : Nat} (hB : BoardOf R C) (hP : P = 1 ∨ P = 2) (last : Bool) (N : Nat) (hN : 1 ≤ N) (hlf : 20 < lf) (h : PHeap) :
    CL g lf N fn_spec_l2Side [.int .i64 (R : Int), .int .i64 (C : Int), .int .i64 (P : Int), .bool last] h = some (.int .i64 (sideN R C P last : Int), h) := by
  obtain ⟨n, rfl⟩ : ∃ n, N = n + 1 := ⟨N - 1, by omega⟩
  rw [spec_l2Side.call_eq]
  unfold spec_l2Side.main
  exact side_loop g lf n hB hP last h (R * C) 0 lf 0 (by omega) (by have := hB.2.2.2.2; omega) (by decide)

/-! ### the cells with a stone -/
def setFrom (what : Int) : Nat → List Int → Nat → Nat
  | _, [], w => w
  | k, x :: xs, w => setFrom what (k + 1) xs (if x = what then w ||| (1 <<< k) else w)
def setL (xs : List Int) (what : Int) : Nat := setFrom what 0 xs 0

theorem setFrom_lt (what : Int) {n : Nat} : ∀ (xs : List Int) (k w : Nat), k + xs.length ≤ n → w < 2 ^ n → setFrom what k xs w < 2 ^ n
  | [], _, _, _, hw => hw
  | x :: xs, k, w, hk, hw => by
    rw [setFrom]
    rw [List.length_cons] at hk
    refine setFrom_lt what xs (k + 1) _ (by omega) ?_
    split
    · refine Nat.or_lt_two_pow hw ?_
      rw [Nat.one_shiftLeft]; exact Nat.pow_lt_pow_right (by decide) (by omega)
    · exact hw
theorem setL_lt (what : Int) {xs : List Int} {n : Nat} (h : xs.length ≤ n) : setL xs what < 2 ^ n := setFrom_lt what xs 0 0 (by omega) (Nat.two_pow_pos n)

theorem setFrom_bit (what : Int) (j : Nat) : ∀ (xs : List Int) (k w : Nat), (setFrom what k xs w).testBit j = true ↔ w.testBit j = true ∨ ∃ i, j = k + i ∧ xs[i]? = some what
  | [], k, w => by simp [setFrom]
  | x :: xs, k, w => by
    rw [setFrom, setFrom_bit what j xs (k + 1)]
    have hs : (∃ i, j = k + i ∧ (x :: xs)[i]? = some what) ↔ (j = k ∧ x = what) ∨ ∃ i, j = k + 1 + i ∧ xs[i]? = some what := by
      constructor
      · rintro ⟨i, h1, h2⟩
        cases i with
        | zero => exact .inl ⟨by omega, by simpa using h2⟩
        | succ i => exact .inr ⟨i, by omega, by simpa using h2⟩
      · rintro (⟨h1, h2⟩ | ⟨i, h1, h2⟩)
        · exact ⟨0, by omega, by simp [h2]⟩
        · exact ⟨i + 1, by omega, by simpa using h2⟩
    rw [hs]
    by_cases e : x = what
    · rw [if_pos e, Nat.testBit_or, one_bit, Bool.or_eq_true, decide_eq_true_iff]
      simp [e, or_assoc]
    · rw [if_neg e]; simp [e]

theorem setL_bit {xs : List Int} {what : Int} {j : Nat} : (setL xs what).testBit j = true ↔ xs[j]? = some what := by
  unfold setL
  rw [setFrom_bit]
  constructor
  · rintro (h | ⟨i, h1, h2⟩)
    · rw [Nat.zero_testBit] at h; cases h
    · rw [Nat.zero_add] at h1; subst h1; exact h2
  · intro h; exact .inr ⟨j, by omega, h⟩

theorem set_loop {xs : List Int} {p : PV} {h : PHeap} (what : Int) (hp : IntSl .i64 h p xs) (hl : xs.length ≤ 20) : ∀ (m i fuel w : Nat), i + m = xs.length → m < fuel → w < 2 ^ 30 →
    loopK (ev ((env g lf n).cx Tryd.prog spec_l2Set.kl) spec_l2Set.lp0) fuel (spec_l2Set.st0 p (.int .i64 what) (.int .i64 (w : Int)) (.int .i64 (i : Int)) h) (spec_l2Set.K0 (env g lf n) (kTop Tryd.prog Tryd.f70)) = some (.int .i64 (setFrom what i (xs.drop i) w : Int), h)
  | 0, i, fuel, w, him, hf, hw => by
    obtain ⟨f, rfl⟩ : ∃ f, fuel = f + 1 := ⟨fuel - 1, by omega⟩
    rw [loopK_succ, spec_l2Set.body0_eq]
    have f1 : binP Tryd.prog .lss 3 (.int .i64 (i : Int)) (.int .i64 (xs.length : Int)) = some (.bool false) := by rw [bin_lss, decide_eq_false (by omega)]
    unfold spec_l2Set.body0
    refine bd hp.len' (bd f1 (cdF ?_))
    rw [kLoop_exit, spec_l2Set.after0_se0_0_1_5_6_10, List.drop_eq_nil_of_le (by omega), setFrom]
    exact bd res_int rfl
  | m + 1, i, fuel, w, him, hf, hw => by
    obtain ⟨f, rfl⟩ : ∃ f, fuel = f + 1 := ⟨fuel - 1, by omega⟩
    have hi : i < xs.length := by omega
    obtain ⟨a, ha, hla⟩ := hp.at' hi
    have hdx : xs.drop i = xs[i] :: xs.drop (i + 1) := List.drop_eq_getElem_cons hi
    have f1 : binP Tryd.prog .lss 3 (.int .i64 (i : Int)) (.int .i64 (xs.length : Int)) = some (.bool true) := by rw [bin_lss, decide_eq_true (by omega)]
    have f2 : binP Tryd.prog .eql 3 (.int .i64 xs[i]) (.int .i64 what) = some (.bool (decide (xs[i] = what))) := by rw [bin_eql]; rfl
    have f4 : binP Tryd.prog .add 3 (.int .i64 (i : Int)) (.int .i64 1) = some (.int .i64 ((i + 1 : Nat) : Int)) := by rw [bin_add, nx (by omega)]
    have h30 : 1 <<< i < 2 ^ 30 := by rw [Nat.one_shiftLeft]; exact Nat.pow_lt_pow_right (by decide) (by omega)
    rw [loopK_succ, spec_l2Set.body0_eq, hdx, setFrom]
    unfold spec_l2Set.body0
    refine bd hp.len' (bd f1 (cdT (bd ha (bd hla (bd f2 ?_)))))
    by_cases e : xs[i] = what
    · rw [decide_eq_true e, if_pos e]
      refine cdT (bd (f_shl i (by omega)) (bd (f_or (a := w) (b := 1 <<< i) (by omega) (by omega)) (bd f4 ?_)))
      rw [kLoop_normal]
      exact set_loop what hp hl m (i + 1) f _ (by omega) (by omega) (Nat.or_lt_two_pow hw h30)
    · rw [decide_eq_false e, if_neg e]
      refine cdF (bd f4 ?_)
      rw [kLoop_normal]
      exact set_loop what hp hl m (i + 1) f _ (by omega) (by omega) hw

theorem l2Set_calls {xs : List Int} {p : PV} {h : PHeap} (what : Int) (hp : IntSl .i64 h p xs) (hl : xs.length ≤ 20) (N : Nat) (hN : 1 ≤ N) (hlf : 20 < lf) :
    CL g lf N fn_spec_l2Set [p, .int .i64 what] h = some (.int .i64 (setL xs what : Int), h) := by
  obtain ⟨n, rfl⟩ : ∃ n, N = n + 1 := ⟨N - 1, by omega⟩
  rw [spec_l2Set.call_eq]
  unfold spec_l2Set.main
  have := set_loop g lf n what hp hl xs.length 0 lf 0 (by omega) (by omega) (by decide)
  rw [List.drop_zero] at this
  exact this

/-! ### growing -/
theorem bitq (x k : Nat) (hk : k ≤ 20) : binP Tryd.prog .shr 3 (.int .i64 (x : Int)) (.int .i64 (k : Int)) = some (.int .i64 ((x >>> k : Nat) : Int)) ∧ binP Tryd.prog .rem 3 (.int .i64 ((x >>> k : Nat) : Int)) (.int .i64 2) = some (.int .i64 ((x >>> k % 2 : Nat) : Int)) ∧
    binP Tryd.prog .eql 3 (.int .i64 ((x >>> k % 2 : Nat) : Int)) (.int .i64 1) = some (.bool (decide (x >>> k % 2 = 1))) :=
  ⟨f_shr x k (by omega), f_rem (x >>> k) 2 (by decide), by rw [bin_eql]; exact congrArg (fun z => some (PV.bool z)) (natEq _ 1)⟩

theorem stepFrom_lt {set now : Nat} (hs : set < 2 ^ 9) : ∀ (ms : List Nat) (k nx : Nat), nx < 2 ^ 9 → stepFrom set now k ms nx < 2 ^ 9
  | [], _, _, h => h
  | m :: ms, k, nx, h => by
    rw [stepFrom]
    refine stepFrom_lt hs ms (k + 1) _ ?_
    split
    · exact Nat.or_lt_two_pow h (Nat.and_lt_two_pow m hs)
    · exact h

theorem grow_inner {M : List Nat} {p : PV} {h : PHeap} (hp : IntSl .i64 h p (ints M)) (hM : ∀ m ∈ M, m < 2 ^ 9) (hl : M.length ≤ 9) {set now : Nat} (hs : set < 2 ^ 9) (K : PX → St → Res) : ∀ (m k fuel nx : Nat), k + m = M.length → m < fuel → nx < 2 ^ 9 →
    loopK (ev ((env g lf n).cx Tryd.prog spec_l2Grow.kl) spec_l2Grow.lp1) fuel (spec_l2Grow.st1 p (.int .i64 (set : Int)) (.int .i64 (now : Int)) (.int .i64 (nx : Int)) (.int .i64 (k : Int)) h) (spec_l2Grow.K1 (env g lf n) K) =
      K .normal (spec_l2Grow.st0 p (.int .i64 (set : Int)) (.int .i64 (stepFrom set now k (M.drop k) nx : Int)) (.bool (!decide (stepFrom set now k (M.drop k) nx = now))) h)
  | 0, k, fuel, nx', hkm, hf, hnx => by
    obtain ⟨f, rfl⟩ : ∃ f, fuel = f + 1 := ⟨fuel - 1, by omega⟩
    rw [loopK_succ, spec_l2Grow.body1_eq]
    have f1 : binP Tryd.prog .lss 3 (.int .i64 (k : Int)) (.int .i64 ((ints M).length : Int)) = some (.bool false) := by rw [bin_lss, ints_length, decide_eq_false (by omega)]
    have f2 : binP Tryd.prog .neq 3 (.int .i64 (nx' : Int)) (.int .i64 (now : Int)) = some (.bool (!decide (nx' = now))) := by
      rw [bin_neq, bne, natEq]
    unfold spec_l2Grow.body1
    refine bd hp.len' (bd f1 (cdF ?_))
    rw [kLoop_exit, spec_l2Grow.after1_se2_0_1_7_9_10_19, List.drop_eq_nil_of_le (by omega), stepFrom]
    exact bd f2 rfl
  | m + 1, k, fuel, nx', hkm, hf, hnx => by
    obtain ⟨f, rfl⟩ : ∃ f, fuel = f + 1 := ⟨fuel - 1, by omega⟩
    have hk : k < M.length := by omega
    obtain ⟨a, ha, hla⟩ := hp.at' (show k < (ints M).length by rw [ints_length]; exact hk)
    rw [ints_get hk] at hla
    have hmk : M.getD k 0 < 2 ^ 9 := by
      rw [List.getD_eq_getElem?_getD, List.getElem?_eq_getElem hk]; exact hM _ (List.getElem_mem hk)
    have hdx : M.drop k = M.getD k 0 :: M.drop (k + 1) := by
      rw [List.getD_eq_getElem?_getD, List.getElem?_eq_getElem hk]; exact List.drop_eq_getElem_cons hk
    have f1 : binP Tryd.prog .lss 3 (.int .i64 (k : Int)) (.int .i64 ((ints M).length : Int)) = some (.bool true) := by rw [bin_lss, ints_length, decide_eq_true (by omega)]
    obtain ⟨b1, b2, b3⟩ := bitq now k (by omega)
    have f4 : binP Tryd.prog .add 3 (.int .i64 (k : Int)) (.int .i64 1) = some (.int .i64 ((k + 1 : Nat) : Int)) := by rw [bin_add, nx (by omega)]
    rw [loopK_succ, spec_l2Grow.body1_eq, hdx, stepFrom]
    unfold spec_l2Grow.body1
    refine bd hp.len' (bd f1 (cdT (bd b1 (bd b2 (bd b3 ?_)))))
    by_cases e : now >>> k % 2 = 1
    · rw [decide_eq_true e, if_pos e]
      have ha2 := f_and (a := M.getD k 0) (b := set) (by omega) (by omega)
      have hlt := Nat.and_lt_two_pow (M.getD k 0) hs
      have ho2 := f_or (a := nx') (b := M.getD k 0 &&& set) (by omega) (by omega)
      refine cdT (bd ha (bd hla (bd ha2 (bd ho2 (bd f4 ?_)))))
      rw [kLoop_normal]
      exact grow_inner hp hM hl hs K m (k + 1) f _ (by omega) (by omega) (Nat.or_lt_two_pow hnx hlt)
    · rw [decide_eq_false e, if_neg e]
      refine cdF (bd f4 ?_)
      rw [kLoop_normal]
      exact grow_inner hp hM hl hs K m (k + 1) f _ (by omega) (by omega) hnx

theorem grow_loop {M : List Nat} {p : PV} {h : PHeap} (hp : IntSl .i64 h p (ints M)) (hM : ∀ m ∈ M, m < 2 ^ 9) (hl : M.length ≤ 9) {set : Nat} (hs : set < 2 ^ 9) (hlf : 20 < lf) : ∀ (f fuel now : Nat), (∀ j, now.testBit j = true → set.testBit j = true) → set < now + f → f + 1 < fuel →
    loopK (ev ((env g lf n).cx Tryd.prog spec_l2Grow.kl) spec_l2Grow.lp0) fuel (spec_l2Grow.st0 p (.int .i64 (set : Int)) (.int .i64 (now : Int)) (.bool true) h) (spec_l2Grow.K0 (env g lf n) (kTop Tryd.prog Tryd.f84)) = some (.int .i64 (growF M set f now : Int), h)
  | 0, fuel, now, hsub, hf, hfu => by have := sub_le hsub; omega
  | f + 1, fuel, now, hsub, hf, hfu => by
    obtain ⟨F, rfl⟩ : ∃ F, fuel = F + 1 := ⟨fuel - 1, by omega⟩
    have hnow : now < 2 ^ 9 := Nat.lt_of_le_of_lt (sub_le hsub) hs
    have inner := grow_inner g lf n hp hM hl (set := set) (now := now) hs (kLoop (ev ((env g lf n).cx Tryd.prog spec_l2Grow.kl) spec_l2Grow.lp0) F (spec_l2Grow.K0 (env g lf n) (kTop Tryd.prog Tryd.f84))) M.length 0 lf now (by omega) (by omega) hnow
    rw [List.drop_zero] at inner
    rw [loopK_succ, spec_l2Grow.body0_eq]
    unfold spec_l2Grow.body0
    refine cdT (inner.trans ?_)
    rw [kLoop_normal, growF]
    by_cases e : stepFrom set now 0 M now = now
    · rw [if_pos e, e, decide_eq_true rfl, Bool.not_true]
      obtain ⟨F', rfl⟩ : ∃ F', F = F' + 1 := ⟨F - 1, by omega⟩
      rw [loopK_succ, spec_l2Grow.body0_eq]
      unfold spec_l2Grow.body0
      refine cdF ?_
      rw [kLoop_exit, spec_l2Grow.after0_se0_0_1_7_14]
      exact bd res_int rfl
    · rw [if_neg e, decide_eq_false e, Bool.not_false]
      have hle := stepFrom_le set now M 0 now
      exact grow_loop hp hM hl hs hlf f F _ (step_sub hsub) (by omega) (by omega)

theorem l2Grow_calls {M : List Nat} {p : PV} {h : PHeap} (hp : IntSl .i64 h p (ints M)) (hM : ∀ m ∈ M, m < 2 ^ 9) (hl : M.length ≤ 9) {set fr : Nat} (hs : set < 2 ^ 9) (hfr : fr < 2 ^ 62) (N : Nat) (hN : 1 ≤ N) (hlf : 1000 < lf) :
    CL g lf N fn_spec_l2Grow [p, .int .i64 (set : Int), .int .i64 (fr : Int)] h = some (.int .i64 (growN M set fr : Int), h) := by
  obtain ⟨n, rfl⟩ : ∃ n, N = n + 1 := ⟨N - 1, by omega⟩
  rw [spec_l2Grow.call_eq]
  unfold spec_l2Grow.main
  refine bd (f_and (a := fr) (b := set) hfr (by omega)) ?_
  exact grow_loop g lf n hp hM hl hs (by omega) 600 lf (fr &&& set) (fun j hj => by rw [Nat.testBit_and, Bool.and_eq_true] at hj; exact hj.2) (by omega) (by omega)

def joinsN (R C P S : Nat) : Bool := !decide (growN (masksN R C) S (sideN R C P false) &&& sideN R C P true = 0)

theorem l2Joins_calls {R C P S : Nat} (hB : BoardOf R C) (hP : P = 1 ∨ P = 2) {p : PV} {h : PHeap} (hp : IntSl .i64 h p (ints (masksN R C))) (hs : S < 2 ^ 9) (N : Nat) (hN : 2 ≤ N) (hlf : 1000 < lf) :
    CL g lf N fn_spec_l2Joins [.int .i64 (R : Int), .int .i64 (C : Int), p, .int .i64 (S : Int), .int .i64 (P : Int)] h = some (.bool (joinsN R C P S), h) := by
  obtain ⟨n, rfl⟩ : ∃ n, N = n + 1 := ⟨N - 1, by omega⟩
  rw [spec_l2Joins.call_eq]
  have s1 := l2Side_calls g lf hB hP false n (by omega) (by omega) h
  have s2 := l2Side_calls g lf hB hP true n (by omega) (by omega) h
  have l1 := sideN_lt (P := P) (last := false) hB
  have l2 := sideN_lt (P := P) (last := true) hB
  have gr := l2Grow_calls g lf hp (masksN_lt hB) (by rw [masksN_length]; exact hB.2.2.2.2) hs (fr := sideN R C P false) (by omega) n (by omega) hlf
  have lg := grow_lt (M := masksN R C) (fr := sideN R C P false) hs
  have fa := f_and (a := growN (masksN R C) S (sideN R C P false)) (b := sideN R C P true) (by omega) (by omega)
  have fn' : binP Tryd.prog .neq 3 (.int .i64 ((growN (masksN R C) S (sideN R C P false) &&& sideN R C P true : Nat) : Int)) (.int .i64 0) = some (.bool (joinsN R C P S)) := by
    rw [bin_neq]
    unfold joinsN
    exact congrArg (fun z => some (PV.bool (!z))) (natEq _ 0)
  unfold spec_l2Joins.main
  exact bd s1 (bd gr (bd s2 (bd fa (bd fn' (bd res_bool rfl)))))

end Go.Proofs.YtkbnngklbfnkiaaDoor

/- The model's chapter 2: what Joins, GroupOf, GapOf, Filled and GapCells of it compute. -/
namespace Go.Proofs.YtkbnngklbfnkiaaDoor
open Go Go.Ip G

def playerB (p : Int) : Bool := decide (1 ≤ p ∧ p ≤ 2)
def joinsL (r c : Int) (xs : List Int) (p : Int) : Bool := posB r c xs && playerB p && joinsN r.toNat c.toNat p.toNat (setL xs p)
def gapOfN (R C P : Nat) (xs : List Int) : Int := gapN (masksN R C) (setL xs P) (setL xs 0) (sideN R C P false) (sideN R C P true) (R * C)
def gapL (r c : Int) (xs : List Int) (p : Int) : Int := if (posB r c xs && playerB p) = true then gapOfN r.toNat c.toNat p.toNat xs else -1
def fillL (p x : Int) : Int := if x = 0 then p else x
def filledL (r c : Int) (xs : List Int) (p : Int) : List Int := if (posB r c xs && playerB p) = true then xs.map (fillL p) else []
def listFrom (set : Nat) : Nat → Nat → List Int
  | 0, _ => []
  | m + 1, k => if set >>> k % 2 = 1 then (k : Int) :: listFrom set m (k + 1) else listFrom set m (k + 1)
def listN (set : Nat) : List Int := listFrom set 9 0
def stoneB (r c : Int) (xs : List Int) (k : Int) : Bool := posB r c xs && decide (0 ≤ k ∧ k < (xs.length : Int)) && !decide (xs.getD k.toNat 0 = 0)
def groupL (r c : Int) (xs : List Int) (k : Int) : List Int := if stoneB r c xs k = true then listN (growN (masksN r.toNat c.toNat) (setL xs (xs.getD k.toNat 0)) (1 <<< k.toNat)) else []
def gapCellsL (r c : Int) (xs : List Int) (p : Int) : List Int :=
  if 0 < gapL r c xs p then ((List.range xs.length).filter fun k => decide (xs.getD k 0 = 0) && decide (gapL r c (xs.set k p) p = gapL r c xs p - 1)).map fun k : Nat => (k : Int) else []

theorem board_of_sides {r c : Int} {R C : Nat} {xs : List Int} (h : Sides r c R C xs) : BoardOf R C := by
  obtain ⟨_, _, h1, h2, h3, h4, h9, _, _⟩ := h
  exact ⟨h1, h2, h3, h4, h9⟩
theorem player_of {p : Int} (h : playerB p = true) : ∃ P : Nat, p = (P : Int) ∧ (P = 1 ∨ P = 2) := by
  unfold playerB at h
  have := of_decide_eq_true h
  obtain ⟨P, rfl⟩ := Int.eq_ofNat_of_zero_le (show 0 ≤ p by omega)
  exact ⟨P, rfl, by omega⟩

variable (g : Nat → PV) (lf n : Nat)

/-! ### a set's list -/
theorem listFrom_length (set : Nat) : ∀ (m k : Nat), (listFrom set m k).length ≤ m
  | 0, _ => Nat.le_refl _
  | m + 1, k => by
    have := listFrom_length set m (k + 1)
    rw [listFrom]; split
    · rw [List.length_cons]; omega
    · omega
theorem listN_length (set : Nat) : (listN set).length ≤ 9 := listFrom_length set 9 0

theorem listFrom_nil {set : Nat} : ∀ (m k : Nat), set >>> k = 0 → listFrom set m k = []
  | 0, _, _ => rfl
  | m + 1, k, h => by
    have h2 : set >>> (k + 1) = 0 := by rw [Nat.shiftRight_add, h]; rfl
    rw [listFrom, h, if_neg (by decide), listFrom_nil m (k + 1) h2]

theorem list_loop {set : Nat} (hs : set < 2 ^ 9) : ∀ (m k fuel : Nat) (q : PV) (ys : List Int) (h : PHeap) (b : Nat), k + m = 9 → m < fuel → ys.length ≤ k → OwnSl b h q ys → b ≤ h.length →
    ∃ q' h', loopK (ev ((env g lf n).cx Tryd.prog spec_l2List.kl) spec_l2List.lp0) fuel (spec_l2List.st0 (.int .i64 (set : Int)) q (.int .i64 (k : Int)) h) (spec_l2List.K0 (env g lf n) (kTop Tryd.prog Tryd.f71)) = some (q', h') ∧
      OwnSl b h' q' (ys ++ listFrom set m k) ∧ Keep b h h'
  | m, k, fuel, q, ys, h, b, hkm, hf, hy, ho, hb => by
    obtain ⟨f, rfl⟩ : ∃ f, fuel = f + 1 := ⟨fuel - 1, by omega⟩
    obtain ⟨b1, b2, b3⟩ := bitq set k (by omega)
    have g1 : binP Tryd.prog .gtr 3 (.int .i64 ((set >>> k : Nat) : Int)) (.int .i64 0) = some (.bool (decide (0 < set >>> k))) := by
      rw [bin_gtr]
      congr 2
      apply decide_eq_decide.2
      omega
    by_cases hz : set >>> k = 0
    · refine ⟨q, h, ?_, by rw [listFrom_nil m k hz, List.append_nil]; exact ho, Keep.refl _ _⟩
      rw [loopK_succ, spec_l2List.body0_eq]
      rw [decide_eq_false (by omega)] at g1
      unfold spec_l2List.body0
      refine bd b1 (bd g1 (cdF ?_))
      rw [kLoop_exit, spec_l2List.after0_se0_0_3_4_9]
      exact bd ho.res rfl
    · match m with
      | 0 =>
        obtain rfl : k = 9 := by omega
        exact absurd (by rw [Nat.shiftRight_eq_div_pow]; exact Nat.div_eq_of_lt hs) hz
      | m + 1 =>
        have f4 : binP Tryd.prog .add 3 (.int .i64 (k : Int)) (.int .i64 1) = some (.int .i64 ((k + 1 : Nat) : Int)) := by rw [bin_add, nx (by omega)]
        rw [decide_eq_true (Nat.pos_of_ne_zero hz)] at g1
        rw [listFrom]
        by_cases e : set >>> k % 2 = 1
        · rw [if_pos e]
          rw [decide_eq_true e] at b3
          obtain ⟨v, q2, h2', hb2, ha2, ho2, hk2⟩ := ho.append hb (k : Int) (by omega)
          obtain ⟨q', h', ih, o', k'⟩ := list_loop hs m (k + 1) f q2 (ys ++ [(k : Int)]) h2' b (by omega) (by omega) (by simp; omega) ho2 (by have := hk2.1; omega)
          refine ⟨q', h', ?_, by simpa using o', hk2.trans k'⟩
          rw [loopK_succ, spec_l2List.body0_eq]
          unfold spec_l2List.body0
          exact bd b1 (bd g1 (cdT (bd b1 (bd b2 (bd b3 (cdT (bd hb2 (bd ha2 (bd f4 ih)))))))))
        · rw [if_neg e]
          rw [decide_eq_false e] at b3
          obtain ⟨q', h', ih, o', k'⟩ := list_loop hs m (k + 1) f q ys h b (by omega) (by omega) (by omega) ho hb
          refine ⟨q', h', ?_, o', k'⟩
          rw [loopK_succ, spec_l2List.body0_eq]
          unfold spec_l2List.body0
          exact bd b1 (bd g1 (cdT (bd b1 (bd b2 (bd b3 (cdF (bd f4 ih)))))))
termination_by m => m

theorem l2List_calls {set : Nat} (hs : set < 2 ^ 9) (N : Nat) (hN : 1 ≤ N) (hlf : 20 < lf) {h : PHeap} :
    ∃ q h', CL g lf N fn_spec_l2List [.int .i64 (set : Int)] h = some (q, h') ∧ OwnSl h.length h' q (listN set) ∧ Keep h.length h h' := by
  obtain ⟨n, rfl⟩ : ∃ n, N = n + 1 := ⟨N - 1, by omega⟩
  rw [spec_l2List.call_eq]
  obtain ⟨q0, h0, e0, o0, k0⟩ := empty_lit (h := h)
  obtain ⟨q', h', e, o, k⟩ := list_loop g lf n hs 9 0 lf q0 [] h0 h.length (by omega) (by omega) (by simp) o0 k0.1
  refine ⟨q', h', ?_, by simpa [listN] using o, k0.trans k⟩
  unfold spec_l2List.main
  exact bd e0 e

/-! ### gaps -/
/-! ### the functions -/
theorem specJoins_calls {xs : List Int} {p : PV} {h : PHeap} (N : Nat) (hN : 4 ≤ N) (r c pl : Int) (hp : IntSl .i64 h p xs) (hl : xs.length ≤ 2 ^ 35) (hf : xs.length < lf) (hlf : 1000 < lf) :
    ∃ h', CL g lf N fn_spec_Joins [.int .i64 r, .int .i64 c, p, .int .i64 pl] h = some (.bool (joinsL r c xs pl), h') ∧ Keep h.length h h' := by
  obtain ⟨n, rfl⟩ : ∃ n, N = n + 1 := ⟨N - 1, by omega⟩
  rw [spec_Joins.call_eq]
  have hpos := specPositionOk_N g lf n (by omega) r c hp (by omega) hf
  have l1 := l1In_N g lf n (by omega) h pl 1 2
  unfold joinsL
  cases hb : posB r c xs with
  | false =>
    rw [hb] at hpos
    refine ⟨h, ?_, Keep.refl _ _⟩
    unfold spec_Joins.main
    refine bd hpos (bd un_not (gn rfl (bd rfl (gn rfl (bd rfl (gn rfl (bd rfl (bd (v := PV.bool true) rfl (cdT ?_)))))))))
    exact bd res_bool rfl
  | true =>
    rw [hb] at hpos
    cases hpl : playerB pl with
    | false =>
      unfold playerB at hpl
      rw [hpl] at l1
      refine ⟨h, ?_, Keep.refl _ _⟩
      unfold spec_Joins.main
      refine bd hpos (bd un_not (gd rfl (bd rfl (gd rfl (bd l1 (gd rfl (bd (v := (PV.bool true, h)) rfl (bd (v := PV.bool true) rfl (cdT ?_)))))))))
      exact bd res_bool rfl
    | true =>
      have hpl' := hpl
      unfold playerB at hpl'
      rw [hpl'] at l1
      obtain ⟨R, C, hS⟩ := sides_of hb
      obtain ⟨P, rfl, hP⟩ := player_of hpl
      have hB := board_of_sides hS
      obtain ⟨rfl, rfl, _, _, _, _, h9, hlen, _⟩ := id hS
      obtain ⟨q, h1, e1, o1, k1⟩ := l2Masks_calls g lf hB n (by omega) (by omega) (h := h)
      have e2 := l2Set_calls g lf (P : Int) (hp.keep k1) (by omega) n (by omega) (by omega)
      have hst := setL_lt (P : Int) (xs := xs) (n := 9) (by omega)
      have e3 := l2Joins_calls g lf hB hP o1.int hst n (by omega) hlf
      refine ⟨h1, ?_, k1⟩
      rw [Bool.and_self, Bool.true_and]
      unfold spec_Joins.main
      refine bd hpos (bd un_not (gd rfl (bd rfl (gd rfl (bd l1 (gd rfl (bd (v := (PV.bool false, h)) rfl (bd (v := PV.bool false) rfl (cdF ?_)))))))))
      exact bd e1 (bd e2 (bd e3 (bd res_bool rfl)))

end Go.Proofs.YtkbnngklbfnkiaaDoor

/- The model's Filled and GapCells. -/
namespace Go.Proofs.YtkbnngklbfnkiaaDoor
open Go Go.Ip G

variable (g : Nat → PV) (lf n : Nat)

/-- An empty literal, and a whole list appended: a copy. -/
theorem copy_all {xs : List Int} {p : PV} {h : PHeap} (hp : IntSl .i64 h p xs) (hx : 0 < xs.length) (hl : xs.length ≤ 2 ^ 36) :
    ∃ v q h', buildSliceP Tryd.prog 23 0 [] h = some v ∧ appendP Tryd.prog 23 23 v.1 p v.2 = some (q, h') ∧ OwnSl h.length h' q xs ∧ Keep h.length h h' := by
  rcases hp with ⟨rfl, rfl⟩ | ⟨id, off, rfl, hc⟩
  · simp at hx
  have hid : id < h.length := lt_of_cell (hc 0 _ (List.getElem?_eq_getElem hx))
  have hb : buildSliceP Tryd.prog 23 0 [] h = some (.sl h.length 0 0, h ++ [.own 1 []]) := by
    simp [buildSliceP, tyElem, tySize, tyZero, repeatCells, fillP]
  have hcells : ((cellsAt (h ++ [PObj.own 1 []]) id).drop off).take (xs.length * 1) = xs.map (.int .i64) := by
    rw [Nat.mul_one]
    apply List.ext_getElem?
    intro j
    have e : cellsAt (h ++ [PObj.own 1 []]) id = cellsAt h id := by unfold cellsAt; rw [List.getElem?_append_left hid]
    rw [e]
    by_cases hj : j < xs.length
    · rw [List.getElem?_take_of_lt hj, List.getElem?_drop, hc j _ (List.getElem?_eq_getElem hj), List.getElem?_map, List.getElem?_eq_getElem hj]; rfl
    · rw [List.getElem?_eq_none (by rw [List.length_take]; omega), List.getElem?_eq_none (by simp; omega)]
  have hfit : off + xs.length * 1 ≤ (cellsAt (h ++ [PObj.own 1 []]) id).length := by
    have := congrArg List.length hcells
    simp only [List.length_take, List.length_drop, List.length_map, Nat.mul_one] at this ⊢
    omega
  have hsrc : srcP (h ++ [PObj.own 1 []]) 1 (.sl id off xs.length) = some (xs.length, xs.map (.int .i64)) := by
    simp only [srcP]
    rw [if_pos hfit, hcells]
  refine ⟨_, .sl (h.length + 1) 0 (0 + xs.length), ((h ++ [PObj.own 1 []]).set h.length .dead ++ [PObj.own 1 ([] ++ xs.map (.int .i64))]), hb, ?_, .inr ⟨h.length + 1, by omega, by simp, ?_⟩, ?_⟩
  · simp only [appendP, tyElem, tySize, tySmall, bne_self_eq_false, Bool.not_true, Bool.or_self, Bool.false_eq_true, if_false, hsrc, Option.bind_some]
    have h3 : (h ++ [PObj.own 1 []])[h.length]? = some (.own 1 []) := by simp
    rw [h3]
    have : 0 + xs.length ≤ 2 ^ 36 := by omega
    simp only [List.length_nil, Nat.zero_mul, true_and, if_pos this]
    simp
  · rw [List.getElem?_append_right (by simp)]; simp
  · exact (((Keep.append _ h _ (Nat.le_refl _)).trans (Keep.set _ _ h.length .dead (Nat.le_refl _))).trans (Keep.append _ _ _ (by simp)))

/-! ### the cells that close a gap -/
def gcFrom (r c : Int) (xs : List Int) (p G : Int) : Nat → Nat → List Int
  | 0, _ => []
  | m + 1, k => if xs.getD k 0 = 0 ∧ gapL r c (xs.set k p) p = G - 1 then (k : Int) :: gcFrom r c xs p G m (k + 1) else gcFrom r c xs p G m (k + 1)

theorem gcFrom_length (r c : Int) (xs : List Int) (p G : Int) : ∀ m k, (gcFrom r c xs p G m k).length ≤ m
  | 0, _ => Nat.le_refl _
  | m + 1, k => by
    have := gcFrom_length r c xs p G m (k + 1)
    rw [gcFrom]; split
    · rw [List.length_cons]; omega
    · omega

theorem gcFrom_eq (r c : Int) (xs : List Int) (p G : Int) : ∀ m k, gcFrom r c xs p G m k = ((List.range' k m).filter fun k => decide (xs.getD k 0 = 0) && decide (gapL r c (xs.set k p) p = G - 1)).map fun k : Nat => (k : Int)
  | 0, _ => rfl
  | m + 1, k => by
    rw [gcFrom, List.range'_succ, List.filter_cons, gcFrom_eq r c xs p G m (k + 1)]
    by_cases h : xs.getD k 0 = 0 ∧ gapL r c (xs.set k p) p = G - 1
    · rw [if_pos h, decide_eq_true h.1, decide_eq_true h.2]; rfl
    · rw [if_neg h, if_neg (by rw [Bool.and_eq_true, decide_eq_true_iff, decide_eq_true_iff]; exact h)]

theorem gapL_eq {R C P : Nat} {xs : List Int} (hb : posB (R : Int) (C : Int) xs = true) (hP : P = 1 ∨ P = 2) : gapL (R : Int) (C : Int) xs (P : Int) = gapN (masksN R C) (setL xs (P : Int)) (setL xs 0) (sideN R C P false) (sideN R C P true) (R * C) := by
  have hp : playerB (P : Int) = true := by rcases hP with rfl | rfl <;> rfl
  unfold gapL
  rw [hb, hp]; rfl

theorem gapL_small (r c : Int) (xs : List Int) (p : Int) : -1 ≤ gapL r c xs p ∧ gapL r c xs p ≤ 9 := by
  cases hbp : (posB r c xs && playerB p) with
  | false => unfold gapL; rw [hbp]; simp
  | true =>
    rw [Bool.and_eq_true] at hbp
    obtain ⟨R, C, hS⟩ := sides_of hbp.1
    obtain ⟨P, rfl, hP⟩ := player_of hbp.2
    obtain ⟨rfl, rfl, _, _, _, _, h9, hlen, _⟩ := id hS
    rw [gapL_eq hbp.1 hP]
    have hst := setL_lt (P : Int) (xs := xs) (n := 9) (by omega)
    have hst0 := setL_lt 0 (xs := xs) (n := R * C) (by omega)
    rcases gapN_spec (M := masksN R C) (own := setL xs (P : Int)) (edge := sideN R C P false) (last := sideN R C P true) h9 hst hst0 with ⟨k, hk, hg⟩ | ⟨hk, _⟩
    · have := gap_pop (Nat.lt_of_lt_of_le hst0 (Nat.pow_le_pow_right (by decide) h9)) hg
      have := pop_le h9 hst0
      rw [hk]; omega
    · rw [hk]; omega

end Go.Proofs.YtkbnngklbfnkiaaDoor

/- Of all boards and all sets of cells: exactly one has joined on a full board; turned, and mirrored. No program text. -/
namespace Go.Proofs.YtkbnngklbfnkiaaDoor

def boards : List (Nat × Nat) := [(1, 1), (1, 2), (1, 3), (1, 4), (2, 1), (2, 2), (2, 3), (2, 4), (3, 1), (3, 2), (3, 3), (4, 1), (4, 2)]
theorem board_mem {R C : Nat} (h : BoardOf R C) : (R, C) ∈ boards := by
  obtain ⟨h1, h2, h3, h4, h9⟩ := h
  have hR : R = 1 ∨ R = 2 ∨ R = 3 ∨ R = 4 := by omega
  have hC : C = 1 ∨ C = 2 ∨ C = 3 ∨ C = 4 := by omega
  rcases hR with rfl | rfl | rfl | rfl <;> rcases hC with rfl | rfl | rfl | rfl <;> first | decide | omega

/-- The cells of a set, each at another place. -/
def moved (f : Nat → Nat) (S : Nat) : Nat → Nat
  | 0 => 0
  | k + 1 => moved f S k ||| (if S.testBit k then 1 <<< f k else 0)

def hexB (R C S : Nat) : Bool :=
  (joinsN R C 1 S != joinsN R C 2 (2 ^ (R * C) - 1 - S)) &&
  (joinsN R C 1 (moved (fun k => R * C - 1 - k) S (R * C)) == joinsN R C 1 S) && (joinsN R C 2 (moved (fun k => R * C - 1 - k) S (R * C)) == joinsN R C 2 S) &&
  (joinsN C R 2 (moved (sig C R) S (R * C)) == joinsN R C 1 S) && (joinsN C R 1 (moved (sig C R) S (R * C)) == joinsN R C 2 S)

theorem hex_all : (boards.all fun b => (List.range (2 ^ (b.1 * b.2))).all fun S => hexB b.1 b.2 S) = true := by kernel_rfl

theorem hex_ok {R C S : Nat} (hb : BoardOf R C) (hS : S < 2 ^ (R * C)) : hexB R C S = true := by
  have := List.all_eq_true.1 hex_all (R, C) (board_mem hb)
  exact List.all_eq_true.1 this S (by rw [List.mem_range]; exact hS)

end Go.Proofs.YtkbnngklbfnkiaaDoor

/- Promise 6: mirrored twice it is as before. -/
namespace Go.Proofs.YtkbnngklbfnkiaaDoor
open Go Go.Ip Go.RowKit G

variable (g : Nat → PV) (lf n : Nat)

theorem swapI_swapI (x : Int) : swapI (swapI x) = x := by
  unfold swapI
  by_cases h1 : x = 1
  · subst h1; decide
  · by_cases h2 : x = 2
    · subst h2; decide
    · simp [h1, h2]

theorem swapI_one (x : Int) : (swapI x == 1) = (x == 2) := by
  unfold swapI
  by_cases h1 : x = 1
  · subst h1; decide
  · by_cases h2 : x = 2
    · subst h2; decide
    · have b1 : (x == 1) = false := by simp [h1]
      have b2 : (x == 2) = false := by simp [h2]
      rw [if_neg h1, if_neg h2, b1, b2]

theorem swapI_content (x : Int) : contentB (swapI x) = contentB x := by
  unfold swapI
  by_cases h1 : x = 1
  · subst h1; decide
  · by_cases h2 : x = 2
    · subst h2; decide
    · simp [h1, h2]

theorem sig_perm_small : ∀ R : Fin 5, ∀ C : Fin 5, R.1 * C.1 ≤ 9 → ((List.range (R.1 * C.1)).map (sig R.1 C.1)).isPerm (List.range (R.1 * C.1)) = true := by decide

theorem sig_perm {R C : Nat} (h2 : R ≤ 4) (h4 : C ≤ 4) (h9 : R * C ≤ 9) : ((List.range (R * C)).map (sig R C)).Perm (List.range (R * C)) :=
  List.isPerm_iff.1 (sig_perm_small ⟨R, by omega⟩ ⟨C, by omega⟩ h9)

theorem map_getD_range (xs : List Int) : (List.range xs.length).map (fun k => xs.getD k 0) = xs := by
  apply List.ext_getElem?
  intro k
  rw [List.getElem?_map]
  by_cases hk : k < xs.length
  · rw [List.getElem?_range hk, List.getElem?_eq_getElem hk, Option.map_some, List.getD_eq_getElem?_getD, List.getElem?_eq_getElem hk]; rfl
  · rw [List.getElem?_eq_none (by rw [List.length_range]; omega), List.getElem?_eq_none (by omega)]; rfl

theorem mir_eq (R C : Nat) (xs : List Int) : mir R C xs = (((List.range xs.length).map (sig R C)).map (fun k => xs.getD k 0)).map swapI := by
  unfold mir
  rw [List.map_map, List.map_map]; rfl

theorem mir_perm {R C : Nat} {xs : List Int} (h2 : R ≤ 4) (h4 : C ≤ 4) (h9 : R * C ≤ 9) (hl : xs.length = R * C) : (mir R C xs).Perm (xs.map swapI) := by
  rw [mir_eq]
  refine List.Perm.map _ ?_
  have := (sig_perm h2 h4 h9).map (fun k => xs.getD k 0)
  rw [← hl, map_getD_range] at this
  exact this

theorem mir_length (R C : Nat) (xs : List Int) : (mir R C xs).length = xs.length := by simp [mir]

theorem count_swap (xs : List Int) : (xs.map swapI).count 1 = xs.count 2 := by
  induction xs with
  | nil => rfl
  | cons x xs ih => rw [List.map_cons, List.count_cons, List.count_cons, ih, swapI_one]

theorem mir_get {R C : Nat} {xs : List Int} {k : Nat} (hk : k < xs.length) : (mir R C xs)[k]? = some (swapI (xs.getD (sig R C k) 0)) := by
  unfold mir
  rw [List.getElem?_map, List.getElem?_range hk]; rfl

theorem mir_mir {R C : Nat} {xs : List Int} (h1 : 1 ≤ R) (h2 : R ≤ 4) (h3 : 1 ≤ C) (h4 : C ≤ 4) (h9 : R * C ≤ 9) (hl : xs.length = R * C) : mir C R (mir R C xs) = xs := by
  apply List.ext_getElem?
  intro k
  by_cases hk : k < xs.length
  · have hs := sig_lt (k := k) h3 h4 h1 h2 (by rw [Nat.mul_comm]; exact h9) (by rw [Nat.mul_comm C R]; omega)
    rw [Nat.mul_comm C R] at hs
    rw [mir_get (by rw [mir_length]; exact hk), List.getD_eq_getElem?_getD, mir_get (by omega), Option.getD_some, swapI_swapI, hs.2, List.getD_eq_getElem?_getD, List.getElem?_eq_getElem hk]; rfl
  · rw [List.getElem?_eq_none (by rw [mir_length, mir_length]; omega), List.getElem?_eq_none (by omega)]

theorem boardB_swap (r c : Int) : boardB c r = boardB r c := by
  unfold boardB
  rw [Int.mul_comm c r]
  apply decide_eq_decide.2
  constructor <;> intro h <;> omega

theorem posB_mir {r c : Int} {R C : Nat} {xs : List Int} (hs : Sides r c R C xs) (hp : posB r c xs = true) : posB c r (mir R C xs) = true := by
  obtain ⟨_, _, h1, h2, h3, h4, h9, hl, hall⟩ := hs
  unfold posB at hp ⊢
  rw [boardB_swap, mir_length, Int.mul_comm c r]
  rw [Bool.and_eq_true] at hp ⊢
  refine ⟨hp.1, ?_⟩
  rw [List.all_eq_true]
  intro x hx
  have := (mir_perm h2 h4 h9 hl).mem_iff.1 hx
  obtain ⟨y, hy, rfl⟩ := List.mem_map.1 this
  rw [swapI_content]
  exact List.all_eq_true.1 hall y hy

theorem cells_count {r c : Int} {xs : List Int} (h : posB r c xs = true) (x : Int) : (cellsL r c xs x).length = xs.count x := by
  unfold cellsL
  rw [if_pos h, cellsFrom_count]

theorem cells_mir {r c : Int} {R C : Nat} {xs : List Int} (hs : Sides r c R C xs) (hp : posB r c xs = true) : (cellsL c r (mir R C xs) 1).length = (cellsL r c xs 2).length := by
  obtain ⟨_, _, h1, h2, h3, h4, h9, hl, hall⟩ := id hs
  rw [cells_count (posB_mir hs hp), cells_count hp, (mir_perm h2 h4 h9 hl).count_eq, count_swap]

end Go.Proofs.YtkbnngklbfnkiaaDoor

/- What the laws of chapter 2 say of positions, as facts on sets of cells. No program text. -/
namespace Go.Proofs.YtkbnngklbfnkiaaDoor

/-! ### joined sides -/
theorem joins_iff {R C P S : Nat} (hS : S < 2 ^ 9) : joinsN R C P S = true ↔ ∃ j, (sideN R C P true).testBit j = true ∧ Reach (masksN R C) S (sideN R C P false) j := by
  unfold joinsN
  rw [Bool.not_eq_true', decide_eq_false_iff_not]
  constructor
  · intro h
    apply Classical.byContradiction
    intro hn
    exact h (and_zero.2 fun j h1 h2 => hn ⟨j, h2, (grow_bit hS j).1 h1⟩)
  · rintro ⟨j, h1, h2⟩ h
    exact and_zero.1 h j ((grow_bit hS j).2 h2) h1

theorem joins_mono {R C P S T : Nat} (hS : S < 2 ^ 9) (hT : T < 2 ^ 9) (h : ∀ j, S.testBit j = true → T.testBit j = true) (hj : joinsN R C P S = true) : joinsN R C P T = true := by
  obtain ⟨j, h1, h2⟩ := (joins_iff hS).1 hj
  exact (joins_iff hT).2 ⟨j, h1, h2.mono h (fun _ h => h)⟩

theorem compl_bit {n S : Nat} (hS : S < 2 ^ n) (j : Nat) : (2 ^ n - 1 - S).testBit j = (decide (j < n) && !S.testBit j) := by
  rw [Nat.sub_sub, Nat.add_comm 1 S]; exact Nat.testBit_two_pow_sub_succ hS j

theorem hex {R C P S : Nat} (hB : BoardOf R C) (hP : P = 1 ∨ P = 2) (hS : S < 2 ^ (R * C)) : joinsN R C P S = !joinsN R C (3 - P) (2 ^ (R * C) - 1 - S) := by
  have key : ∀ T, T < 2 ^ (R * C) → joinsN R C 1 T = !joinsN R C 2 (2 ^ (R * C) - 1 - T) := fun T hT => by
    have := hex_ok hB hT
    unfold hexB at this
    simp only [Bool.and_eq_true] at this
    have := this.1.1.1.1
    cases h1 : joinsN R C 1 T <;> cases h2 : joinsN R C 2 (2 ^ (R * C) - 1 - T) <;> rw [h1, h2] at this <;> first | rfl | cases this
  rcases hP with rfl | rfl
  · exact key S hS
  · have h2 := key (2 ^ (R * C) - 1 - S) (by omega)
    rw [show 2 ^ (R * C) - 1 - (2 ^ (R * C) - 1 - S) = S by omega] at h2
    rw [show 3 - 2 = 1 from rfl, h2, Bool.not_not]

theorem content_cases {R C : Nat} {r c : Int} {xs : List Int} (hs : Sides r c R C xs) {j : Nat} (hj : j < R * C) : xs[j]? = some 0 ∨ xs[j]? = some 1 ∨ xs[j]? = some 2 := by
  obtain ⟨_, _, _, _, _, _, _, hlen, hall⟩ := hs
  have hj' : j < xs.length := by omega
  have := List.all_eq_true.1 hall _ (List.getElem_mem hj')
  unfold contentB at this
  have := of_decide_eq_true this
  rw [List.getElem?_eq_getElem hj']
  have h3 : xs[j] = 0 ∨ xs[j] = 1 ∨ xs[j] = 2 := by omega
  rcases h3 with h | h | h <;> rw [h] <;> simp

theorem set_lt {R C : Nat} {r c : Int} {xs : List Int} (hs : Sides r c R C xs) (w : Int) : setL xs w < 2 ^ (R * C) := setL_lt w (by have := hs.2.2.2.2.2.2.2.1; omega)
theorem set_lt9 {R C : Nat} {r c : Int} {xs : List Int} (hs : Sides r c R C xs) (w : Int) : setL xs w < 2 ^ 9 := setL_lt w (by have := hs.2.2.2.2.2.2.2.1; have := hs.2.2.2.2.2.2.1; omega)

theorem set_in {R C : Nat} {r c : Int} {xs : List Int} (hs : Sides r c R C xs) {w : Int} {j : Nat} (h : (setL xs w).testBit j = true) : j < R * C := bit_small (set_lt hs w) h

/-- The cells that are not the other one's. -/
theorem own_free {R C P : Nat} {r c : Int} {xs : List Int} (hs : Sides r c R C xs) (hP : P = 1 ∨ P = 2) : 2 ^ (R * C) - 1 - setL xs ((3 - P : Nat) : Int) = setL xs (P : Int) ||| setL xs 0 := by
  apply Nat.eq_of_testBit_eq
  intro j
  rw [compl_bit (set_lt hs _), Nat.testBit_or, Bool.eq_iff_iff, Bool.and_eq_true, Bool.or_eq_true, decide_eq_true_iff, Bool.not_eq_true']
  constructor
  · rintro ⟨hj, hn⟩
    have hn' : ¬ (setL xs ((3 - P : Nat) : Int)).testBit j = true := by rw [hn]; simp
    rw [setL_bit] at hn'
    rw [setL_bit, setL_bit]
    rcases hP with rfl | rfl <;> rcases content_cases hs hj with h | h | h <;> rw [h] at hn' ⊢ <;> first | (left; rfl) | (right; rfl) | exact absurd rfl hn'
  · intro h
    have hj : j < R * C := by rcases h with h | h <;> exact set_in hs h
    refine ⟨hj, ?_⟩
    cases e : (setL xs ((3 - P : Nat) : Int)).testBit j with
    | false => rfl
    | true =>
      rw [setL_bit] at e
      rw [setL_bit, setL_bit, e] at h
      rcases hP with rfl | rfl <;> rcases h with h | h <;> cases h

theorem joinsL_eq {R C P : Nat} {xs : List Int} (hb : posB (R : Int) (C : Int) xs = true) (hP : P = 1 ∨ P = 2) : joinsL (R : Int) (C : Int) xs (P : Int) = joinsN R C P (setL xs (P : Int)) := by
  have hp : playerB (P : Int) = true := by rcases hP with rfl | rfl <;> rfl
  unfold joinsL
  rw [hb, hp]; rfl

/-- The other one has joined just if all but its stones do not join. -/
theorem other_joins {R C P : Nat} {r c : Int} {xs : List Int} (hs : Sides r c R C xs) (hP : P = 1 ∨ P = 2) : joinsN R C P (setL xs (P : Int) ||| setL xs 0) = !joinsN R C (3 - P) (setL xs ((3 - P : Nat) : Int)) := by
  have hB := board_of_sides hs
  have hP' : 3 - P = 1 ∨ 3 - P = 2 := by omega
  have := hex hB hP' (set_lt hs ((3 - P : Nat) : Int))
  rw [own_free hs hP, show 3 - (3 - P) = P by omega] at this
  rw [this, Bool.not_not]

theorem never_both {R C P : Nat} {r c : Int} {xs : List Int} (hs : Sides r c R C xs) (hP : P = 1 ∨ P = 2) (h : joinsN R C P (setL xs (P : Int)) = true) : joinsN R C (3 - P) (setL xs ((3 - P : Nat) : Int)) = false := by
  have hm := joins_mono (set_lt9 hs _) (Nat.or_lt_two_pow (set_lt9 hs _) (set_lt9 hs 0)) (fun j hj => by rw [Nat.testBit_or, hj]; rfl) h
  rw [other_joins hs hP] at hm
  simpa using hm

/-! ### filled -/
theorem filled_set {R C P : Nat} {r c : Int} {xs : List Int} (hs : Sides r c R C xs) (hP : P = 1 ∨ P = 2) : setL (xs.map (fillL (P : Int))) (P : Int) = setL xs (P : Int) ||| setL xs 0 ∧ setL (xs.map (fillL (P : Int))) ((3 - P : Nat) : Int) = setL xs ((3 - P : Nat) : Int) ∧ setL (xs.map (fillL (P : Int))) 0 = 0 := by
  refine ⟨?_, ?_, ?_⟩ <;> apply Nat.eq_of_testBit_eq <;> intro j <;> rw [Bool.eq_iff_iff]
  · rw [Nat.testBit_or, Bool.or_eq_true, setL_bit, setL_bit, setL_bit, List.getElem?_map]
    cases e : xs[j]? with
    | none => simp
    | some x =>
      simp only [Option.map_some, Option.some.injEq]
      unfold fillL
      split
      · rename_i h; subst h; simp
      · rename_i h; simp [h]
  · rw [setL_bit, setL_bit, List.getElem?_map]
    cases e : xs[j]? with
    | none => simp
    | some x =>
      simp only [Option.map_some, Option.some.injEq]
      unfold fillL
      split
      · rename_i h; subst h; rcases hP with rfl | rfl <;> simp
      · exact Iff.rfl
  · rw [setL_bit, List.getElem?_map, Nat.zero_testBit]
    cases e : xs[j]? with
    | none => simp
    | some x =>
      simp only [Option.map_some, Option.some.injEq]
      unfold fillL
      split
      · rcases hP with rfl | rfl <;> simp
      · rename_i h; simp [h]

theorem filled_pos {P : Nat} {r c : Int} {xs : List Int} (hb : posB r c xs = true) (hP : P = 1 ∨ P = 2) : posB r c (xs.map (fillL (P : Int))) = true := by
  unfold posB at hb ⊢
  rw [List.length_map]
  rw [Bool.and_eq_true] at hb ⊢
  refine ⟨hb.1, ?_⟩
  rw [List.all_map, List.all_eq_true]
  intro x hx
  have := List.all_eq_true.1 hb.2 x hx
  show contentB (fillL (P : Int) x) = true
  unfold fillL
  split
  · rcases hP with rfl | rfl <;> rfl
  · exact this

/-! ### turned and mirrored -/
theorem moved_bit (f : Nat → Nat) (S : Nat) : ∀ (n j : Nat), (moved f S n).testBit j = true ↔ ∃ k, k < n ∧ S.testBit k = true ∧ j = f k
  | 0, j => by simp [moved]
  | n + 1, j => by
    rw [moved, Nat.testBit_or, Bool.or_eq_true, moved_bit f S n j]
    have hlast : ((if S.testBit n = true then 1 <<< f n else 0).testBit j = true) ↔ (S.testBit n = true ∧ j = f n) := by
      by_cases h : S.testBit n = true
      · rw [if_pos h, one_bit, decide_eq_true_iff]; simp [h]
      · rw [if_neg h, Nat.zero_testBit]; simp [h]
    rw [hlast]
    constructor
    · rintro (⟨k, h1, h2, h3⟩ | ⟨h1, h2⟩)
      · exact ⟨k, by omega, h2, h3⟩
      · exact ⟨n, by omega, h1, h2⟩
    · rintro ⟨k, h1, h2, h3⟩
      by_cases e : k = n
      · subst e; exact .inr ⟨h2, h3⟩
      · exact .inl ⟨k, by omega, h2, h3⟩

theorem setL_reverse (xs : List Int) (w : Int) : setL xs.reverse w = moved (fun k => xs.length - 1 - k) (setL xs w) xs.length := by
  apply Nat.eq_of_testBit_eq
  intro j
  rw [Bool.eq_iff_iff, setL_bit, moved_bit]
  constructor
  · intro h
    have hj : j < xs.length := by
      have := (List.getElem?_eq_some_iff.1 h).1
      rwa [List.length_reverse] at this
    rw [List.getElem?_reverse hj] at h
    exact ⟨xs.length - 1 - j, by omega, setL_bit.2 h, by omega⟩
  · rintro ⟨k, h1, h2, rfl⟩
    rw [List.getElem?_reverse (by omega), show xs.length - 1 - (xs.length - 1 - k) = k by omega]
    exact setL_bit.1 h2

theorem setL_mir {R C : Nat} {r c : Int} {xs : List Int} (hs : Sides r c R C xs) (w : Int) : setL (mir R C xs) (swapI w) = moved (sig C R) (setL xs w) (R * C) := by
  obtain ⟨_, _, h1, h2, h3, h4, h9, hlen, _⟩ := hs
  apply Nat.eq_of_testBit_eq
  intro j
  rw [Bool.eq_iff_iff, setL_bit, moved_bit]
  constructor
  · intro h
    have hj : j < xs.length := by
      have := (List.getElem?_eq_some_iff.1 h).1
      rwa [mir_length] at this
    have hsg := sig_lt (k := j) h1 h2 h3 h4 h9 (by omega)
    rw [mir_get hj] at h
    have hk : sig R C j < xs.length := by omega
    have := congrArg swapI (Option.some.inj h)
    rw [swapI_swapI, swapI_swapI, List.getD_eq_getElem?_getD, List.getElem?_eq_getElem hk] at this
    refine ⟨sig R C j, by omega, setL_bit.2 ?_, hsg.2.symm⟩
    rw [List.getElem?_eq_getElem hk]
    exact congrArg some this
  · rintro ⟨k, hk, hb, rfl⟩
    have hsg := sig_lt (k := k) h3 h4 h1 h2 (by rw [Nat.mul_comm]; exact h9) (by rw [Nat.mul_comm C R]; exact hk)
    rw [Nat.mul_comm C R] at hsg
    have hkl : k < xs.length := by omega
    rw [mir_get (by omega), hsg.2, List.getD_eq_getElem?_getD, setL_bit.1 hb]; rfl

theorem swap_player {P : Nat} (hP : P = 1 ∨ P = 2) : swapI (P : Int) = ((3 - P : Nat) : Int) := by rcases hP with rfl | rfl <;> rfl

theorem joins_turned {R C P : Nat} {r c : Int} {xs : List Int} (hs : Sides r c R C xs) (hP : P = 1 ∨ P = 2) : joinsN R C P (setL xs.reverse (P : Int)) = joinsN R C P (setL xs (P : Int)) := by
  have hlen := hs.2.2.2.2.2.2.2.1
  have hh := hex_ok (board_of_sides hs) (set_lt hs (P : Int))
  unfold hexB at hh
  simp only [Bool.and_eq_true, beq_iff_eq] at hh
  rw [setL_reverse, hlen]
  rcases hP with rfl | rfl
  · exact hh.1.1.1.2
  · exact hh.1.1.2

theorem joins_mirrored {R C P : Nat} {r c : Int} {xs : List Int} (hs : Sides r c R C xs) (hP : P = 1 ∨ P = 2) : joinsN C R (3 - P) (setL (mir R C xs) ((3 - P : Nat) : Int)) = joinsN R C P (setL xs (P : Int)) := by
  have hh := hex_ok (board_of_sides hs) (set_lt hs (P : Int))
  unfold hexB at hh
  simp only [Bool.and_eq_true, beq_iff_eq] at hh
  rw [← swap_player hP, setL_mir hs]
  rcases hP with rfl | rfl
  · exact hh.1.2
  · exact hh.2

/-! ### gaps -/
theorem gap_spec {R C P : Nat} {r c : Int} {xs : List Int} (hs : Sides r c R C xs) :
    (∃ k : Nat, gapN (masksN R C) (setL xs (P : Int)) (setL xs 0) (sideN R C P false) (sideN R C P true) (R * C) = (k : Int) ∧ IsGap (masksN R C) (setL xs (P : Int)) (setL xs 0) (sideN R C P false) (sideN R C P true) k) ∨
    (gapN (masksN R C) (setL xs (P : Int)) (setL xs 0) (sideN R C P false) (sideN R C P true) (R * C) = -1 ∧ ∀ k, ¬ Hits (masksN R C) (setL xs (P : Int)) (setL xs 0) (sideN R C P false) (sideN R C P true) k) :=
  gapN_spec hs.2.2.2.2.2.2.1 (set_lt9 hs _) (set_lt hs 0)

theorem hits_zero {M : List Nat} {own free edge last : Nat} : Hits M own free edge last 0 ↔ ∃ j, last.testBit j = true ∧ Reach M own edge j := by
  unfold Hits
  constructor
  · rintro ⟨j, h1, h2⟩; exact ⟨j, h1, cost_zero.1 h2⟩
  · rintro ⟨j, h1, h2⟩; exact ⟨j, h1, cost_zero.2 h2⟩

theorem hits_any {M : List Nat} {own free edge last : Nat} : (∃ k, Hits M own free edge last k) ↔ ∃ j, last.testBit j = true ∧ Reach M (own ||| free) edge j := by
  unfold Hits
  constructor
  · rintro ⟨k, j, h1, h2⟩; exact ⟨j, h1, cost_any.1 ⟨k, h2⟩⟩
  · rintro ⟨j, h1, h2⟩
    obtain ⟨k, h2⟩ := cost_any.2 h2
    exact ⟨k, j, h1, h2⟩

theorem gap_zero_iff {R C P : Nat} {r c : Int} {xs : List Int} (hs : Sides r c R C xs) : gapN (masksN R C) (setL xs (P : Int)) (setL xs 0) (sideN R C P false) (sideN R C P true) (R * C) = 0 ↔ joinsN R C P (setL xs (P : Int)) = true := by
  rw [joins_iff (set_lt9 hs _), ← hits_zero (free := setL xs 0)]
  rcases gap_spec (P := P) hs with ⟨k, hk, hg⟩ | ⟨hk, hn⟩
  · rw [hk]
    constructor
    · intro h; obtain rfl : k = 0 := by omega
      exact hg.1
    · intro h
      rcases Nat.eq_zero_or_pos k with h0 | h0
      · rw [h0]; rfl
      · exact absurd h (hg.2 0 h0)
  · rw [hk]
    constructor
    · intro h; cases h
    · intro h; exact absurd h (hn 0)

theorem gap_none_iff {R C P : Nat} {r c : Int} {xs : List Int} (hs : Sides r c R C xs) (hP : P = 1 ∨ P = 2) : gapN (masksN R C) (setL xs (P : Int)) (setL xs 0) (sideN R C P false) (sideN R C P true) (R * C) = -1 ↔ joinsN R C (3 - P) (setL xs ((3 - P : Nat) : Int)) = true := by
  have ho := other_joins hs hP
  have hany : (∃ k, Hits (masksN R C) (setL xs (P : Int)) (setL xs 0) (sideN R C P false) (sideN R C P true) k) ↔ joinsN R C P (setL xs (P : Int) ||| setL xs 0) = true := by
    rw [joins_iff (Nat.or_lt_two_pow (set_lt9 hs _) (set_lt9 hs 0)), hits_any]
  rcases gap_spec (P := P) hs with ⟨k, hk, hg⟩ | ⟨hk, hn⟩
  · have := hany.1 ⟨k, hg.1⟩
    rw [ho] at this
    rw [hk]
    constructor
    · intro h; omega
    · intro h; rw [h] at this; cases this
  · rw [hk]
    refine ⟨fun _ => ?_, fun _ => rfl⟩
    have : ¬ joinsN R C P (setL xs (P : Int) ||| setL xs 0) = true := fun h => by
      obtain ⟨k, h⟩ := hany.2 h
      exact hn k h
    rw [ho] at this
    simpa using this

/-- A stone more on a free cell. -/
theorem set_more {R C P : Nat} {r c : Int} {xs : List Int} (hs : Sides r c R C xs) (hP : P = 1 ∨ P = 2) {k : Nat} (hk : xs[k]? = some 0) : setL (xs.set k (P : Int)) (P : Int) = setL xs (P : Int) ||| (1 <<< k) ∧ setL (xs.set k (P : Int)) 0 = without (setL xs 0) k ∧ Sides r c R C (xs.set k (P : Int)) := by
  have hkl : k < xs.length := (List.getElem?_eq_some_iff.1 hk).1
  refine ⟨?_, ?_, ?_⟩
  · apply Nat.eq_of_testBit_eq
    intro j
    rw [with_bit, Bool.eq_iff_iff, Bool.or_eq_true, decide_eq_true_iff, setL_bit, setL_bit, List.getElem?_set]
    by_cases e : k = j
    · subst e; simp [hkl]
    · rw [if_neg e]
      constructor
      · exact .inl
      · rintro (h | h)
        · exact h
        · exact absurd h.symm e
  · apply Nat.eq_of_testBit_eq
    intro j
    rw [without_bit, Bool.eq_iff_iff, Bool.and_eq_true, decide_eq_true_iff, setL_bit, setL_bit, List.getElem?_set]
    by_cases e : k = j
    · subst e
      rcases hP with rfl | rfl <;> simp [hkl]
    · rw [if_neg e]
      exact ⟨fun h => ⟨h, fun h2 => e h2.symm⟩, fun h => h.1⟩
  · obtain ⟨a1, a2, a3, a4, a5, a6, a7, a8, a9⟩ := hs
    refine ⟨a1, a2, a3, a4, a5, a6, a7, by rw [List.length_set]; exact a8, ?_⟩
    rw [List.all_eq_true]
    intro x hx
    rcases List.mem_or_eq_of_mem_set hx with hx | rfl
    · exact List.all_eq_true.1 a9 x hx
    · rcases hP with rfl | rfl <;> rfl

theorem gap_stone {R C P : Nat} {r c : Int} {xs : List Int} (hs : Sides r c R C xs) (hP : P = 1 ∨ P = 2) {k : Nat} (hk : xs[k]? = some 0) {G : Nat} (hG : IsGap (masksN R C) (setL xs (P : Int)) (setL xs 0) (sideN R C P false) (sideN R C P true) G) :
    gapN (masksN R C) (setL (xs.set k (P : Int)) (P : Int)) (setL (xs.set k (P : Int)) 0) (sideN R C P false) (sideN R C P true) (R * C) = (G : Int) ∨
    (1 ≤ G ∧ gapN (masksN R C) (setL (xs.set k (P : Int)) (P : Int)) (setL (xs.set k (P : Int)) 0) (sideN R C P false) (sideN R C P true) (R * C) = (G : Int) - 1) := by
  obtain ⟨e1, e2, hs'⟩ := set_more hs hP hk
  have hm := gap_more (setL_bit.2 hk) hG
  rcases gap_spec (P := P) hs' with ⟨K, hK, hg⟩ | ⟨hK, hn⟩
  · rw [hK]
    rw [e1, e2] at hg
    rcases hm with hm | ⟨h1, hm⟩
    · exact .inl (by rw [hg.unique hm])
    · exact .inr ⟨h1, by have := hg.unique hm; omega⟩
  · rw [e1, e2] at hn
    rcases hm with hm | ⟨_, hm⟩
    · exact absurd hm.1 (hn _)
    · exact absurd hm.1 (hn _)

/-! ### the cells that close a gap -/
def goodB (M : List Nat) (own free edge last n c : Nat) : Bool := free.testBit c && decide (gapN M (own ||| (1 <<< c)) (without free c) edge last n = gapN M own free edge last n - 1)

theorem gapN_is {M : List Nat} {own free edge last n k : Nat} (hn : n ≤ 9) (ho : own < 2 ^ 9) (hf : free < 2 ^ n) (h : IsGap M own free edge last k) : gapN M own free edge last n = (k : Int) := by
  rcases gapN_spec (M := M) (edge := edge) (last := last) hn ho hf with ⟨k', hk, hg⟩ | ⟨_, hno⟩
  · rw [hk, hg.unique h]
  · exact absurd h.1 (hno k)

theorem with_lt {x c n : Nat} (hx : x < 2 ^ n) (hc : c < n) : x ||| (1 <<< c) < 2 ^ n := by
  refine Nat.or_lt_two_pow hx ?_
  rw [Nat.one_shiftLeft]; exact Nat.pow_lt_pow_right (by decide) hc

theorem good_count {M : List Nat} {edge last n : Nat} (hn : n ≤ 9) : ∀ {K own free : Nat}, own < 2 ^ 9 → free < 2 ^ n → IsGap M own free edge last K → K ≤ (List.range n).countP (goodB M own free edge last n)
  | 0, _, _, _, _, _ => Nat.zero_le _
  | K + 1, own, free, ho, hf, h => by
    obtain ⟨c1, hc1, hg1⟩ := gap_cell h
    have hc1n := bit_small hf hc1
    have ho1 : own ||| (1 <<< c1) < 2 ^ 9 := with_lt ho (by omega)
    have hf1 : without free c1 < 2 ^ n := without_lt hf
    have ih := good_count hn ho1 hf1 hg1
    have hG := gapN_is hn ho hf h
    have hG1 := gapN_is hn ho1 hf1 hg1
    have hp : goodB M own free edge last n c1 = true := by
      unfold goodB
      rw [hc1, hG1, hG, decide_eq_true (by omega)]; rfl
    have hq : goodB M (own ||| (1 <<< c1)) (without free c1) edge last n c1 = false := by
      unfold goodB
      rw [without_bit]; simp
    have hqp : ∀ x ∈ List.range n, goodB M (own ||| (1 <<< c1)) (without free c1) edge last n x = true → goodB M own free edge last n x = true := by
      intro x hx hg
      rw [List.mem_range] at hx
      unfold goodB at hg ⊢
      rw [Bool.and_eq_true, decide_eq_true_iff, without_bit, Bool.and_eq_true, decide_eq_true_iff] at hg
      obtain ⟨⟨hfx, hne⟩, hgx⟩ := hg
      rw [hfx, Bool.true_and, decide_eq_true_iff, hG]
      rw [hG1] at hgx
      have hox : own ||| (1 <<< x) < 2 ^ 9 := with_lt ho (by omega)
      rcases gap_more hfx h with hm | ⟨_, hm⟩
      · exfalso
        have hcx : (without free x).testBit c1 = true := by rw [without_bit, hc1]; simp; exact fun e => hne e.symm
        have hsame : own ||| (1 <<< x) ||| (1 <<< c1) = own ||| (1 <<< c1) ||| (1 <<< x) := by rw [Nat.or_assoc, Nat.or_comm (1 <<< x), ← Nat.or_assoc]
        have hsame2 : without (without free x) c1 = without (without free c1) x := by
          apply Nat.eq_of_testBit_eq
          intro j
          rw [without_bit, without_bit, without_bit, without_bit, Bool.and_assoc, Bool.and_comm (decide (j ≠ x)), ← Bool.and_assoc]
        rcases gap_more hcx hm with hmm | ⟨_, hmm⟩
        · rw [hsame, hsame2] at hmm
          have := gapN_is hn (with_lt ho1 (by omega)) (without_lt hf1) hmm
          omega
        · rw [hsame, hsame2] at hmm
          have := gapN_is hn (with_lt ho1 (by omega)) (without_lt hf1) hmm
          omega
      · rw [gapN_is hn hox (without_lt hf) hm]; omega
    have := countP_lt hqp (show c1 ∈ List.range n by rw [List.mem_range]; exact hc1n) hp hq
    omega

end Go.Proofs.YtkbnngklbfnkiaaDoor

/- Who wins, told by the sets of both players' stones: what it is, that a stone more never harms, that to move never harms, and that turned and mirrored it is the same. No program text. -/
namespace Go.Proofs.YtkbnngklbfnkiaaDoor
open Go Go.Ip G

/-- A stone of the one to move. -/
def putA (t k a : Nat) : Nat := if t = 1 then a ||| (1 <<< k) else a
def putB (t k b : Nat) : Nat := if t = 1 then b else b ||| (1 <<< k)

def winF (R C : Nat) : Nat → Nat → Nat → Nat → Nat
  | 0, a, b, t => if joinsN R C 1 a = true then 1 else if joinsN R C 2 b = true then 2 else 3 - t
  | f + 1, a, b, t => if joinsN R C 1 a = true then 1 else if joinsN R C 2 b = true then 2 else
      if ((List.range (R * C)).any fun k => !(a ||| b).testBit k && decide (winF R C f (putA t k a) (putB t k b) (3 - t) = t)) = true then t else 3 - t

/-- The free cells. -/
def frN (n a b : Nat) : Nat := (List.range n).countP fun k => !(a ||| b).testBit k
def winN (R C a b t : Nat) : Nat := winF R C (R * C) a b t

theorem put_bit (t k a b j : Nat) : (putA t k a ||| putB t k b).testBit j = ((a ||| b).testBit j || decide (j = k)) := by
  unfold putA putB
  split
  · rw [Nat.testBit_or, with_bit, Nat.testBit_or]; cases a.testBit j <;> cases b.testBit j <;> simp
  · rw [Nat.testBit_or, with_bit, Nat.testBit_or, Bool.or_assoc]

theorem fr_put {n t k a b : Nat} (hk : k < n) (h : (a ||| b).testBit k = false) : frN n (putA t k a) (putB t k b) + 1 ≤ frN n a b := by
  refine countP_lt (c := k) (fun x _ hx => ?_) (List.mem_range.2 hk) (by show (!(a ||| b).testBit k) = true; rw [h]; rfl) (by show (!(putA t k a ||| putB t k b).testBit k) = false; rw [put_bit]; simp)
  rw [put_bit] at hx
  cases e : (a ||| b).testBit x with
  | false => rfl
  | true => rw [e] at hx; simp at hx

theorem fr_le (n a b : Nat) : frN n a b ≤ n := by
  have := List.countP_le_length (p := fun k => !(a ||| b).testBit k) (l := List.range n)
  rw [List.length_range] at this; exact this

theorem fr_zero {n a b : Nat} (h : frN n a b ≤ 0) {k : Nat} (hk : k < n) : (a ||| b).testBit k = true := by
  have h0 : frN n a b = 0 := by omega
  have := List.countP_eq_zero.1 h0 k (List.mem_range.2 hk)
  cases e : (a ||| b).testBit k with
  | true => rfl
  | false => rw [e] at this; exact (this rfl).elim

theorem winF_fuel {R C : Nat} : ∀ (f f' a b t : Nat), frN (R * C) a b ≤ f → frN (R * C) a b ≤ f' → winF R C f a b t = winF R C f' a b t
  | 0, 0, a, b, t, _, _ => rfl
  | 0, f' + 1, a, b, t, h, _ => by
    rw [winF, winF]
    have : ((List.range (R * C)).any fun k => !(a ||| b).testBit k && decide (winF R C f' (putA t k a) (putB t k b) (3 - t) = t)) = false := by
      rw [List.any_eq_false]
      intro k hk
      rw [fr_zero h (List.mem_range.1 hk)]; simp
    rw [this]; rfl
  | f + 1, 0, a, b, t, _, h => by
    rw [winF, winF]
    have : ((List.range (R * C)).any fun k => !(a ||| b).testBit k && decide (winF R C f (putA t k a) (putB t k b) (3 - t) = t)) = false := by
      rw [List.any_eq_false]
      intro k hk
      rw [fr_zero h (List.mem_range.1 hk)]; simp
    rw [this]; rfl
  | f + 1, f' + 1, a, b, t, h, h' => by
    rw [winF, winF]
    have : ((List.range (R * C)).any fun k => !(a ||| b).testBit k && decide (winF R C f (putA t k a) (putB t k b) (3 - t) = t)) = ((List.range (R * C)).any fun k => !(a ||| b).testBit k && decide (winF R C f' (putA t k a) (putB t k b) (3 - t) = t)) := by
      rw [Bool.eq_iff_iff, List.any_eq_true, List.any_eq_true]
      refine exists_congr fun k => and_congr_right fun hk => ?_
      rw [← Bool.eq_iff_iff]
      cases e : (a ||| b).testBit k with
      | true => rfl
      | false =>
        have := fr_put (t := t) (List.mem_range.1 hk) e
        rw [winF_fuel f f' (putA t k a) (putB t k b) (3 - t) (by omega) (by omega)]
    rw [this]

/-- What is asked of a position that nobody has won: is there a move after which the one to move wins? -/
def moveB (R C a b t : Nat) : Bool := (List.range (R * C)).any fun k => !(a ||| b).testBit k && decide (winN R C (putA t k a) (putB t k b) (3 - t) = t)

theorem winN_eq (R C a b t : Nat) : winN R C a b t = if joinsN R C 1 a = true then 1 else if joinsN R C 2 b = true then 2 else if moveB R C a b t = true then t else 3 - t := by
  have h1 : winN R C a b t = winF R C (R * C + 1) a b t := winF_fuel _ _ _ _ _ (fr_le _ _ _) (by have := fr_le (R * C) a b; omega)
  rw [h1, winF]; rfl

theorem moveB_iff {R C a b t : Nat} : moveB R C a b t = true ↔ ∃ k, k < R * C ∧ (a ||| b).testBit k = false ∧ winN R C (putA t k a) (putB t k b) (3 - t) = t := by
  unfold moveB
  rw [List.any_eq_true]
  constructor
  · rintro ⟨k, hk, h⟩
    rw [Bool.and_eq_true, decide_eq_true_eq] at h
    exact ⟨k, List.mem_range.1 hk, by simpa using h.1, h.2⟩
  · rintro ⟨k, hk, h1, h2⟩
    exact ⟨k, List.mem_range.2 hk, by rw [h1, h2]; simp⟩

theorem win_cases {R C a b t : Nat} (ht : t = 1 ∨ t = 2) : winN R C a b t = 1 ∨ winN R C a b t = 2 := by
  rw [winN_eq]
  repeat' split
  all_goals first | exact .inl rfl | exact .inr rfl | omega

/-- A position, by its two sets. -/
def Pos (R C a b : Nat) : Prop := a < 2 ^ (R * C) ∧ b < 2 ^ (R * C) ∧ ∀ j, a.testBit j = true → b.testBit j = true → False

theorem Pos.lt9 {R C a b : Nat} (hB : BoardOf R C) (h : Pos R C a b) : a < 2 ^ 9 ∧ b < 2 ^ 9 := by
  have : 2 ^ (R * C) ≤ 2 ^ 9 := Nat.pow_le_pow_right (by decide) hB.2.2.2.2
  exact ⟨Nat.lt_of_lt_of_le h.1 this, Nat.lt_of_lt_of_le h.2.1 this⟩

theorem Pos.put {R C a b t k : Nat} (h : Pos R C a b) (hk : k < R * C) (hf : (a ||| b).testBit k = false) : Pos R C (putA t k a) (putB t k b) := by
  rw [Nat.testBit_or, Bool.or_eq_false_iff] at hf
  have hl : 1 <<< k < 2 ^ (R * C) := by rw [Nat.one_shiftLeft]; exact Nat.pow_lt_pow_right (by decide) hk
  unfold putA putB
  split
  · refine ⟨Nat.or_lt_two_pow h.1 hl, h.2.1, fun j h1 h2 => ?_⟩
    rw [with_bit, Bool.or_eq_true, decide_eq_true_eq] at h1
    rcases h1 with h1 | rfl
    · exact h.2.2 j h1 h2
    · rw [hf.2] at h2; cases h2
  · refine ⟨h.1, Nat.or_lt_two_pow h.2.1 hl, fun j h1 h2 => ?_⟩
    rw [with_bit, Bool.or_eq_true, decide_eq_true_eq] at h2
    rcases h2 with h2 | rfl
    · exact h.2.2 j h1 h2
    · rw [hf.1] at h1; cases h1

/-- Never have both joined. -/
theorem Pos.both {R C a b : Nat} (hB : BoardOf R C) (h : Pos R C a b) (h1 : joinsN R C 1 a = true) : joinsN R C 2 b = false := by
  cases e : joinsN R C 2 b with
  | false => rfl
  | true =>
    have l9 := h.lt9 hB
    have hc : 2 ^ (R * C) - 1 - a < 2 ^ 9 := by
      have : 2 ^ (R * C) ≤ 2 ^ 9 := Nat.pow_le_pow_right (by decide) hB.2.2.2.2
      omega
    have h2 := joins_mono (P := 2) l9.2 hc (fun j hj => by
      rw [compl_bit h.1]
      have hjn := bit_small h.2.1 hj
      cases ea : a.testBit j with
      | false => simp [hjn]
      | true => exact (h.2.2 j ea hj).elim) e
    have h3 := hex hB (.inl rfl) h.1
    rw [h1, show 3 - 1 = 2 from rfl, h2] at h3
    cases h3

/-- If nobody has joined there is a free cell. -/
theorem Pos.free {R C a b : Nat} (hB : BoardOf R C) (h : Pos R C a b) (h1 : joinsN R C 1 a = false) (h2 : joinsN R C 2 b = false) : ∃ k, k < R * C ∧ (a ||| b).testBit k = false := by
  apply Classical.byContradiction
  intro hn
  have hall : ∀ k, k < R * C → (a ||| b).testBit k = true := fun k hk => by
    cases e : (a ||| b).testBit k with
    | true => rfl
    | false => exact (hn ⟨k, hk, e⟩).elim
  have hb : 2 ^ (R * C) - 1 - a = b := by
    apply Nat.eq_of_testBit_eq
    intro j
    rw [compl_bit h.1]
    by_cases hj : j < R * C
    · have := hall j hj
      rw [Nat.testBit_or, Bool.or_eq_true] at this
      cases ea : a.testBit j with
      | true =>
        cases eb : b.testBit j with
        | false => simp
        | true => exact (h.2.2 j ea eb).elim
      | false =>
        rw [ea] at this
        simp at this
        simp [hj, this]
    · cases eb : b.testBit j with
      | true => exact (hj (bit_small h.2.1 eb)).elim
      | false => simp [hj]
  have h3 := hex hB (.inl rfl) h.1
  rw [show 3 - 1 = 2 from rfl, hb, h1, h2] at h3
  cases h3

theorem win_first {R C a b t : Nat} (h : joinsN R C 1 a = true) : winN R C a b t = 1 := by rw [winN_eq, if_pos h]
theorem win_second {R C a b t : Nat} (hB : BoardOf R C) (hp : Pos R C a b) (h : joinsN R C 2 b = true) : winN R C a b t = 2 := by
  rw [winN_eq, if_neg, if_pos h]
  intro h1; rw [hp.both hB h1] at h; cases h
theorem win_open {R C a b t : Nat} (h1 : joinsN R C 1 a = false) (h2 : joinsN R C 2 b = false) : winN R C a b t = if moveB R C a b t = true then t else 3 - t := by
  rw [winN_eq, if_neg (by rw [h1]; decide), if_neg (by rw [h2]; decide)]

/-- No worse for the first player. -/
def Better (a b a' b' : Nat) : Prop := (∀ j, a.testBit j = true → a'.testBit j = true) ∧ (∀ j, b'.testBit j = true → b.testBit j = true)

theorem better_fr {n a b k : Nat} : Better a b (a ||| (1 <<< k)) b := ⟨fun j hj => by rw [with_bit, hj]; rfl, fun _ h => h⟩

theorem win_mono_aux {R C : Nat} (hB : BoardOf R C) : ∀ (M m a b a' b' t : Nat), frN (R * C) a' b' ≤ M → frN (R * C) a b ≤ m → Pos R C a b → Pos R C a' b' → Better a b a' b' → (t = 1 ∨ t = 2) → winN R C a b t = 1 → winN R C a' b' t = 1 := by
  intro M
  induction M using Nat.strongRecOn with
  | _ M ihM =>
  intro m
  induction m using Nat.strongRecOn with
  | _ m ihm =>
  intro a b a' b' t hM hm hp hp' hbt ht hw
  have l9 := hp.lt9 hB
  have l9' := hp'.lt9 hB
  cases j1' : joinsN R C 1 a' with
  | true => exact win_first j1'
  | false =>
  cases j1 : joinsN R C 1 a with
  | true => rw [joins_mono l9.1 l9'.1 hbt.1 j1] at j1'; cases j1'
  | false =>
  cases j2 : joinsN R C 2 b with
  | true => rw [win_second hB hp j2] at hw; cases hw
  | false =>
  cases j2' : joinsN R C 2 b' with
  | true => rw [joins_mono l9'.2 l9.2 hbt.2 j2'] at j2; cases j2
  | false =>
  obtain ⟨d, hd, hdf⟩ := hp'.free hB j1' j2'
  -- to move never harms, for smaller positions
  have extra : ∀ x y, Pos R C x y → frN (R * C) x y ≤ M → (∀ z, frN (R * C) z y < frN (R * C) x y → Pos R C z y → Better x y z y → winN R C z y 2 = 1) → winN R C x y 2 = 1 → winN R C x y 1 = 1 := by
    intro x y hxy hfr hmono hwx
    cases k1 : joinsN R C 1 x with
    | true => exact win_first k1
    | false =>
    cases k2 : joinsN R C 2 y with
    | true => rw [win_second hB hxy k2] at hwx; cases hwx
    | false =>
    obtain ⟨e, he, hef⟩ := hxy.free hB k1 k2
    rw [win_open k1 k2, if_pos]
    refine moveB_iff.2 ⟨e, he, hef, ?_⟩
    have h1 := fr_put (t := 1) he hef
    exact hmono (x ||| (1 <<< e)) (by exact h1) (hxy.put (t := 1) he hef) (better_fr (n := 0))
  rw [win_open j1 j2] at hw
  rcases ht with rfl | rfl
  · -- the first player to move
    have hmv : moveB R C a b 1 = true := by
      cases e : moveB R C a b 1 with
      | true => rfl
      | false => rw [e] at hw; simp at hw
    obtain ⟨c, hc, hcf, hcw⟩ := moveB_iff.1 hmv
    have hfc := fr_put (t := 1) hc hcf
    have hpc := hp.put (t := 1) hc hcf
    by_cases hc' : (a' ||| b').testBit c = false
    · rw [win_open j1' j2', if_pos]
      refine moveB_iff.2 ⟨c, hc, hc', ?_⟩
      have hfc' := fr_put (t := 1) hc hc'
      refine ihM (frN (R * C) (putA 1 c a') (putB 1 c b')) (by omega) _ (putA 1 c a) (putB 1 c b) _ _ _ (Nat.le_refl _) (Nat.le_refl _) hpc (hp'.put hc hc') ⟨fun j hj => ?_, fun j hj => hbt.2 j hj⟩ (.inr rfl) hcw
      simp only [putA, if_true] at hj ⊢
      rw [with_bit, Bool.or_eq_true] at hj ⊢
      exact hj.imp_left (hbt.1 j)
    · have hca : a'.testBit c = true := by
        rw [Nat.testBit_or] at hc' hcf
        rw [Bool.or_eq_false_iff] at hcf
        cases ea : a'.testBit c with
        | true => rfl
        | false =>
          rw [ea, Bool.false_or] at hc'
          have := hbt.2 c (by simpa using hc')
          rw [hcf.2] at this; cases this
      have hw2 : winN R C a' b' 2 = 1 := by
        refine ihm (frN (R * C) (putA 1 c a) (putB 1 c b)) (by omega) (putA 1 c a) (putB 1 c b) a' b' 2 hM (Nat.le_refl _) hpc hp' ⟨fun j hj => ?_, fun j hj => hbt.2 j hj⟩ (.inr rfl) hcw
        simp only [putA, if_true] at hj
        rw [with_bit, Bool.or_eq_true, decide_eq_true_eq] at hj
        rcases hj with hj | rfl
        · exact hbt.1 j hj
        · exact hca
      exact extra a' b' hp' hM (fun z hz hpz hbz => ihM _ (by omega) _ a' b' z b' 2 (Nat.le_refl _) (Nat.le_refl _) hp' hpz hbz (.inr rfl) hw2) hw2
  · -- the second player to move
    have hmv : moveB R C a b 2 = false := by
      cases e : moveB R C a b 2 with
      | false => rfl
      | true => rw [e] at hw; simp at hw
    have hall : ∀ k, k < R * C → (a ||| b).testBit k = false → winN R C (putA 2 k a) (putB 2 k b) 1 = 1 := fun k hk hkf => by
      rcases win_cases (R := R) (C := C) (a := putA 2 k a) (b := putB 2 k b) (t := 1) (.inl rfl) with h | h
      · exact h
      · rw [moveB_iff.2 ⟨k, hk, hkf, h⟩] at hmv; cases hmv
    have hw' : winN R C a b 2 = 1 := by rw [win_open j1 j2, hmv]; rfl
    rw [win_open j1' j2', if_neg]
    intro hmv'
    obtain ⟨e, he, hef, hew⟩ := moveB_iff.1 hmv'
    have hfe := fr_put (t := 2) he hef
    have hpe := hp'.put (t := 2) he hef
    have hne : winN R C (putA 2 e a') (putB 2 e b') 1 = 1 := by
      by_cases hef2 : (a ||| b).testBit e = false
      · refine ihM (frN (R * C) (putA 2 e a') (putB 2 e b')) (by omega) _ (putA 2 e a) (putB 2 e b) _ _ _ (Nat.le_refl _) (Nat.le_refl _) (hp.put he hef2) hpe ⟨fun j hj => hbt.1 j hj, fun j hj => ?_⟩ (.inl rfl) (hall e he hef2)
        simp only [putB] at hj ⊢
        rw [if_neg (by decide), with_bit, Bool.or_eq_true] at hj ⊢
        exact hj.imp_left (hbt.2 j)
      · have heb : b.testBit e = true := by
          rw [Nat.testBit_or] at hef2 hef
          rw [Bool.or_eq_false_iff] at hef
          cases eb : b.testBit e with
          | true => rfl
          | false =>
            rw [eb, Bool.or_false] at hef2
            have := hbt.1 e (by simpa using hef2)
            rw [hef.1] at this; cases this
        have hbt2 : Better a b (putA 2 e a') (putB 2 e b') := ⟨fun j hj => hbt.1 j hj, fun j hj => by
          simp only [putB] at hj
          rw [if_neg (by decide), with_bit, Bool.or_eq_true, decide_eq_true_eq] at hj
          rcases hj with hj | rfl
          · exact hbt.2 j hj
          · exact heb⟩
        have hw2 : winN R C (putA 2 e a') (putB 2 e b') 2 = 1 :=
          ihM (frN (R * C) (putA 2 e a') (putB 2 e b')) (by omega) _ a b _ _ _ (Nat.le_refl _) (Nat.le_refl _) hp hpe hbt2 (.inr rfl) hw'
        exact extra _ _ hpe (by omega) (fun z hz hpz hbz => ihM _ (by omega) _ _ _ z _ 2 (Nat.le_refl _) (Nat.le_refl _) hpe hpz hbz (.inr rfl) hw2) hw2
    rw [hne] at hew; cases hew

/-- A stone more never harms. -/
theorem win_mono {R C a b a' b' t : Nat} (hB : BoardOf R C) (hp : Pos R C a b) (hp' : Pos R C a' b') (hbt : Better a b a' b') (ht : t = 1 ∨ t = 2) (hw : winN R C a b t = 1) : winN R C a' b' t = 1 :=
  win_mono_aux hB _ _ a b a' b' t (Nat.le_refl _) (Nat.le_refl _) hp hp' hbt ht hw
theorem win_mono2 {R C a b a' b' t : Nat} (hB : BoardOf R C) (hp : Pos R C a b) (hp' : Pos R C a' b') (hbt : Better a b a' b') (ht : t = 1 ∨ t = 2) (hw : winN R C a' b' t = 2) : winN R C a b t = 2 := by
  rcases win_cases (R := R) (C := C) (a := a) (b := b) ht with h | h
  · rw [win_mono hB hp hp' hbt ht h] at hw; cases hw
  · exact h
/-- To move never harms. -/
theorem win_move {R C a b : Nat} (hB : BoardOf R C) (hp : Pos R C a b) (hw : winN R C a b 2 = 1) : winN R C a b 1 = 1 := by
  cases k1 : joinsN R C 1 a with
  | true => exact win_first k1
  | false =>
  cases k2 : joinsN R C 2 b with
  | true => rw [win_second hB hp k2] at hw; cases hw
  | false =>
  obtain ⟨e, he, hef⟩ := hp.free hB k1 k2
  rw [win_open k1 k2, if_pos]
  exact moveB_iff.2 ⟨e, he, hef, win_mono hB hp (hp.put (t := 1) he hef) (better_fr (n := 0)) (.inr rfl) hw⟩
theorem win_move2 {R C a b : Nat} (hB : BoardOf R C) (hp : Pos R C a b) (hw : winN R C a b 1 = 2) : winN R C a b 2 = 2 := by
  rcases win_cases (R := R) (C := C) (a := a) (b := b) (t := 2) (.inr rfl) with h | h
  · rw [win_move hB hp h] at hw; cases hw
  · exact h

/-! ### turned and mirrored -/
theorem moved_put {f : Nat → Nat} {S n k : Nat} (hk : k < n) : moved f (S ||| (1 <<< k)) n = moved f S n ||| (1 <<< f k) := by
  apply Nat.eq_of_testBit_eq
  intro j
  rw [Bool.eq_iff_iff, moved_bit, with_bit, Bool.or_eq_true, moved_bit, decide_eq_true_eq]
  constructor
  · rintro ⟨i, hi, h, rfl⟩
    rw [with_bit, Bool.or_eq_true, decide_eq_true_eq] at h
    rcases h with h | rfl
    · exact .inl ⟨i, hi, h, rfl⟩
    · exact .inr rfl
  · rintro (⟨i, hi, h, rfl⟩ | rfl)
    · exact ⟨i, hi, by rw [with_bit, h]; rfl, rfl⟩
    · exact ⟨k, hk, by rw [with_bit]; simp, rfl⟩

/-- Each place is taken by just one. -/
structure Perm (f : Nat → Nat) (n : Nat) : Prop where
  lt : ∀ k, k < n → f k < n
  inj : ∀ i k, i < n → k < n → f i = f k → i = k
  onto : ∀ j, j < n → ∃ k, k < n ∧ f k = j

theorem moved_at {f : Nat → Nat} {S n k : Nat} (hf : Perm f n) (hk : k < n) : (moved f S n).testBit (f k) = S.testBit k := by
  rw [Bool.eq_iff_iff, moved_bit]
  constructor
  · rintro ⟨i, hi, h, e⟩
    rw [hf.inj k i hk hi e]; exact h
  · intro h; exact ⟨k, hk, h, rfl⟩

theorem moved_lt {f : Nat → Nat} {S n : Nat} (hf : Perm f n) : moved f S n < 2 ^ n := by
  apply Nat.lt_pow_two_of_testBit
  intro i hi
  cases e : (moved f S n).testBit i with
  | false => rfl
  | true =>
    obtain ⟨k, hk, _, rfl⟩ := (moved_bit f S n i).1 e
    have := hf.lt k hk
    omega

theorem Pos.moved {R C R' C' a b : Nat} {f : Nat → Nat} (hn : R' * C' = R * C) (hf : Perm f (R * C)) (h : Pos R C a b) : Pos R' C' (moved f a (R * C)) (moved f b (R * C)) := by
  refine ⟨by rw [hn]; exact moved_lt hf, by rw [hn]; exact moved_lt hf, fun j h1 h2 => ?_⟩
  obtain ⟨i, hi, ha, rfl⟩ := (moved_bit _ _ _ _).1 h1
  rw [moved_at hf hi] at h2
  exact h.2.2 i ha h2

theorem any_perm {f : Nat → Nat} {n : Nat} (hf : Perm f n) {p q : Nat → Bool} (h : ∀ k, k < n → p (f k) = q k) : (List.range n).any p = (List.range n).any q := by
  rw [Bool.eq_iff_iff, List.any_eq_true, List.any_eq_true]
  constructor
  · rintro ⟨j, hj, hp⟩
    obtain ⟨k, hk, rfl⟩ := hf.onto j (List.mem_range.1 hj)
    exact ⟨k, List.mem_range.2 hk, by rw [← h k hk]; exact hp⟩
  · rintro ⟨k, hk, hq⟩
    exact ⟨f k, List.mem_range.2 (hf.lt k (List.mem_range.1 hk)), by rw [h k (List.mem_range.1 hk)]; exact hq⟩

theorem anyB_moved {R C : Nat} {f : Nat → Nat} (hf : Perm f (R * C)) {a b t : Nat} {F G : Nat → Nat → Nat} {u : Nat}
    (h : ∀ k, k < R * C → (a ||| b).testBit k = false → (F (putA u (f k) (moved f a (R * C))) (putB u (f k) (moved f b (R * C))) = u ↔ G (putA t k a) (putB t k b) = t)) :
    ((List.range (R * C)).any fun k => !(moved f a (R * C) ||| moved f b (R * C)).testBit k && decide (F (putA u k (moved f a (R * C))) (putB u k (moved f b (R * C))) = u)) = ((List.range (R * C)).any fun k => !(a ||| b).testBit k && decide (G (putA t k a) (putB t k b) = t)) := by
  refine any_perm hf fun k hk => ?_
  rw [Nat.testBit_or, moved_at hf hk, moved_at hf hk, ← Nat.testBit_or]
  cases e : (a ||| b).testBit k with
  | true => rfl
  | false => exact congrArg (fun x => !false && x) (decide_eq_decide.2 (h k hk e))

theorem putA_moved {f : Nat → Nat} {n t k a : Nat} (hk : k < n) : putA t (f k) (moved f a n) = moved f (putA t k a) n := by
  unfold putA; split
  · exact (moved_put hk).symm
  · rfl
theorem putB_moved {f : Nat → Nat} {n t k b : Nat} (hk : k < n) : putB t (f k) (moved f b n) = moved f (putB t k b) n := by
  unfold putB; split
  · rfl
  · exact (moved_put hk).symm
theorem putA_swap {f : Nat → Nat} {n t k b : Nat} (ht : t = 1 ∨ t = 2) (hk : k < n) : putA (3 - t) (f k) (moved f b n) = moved f (putB t k b) n := by
  rcases ht with rfl | rfl
  · rfl
  · exact (moved_put hk).symm
theorem putB_swap {f : Nat → Nat} {n t k a : Nat} (ht : t = 1 ∨ t = 2) (hk : k < n) : putB (3 - t) (f k) (moved f a n) = moved f (putA t k a) n := by
  rcases ht with rfl | rfl
  · exact (moved_put hk).symm
  · rfl

theorem winN_moved {R C R' C' : Nat} {f : Nat → Nat} (hB : BoardOf R C) (hB' : BoardOf R' C') (hn : R' * C' = R * C) (hf : Perm f (R * C)) (h1 : ∀ S, S < 2 ^ (R * C) → joinsN R' C' 1 (moved f S (R * C)) = joinsN R C 1 S) (h2 : ∀ S, S < 2 ^ (R * C) → joinsN R' C' 2 (moved f S (R * C)) = joinsN R C 2 S) :
    ∀ (m a b t : Nat), frN (R * C) a b ≤ m → Pos R C a b → winN R' C' (moved f a (R * C)) (moved f b (R * C)) t = winN R C a b t := by
  intro m
  induction m with
  | zero =>
    intro a b t hm hp
    rw [winN_eq, winN_eq, h1 a hp.1, h2 b hp.2.1]
    cases e1 : joinsN R C 1 a with
    | true => simp only [↓reduceIte]
    | false =>
      cases e2 : joinsN R C 2 b with
      | true => simp only [Bool.false_eq_true, ↓reduceIte]
      | false =>
        obtain ⟨k, hk, hkf⟩ := hp.free hB e1 e2
        rw [fr_zero hm hk] at hkf; cases hkf
  | succ m ih =>
    intro a b t hm hp
    rw [winN_eq, winN_eq, h1 a hp.1, h2 b hp.2.1]
    have : moveB R' C' (moved f a (R * C)) (moved f b (R * C)) t = moveB R C a b t := by
      unfold moveB
      rw [hn]
      refine anyB_moved hf (F := fun x y => winN R' C' x y (3 - t)) (G := fun x y => winN R C x y (3 - t)) fun k hk e => ?_
      have := fr_put (t := t) hk e
      show winN R' C' _ _ (3 - t) = t ↔ _
      rw [putA_moved hk, putB_moved hk, ih _ _ _ (by omega) (hp.put hk e)]
    rw [this]

theorem anyB_swap {R C : Nat} {f : Nat → Nat} (hf : Perm f (R * C)) {a b t u : Nat} {F G : Nat → Nat → Nat}
    (h : ∀ k, k < R * C → (a ||| b).testBit k = false → (F (putA u (f k) (moved f b (R * C))) (putB u (f k) (moved f a (R * C))) = u ↔ G (putA t k a) (putB t k b) = t)) :
    ((List.range (R * C)).any fun k => !(moved f b (R * C) ||| moved f a (R * C)).testBit k && decide (F (putA u k (moved f b (R * C))) (putB u k (moved f a (R * C))) = u)) = ((List.range (R * C)).any fun k => !(a ||| b).testBit k && decide (G (putA t k a) (putB t k b) = t)) := by
  refine any_perm hf fun k hk => ?_
  rw [Nat.testBit_or, moved_at hf hk, moved_at hf hk, Bool.or_comm, ← Nat.testBit_or]
  cases e : (a ||| b).testBit k with
  | true => rfl
  | false => exact congrArg (fun x => !false && x) (decide_eq_decide.2 (h k hk e))

theorem winN_swapped {R C R' C' : Nat} {f : Nat → Nat} (hB : BoardOf R C) (hn : R' * C' = R * C) (hf : Perm f (R * C)) (h1 : ∀ S, S < 2 ^ (R * C) → joinsN R' C' 2 (moved f S (R * C)) = joinsN R C 1 S) (h2 : ∀ S, S < 2 ^ (R * C) → joinsN R' C' 1 (moved f S (R * C)) = joinsN R C 2 S) :
    ∀ (m a b t : Nat), frN (R * C) a b ≤ m → Pos R C a b → (t = 1 ∨ t = 2) → winN R' C' (moved f b (R * C)) (moved f a (R * C)) (3 - t) = 3 - winN R C a b t := by
  intro m
  induction m with
  | zero =>
    intro a b t hm hp ht
    rw [winN_eq, winN_eq, h1 a hp.1, h2 b hp.2.1]
    have hboth := hp.both hB
    cases e1 : joinsN R C 1 a with
    | true => rw [hboth e1]; simp only [Bool.false_eq_true, ↓reduceIte]
    | false =>
      cases e2 : joinsN R C 2 b with
      | true => simp only [Bool.false_eq_true, ↓reduceIte]
      | false =>
        obtain ⟨k, hk, hkf⟩ := hp.free hB e1 e2
        rw [fr_zero hm hk] at hkf; cases hkf
  | succ m ih =>
    intro a b t hm hp ht
    rw [winN_eq, winN_eq, h1 a hp.1, h2 b hp.2.1]
    have hboth := hp.both hB
    have : moveB R' C' (moved f b (R * C)) (moved f a (R * C)) (3 - t) = moveB R C a b t := by
      unfold moveB
      rw [hn]
      refine anyB_swap hf (F := fun x y => winN R' C' x y (3 - (3 - t))) (G := fun x y => winN R C x y (3 - t)) fun k hk e => ?_
      have h := fr_put (t := t) hk e
      have ht' : 3 - t = 1 ∨ 3 - t = 2 := by omega
      show winN R' C' _ _ (3 - (3 - t)) = 3 - t ↔ winN R C _ _ (3 - t) = t
      rw [putA_swap ht hk, putB_swap ht hk, ih _ _ _ (by omega) (hp.put hk e) ht']
      have := win_cases (R := R) (C := C) (a := putA t k a) (b := putB t k b) ht'
      omega
    rw [this]
    cases e1 : joinsN R C 1 a with
    | true => rw [hboth e1]; simp only [Bool.false_eq_true, ↓reduceIte]
    | false =>
      cases e2 : joinsN R C 2 b with
      | true => simp only [Bool.false_eq_true, ↓reduceIte]
      | false =>
        simp only [Bool.false_eq_true, ↓reduceIte]
        cases moveB R C a b t <;> simp only [Bool.false_eq_true, ↓reduceIte] <;> omega

end Go.Proofs.YtkbnngklbfnkiaaDoor

/- Rules to walk through a function's plain form with what is to hold in the end: binds, conditions, guards, comparisons, numbers, calls and loops. -/
namespace Go.Proofs.YtkbnngklbfnkiaaDoor
open Go Go.Ip G

/-- The result is there, and Q holds of it. -/
def W (x : Res) (Q : PV → PHeap → Prop) : Prop := ∃ v h', x = some (v, h') ∧ Q v h'

section
variable {α : Type} {Q Q' : PV → PHeap → Prop} {P : Program} {t : TypeId} {k : IntKind}

theorem W.ret {v : PV} {h : PHeap} (hq : Q v h) : W (some (v, h)) Q := ⟨v, h, rfl, hq⟩
theorem W.mono {x : Res} (hx : W x Q') (hf : ∀ v h, Q' v h → Q v h) : W x Q := by
  obtain ⟨v, h, e, q⟩ := hx; exact ⟨v, h, e, hf v h q⟩
theorem W.of {x : Res} {v : PV} {h : PHeap} (hx : x = some (v, h)) (hq : Q v h) : W x Q := ⟨v, h, hx, hq⟩
theorem wbd {x : Option α} {v : α} {f : α → Res} (hx : x = some v) (hf : W (f v) Q) : W (x.bind f) Q := by rw [hx]; exact hf
theorem wcall {x : Res} {f : PV × PHeap → Res} (hx : W x Q') (hf : ∀ v h, Q' v h → W (f (v, h)) Q) : W (x.bind f) Q := by
  obtain ⟨v, h, e, q⟩ := hx; rw [e]; exact hf v h q
theorem wT {x y : Res} (h : W x Q) : W (condP (.bool true) x y) Q := h
theorem wF {x y : Res} (h : W y Q) : W (condP (.bool false) x y) Q := h
theorem wif {b : Bool} {x y : Res} (h1 : b = true → W x Q) (h2 : b = false → W y Q) : W (condP (.bool b) x y) Q := by
  cases b
  · exact h2 rfl
  · exact h1 rfl
theorem wg1 {b u : Bool} {x y : Option α} {f : α → Res} (hb : b = u) (hx : W (x.bind f) Q) : W ((wantV (.bool b) u).bind fun v => (bif v then x else y).bind f) Q := by
  subst hb; simpa using hx
theorem wg0 {b u : Bool} {x y : Option α} {f : α → Res} (hb : b = !u) (hy : W (y.bind f) Q) : W ((wantV (.bool b) u).bind fun v => (bif v then x else y).bind f) Q := by
  subst hb; cases u <;> simpa using hy
theorem wgu {u : Bool} {x y : Option α} {f : α → Res} (hy : W (y.bind f) Q) : W ((wantV (.tup []) u).bind fun v => (bif v then x else y).bind f) Q := by simpa using hy
theorem wpT {u v : PV} {f : PV → Res} (h : W (f u) Q) : W ((pickP (.bool true) u v).bind f) Q := h
theorem wpF {u v : PV} {f : PV → Res} (h : W (f v) Q) : W ((pickP (.bool false) u v).bind f) Q := h
theorem wnT {f : PV → Res} (h : W (f (.bool false)) Q) : W ((unP .not (.bool true)).bind f) Q := h
theorem wnF {f : PV → Res} (h : W (f (.bool true)) Q) : W ((unP .not (.bool false)).bind f) Q := h
theorem wn {b : Bool} {f : PV → Res} (h : W (f (.bool !b)) Q) : W ((unP .not (.bool b)).bind f) Q := h
theorem wpv {x : Option PV} {h : PHeap} {f : PV × PHeap → Res} (hx : W (x.bind fun v => f (v, h)) Q) : W ((pv h x).bind f) Q := by
  cases x <;> exact hx
theorem wsm {v : α} {f : α → Res} (h : W (f v) Q) : W ((some v).bind f) Q := h
theorem wrI {a : Int} {f : PV → Res} (h : W (f (.int k a)) Q) : W ((resV (.int k a)).bind f) Q := h
theorem wrB {a : Bool} {f : PV → Res} (h : W (f (.bool a)) Q) : W ((resV (.bool a)).bind f) Q := h
theorem wrN {f : PV → Res} (h : W (f .nilsl) Q) : W ((resV .nilsl).bind f) Q := h
theorem wrP {i o : Nat} {f : PV → Res} (h : W (f (.ptr i o)) Q) : W ((resV (.ptr i o)).bind f) Q := h
theorem wrS {i o l : Nat} {f : PV → Res} (h : W (f (.sl i o l)) Q) : W ((resV (.sl i o l)).bind f) Q := h
theorem wx0 {a : PV} {l : List PV} {f : PV → Res} (h : W (f a) Q) : W ((extractP (.tup (a :: l)) 0).bind f) Q := h
theorem wx1 {a b : PV} {l : List PV} {f : PV → Res} (h : W (f b) Q) : W ((extractP (.tup (a :: b :: l)) 1).bind f) Q := h
theorem wx2 {a b c : PV} {l : List PV} {f : PV → Res} (h : W (f c) Q) : W ((extractP (.tup (a :: b :: c :: l)) 2).bind f) Q := h
theorem wx3 {a b c d : PV} {l : List PV} {f : PV → Res} (h : W (f d) Q) : W ((extractP (.tup (a :: b :: c :: d :: l)) 3).bind f) Q := h
theorem wx4 {a b c d e : PV} {l : List PV} {f : PV → Res} (h : W (f e) Q) : W ((extractP (.tup (a :: b :: c :: d :: e :: l)) 4).bind f) Q := h
theorem wck {b : Bool} {x : Res} (hb : b = true) (h : W x Q) : W (ckP b x) Q := by rw [hb]; exact h
theorem wptr {i o : Nat} {f : PV → Res} (h : W (f (.ptr i o)) Q) : W ((ptrP (.ptr i o)).bind f) Q := h

/-! ### comparisons -/
section
variable {a b : Int} {f : PV → Res}
theorem wlssT (h : a < b) (hf : W (f (.bool true)) Q) : W ((binP P .lss t (.int k a) (.int k b)).bind f) Q := wbd (by rw [bin_lss, decide_eq_true h]) hf
theorem wlssF (h : ¬ a < b) (hf : W (f (.bool false)) Q) : W ((binP P .lss t (.int k a) (.int k b)).bind f) Q := wbd (by rw [bin_lss, decide_eq_false h]) hf
theorem wleqT (h : a ≤ b) (hf : W (f (.bool true)) Q) : W ((binP P .leq t (.int k a) (.int k b)).bind f) Q := wbd (by rw [bin_leq, decide_eq_true h]) hf
theorem wleqF (h : ¬ a ≤ b) (hf : W (f (.bool false)) Q) : W ((binP P .leq t (.int k a) (.int k b)).bind f) Q := wbd (by rw [bin_leq, decide_eq_false h]) hf
theorem wgtrT (h : b < a) (hf : W (f (.bool true)) Q) : W ((binP P .gtr t (.int k a) (.int k b)).bind f) Q := wbd (by rw [bin_gtr, decide_eq_true h]) hf
theorem wgtrF (h : ¬ b < a) (hf : W (f (.bool false)) Q) : W ((binP P .gtr t (.int k a) (.int k b)).bind f) Q := wbd (by rw [bin_gtr, decide_eq_false h]) hf
theorem wgeqT (h : b ≤ a) (hf : W (f (.bool true)) Q) : W ((binP P .geq t (.int k a) (.int k b)).bind f) Q := wbd (by rw [bin_geq, decide_eq_true h]) hf
theorem wgeqF (h : ¬ b ≤ a) (hf : W (f (.bool false)) Q) : W ((binP P .geq t (.int k a) (.int k b)).bind f) Q := wbd (by rw [bin_geq, decide_eq_false h]) hf
theorem weqlT (h : a = b) (hf : W (f (.bool true)) Q) : W ((binP P .eql t (.int k a) (.int k b)).bind f) Q := wbd (by rw [bin_eql, beq_iff_eq.2 h]) hf
theorem weqlF (h : ¬ a = b) (hf : W (f (.bool false)) Q) : W ((binP P .eql t (.int k a) (.int k b)).bind f) Q := wbd (by rw [bin_eql, beq_eq_false_iff_ne.2 h]) hf
theorem wneqT (h : ¬ a = b) (hf : W (f (.bool true)) Q) : W ((binP P .neq t (.int k a) (.int k b)).bind f) Q := wbd (by rw [bin_neq, bne, beq_eq_false_iff_ne.2 h]; rfl) hf
theorem wneqF (h : a = b) (hf : W (f (.bool false)) Q) : W ((binP P .neq t (.int k a) (.int k b)).bind f) Q := wbd (by rw [bin_neq, bne, beq_iff_eq.2 h]; rfl) hf
theorem wlss (h1 : a < b → W (f (.bool true)) Q) (h2 : ¬ a < b → W (f (.bool false)) Q) : W ((binP P .lss t (.int k a) (.int k b)).bind f) Q := by
  by_cases e : a < b
  · exact wlssT e (h1 e)
  · exact wlssF e (h2 e)
theorem wleq (h1 : a ≤ b → W (f (.bool true)) Q) (h2 : ¬ a ≤ b → W (f (.bool false)) Q) : W ((binP P .leq t (.int k a) (.int k b)).bind f) Q := by
  by_cases e : a ≤ b
  · exact wleqT e (h1 e)
  · exact wleqF e (h2 e)
theorem wgtr (h1 : b < a → W (f (.bool true)) Q) (h2 : ¬ b < a → W (f (.bool false)) Q) : W ((binP P .gtr t (.int k a) (.int k b)).bind f) Q := by
  by_cases e : b < a
  · exact wgtrT e (h1 e)
  · exact wgtrF e (h2 e)
theorem wgeq (h1 : b ≤ a → W (f (.bool true)) Q) (h2 : ¬ b ≤ a → W (f (.bool false)) Q) : W ((binP P .geq t (.int k a) (.int k b)).bind f) Q := by
  by_cases e : b ≤ a
  · exact wgeqT e (h1 e)
  · exact wgeqF e (h2 e)
theorem weql (h1 : a = b → W (f (.bool true)) Q) (h2 : ¬ a = b → W (f (.bool false)) Q) : W ((binP P .eql t (.int k a) (.int k b)).bind f) Q := by
  by_cases e : a = b
  · exact weqlT e (h1 e)
  · exact weqlF e (h2 e)
theorem wneq (h1 : ¬ a = b → W (f (.bool true)) Q) (h2 : a = b → W (f (.bool false)) Q) : W ((binP P .neq t (.int k a) (.int k b)).bind f) Q := by
  by_cases e : a = b
  · exact wneqF e (h2 e)
  · exact wneqT e (h1 e)
end

/-! ### numbers -/
section
variable {a b : Int} {x y : Nat} {f : PV → Res}
theorem wadd (h : -4611686018427387904 ≤ a + b ∧ a + b ≤ 4611686018427387904) (hf : W (f (.int .i64 (a + b))) Q) : W ((binP P .add t (.int .i64 a) (.int .i64 b)).bind f) Q := wbd (by rw [bin_add, wr (by omega)]) hf
theorem wsub (h : -4611686018427387904 ≤ a - b ∧ a - b ≤ 4611686018427387904) (hf : W (f (.int .i64 (a - b))) Q) : W ((binP P .sub t (.int .i64 a) (.int .i64 b)).bind f) Q := wbd (by rw [bin_sub, wr (by omega)]) hf
theorem wmul (h : -4611686018427387904 ≤ a * b ∧ a * b ≤ 4611686018427387904) (hf : W (f (.int .i64 (a * b))) Q) : W ((binP P .mul t (.int .i64 a) (.int .i64 b)).bind f) Q := wbd (by rw [bin_mul, wr (by omega)]) hf
theorem wadd1 (h : x < 4611686018427387904) (hf : W (f (.int .i64 ((x + 1 : Nat) : Int))) Q) : W ((binP P .add t (.int .i64 (x : Int)) (.int .i64 1)).bind f) Q := wbd (by rw [bin_add, wr (by omega)]; rfl) hf
theorem waddN (h : x + y < 4611686018427387904) (hf : W (f (.int .i64 ((x + y : Nat) : Int))) Q) : W ((binP P .add t (.int .i64 (x : Int)) (.int .i64 (y : Int))).bind f) Q := wbd (by rw [bin_add, wr (by omega)]; rfl) hf
theorem wsub1 (h : 1 ≤ x) (h2 : x < 4611686018427387904) (hf : W (f (.int .i64 ((x - 1 : Nat) : Int))) Q) : W ((binP P .sub t (.int .i64 (x : Int)) (.int .i64 1)).bind f) Q := wbd (by rw [bin_sub, wr (by omega), show (x : Int) - 1 = ((x - 1 : Nat) : Int) by omega]) hf
theorem wmulN (h : x * y < 4611686018427387904) (hf : W (f (.int .i64 ((x * y : Nat) : Int))) Q) : W ((binP P .mul t (.int .i64 (x : Int)) (.int .i64 (y : Int))).bind f) Q := wbd (by rw [bin_mul, ← Int.natCast_mul, wr (by omega)]) hf
end
end

section
variable {Q : PV → PHeap → Prop} {x y : Nat} {f : PV → Res}
theorem wquoN (h : 1 ≤ y) (h2 : x < 4611686018427387904) (hf : W (f (.int .i64 ((x / y : Nat) : Int))) Q) : W ((binP Tryd.prog .quo 3 (.int .i64 (x : Int)) (.int .i64 (y : Int))).bind f) Q :=
  wbd (by rw [bin_quo (by omega), ← Int.ofNat_tdiv, wr (by have := Nat.div_le_self x y; generalize x / y = z at this ⊢; omega)]) hf
theorem wremN (h : 1 ≤ y) (hf : W (f (.int .i64 ((x % y : Nat) : Int))) Q) : W ((binP Tryd.prog .rem 3 (.int .i64 (x : Int)) (.int .i64 (y : Int))).bind f) Q := wbd (f_rem x y h) hf
theorem wrem2 (hf : W (f (.int .i64 ((x % 2 : Nat) : Int))) Q) : W ((binP Tryd.prog .rem 3 (.int .i64 (x : Int)) (.int .i64 2)).bind f) Q := wbd (f_rem x 2 (by decide)) hf
theorem wshl (h : y ≤ 30) (hf : W (f (.int .i64 ((1 <<< y : Nat) : Int))) Q) : W ((binP Tryd.prog .shl 3 (.int .i64 1) (.int .i64 (y : Int))).bind f) Q := wbd (f_shl y h) hf
theorem wshr (h : y ≤ 60) (hf : W (f (.int .i64 ((x >>> y : Nat) : Int))) Q) : W ((binP Tryd.prog .shr 3 (.int .i64 (x : Int)) (.int .i64 (y : Int))).bind f) Q := wbd (f_shr x y h) hf
theorem wand (hx : x < 2 ^ 62) (hy : y < 2 ^ 62) (hf : W (f (.int .i64 ((x &&& y : Nat) : Int))) Q) : W ((binP Tryd.prog .and 3 (.int .i64 (x : Int)) (.int .i64 (y : Int))).bind f) Q := wbd (f_and hx hy) hf
theorem wor (hx : x < 2 ^ 62) (hy : y < 2 ^ 62) (hf : W (f (.int .i64 ((x ||| y : Nat) : Int))) Q) : W ((binP Tryd.prog .or 3 (.int .i64 (x : Int)) (.int .i64 (y : Int))).bind f) Q := wbd (f_or hx hy) hf

/-- What is in x, and not in y. -/
def minusN (x y : Nat) : Nat := x ^^^ (x &&& y)
theorem minusN_bit (x y j : Nat) : (minusN x y).testBit j = (x.testBit j && !y.testBit j) := by
  unfold minusN; rw [Nat.testBit_xor, Nat.testBit_and]; cases x.testBit j <;> cases y.testBit j <;> rfl
theorem minusN_lt {x y n : Nat} (hx : x < 2 ^ n) : minusN x y < 2 ^ n := Nat.lt_of_le_of_lt (sub_le fun j hj => by rw [minusN_bit, Bool.and_eq_true] at hj; exact hj.1) hx
theorem minusN_one (x k : Nat) : minusN x (1 <<< k) = without x k := rfl

theorem f_andNot (hx : x < 2 ^ 62) (hy : y < 2 ^ 62) : binP Tryd.prog .andNot 3 (.int .i64 (x : Int)) (.int .i64 (y : Int)) = some (.int .i64 ((minusN x y : Nat) : Int)) := by
  have e1 : BitVec.ofInt 64 (x : Int) = BitVec.ofNat 64 x := by rw [BitVec.ofInt_natCast]
  have e2 : BitVec.ofInt 64 (y : Int) = BitVec.ofNat 64 y := by rw [BitVec.ofInt_natCast]
  have e3 : (BitVec.ofNat 64 x &&& ~~~(BitVec.ofNat 64 y)).toNat = minusN x y := by
    apply Nat.eq_of_testBit_eq
    intro j
    rw [minusN_bit, ← BitVec.getLsbD, BitVec.getLsbD_and, BitVec.getLsbD_not, BitVec.getLsbD_ofNat, BitVec.getLsbD_ofNat]
    by_cases hj : j < 64
    · simp [hj]
    · have : x.testBit j = false := Nat.testBit_lt_two_pow (Nat.lt_of_lt_of_le hx (Nat.pow_le_pow_right (by decide) (by omega)))
      simp [hj, this]
  show binI .andNot .i64 (x : Int) (y : Int) = _
  have hl : minusN x y < 2 ^ 62 := minusN_lt hx
  show some (PV.int .i64 (IntKind.i64.wrap ((BitVec.ofInt 64 (x : Int) &&& ~~~(BitVec.ofInt 64 (y : Int))).toNat))) = _
  rw [e1, e2, e3, wr (by omega)]
theorem wandNot (hx : x < 2 ^ 62) (hy : y < 2 ^ 62) (hf : W (f (.int .i64 ((minusN x y : Nat) : Int))) Q) : W ((binP Tryd.prog .andNot 3 (.int .i64 (x : Int)) (.int .i64 (y : Int))).bind f) Q := wbd (f_andNot hx hy) hf

/-! ### slices of integers -/
variable {h : PHeap} {p : PV} {xs : List Int}
theorem wlen (s : IntSl .i64 h p xs) (hf : W (f (.int .i64 (xs.length : Int))) Q) : W ((lenP Tryd.prog 23 p).bind f) Q := wbd s.len' hf
/-- An element is read. -/
theorem wat (s : IntSl .i64 h p xs) {i : Nat} (hi : i < xs.length) (hf : ∀ a, loadP Tryd.prog 3 a h = some (.int .i64 xs[i]) → W (f a) Q) : W ((indexAddrP Tryd.prog 23 p (.int .i64 (i : Int))).bind f) Q := by
  obtain ⟨a, e, l⟩ := s.at' hi; exact wbd e (hf a l)
theorem wresO {n : Nat} (s : OwnSl n h p xs) (hf : W (f p) Q) : W ((resV p).bind f) Q := wbd s.res hf
/-- An element is written. -/
theorem wst {n i : Nat} (s : OwnSl n h p xs) (hi : i < xs.length) {x : Int} {F : PV → PHeap → Res}
    (hf : ∀ h', OwnSl n h' p (xs.set i x) → Keep n h h' → h'.length = h.length → ∀ a, storeP Tryd.prog 3 a (.int .i64 x) h = some h' → W (F a h') Q) :
    W ((indexAddrP Tryd.prog 23 p (.int .i64 (i : Int))).bind fun a => (storeP Tryd.prog 3 a (.int .i64 x) h).bind fun h' => F a h') Q := by
  obtain ⟨a, h', e1, e2, o, k, l⟩ := s.store hi x
  refine wbd e1 ?_
  show W ((storeP Tryd.prog 3 a (.int .i64 x) h).bind fun h' => F a h') Q
  exact wbd e2 (hf h' o k l a e2)
/-- One element is appended. -/
theorem wap {n : Nat} (s : OwnSl n h p xs) (hn : n ≤ h.length) {x : Int} (hl : xs.length + 1 ≤ 2 ^ 36) {F : PV × PHeap → Res}
    (hf : ∀ p' h', OwnSl n h' p' (xs ++ [x]) → Keep n h h' → W (F (p', h')) Q) :
    W ((buildSliceP Tryd.prog 23 1 [(0, .int .i64 x)] h).bind fun v => (appendP Tryd.prog 23 23 p v.1 v.2).bind F) Q := by
  obtain ⟨v, p', h', e1, e2, o, k⟩ := s.append hn x hl
  exact wbd e1 (wbd e2 (hf p' h' o k))
/-- A slice is made. -/
theorem wmake {m : Nat} (hm : m ≤ 2 ^ 36) {F : PV × PHeap → Res} (hf : ∀ p h', OwnSl h.length h' p (List.replicate m 0) → Keep h.length h h' → W (F (p, h')) Q) :
    W ((makeP Tryd.prog 23 (.int .i64 (m : Int)) (.int .i64 (m : Int)) h).bind F) Q := by
  obtain ⟨p, h', e, o, k⟩ := made (h := h) hm; exact wbd e (hf p h' o k)
theorem wempty {F : PV × PHeap → Res} (hf : ∀ p h', OwnSl h.length h' p [] → Keep h.length h h' → W (F (p, h')) Q) : W ((buildSliceP Tryd.prog 23 0 [] h).bind F) Q := by
  obtain ⟨p, h', e, o, k⟩ := empty_lit (h := h); exact wbd e (hf p h' o k)
end

/-! ### loops -/
theorem loopW {f : St → (PX → St → Res) → Res} {k : PX → St → Res} {Q : PV → PHeap → Prop} (I : Nat → St → Prop)
    (step : ∀ n m s, I m s → (∀ m' s', m' < m → I m' s' → W (kLoop f n k .normal s') Q) → W (f s (kLoop f n k)) Q) : ∀ (fuel m : Nat) (s : St), m < fuel → I m s → W (loopK f fuel s k) Q
  | 0, m, s, hm, _ => by omega
  | n + 1, m, s, hm, hI => by
    rw [loopK_succ]
    exact step n m s hI fun m' s' hm' hI' => by rw [kLoop_normal]; exact loopW I step n m' s' (by omega) hI'

/-- A list that whatever changes behind mark b leaves as it is. -/
def Fix (b : Nat) (h : PHeap) (p : PV) (xs : List Int) : Prop := ∀ h', Keep b h h' → IntSl .i64 h' p xs
theorem Fix.now {b : Nat} {h : PHeap} {p : PV} {xs : List Int} (s : Fix b h p xs) : IntSl .i64 h p xs := s h (Keep.refl _ _)
theorem Fix.keep {b : Nat} {h h' : PHeap} {p : PV} {xs : List Int} (s : Fix b h p xs) (k : Keep b h h') : Fix b h' p xs := fun h2 k2 => s h2 (k.trans k2)
theorem IntSl.fix {h : PHeap} {p : PV} {xs : List Int} (s : IntSl .i64 h p xs) : Fix h.length h p xs := fun _ k => s.keep k
theorem Fix.mono {b b' : Nat} {h : PHeap} {p : PV} {xs : List Int} (s : Fix b h p xs) (hb : b ≤ b') : Fix b' h p xs := fun h2 k2 => s h2 (k2.mono hb)

end Go.Proofs.YtkbnngklbfnkiaaDoor

/- The laws of chapter 2 over what the program's functions are asked to compute: the draws, the exact laws, and promise 9. -/
namespace Go.Proofs.YtkbnngklbfnkiaaDoor
open Go Go.Ip G

/-- What the program's functions may read besides: the table of steps, where there is one. -/
def TabOk (g : Nat → PV) (h : PHeap) : Prop := Tab g h ∧ Tab64 g h
theorem TabOk.keep {g : Nat → PV} {h h' : PHeap} (t : TabOk g h) (k : Keep h.length h h') : TabOk g h' := ⟨Tab.keep t.1 k, Tab64.keep t.2 k⟩

/-- What is asked of the program's functions of chapter 2. -/
def JoinsOk (g : Nat → PV) (lf : Nat) : Prop := ∀ (N : Nat), 20 ≤ N → ∀ (r c pl : Int) {xs : List Int} {p : PV} {h : PHeap}, TabOk g h → IntSl .i64 h p xs → xs.length ≤ 2 ^ 35 → xs.length < lf →
  ∃ h', CL g lf N fn_impl_Joins [.int .i64 r, .int .i64 c, p, .int .i64 pl] h = some (.bool (joinsL r c xs pl), h') ∧ Keep h.length h h'
variable (g : Nat → PV) (lf n : Nat)

/-! ### the exact laws -/
/-- Of two functions that make one list of a position both sides of an exact law come out the same: what the law looks at, in its order. -/
theorem exact_chain2 {xs L : List Int} {p : PV} {h : PHeap} (N : Nat) (hN : 1 ≤ N) (fS fI : PV → PHeap → Res)
    (hS : ∀ q hh, Keep h.length h hh → IntSl .i64 hh q xs → ∃ w h', fS q hh = some (w, h') ∧ OwnSl hh.length h' w L ∧ Keep hh.length hh h')
    (hI : ∀ q hh, Keep h.length h hh → IntSl .i64 hh q xs → ∃ w h', fI q hh = some (w, h') ∧ OwnSl hh.length h' w L ∧ Keep hh.length hh h')
    (hp : IntSl .i64 h p xs) (hl : xs.length ≤ 1048576) (hL : L.length ≤ 1048576) (hf : 1048576 < lf) :
    ∃ q1 h1 w h2 q3 h3 g0 h4 y h5 h6 h7 q8 h8 g1 h9, CL g lf N fn_laws_toIntS [p] h = some (q1, h1) ∧ fS q1 h1 = some (w, h2) ∧ CL g lf N fn_laws_toIntS [p] h2 = some (q3, h3) ∧ fI q3 h3 = some (g0, h4) ∧
      CL g lf N fn_laws_eqIntS [g0, w] h4 = some (.bool true, h4) ∧ CL g lf N fn_laws_toIntS [p] h4 = some (y, h5) ∧ CL g lf N fn_laws_eqIntS [q3, y] h5 = some (.bool true, h5) ∧
      CL g lf N fn_laws_markIntS [q3, .int .i64 1] h5 = some (.int .i64 (1 + xs.length), h6) ∧ CL g lf N fn_laws_eqIntS [g0, w] h6 = some (.bool true, h6) ∧
      CL g lf N fn_laws_markIntS [g0, .int .i64 1] h6 = some (.int .i64 (1 + L.length), h7) ∧ CL g lf N fn_laws_heldIntS [g0, .int .i64 1] h7 = some (.int .i64 (1 + L.length), h7) ∧
      CL g lf N fn_laws_toIntS [p] h7 = some (q8, h8) ∧ fI q8 h8 = some (g1, h9) ∧ CL g lf N fn_laws_eqIntS [g1, w] h9 = some (.bool true, h9) ∧ CL g lf N fn_laws_heldIntS [g0, .int .i64 1] h9 = some (.int .i64 (1 + L.length), h9) := by
  obtain ⟨n, rfl⟩ : ∃ n, N = n + 1 := ⟨N - 1, by omega⟩
  obtain ⟨q1, h1, e1, o1, k1⟩ := toIntS_calls g lf (n + 1) (by omega) hp (by omega) (by omega)
  obtain ⟨w, h2, e2, ow, k2⟩ := hS q1 h1 k1 o1.int
  have K2 : Keep h.length h h2 := k1.trans (k2.mono k1.1)
  obtain ⟨q3, h3, e3, o3, k3⟩ := toIntS_calls g lf (n + 1) (by omega) (hp.keep K2) (by omega) (by omega)
  have K3 : Keep h.length h h3 := K2.trans (k3.mono K2.1)
  obtain ⟨g0, h4, e4, og, k4⟩ := hI q3 h3 K3 o3.int
  have K4 : Keep h.length h h4 := K3.trans (k4.mono K3.1)
  obtain ⟨y, h5, e5, oy, k5⟩ := toIntS_calls g lf (n + 1) (by omega) (hp.keep K4) (by omega) (by omega)
  have K5 : Keep h.length h h5 := K4.trans (k5.mono K4.1)
  have w2 := ow.b
  have w3 := w2.keep k3
  have w4 := w3.keep (k4.mono k3.1)
  have w5 := w4.keep (k5.mono (Nat.le_trans k3.1 k4.1))
  have x3 := o3.b
  have x4 := x3.keep k4
  have x5 := x4.keep (k5.mono k4.1)
  have g4 := og.b
  have g5 := g4.keep k5
  have s4 := eqIntS_calls g lf n og.int w4.int (by omega) (by omega)
  have s5 := eqIntS_calls g lf n x5.int oy.int (by omega) (by omega)
  obtain ⟨h6, e6, x6, t6⟩ := markIntS_calls g lf (n + 1) (by omega) x5 (by omega) (by omega)
  have K6 : Keep h.length h h6 := K5.trans (t6.keep.mono (K2.1))
  have w6 := w5.only t6 (.inl (Nat.le_refl _))
  have g6 := g5.only t6 (.inr (Nat.le_refl _))
  have s6 := eqIntS_calls g lf n g6.int w6.int (by omega) (by omega)
  obtain ⟨h7, e7, g7, t7⟩ := markIntS_calls g lf (n + 1) (by omega) g6 (by omega) (by omega)
  have K7 : Keep h.length h h7 := K6.trans (t7.keep.mono (K3.1))
  have w7 := w6.only t7 (.inl k3.1)
  have s7 := heldIntS_calls g lf (n + 1) (by omega) g7.int (by omega) (by omega)
  obtain ⟨q8, h8, e8, o8, k8⟩ := toIntS_calls g lf (n + 1) (by omega) (hp.keep K7) (by omega) (by omega)
  obtain ⟨g1, h9, e9, o9, k9⟩ := hI q8 h8 (K7.trans (k8.mono K7.1)) o8.int
  have len7 : h4.length ≤ h7.length := by rw [t7.1, t6.1]; exact k5.1
  have len2 : h2.length ≤ h7.length := Nat.le_trans (Nat.le_trans k3.1 k4.1) len7
  have w8 := w7.keep (k8.mono len2)
  have w9 := w8.keep (k9.mono (Nat.le_trans len2 k8.1))
  have g8 := g7.keep (k8.mono len7)
  have g9 := g8.keep (k9.mono (Nat.le_trans len7 k8.1))
  have s9 := eqIntS_calls g lf n o9.int w9.int (by omega) (by omega)
  have s10 := heldIntS_calls g lf (n + 1) (by omega) g9.int (by omega) (by omega)
  simp only [decide_true] at s4 s5 s6 s9
  exact ⟨q1, h1, w, h2, q3, h3, g0, h4, y, h5, h6, h7, q8, h8, g1, h9, e1, e2, e3, e4, s4, e5, s5, e6, s6, e7, s7, e8, e9, s9, s10⟩


theorem groupL_length (r c : Int) (xs : List Int) (k : Int) : (groupL r c xs k).length ≤ 9 := by
  unfold groupL; split
  · exact listN_length _
  · simp
theorem filledL_length (r c : Int) (xs : List Int) (p : Int) : (filledL r c xs p).length ≤ xs.length := by
  unfold filledL; split <;> simp
theorem gapCellsL_length (r c : Int) (xs : List Int) (p : Int) : (gapCellsL r c xs p).length ≤ xs.length := by
  unfold gapCellsL; split
  · rw [List.length_map]
    refine Nat.le_trans (List.length_filter_le _ _) ?_
    rw [List.length_range]; exact Nat.le_refl _
  · simp

/-! ### the draws -/
theorem sided_calls {h : PHeap} {id m : Nat} (N : Nat) (hN : 5 ≤ N) (k : Int) (hr : Rd h id m) (hm : m ≤ 700000) (hk : k ≤ 400000) (hk0 : 1 ≤ k) (hlf : 20 < lf) :
    ∃ (r c : Int) (q : PV) (xs : List Int) (pl : Int) (h' : PHeap), CL g lf N fn_spec_l20Sided [.ptr id 0, .int .i64 k] h = some (.tup [.int .i64 r, .int .i64 c, q, .int .i64 pl], h') ∧ Keep id h h' ∧ OwnSl (id + 1) h' q xs ∧ xs.length ≤ 10 ∧ 1 ≤ pl ∧ pl ≤ 4 := by
  obtain ⟨n, rfl⟩ : ∃ n, N = n + 1 := ⟨N - 1, by omega⟩
  rw [spec_l20Sided.call_eq]
  obtain ⟨r, c, q, xs, h1, e1, r1, k1, o1, hl, hrc⟩ := position_calls g lf n (by omega) k hr (by omega) hk hk0 hlf
  obtain ⟨v1, h2, e2, r2, o2, a1, a2, _⟩ := pick_calls g lf n (by omega) 2 r1 (by omega) (by omega)
  obtain ⟨v2, h3, e3, r3, o3, b1, b2, _⟩ := pick_calls g lf n (by omega) 60 r2 (by omega) (by omega)
  have a2' := a2 (by omega)
  have b2' := b2 (by omega)
  have hq := tdiv_range b1 (show (1 : Int) ≤ 59 by decide)
  have hq1 : v2.tdiv 59 ≤ 1 := by
    obtain ⟨V, rfl⟩ := Int.eq_ofNat_of_zero_le b1
    have : ((V : Int).tdiv 59) = ((V / 59 : Nat) : Int) := rfl
    rw [this]; omega
  have f1 : binP Tryd.prog .add 3 (.int .i64 1) (.int .i64 v1) = some (.int .i64 (1 + v1)) := by rw [bin_add, wr (by omega)]
  have f2 : binP Tryd.prog .quo 3 (.int .i64 v2) (.int .i64 59) = some (.int .i64 (v2.tdiv 59)) := by rw [bin_quo (by decide), wr (by omega)]
  have f3 : binP Tryd.prog .mul 3 (.int .i64 (v2.tdiv 59)) (.int .i64 2) = some (.int .i64 (v2.tdiv 59 * 2)) := by rw [bin_mul, wr (by omega)]
  have f4 : binP Tryd.prog .add 3 (.int .i64 (1 + v1)) (.int .i64 (v2.tdiv 59 * 2)) = some (.int .i64 (1 + v1 + v2.tdiv 59 * 2)) := by rw [bin_add, wr (by omega)]
  have ho := (o1.keepOnly o2 (by omega)).keepOnly o3 (by omega)
  refine ⟨r, c, q, xs, 1 + v1 + v2.tdiv 59 * 2, h3, ?_, (k1.trans o2.keep).trans o3.keep, ho, hl, by omega, by omega⟩
  unfold spec_l20Sided.main
  exact bd e1 (bd extract_tup (bd extract_tup (bd extract_tup (bd e2 (bd f1 (bd e3 (bd f2 (bd f3 (bd f4 (bd res_int (bd res_int (bd o1.res (bd res_int rfl)))))))))))))

theorem halfTurned_N {xs : List Int} {p : PV} {h : PHeap} (N : Nat) (hN : 4 ≤ N) (r c : Int) (hp : IntSl .i64 h p xs) (hl : xs.length ≤ 2 ^ 35) (hf : xs.length < lf) :
    ∃ q h', CL g lf N fn_impl_HalfTurned [.int .i64 r, .int .i64 c, p] h = some (q, h') ∧ OwnSl h.length h' q (turnL r c xs) ∧ Keep h.length h h' := halfTurned_calls g lf N hN r c hp hl hf

/-- Behind a position that is none, or a player that is none. -/
theorem joinsL_none {r c : Int} {xs : List Int} {pl : Int} (h : posB r c xs = false ∨ 2 < pl) : joinsL r c xs pl = false := by
  unfold joinsL playerB
  rcases h with h | h
  · rw [h]; rfl
  · rw [decide_eq_false (show ¬ (1 ≤ pl ∧ pl ≤ 2) by omega), Bool.and_false, Bool.false_and]
theorem gapL_none {r c : Int} {xs : List Int} {pl : Int} (h : posB r c xs = false ∨ 2 < pl) : gapL r c xs pl = -1 := by
  unfold gapL playerB
  rcases h with h | h
  · rw [h]; rfl
  · rw [decide_eq_false (show ¬ (1 ≤ pl ∧ pl ≤ 2) by omega), Bool.and_false]; rfl

end Go.Proofs.YtkbnngklbfnkiaaDoor

/- Promises 11, 12, 13 and 14 over what the program's functions are asked to compute. -/
namespace Go.Proofs.YtkbnngklbfnkiaaDoor
open Go Go.Ip G

/-! ### more facts on positions -/
theorem range_count (w : Int) : ∀ (xs : List Int) (n : Nat), xs.length ≤ n → (List.range n).countP (fun j => decide (xs[j]? = some w)) = xs.count w
  | [], n, _ => by
    rw [List.count_nil, List.countP_eq_zero]
    intro j _; simp
  | x :: xs, n, h => by
    obtain ⟨m, rfl⟩ : ∃ m, n = m + 1 := ⟨n - 1, by simp at h; omega⟩
    rw [List.range_succ_eq_map, List.countP_cons, List.countP_map, List.count_cons]
    have ih := range_count w xs m (by simpa using h)
    have : ((fun j => decide ((x :: xs)[j]? = some w)) ∘ Nat.succ) = fun j => decide (xs[j]? = some w) := by
      funext j; simp
    rw [this, ih]
    congr 1
    by_cases e : x = w <;> simp [e]

theorem pop_count {xs : List Int} (h : xs.length ≤ 9) (w : Int) : pop (setL xs w) = xs.count w := by
  rw [← range_count w xs 9 h]
  unfold pop
  apply List.countP_congr
  intro j _
  rw [setL_bit, decide_eq_true_iff]

theorem gap_le_free {R C P : Nat} {r c : Int} {xs : List Int} (hs : Sides r c R C xs) : gapN (masksN R C) (setL xs (P : Int)) (setL xs 0) (sideN R C P false) (sideN R C P true) (R * C) ≤ (xs.count 0 : Int) := by
  have hl : xs.length ≤ 9 := by have := hs.2.2.2.2.2.2.2.1; have := hs.2.2.2.2.2.2.1; omega
  rcases gap_spec (P := P) hs with ⟨k, hk, hg⟩ | ⟨hk, _⟩
  · have := gap_pop (set_lt9 hs 0) hg
    rw [pop_count hl] at this
    rw [hk]; omega
  · rw [hk]; omega

theorem gap_joins {R C P : Nat} {xs : List Int} (hb : posB (R : Int) (C : Int) xs = true) (hs : Sides (R : Int) (C : Int) R C xs) (hP : P = 1 ∨ P = 2) : decide (gapL (R : Int) (C : Int) xs (P : Int) = 0) = joinsL (R : Int) (C : Int) xs (P : Int) := by
  rw [gapL_eq hb hP, joinsL_eq hb hP, Bool.eq_iff_iff, decide_eq_true_iff]
  exact gap_zero_iff hs
theorem gap_other {R C P : Nat} {xs : List Int} (hb : posB (R : Int) (C : Int) xs = true) (hs : Sides (R : Int) (C : Int) R C xs) (hP : P = 1 ∨ P = 2) : decide (gapL (R : Int) (C : Int) xs (P : Int) = -1) = joinsL (R : Int) (C : Int) xs ((3 - P : Nat) : Int) := by
  rw [gapL_eq hb hP, joinsL_eq hb (by omega), Bool.eq_iff_iff, decide_eq_true_iff]
  exact gap_none_iff hs hP
theorem gap_filled {R C P : Nat} {xs : List Int} (hb : posB (R : Int) (C : Int) xs = true) (hs : Sides (R : Int) (C : Int) R C xs) (hP : P = 1 ∨ P = 2) : joinsL (R : Int) (C : Int) (xs.map (fillL (P : Int))) (P : Int) = decide (0 ≤ gapL (R : Int) (C : Int) xs (P : Int)) := by
  rw [joinsL_eq (filled_pos hb hP) hP, (filled_set hs hP).1, other_joins hs hP, ← joinsL_eq hb (show 3 - P = 1 ∨ 3 - P = 2 by omega), ← gap_other hb hs hP]
  have := (gapL_small (R : Int) (C : Int) xs (P : Int)).1
  rw [Bool.eq_iff_iff, Bool.not_eq_true', decide_eq_false_iff_not, decide_eq_true_iff]
  omega

theorem pos_set {R C P : Nat} {xs : List Int} (hb : posB (R : Int) (C : Int) xs = true) (hP : P = 1 ∨ P = 2) (k : Nat) : posB (R : Int) (C : Int) (xs.set k (P : Int)) = true := by
  unfold posB at hb ⊢
  rw [List.length_set]
  rw [Bool.and_eq_true] at hb ⊢
  refine ⟨hb.1, ?_⟩
  rw [List.all_eq_true]
  intro x hx
  rcases List.mem_or_eq_of_mem_set hx with hx | rfl
  · exact List.all_eq_true.1 hb.2 x hx
  · rcases hP with rfl | rfl <;> rfl

/-- With a stone more on a free cell. -/
theorem gapL_stone {R C P : Nat} {xs : List Int} (hb : posB (R : Int) (C : Int) xs = true) (hs : Sides (R : Int) (C : Int) R C xs) (hP : P = 1 ∨ P = 2) {k : Nat} (hk : xs[k]? = some 0) (h0 : 0 ≤ gapL (R : Int) (C : Int) xs (P : Int)) :
    gapL (R : Int) (C : Int) (xs.set k (P : Int)) (P : Int) = gapL (R : Int) (C : Int) xs (P : Int) ∨ (1 ≤ gapL (R : Int) (C : Int) xs (P : Int) ∧ gapL (R : Int) (C : Int) (xs.set k (P : Int)) (P : Int) = gapL (R : Int) (C : Int) xs (P : Int) - 1) := by
  rw [gapL_eq (pos_set hb hP k) hP, gapL_eq hb hP]
  rw [gapL_eq hb hP] at h0
  rcases gap_spec (P := P) hs with ⟨G, hG, hg⟩ | ⟨hG, _⟩
  · rw [hG]
    rcases gap_stone hs hP hk hg with h | ⟨h1, h⟩
    · exact .inl h
    · exact .inr ⟨by omega, h⟩
  · omega

theorem free_first {r c : Int} {xs : List Int} (hb : posB r c xs = true) {i : Nat} (hi : i < (cellsL r c xs 0).length) : ∃ j : Nat, (cellsL r c xs 0)[i] = (j : Int) ∧ xs[j]? = some 0 := by
  obtain ⟨e, he⟩ : ∃ e, e = (cellsL r c xs 0)[i] := ⟨_, rfl⟩
  have hm : e ∈ cellsL r c xs 0 := by rw [he]; exact List.getElem_mem hi
  have hc : cellsL r c xs 0 = cellsFrom 0 0 xs := by unfold cellsL; rw [hb]; rfl
  rw [hc] at hm
  obtain ⟨j, h1, h2⟩ := cellsFrom_mem 0 xs 0 _ hm
  exact ⟨j, by rw [← he, h1, Nat.zero_add], h2⟩

variable (g : Nat → PV) (lf n : Nat)

/-! ### promise 12 -/
end Go.Proofs.YtkbnngklbfnkiaaDoor

/- Promises 13 and 14 over what the program's functions are asked to compute. -/
namespace Go.Proofs.YtkbnngklbfnkiaaDoor
open Go Go.Ip G

/-! ### the cells that close a gap -/
theorem gc_mem {r c p : Int} {xs : List Int} (h0 : 0 < gapL r c xs p) {k : Nat} (hk : xs[k]? = some 0) : (k : Int) ∈ gapCellsL r c xs p ↔ gapL r c (xs.set k p) p = gapL r c xs p - 1 := by
  have hkl : k < xs.length := (List.getElem?_eq_some_iff.1 hk).1
  have hgd : xs.getD k 0 = 0 := by rw [List.getD_eq_getElem?_getD, hk]; rfl
  unfold gapCellsL
  rw [if_pos h0, List.mem_map]
  constructor
  · rintro ⟨j, hj, e⟩
    obtain rfl : j = k := by omega
    rw [List.mem_filter, Bool.and_eq_true, decide_eq_true_iff, decide_eq_true_iff] at hj
    exact hj.2.2
  · intro h
    refine ⟨k, ?_, rfl⟩
    rw [List.mem_filter, Bool.and_eq_true, decide_eq_true_iff, decide_eq_true_iff, List.mem_range]
    exact ⟨hkl, hgd, h⟩

theorem gc_sorted (r c : Int) (xs : List Int) (p : Int) : ∀ i (hi : i + 1 < (gapCellsL r c xs p).length), (gapCellsL r c xs p)[i] < (gapCellsL r c xs p)[i + 1] := by
  have hs : (gapCellsL r c xs p).Pairwise (· < ·) := by
    unfold gapCellsL
    split
    · rw [List.pairwise_map]
      refine (List.Pairwise.filter _ List.pairwise_lt_range).imp ?_
      intro a b h; omega
    · exact List.Pairwise.nil
  intro i hi
  exact List.pairwise_iff_getElem.1 hs i (i + 1) (by omega) hi (by omega)

theorem gc_count {R C P : Nat} {xs : List Int} (hb : posB (R : Int) (C : Int) xs = true) (hs : Sides (R : Int) (C : Int) R C xs) (hP : P = 1 ∨ P = 2) (h0 : 0 < gapL (R : Int) (C : Int) xs (P : Int)) : gapL (R : Int) (C : Int) xs (P : Int) ≤ ((gapCellsL (R : Int) (C : Int) xs (P : Int)).length : Int) := by
  have h9 := hs.2.2.2.2.2.2.1
  have hlen := hs.2.2.2.2.2.2.2.1
  have hge := gapL_eq hb hP
  rcases gap_spec (P := P) hs with ⟨G, hG, hg⟩ | ⟨hG, _⟩
  · have hc := good_count h9 (set_lt9 hs _) (set_lt hs 0) hg
    have hl : (gapCellsL (R : Int) (C : Int) xs (P : Int)).length = (List.range (R * C)).countP (goodB (masksN R C) (setL xs (P : Int)) (setL xs 0) (sideN R C P false) (sideN R C P true) (R * C)) := by
      unfold gapCellsL
      rw [if_pos h0, List.length_map, ← List.countP_eq_length_filter, hlen]
      apply List.countP_congr
      intro k hk
      rw [List.mem_range] at hk
      have hkl : k < xs.length := by omega
      unfold goodB
      rw [Bool.and_eq_true, Bool.and_eq_true, decide_eq_true_iff, decide_eq_true_iff, decide_eq_true_iff, setL_bit]
      have hgd : xs.getD k 0 = 0 ↔ xs[k]? = some 0 := by
        rw [List.getD_eq_getElem?_getD, List.getElem?_eq_getElem hkl]; simp
      rw [hgd]
      refine and_congr_right fun hz => ?_
      obtain ⟨e1, e2, _⟩ := set_more hs hP hz
      rw [gapL_eq (pos_set hb hP k) hP, hge, e1, e2]
    rw [hge, hG, hl]
    omega
  · rw [hge, hG]; omega

variable (g : Nat → PV) (lf n : Nat)

/-! ### gaps of free boards, and mirrored -/
theorem free_all : (boards.all fun b => decide (gapL (b.1 : Int) (b.2 : Int) (List.replicate (b.1 * b.2) 0) 1 = (b.1 : Int)) && decide (gapL (b.1 : Int) (b.2 : Int) (List.replicate (b.1 * b.2) 0) 2 = (b.2 : Int))) = true := by kernel_rfl

def mirOkB (R C : Nat) : Bool :=
  ((List.range (R * C)).all fun k => (List.range (R * C)).all fun j => ((masksN R C).getD k 0).testBit j == ((masksN C R).getD (sig C R k) 0).testBit (sig C R j)) &&
  ((List.range (R * C)).all fun j => [1, 2].all fun P => [true, false].all fun last => (sideN R C P last).testBit j == (sideN C R (3 - P) last).testBit (sig C R j))
theorem mirOk_all : (boards.all fun b => mirOkB b.1 b.2) = true := by kernel_rfl

theorem cost_mirror {R C P : Nat} {r c : Int} {xs : List Int} (hs : Sides r c R C xs) (hP : P = 1 ∨ P = 2) {k j : Nat} (h : Cost (masksN R C) (sideN R C P false) (setL xs (P : Int)) (setL xs 0) k j) :
    Cost (masksN C R) (sideN C R (3 - P) false) (setL (mir R C xs) ((3 - P : Nat) : Int)) (setL (mir R C xs) 0) k (sig C R j) := by
  have hm := List.all_eq_true.1 mirOk_all (R, C) (board_mem (board_of_sides hs))
  unfold mirOkB at hm
  rw [Bool.and_eq_true] at hm
  have hadj : ∀ i j, i < R * C → j < R * C → Adj (masksN R C) i j → Adj (masksN C R) (sig C R i) (sig C R j) := fun i j hi hj ha => by
    have := List.all_eq_true.1 (List.all_eq_true.1 hm.1 i (by rw [List.mem_range]; exact hi)) j (by rw [List.mem_range]; exact hj)
    rw [beq_iff_eq] at this
    unfold Adj at ha ⊢
    rw [← this]; exact ha
  have hedge : ∀ j, j < R * C → (sideN R C P false).testBit j = true → (sideN C R (3 - P) false).testBit (sig C R j) = true := fun j hj he => by
    have := List.all_eq_true.1 hm.2 j (by rw [List.mem_range]; exact hj)
    have := List.all_eq_true.1 this P (by rcases hP with rfl | rfl <;> simp)
    have := List.all_eq_true.1 this false (by simp)
    rw [beq_iff_eq] at this
    rw [← this]; exact he
  have hown : ∀ j, (setL xs (P : Int)).testBit j = true → (setL (mir R C xs) ((3 - P : Nat) : Int)).testBit (sig C R j) = true := fun j hj => by
    rw [← swap_player hP, setL_mir hs, moved_bit]
    exact ⟨j, set_in hs hj, hj, rfl⟩
  have hfree : ∀ j, (setL xs 0).testBit j = true → (setL (mir R C xs) 0).testBit (sig C R j) = true := fun j hj => by
    have e : setL (mir R C xs) 0 = moved (sig C R) (setL xs 0) (R * C) := setL_mir hs 0
    rw [e, moved_bit]
    exact ⟨j, set_in hs hj, hj, rfl⟩
  have hin : ∀ {k j}, Cost (masksN R C) (sideN R C P false) (setL xs (P : Int)) (setL xs 0) k j → j < R * C := fun h => by
    cases h with
    | ownEdge _ h => exact set_in hs h
    | freeEdge _ h => exact set_in hs h
    | ownStep _ _ h => exact set_in hs h
    | freeStep _ _ h => exact set_in hs h
  induction h with
  | ownEdge h ho => exact .ownEdge (hedge _ (set_in hs ho) h) (hown _ ho)
  | freeEdge h hf => exact .freeEdge (hedge _ (set_in hs hf) h) (hfree _ hf)
  | ownStep h ha ho ih => exact .ownStep ih (hadj _ _ (hin h) (set_in hs ho) ha) (hown _ ho)
  | freeStep h ha hf ih => exact .freeStep ih (hadj _ _ (hin h) (set_in hs hf) ha) (hfree _ hf)

theorem hits_mirror {R C P : Nat} {r c : Int} {xs : List Int} (hs : Sides r c R C xs) (hP : P = 1 ∨ P = 2) {k : Nat} (h : Hits (masksN R C) (setL xs (P : Int)) (setL xs 0) (sideN R C P false) (sideN R C P true) k) :
    Hits (masksN C R) (setL (mir R C xs) ((3 - P : Nat) : Int)) (setL (mir R C xs) 0) (sideN C R (3 - P) false) (sideN C R (3 - P) true) k := by
  obtain ⟨j, hj, hc⟩ := h
  have hm := List.all_eq_true.1 mirOk_all (R, C) (board_mem (board_of_sides hs))
  unfold mirOkB at hm
  rw [Bool.and_eq_true] at hm
  have hjn : j < R * C := by
    cases hc with
    | ownEdge _ h => exact set_in hs h
    | freeEdge _ h => exact set_in hs h
    | ownStep _ _ h => exact set_in hs h
    | freeStep _ _ h => exact set_in hs h
  have := List.all_eq_true.1 hm.2 j (by rw [List.mem_range]; exact hjn)
  have := List.all_eq_true.1 this P (by rcases hP with rfl | rfl <;> simp)
  have := List.all_eq_true.1 this true (by simp)
  rw [beq_iff_eq] at this
  exact ⟨sig C R j, by rw [← this]; exact hj, cost_mirror hs hP hc⟩

theorem sides_mir {R C : Nat} {xs : List Int} (hb : posB (R : Int) (C : Int) xs = true) (hs : Sides (R : Int) (C : Int) R C xs) : Sides (C : Int) (R : Int) C R (mir R C xs) := by
  have hmb := posB_mir hs hb
  obtain ⟨R', C', hS'⟩ := sides_of hmb
  obtain ⟨a1, a2, rest⟩ := id hS'
  obtain rfl : R' = C := by omega
  obtain rfl : C' = R := by omega
  exact hS'

theorem gap_mirror {R C P : Nat} {xs : List Int} (hb : posB (R : Int) (C : Int) xs = true) (hs : Sides (R : Int) (C : Int) R C xs) (hP : P = 1 ∨ P = 2) : gapL (C : Int) (R : Int) (mir R C xs) ((3 - P : Nat) : Int) = gapL (R : Int) (C : Int) xs (P : Int) := by
  have hmb := posB_mir hs hb
  have hs' := sides_mir hb hs
  have hP' : 3 - P = 1 ∨ 3 - P = 2 := by omega
  have fwd : ∀ k, Hits (masksN R C) (setL xs (P : Int)) (setL xs 0) (sideN R C P false) (sideN R C P true) k → Hits (masksN C R) (setL (mir R C xs) ((3 - P : Nat) : Int)) (setL (mir R C xs) 0) (sideN C R (3 - P) false) (sideN C R (3 - P) true) k := fun k h => hits_mirror hs hP h
  have bwd : ∀ k, Hits (masksN C R) (setL (mir R C xs) ((3 - P : Nat) : Int)) (setL (mir R C xs) 0) (sideN C R (3 - P) false) (sideN C R (3 - P) true) k → Hits (masksN R C) (setL xs (P : Int)) (setL xs 0) (sideN R C P false) (sideN R C P true) k := fun k h => by
    have := hits_mirror hs' hP' h
    rw [mir_mir hs.2.2.1 hs.2.2.2.1 hs.2.2.2.2.1 hs.2.2.2.2.2.1 hs.2.2.2.2.2.2.1 hs.2.2.2.2.2.2.2.1, show 3 - (3 - P) = P by omega] at this
    exact this
  rw [gapL_eq hmb hP', gapL_eq hb hP]
  rcases gap_spec (P := P) hs with ⟨k, hk, hg⟩ | ⟨hk, hn⟩
  · rcases gap_spec (P := 3 - P) hs' with ⟨k', hk', hg'⟩ | ⟨_, hn'⟩
    · have : IsGap (masksN R C) (setL xs (P : Int)) (setL xs 0) (sideN R C P false) (sideN R C P true) k' := ⟨bwd _ hg'.1, fun i hi h => hg'.2 i hi (fwd i h)⟩
      rw [hk, hk', hg.unique this]
    · exact absurd (fwd _ hg.1) (hn' _)
  · rcases gap_spec (P := 3 - P) hs' with ⟨k', _, hg'⟩ | ⟨hk', _⟩
    · exact absurd (bwd _ hg'.1) (hn _)
    · rw [hk, hk']

end Go.Proofs.YtkbnngklbfnkiaaDoor

/- Promises 10 and 15 over what the program's functions are asked to compute. -/
namespace Go.Proofs.YtkbnngklbfnkiaaDoor
open Go Go.Ip G

/-! ### lists of sets -/
theorem listFrom_mem (S : Nat) (e : Int) : ∀ (m k : Nat), e ∈ listFrom S m k ↔ ∃ j : Nat, e = (j : Int) ∧ k ≤ j ∧ j < k + m ∧ S.testBit j = true
  | 0, k => by
    rw [listFrom]
    constructor
    · intro h; simp at h
    · rintro ⟨j, _, h1, h2, _⟩; omega
  | m + 1, k => by
    have ih := listFrom_mem S e m (k + 1)
    rw [listFrom]
    by_cases hb : S >>> k % 2 = 1
    · rw [if_pos hb, List.mem_cons, ih]
      constructor
      · rintro (h | ⟨j, h1, h2, h3, h4⟩)
        · exact ⟨k, h, Nat.le_refl _, by omega, (bit_iff S k).1 hb⟩
        · exact ⟨j, h1, by omega, by omega, h4⟩
      · rintro ⟨j, h1, h2, h3, h4⟩
        by_cases e2 : j = k
        · exact .inl (by rw [h1, e2])
        · exact .inr ⟨j, h1, by omega, by omega, h4⟩
    · rw [if_neg hb, ih]
      constructor
      · rintro ⟨j, h1, h2, h3, h4⟩
        exact ⟨j, h1, by omega, by omega, h4⟩
      · rintro ⟨j, h1, h2, h3, h4⟩
        by_cases e2 : j = k
        · subst e2; exact absurd ((bit_iff S j).2 h4) hb
        · exact ⟨j, h1, by omega, by omega, h4⟩

theorem listN_mem {S : Nat} (hS : S < 2 ^ 9) (e : Int) : e ∈ listN S ↔ ∃ j : Nat, e = (j : Int) ∧ S.testBit j = true := by
  unfold listN
  rw [listFrom_mem]
  constructor
  · rintro ⟨j, h1, _, _, h4⟩; exact ⟨j, h1, h4⟩
  · rintro ⟨j, h1, h4⟩; exact ⟨j, h1, Nat.zero_le _, by have := bit_small hS h4; omega, h4⟩

theorem listFrom_sorted (S : Nat) : ∀ (m k : Nat), (listFrom S m k).Pairwise (· < ·)
  | 0, _ => List.Pairwise.nil
  | m + 1, k => by
    have ih := listFrom_sorted S m (k + 1)
    rw [listFrom]
    split
    · refine List.pairwise_cons.2 ⟨fun e he => ?_, ih⟩
      obtain ⟨j, h1, h2, _, _⟩ := (listFrom_mem S e m (k + 1)).1 he
      omega
    · exact ih

theorem listN_sorted (S : Nat) : ∀ i (hi : i + 1 < (listN S).length), (listN S)[i] < (listN S)[i + 1] := fun i hi =>
  List.pairwise_iff_getElem.1 (listFrom_sorted S 9 0) i (i + 1) (by have : i + 1 < (listN S).length := hi; unfold listN at this; omega) hi (by omega)

/-! ### masks -/
def maskOkB (R C : Nat) : Bool :=
  (masksN R C).all (fun m => decide (m < 2 ^ (R * C))) && ((List.range (R * C)).all fun k => (List.range (R * C)).all fun j =>
    (((masksN R C).getD k 0).testBit j == ((masksN R C).getD j 0).testBit k) && (((masksN R C).getD k 0).testBit j == decide ((j : Int) ∈ nearN R C k)))
theorem maskOk_all : (boards.all fun b => maskOkB b.1 b.2) = true := by kernel_rfl

theorem adj_in {R C k j : Nat} (hB : BoardOf R C) (h : Adj (masksN R C) k j) : k < R * C ∧ j < R * C := by
  unfold Adj at h
  have hk : k < (masksN R C).length := by
    rcases Nat.lt_or_ge k (masksN R C).length with hlt | hge
    · exact hlt
    · rw [List.getD_eq_getElem?_getD, List.getElem?_eq_none hge] at h
      simp at h
  have hm := List.all_eq_true.1 maskOk_all (R, C) (board_mem hB)
  unfold maskOkB at hm
  rw [Bool.and_eq_true] at hm
  rw [List.getD_eq_getElem?_getD, List.getElem?_eq_getElem hk] at h
  have := List.all_eq_true.1 hm.1 _ (List.getElem_mem hk)
  have := of_decide_eq_true this
  exact ⟨by rw [masksN_length] at hk; exact hk, bit_small this h⟩

theorem adj_sym {R C : Nat} (hB : BoardOf R C) : ∀ k j, Adj (masksN R C) k j → Adj (masksN R C) j k := by
  intro k j h
  obtain ⟨hk, hj⟩ := adj_in hB h
  have hm := List.all_eq_true.1 maskOk_all (R, C) (board_mem hB)
  unfold maskOkB at hm
  rw [Bool.and_eq_true] at hm
  have := List.all_eq_true.1 (List.all_eq_true.1 hm.2 k (by rw [List.mem_range]; exact hk)) j (by rw [List.mem_range]; exact hj)
  rw [Bool.and_eq_true, beq_iff_eq, beq_iff_eq] at this
  unfold Adj at h ⊢
  rw [← this.1]; exact h

theorem adj_near {R C k j : Nat} (hB : BoardOf R C) (hk : k < R * C) (hj : j < R * C) (h : (j : Int) ∈ nearN R C k) : Adj (masksN R C) k j := by
  have hm := List.all_eq_true.1 maskOk_all (R, C) (board_mem hB)
  unfold maskOkB at hm
  rw [Bool.and_eq_true] at hm
  have := List.all_eq_true.1 (List.all_eq_true.1 hm.2 k (by rw [List.mem_range]; exact hk)) j (by rw [List.mem_range]; exact hj)
  rw [Bool.and_eq_true, beq_iff_eq, beq_iff_eq] at this
  unfold Adj
  rw [this.2, decide_eq_true_iff]; exact h

/-! ### groups -/
theorem reach_one {M : List Nat} {S k : Nat} (hk : S.testBit k = true) : Reach M S (1 <<< k) k := .start (by rw [one_bit]; simp) hk

theorem group_same {R C S k j : Nat} (hB : BoardOf R C) (hS : S < 2 ^ 9) (hk : S.testBit k = true) (h : Reach (masksN R C) S (1 <<< k) j) : growN (masksN R C) S (1 <<< j) = growN (masksN R C) S (1 <<< k) := by
  apply Nat.eq_of_testBit_eq
  intro i
  rw [Bool.eq_iff_iff, grow_bit hS, grow_bit hS]
  have one : ∀ {a : Nat} {x : Nat}, (1 <<< a).testBit x = true → x = a := fun {a x} hx => by rw [one_bit] at hx; exact of_decide_eq_true hx
  constructor
  · exact Reach.trans fun x hx => by rw [one hx]; exact h
  · exact Reach.trans fun x hx => by rw [one hx]; exact Reach.back (adj_sym hB) hk h

theorem groupL_stone {R C K : Nat} {xs : List Int} (hb : posB (R : Int) (C : Int) xs = true) {x : Int} (hx : xs[K]? = some x) (hz : x ≠ 0) : groupL (R : Int) (C : Int) xs (K : Int) = listN (growN (masksN R C) (setL xs x) (1 <<< K)) := by
  have hK : K < xs.length := (List.getElem?_eq_some_iff.1 hx).1
  have hgd : xs.getD K 0 = x := by rw [List.getD_eq_getElem?_getD, hx]; rfl
  unfold groupL stoneB
  rw [hb, decide_eq_true ⟨by omega, by omega⟩, show ((K : Int).toNat) = K from rfl, hgd, decide_eq_false hz]
  rfl

variable (g : Nat → PV) (lf n : Nat)

theorem loadAt {xs : List Int} {p a : PV} {h : PHeap} {i : Nat} (hp : IntSl .i64 h p xs) (hi : i < xs.length) (ha : indexAddrP Tryd.prog 23 p (.int .i64 (i : Int)) = some a) : loadP Tryd.prog 3 a h = some (.int .i64 xs[i]) := by
  obtain ⟨a', ha', hla⟩ := hp.at' hi
  obtain rfl : a = a' := Option.some.inj (ha.symm.trans ha')
  exact hla

end Go.Proofs.YtkbnngklbfnkiaaDoor

/- Promise 15 over what the program's functions are asked to compute. -/
namespace Go.Proofs.YtkbnngklbfnkiaaDoor
open Go Go.Ip G

/-! ### sides -/
theorem sideFrom_bit (R C P : Nat) (last : Bool) (j : Nat) : ∀ (m i w : Nat), (sideFrom R C P last m i w).testBit j = true ↔ w.testBit j = true ∨ (i ≤ j ∧ j < i + m ∧ (bif last then decide (atSide C P j = endSide R C P) else decide (atSide C P j = 0)) = true)
  | 0, i, w => by
    rw [sideFrom]
    constructor
    · exact .inl
    · rintro (h | ⟨h1, h2, _⟩)
      · exact h
      · omega
  | m + 1, i, w => by
    rw [sideFrom, sideFrom_bit R C P last j m (i + 1)]
    by_cases hb : (bif last then decide (atSide C P i = endSide R C P) else decide (atSide C P i = 0)) = true
    · rw [if_pos hb, Nat.testBit_or, one_bit, Bool.or_eq_true, decide_eq_true_iff]
      constructor
      · rintro ((h | h) | ⟨h1, h2, h3⟩)
        · exact .inl h
        · subst h; exact .inr ⟨Nat.le_refl _, by omega, hb⟩
        · exact .inr ⟨by omega, by omega, h3⟩
      · rintro (h | ⟨h1, h2, h3⟩)
        · exact .inl (.inl h)
        · by_cases e : j = i
          · exact .inl (.inr e)
          · exact .inr ⟨by omega, by omega, h3⟩
    · rw [if_neg hb]
      constructor
      · rintro (h | ⟨h1, h2, h3⟩)
        · exact .inl h
        · exact .inr ⟨by omega, by omega, h3⟩
      · rintro (h | ⟨h1, h2, h3⟩)
        · exact .inl h
        · by_cases e : j = i
          · subst e; exact absurd h3 hb
          · exact .inr ⟨by omega, by omega, h3⟩

def sideV (R C P : Nat) (last : Bool) : Nat := bif last then endSide R C P else 0
theorem sideN_bit (R C P : Nat) (last : Bool) (j : Nat) : (sideN R C P last).testBit j = true ↔ j < R * C ∧ atSide C P j = sideV R C P last := by
  unfold sideN
  rw [sideFrom_bit]
  constructor
  · rintro (h | ⟨_, h2, h3⟩)
    · rw [Nat.zero_testBit] at h; cases h
    · refine ⟨by omega, ?_⟩
      cases last <;> exact of_decide_eq_true h3
  · rintro ⟨h1, h2⟩
    refine .inr ⟨Nat.zero_le _, by omega, ?_⟩
    cases last <;> exact decide_eq_true h2

/-- Does a list have a cell of that side? -/
def anyAt (C P v : Nat) (L : List Int) : Bool := L.any fun e => decide (atSide C P e.toNat = v)
def goodC (R C P : Nat) (xs : List Int) (k : Nat) : Bool := decide (xs[k]? = some (P : Int)) && (anyAt C P (sideV R C P false) (groupL (R : Int) (C : Int) xs (k : Int)) && anyAt C P (sideV R C P true) (groupL (R : Int) (C : Int) xs (k : Int)))

theorem reach_start {M : List Nat} {S fr j : Nat} (h : Reach M S fr j) : ∃ s, fr.testBit s = true ∧ S.testBit s = true ∧ Reach M S (1 <<< s) j := by
  induction h with
  | @start j h hs => exact ⟨j, h, hs, reach_one hs⟩
  | step _ ha hs ih =>
    obtain ⟨s, h1, h2, h3⟩ := ih
    exact ⟨s, h1, h2, .step h3 ha hs⟩

theorem group_any {R C P K : Nat} {xs : List Int} (hb : posB (R : Int) (C : Int) xs = true) (hS : Sides (R : Int) (C : Int) R C xs) (hP : P = 1 ∨ P = 2) (hK : xs[K]? = some (P : Int)) (last : Bool) :
    anyAt C P (sideV R C P last) (groupL (R : Int) (C : Int) xs (K : Int)) = true ↔ ∃ j, (sideN R C P last).testBit j = true ∧ Reach (masksN R C) (setL xs (P : Int)) (1 <<< K) j := by
  have hSx := set_lt9 hS (P : Int)
  rw [groupL_stone hb hK (by rcases hP with rfl | rfl <;> decide)]
  unfold anyAt
  rw [List.any_eq_true]
  constructor
  · rintro ⟨e, he, hd⟩
    obtain ⟨j, rfl, hj⟩ := (listN_mem (grow_lt hSx) e).1 he
    have hr := (grow_bit hSx j).1 hj
    exact ⟨j, (sideN_bit R C P last j).2 ⟨set_in hS hr.inSet, of_decide_eq_true hd⟩, hr⟩
  · rintro ⟨j, h1, h2⟩
    exact ⟨(j : Int), (listN_mem (grow_lt hSx) _).2 ⟨j, rfl, (grow_bit hSx j).2 h2⟩, decide_eq_true ((sideN_bit R C P last j).1 h1).2⟩

theorem joins_groups {R C P : Nat} {xs : List Int} (hb : posB (R : Int) (C : Int) xs = true) (hS : Sides (R : Int) (C : Int) R C xs) (hP : P = 1 ∨ P = 2) : joinsL (R : Int) (C : Int) xs (P : Int) = (List.range xs.length).any (goodC R C P xs) := by
  have hB := board_of_sides hS
  have hSx := set_lt9 hS (P : Int)
  rw [joinsL_eq hb hP, Bool.eq_iff_iff, joins_iff hSx, List.any_eq_true]
  constructor
  · rintro ⟨j, h1, h2⟩
    obtain ⟨s, hs1, hs2, hs3⟩ := reach_start h2
    have hxs := setL_bit.1 hs2
    refine ⟨s, by rw [List.mem_range]; exact (List.getElem?_eq_some_iff.1 hxs).1, ?_⟩
    unfold goodC
    rw [Bool.and_eq_true, Bool.and_eq_true, decide_eq_true_iff, group_any hb hS hP hxs, group_any hb hS hP hxs]
    exact ⟨hxs, ⟨s, hs1, reach_one hs2⟩, ⟨j, h1, hs3⟩⟩
  · rintro ⟨k, _, hg⟩
    unfold goodC at hg
    rw [Bool.and_eq_true, Bool.and_eq_true, decide_eq_true_iff] at hg
    obtain ⟨hxk, h1, h2⟩ := hg
    obtain ⟨a, ha1, ha2⟩ := (group_any hb hS hP hxk false).1 h1
    obtain ⟨b, hb1, hb2⟩ := (group_any hb hS hP hxk true).1 h2
    refine ⟨b, hb1, ?_⟩
    have hka : Reach (masksN R C) (setL xs (P : Int)) (1 <<< a) k := Reach.back (adj_sym hB) (setL_bit.2 hxk) ha2
    have one : ∀ {a : Nat} {x : Nat}, (1 <<< a).testBit x = true → x = a := fun {a x} hx => by rw [one_bit] at hx; exact of_decide_eq_true hx
    have : Reach (masksN R C) (setL xs (P : Int)) (sideN R C P false) a := .start ha1 ha2.inSet
    have hk2 : Reach (masksN R C) (setL xs (P : Int)) (sideN R C P false) k := Reach.trans (fun x hx => by rw [one hx]; exact this) hka
    exact Reach.trans (fun x hx => by rw [one hx]; exact hk2) hb2

variable (g : Nat → PV) (lf n : Nat)

theorem or_guard {β : Type} {F D : Bool} {h : PHeap} {x : PV} {f : PV × PHeap → Option β} {r : Option β} {at_ : Option PV} (hat : at_ = some (.bool D)) (hr : f (.bool (F || D), h) = r) :
    ((wantV (.bool F) false).bind fun v100 => (bif v100 then some (x, h) else some (.tup [], h)).bind fun v101 =>
      (wantV (.bool F) false).bind fun v102 => (bif v102 then pv v101.2 at_ else some (.tup [], v101.2)).bind fun v103 =>
      (pickP (.bool F) (.bool true) v103.1).bind fun v104 => f (v104, v103.2)) = r := by
  subst hat
  cases F <;> simpa using hr

end Go.Proofs.YtkbnngklbfnkiaaDoor

/- What chapter 3's functions tell of a position (moveL, playedL, winL, winCellsL, lineL), and what holds of them. No program text. -/
namespace Go.Proofs.YtkbnngklbfnkiaaDoor
open Go Go.Ip G

def moveL (r c : Int) (xs : List Int) (k pl : Int) : Bool := posB r c xs && playerB pl && decide (0 ≤ k ∧ k < (xs.length : Int)) && decide (xs.getD k.toNat 0 = 0) && !joinsL r c xs 1 && !joinsL r c xs 2
def playedL (r c : Int) (xs : List Int) (k pl : Int) : List Int := if moveL r c xs k pl = true then xs.set k.toNat pl else []
def winL (r c : Int) (xs : List Int) (t : Int) : Int := if (posB r c xs && playerB t) = true then ((winN r.toNat c.toNat (setL xs 1) (setL xs 2) t.toNat : Nat) : Int) else 0
def winsB (r c : Int) (xs : List Int) (pl : Int) (k : Nat) : Bool := moveL r c xs (k : Int) pl && decide (winL r c (xs.set k pl) (3 - pl) = pl)
def winCellsL (r c : Int) (xs : List Int) (pl : Int) : List Int := ((List.range xs.length).filter (winsB r c xs pl)).map fun k : Nat => (k : Int)
def goB (r c : Int) (xs : List Int) : Bool := !decide (setL xs 0 = 0) && !joinsL r c xs 1 && !joinsL r c xs 2
def stepL (r c : Int) (xs : List Int) (t : Int) : Int := (winCellsL r c xs t).headD ((listN (setL xs 0)).headD 0)
def lineF (r c : Int) : Nat → List Int → Int → List Int
  | 0, _, _ => []
  | f + 1, xs, t => if goB r c xs = true then stepL r c xs t :: lineF r c f (xs.set (stepL r c xs t).toNat t) (3 - t) else []
def lineL (r c : Int) (xs : List Int) (t : Int) : List Int := if (posB r c xs && playerB t) = true then lineF r c xs.length xs t else []

/-! ### none -/
theorem playerB_of {P : Nat} (hP : P = 1 ∨ P = 2) : playerB (P : Int) = true := by rcases hP with rfl | rfl <;> rfl
theorem playerB_none {pl : Int} (h : 2 < pl) : playerB pl = false := by unfold playerB; exact decide_eq_false (by omega)
theorem moveL_none {r c : Int} {xs : List Int} {k pl : Int} (h : posB r c xs = false ∨ 2 < pl) : moveL r c xs k pl = false := by
  unfold moveL
  rcases h with h | h
  · rw [h]; rfl
  · rw [playerB_none h]; simp
theorem winL_none {r c : Int} {xs : List Int} {pl : Int} (h : posB r c xs = false ∨ 2 < pl) : winL r c xs pl = 0 := by
  unfold winL
  rw [if_neg]
  rcases h with h | h
  · rw [h]; simp
  · rw [playerB_none h]; simp
theorem winCellsL_none {r c : Int} {xs : List Int} {pl : Int} (h : posB r c xs = false ∨ 2 < pl) : winCellsL r c xs pl = [] := by
  unfold winCellsL
  rw [List.filter_eq_nil_iff.2 fun k _ => by unfold winsB; rw [moveL_none h]; simp]
  rfl
theorem lineL_none {r c : Int} {xs : List Int} {pl : Int} (h : posB r c xs = false ∨ 2 < pl) : lineL r c xs pl = [] := by
  unfold lineL
  rw [if_neg]
  rcases h with h | h
  · rw [h]; simp
  · rw [playerB_none h]; simp
theorem lineF_length (r c : Int) : ∀ (f : Nat) (xs : List Int) (t : Int), (lineF r c f xs t).length ≤ f
  | 0, _, _ => Nat.le_refl _
  | f + 1, xs, t => by
    rw [lineF]; split
    · have := lineF_length r c f (xs.set (stepL r c xs t).toNat t) (3 - t)
      rw [List.length_cons]; omega
    · exact Nat.zero_le _
theorem lineL_length (r c : Int) (xs : List Int) (t : Int) : (lineL r c xs t).length ≤ xs.length := by
  unfold lineL; split
  · exact lineF_length ..
  · exact Nat.zero_le _
theorem winCellsL_length (r c : Int) (xs : List Int) (t : Int) : (winCellsL r c xs t).length ≤ xs.length := by
  unfold winCellsL
  rw [List.length_map]
  have := List.length_filter_le (winsB r c xs t) (List.range xs.length)
  rw [List.length_range] at this; exact this
theorem playedL_length (r c : Int) (xs : List Int) (k t : Int) : (playedL r c xs k t).length ≤ xs.length := by
  unfold playedL; split
  · rw [List.length_set]; exact Nat.le_refl _
  · exact Nat.zero_le _

/-! ### sets -/
section
variable {R C : Nat} {xs : List Int} (hb : posB (R : Int) (C : Int) xs = true) (hS : Sides (R : Int) (C : Int) R C xs)
include hS
theorem pos_sets : Pos R C (setL xs 1) (setL xs 2) :=
  ⟨set_lt hS 1, set_lt hS 2, fun j h1 h2 => by
    rw [setL_bit] at h1 h2; rw [h1] at h2; exact absurd (Option.some.inj h2) (by decide)⟩
theorem free_bit {k : Nat} (hk : k < R * C) : (setL xs 1 ||| setL xs 2).testBit k = false ↔ xs[k]? = some 0 := by
  rw [Nat.testBit_or, Bool.or_eq_false_iff]
  have e1 : (setL xs 1).testBit k = false ↔ ¬ xs[k]? = some 1 := by rw [← setL_bit]; simp
  have e2 : (setL xs 2).testBit k = false ↔ ¬ xs[k]? = some 2 := by rw [← setL_bit]; simp
  rw [e1, e2]
  rcases content_cases hS hk with h | h | h <;> rw [h] <;> simp
omit hS
theorem set_putA {P k : Nat} (hP : P = 1 ∨ P = 2) (hk : xs[k]? = some 0) : setL (xs.set k (P : Int)) 1 = putA P k (setL xs 1) ∧ setL (xs.set k (P : Int)) 2 = putB P k (setL xs 2) := by
  have hkl : k < xs.length := (List.getElem?_eq_some_iff.1 hk).1
  rcases hP with rfl | rfl
  · refine ⟨Nat.eq_of_testBit_eq fun j => ?_, Nat.eq_of_testBit_eq fun j => ?_⟩
    · show _ = (setL xs 1 ||| (1 <<< k)).testBit j
      rw [with_bit, Bool.eq_iff_iff, Bool.or_eq_true, decide_eq_true_iff, setL_bit, setL_bit, List.getElem?_set]
      by_cases e : k = j
      · subst e; simp [hkl]
      · rw [if_neg e]; exact ⟨.inl, fun h => h.resolve_right fun h2 => e h2.symm⟩
    · show _ = (setL xs 2).testBit j
      rw [Bool.eq_iff_iff, setL_bit, setL_bit, List.getElem?_set]
      by_cases e : k = j
      · subst e; rw [hk]; simp [hkl]
      · rw [if_neg e]
  · refine ⟨Nat.eq_of_testBit_eq fun j => ?_, Nat.eq_of_testBit_eq fun j => ?_⟩
    · show _ = (setL xs 1).testBit j
      rw [Bool.eq_iff_iff, setL_bit, setL_bit, List.getElem?_set]
      by_cases e : k = j
      · subst e; rw [hk]; simp [hkl]
      · rw [if_neg e]
    · show _ = (setL xs 2 ||| (1 <<< k)).testBit j
      rw [with_bit, Bool.eq_iff_iff, Bool.or_eq_true, decide_eq_true_iff, setL_bit, setL_bit, List.getElem?_set]
      by_cases e : k = j
      · subst e; simp [hkl]
      · rw [if_neg e]; exact ⟨.inl, fun h => h.resolve_right fun h2 => e h2.symm⟩
include hb
theorem joins_one : joinsL (R : Int) (C : Int) xs 1 = joinsN R C 1 (setL xs 1) := joinsL_eq (P := 1) hb (.inl rfl)
theorem joins_two : joinsL (R : Int) (C : Int) xs 2 = joinsN R C 2 (setL xs 2) := joinsL_eq (P := 2) hb (.inr rfl)
theorem winL_eq {T : Nat} (hT : T = 1 ∨ T = 2) : winL (R : Int) (C : Int) xs (T : Int) = ((winN R C (setL xs 1) (setL xs 2) T : Nat) : Int) := by
  unfold winL; rw [hb, playerB_of hT]; rfl
theorem winL_set {P T k : Nat} (hP : P = 1 ∨ P = 2) (hT : T = 1 ∨ T = 2) (hk : xs[k]? = some 0) : winL (R : Int) (C : Int) (xs.set k (P : Int)) (T : Int) = ((winN R C (putA P k (setL xs 1)) (putB P k (setL xs 2)) T : Nat) : Int) := by
  rw [winL_eq (pos_set hb hP k) hT, (set_putA hP hk).1, (set_putA hP hk).2]
theorem winL_cases {T : Nat} (hT : T = 1 ∨ T = 2) : ∃ W : Nat, winL (R : Int) (C : Int) xs (T : Int) = (W : Int) ∧ (W = 1 ∨ W = 2) := ⟨_, winL_eq hb hT, win_cases hT⟩
include hS
theorem sides_set {P k : Nat} (hP : P = 1 ∨ P = 2) : Sides (R : Int) (C : Int) R C (xs.set k (P : Int)) := by
  have h2 := pos_set hb hP k
  obtain ⟨a1, a2, a3, a4, a5, a6, a7, a8, a9⟩ := hS
  refine ⟨a1, a2, a3, a4, a5, a6, a7, by rw [List.length_set]; exact a8, ?_⟩
  unfold posB at h2; rw [Bool.and_eq_true] at h2; exact h2.2
theorem free_some (h1 : joinsL (R : Int) (C : Int) xs 1 = false) (h2 : joinsL (R : Int) (C : Int) xs 2 = false) : ∃ k, k < xs.length ∧ xs[k]? = some 0 := by
  rw [joins_one hb] at h1; rw [joins_two hb] at h2
  obtain ⟨k, hk, hf⟩ := (pos_sets hS).free (board_of_sides hS) h1 h2
  have hlen : xs.length = R * C := hS.2.2.2.2.2.2.2.1
  exact ⟨k, by rw [hlen]; exact hk, (free_bit hS hk).1 hf⟩
theorem winL_done {P T : Nat} (hP : P = 1 ∨ P = 2) (hT : T = 1 ∨ T = 2) (hj : joinsL (R : Int) (C : Int) xs (P : Int) = true) : winL (R : Int) (C : Int) xs (T : Int) = (P : Int) := by
  rw [winL_eq hb hT]
  rcases hP with rfl | rfl
  · rw [win_first]; rw [← joins_one hb]; exact hj
  · rw [win_second (board_of_sides hS) (pos_sets hS)]; rw [← joins_two hb]; exact hj
theorem winL_open {T : Nat} (hT : T = 1 ∨ T = 2) (h1 : joinsL (R : Int) (C : Int) xs 1 = false) (h2 : joinsL (R : Int) (C : Int) xs 2 = false) : winL (R : Int) (C : Int) xs (T : Int) = (T : Int) ↔ ∃ k : Nat, xs[k]? = some 0 ∧ winL (R : Int) (C : Int) (xs.set k (T : Int)) (3 - (T : Int)) = (T : Int) := by
  have hlen : xs.length = R * C := hS.2.2.2.2.2.2.2.1
  have hT' : 3 - T = 1 ∨ 3 - T = 2 := by omega
  have e3 : (3 : Int) - (T : Int) = ((3 - T : Nat) : Int) := by omega
  rw [winL_eq hb hT, win_open (by rw [← joins_one hb]; exact h1) (by rw [← joins_two hb]; exact h2)]
  have : (((if moveB R C (setL xs 1) (setL xs 2) T = true then T else 3 - T : Nat) : Int) = (T : Int)) ↔ moveB R C (setL xs 1) (setL xs 2) T = true := by
    cases moveB R C (setL xs 1) (setL xs 2) T
    · simp only [Bool.false_eq_true, ↓reduceIte]; rcases hT with rfl | rfl <;> decide
    · simp only [↓reduceIte]
  rw [this, moveB_iff]
  constructor
  · rintro ⟨k, hk, hf, hw⟩
    have hk0 := (free_bit hS hk).1 hf
    exact ⟨k, hk0, by rw [e3, winL_set hb hT hT' hk0, hw]⟩
  · rintro ⟨k, hk0, hw⟩
    have hk : k < R * C := by rw [← hlen]; exact (List.getElem?_eq_some_iff.1 hk0).1
    rw [e3, winL_set hb hT hT' hk0] at hw
    exact ⟨k, hk, (free_bit hS hk).2 hk0, Int.ofNat_inj.1 hw⟩
/-- A stone more of who wins. -/
theorem winL_more {T W k : Nat} (hT : T = 1 ∨ T = 2) (hW : W = 1 ∨ W = 2) (hk : xs[k]? = some 0) (hw : winL (R : Int) (C : Int) xs (T : Int) = (W : Int)) : winL (R : Int) (C : Int) (xs.set k (W : Int)) (T : Int) = (W : Int) := by
  have hlen : xs.length = R * C := hS.2.2.2.2.2.2.2.1
  have hk' : k < R * C := by rw [← hlen]; exact (List.getElem?_eq_some_iff.1 hk).1
  have hf := (free_bit hS hk').2 hk
  have hB := board_of_sides hS
  have hp := pos_sets hS
  rw [winL_eq hb hT] at hw
  have hw' : winN R C (setL xs 1) (setL xs 2) T = W := by omega
  rw [winL_set hb hW hT hk]
  have hpp := hp.put (t := W) hk' hf
  rcases hW with rfl | rfl
  · rw [win_mono hB hp hpp (better_fr (n := 0)) hT hw']
  · rw [win_mono2 hB hpp hp ⟨fun _ h => h, fun j hj => by show (setL xs 2 ||| (1 <<< k)).testBit j = true; rw [with_bit, hj]; rfl⟩ hT hw']
theorem winL_first {T W : Nat} (hT : T = 1 ∨ T = 2) (hW : W = 1 ∨ W = 2) (hw : winL (R : Int) (C : Int) xs (T : Int) = (W : Int)) : winL (R : Int) (C : Int) xs (W : Int) = (W : Int) := by
  have hB := board_of_sides hS
  have hp := pos_sets hS
  rw [winL_eq hb hT] at hw
  have hw' : winN R C (setL xs 1) (setL xs 2) T = W := by omega
  rw [winL_eq hb hW]
  rcases hT with rfl | rfl <;> rcases hW with rfl | rfl
  · rw [hw']
  · rw [win_move2 hB hp hw']
  · rw [win_move hB hp hw']
  · rw [hw']
end

/-! ### turned, mirrored -/
theorem perm_turn (n : Nat) : Perm (fun k => n - 1 - k) n :=
  ⟨fun k hk => by show n - 1 - k < n; omega, fun i k hi hk (h : n - 1 - i = n - 1 - k) => by omega, fun j hj => ⟨n - 1 - j, by omega, by show n - 1 - (n - 1 - j) = j; omega⟩⟩
theorem perm_sig {R C : Nat} (hB : BoardOf R C) : Perm (sig C R) (R * C) := by
  obtain ⟨h1, h2, h3, h4, h9⟩ := hB
  have a : ∀ k, k < R * C → sig C R k < R * C ∧ sig R C (sig C R k) = k := fun k hk => by
    have := sig_lt h3 h4 h1 h2 (by rw [Nat.mul_comm]; exact h9) (by rw [Nat.mul_comm]; exact hk)
    rw [Nat.mul_comm C R] at this; exact this
  have b : ∀ k, k < R * C → sig R C k < R * C ∧ sig C R (sig R C k) = k := fun k hk => sig_lt h1 h2 h3 h4 h9 hk
  exact ⟨fun k hk => (a k hk).1, fun i k hi hk h => by rw [← (a i hi).2, ← (a k hk).2, h], fun j hj => ⟨sig R C j, (b j hj).1, (b j hj).2⟩⟩

theorem hex_moves {R C S : Nat} (hB : BoardOf R C) (hS : S < 2 ^ (R * C)) :
    joinsN R C 1 (moved (fun k => R * C - 1 - k) S (R * C)) = joinsN R C 1 S ∧ joinsN R C 2 (moved (fun k => R * C - 1 - k) S (R * C)) = joinsN R C 2 S ∧
    joinsN C R 2 (moved (sig C R) S (R * C)) = joinsN R C 1 S ∧ joinsN C R 1 (moved (sig C R) S (R * C)) = joinsN R C 2 S := by
  have := hex_ok hB hS
  unfold hexB at this
  simp only [Bool.and_eq_true, beq_iff_eq] at this
  exact ⟨this.1.1.1.2, this.1.1.2, this.1.2, this.2⟩

theorem board_swap {R C : Nat} (hB : BoardOf R C) : BoardOf C R := ⟨hB.2.2.1, hB.2.2.2.1, hB.1, hB.2.1, by rw [Nat.mul_comm]; exact hB.2.2.2.2⟩

section
variable {R C : Nat} {xs : List Int} (hb : posB (R : Int) (C : Int) xs = true) (hS : Sides (R : Int) (C : Int) R C xs)
include hb hS
theorem winL_turned {T : Nat} (hT : T = 1 ∨ T = 2) (hb' : posB (R : Int) (C : Int) xs.reverse = true) : winL (R : Int) (C : Int) xs.reverse (T : Int) = winL (R : Int) (C : Int) xs (T : Int) := by
  have hB := board_of_sides hS
  have hlen : xs.length = R * C := hS.2.2.2.2.2.2.2.1
  rw [winL_eq hb' hT, winL_eq hb hT, setL_reverse, setL_reverse, hlen]
  rw [winN_moved hB hB rfl (perm_turn (R * C)) (fun S h => (hex_moves hB h).1) (fun S h => (hex_moves hB h).2.1) _ _ _ T (Nat.le_refl _) (pos_sets hS)]
theorem winL_mirrored {T : Nat} (hT : T = 1 ∨ T = 2) (hb' : posB (C : Int) (R : Int) (mir R C xs) = true) : winL (C : Int) (R : Int) (mir R C xs) ((3 - T : Nat) : Int) = 3 - winL (R : Int) (C : Int) xs (T : Int) := by
  have hB := board_of_sides hS
  have hT' : 3 - T = 1 ∨ 3 - T = 2 := by omega
  have e1 : setL (mir R C xs) 1 = moved (sig C R) (setL xs 2) (R * C) := setL_mir hS 2
  have e2 : setL (mir R C xs) 2 = moved (sig C R) (setL xs 1) (R * C) := setL_mir hS 1
  rw [winL_eq hb' hT', winL_eq hb hT, e1, e2]
  rw [winN_swapped hB (Nat.mul_comm C R) (perm_sig hB) (fun S h => (hex_moves hB h).2.2.1) (fun S h => (hex_moves hB h).2.2.2) _ _ _ T (Nat.le_refl _) (pos_sets hS) hT]
  have := win_cases (R := R) (C := C) (a := setL xs 1) (b := setL xs 2) hT
  omega
end

/-! ### moves -/
theorem moveL_iff {r c : Int} {xs : List Int} {pl : Int} {k : Nat} : moveL r c xs (k : Int) pl = true ↔ posB r c xs = true ∧ playerB pl = true ∧ xs[k]? = some 0 ∧ joinsL r c xs 1 = false ∧ joinsL r c xs 2 = false := by
  unfold moveL
  simp only [Bool.and_eq_true, Bool.not_eq_true', decide_eq_true_eq]
  constructor
  · rintro ⟨⟨⟨⟨⟨h1, h2⟩, h3⟩, h4⟩, h5⟩, h6⟩
    have hk : k < xs.length := by omega
    refine ⟨h1, h2, ?_, h5, h6⟩
    rw [List.getElem?_eq_getElem hk]
    have : xs.getD k 0 = xs[k] := by rw [List.getD_eq_getElem?_getD, List.getElem?_eq_getElem hk]; rfl
    rw [← this]
    exact congrArg some h4
  · rintro ⟨h1, h2, h3, h5, h6⟩
    have hk : k < xs.length := (List.getElem?_eq_some_iff.1 h3).1
    refine ⟨⟨⟨⟨⟨h1, h2⟩, by omega⟩, ?_⟩, h5⟩, h6⟩
    show xs.getD k 0 = 0
    rw [List.getD_eq_getElem?_getD, h3]; rfl
theorem moveL_cell {r c : Int} {xs : List Int} {k pl : Int} (h : moveL r c xs k pl = true) : ∃ K : Nat, k = (K : Int) ∧ K < xs.length := by
  unfold moveL at h
  simp only [Bool.and_eq_true, decide_eq_true_eq] at h
  have := h.1.1.1.2
  obtain ⟨K, rfl⟩ := Int.eq_ofNat_of_zero_le this.1
  exact ⟨K, rfl, by omega⟩
theorem moveL_other {r c : Int} {xs : List Int} {k : Int} {P Q : Nat} (hP : P = 1 ∨ P = 2) (hQ : Q = 1 ∨ Q = 2) : moveL r c xs k (P : Int) = moveL r c xs k (Q : Int) := by
  unfold moveL; rw [playerB_of hP, playerB_of hQ]
theorem playedL_eq {r c : Int} {xs : List Int} {k : Nat} {pl : Int} (h : moveL r c xs (k : Int) pl = true) : playedL r c xs (k : Int) pl = xs.set k pl := by
  unfold playedL; rw [if_pos h]; rfl
/-- A stone of the other one joins nothing. -/
theorem joins_other_set {R C P : Nat} {xs : List Int} (hb : posB (R : Int) (C : Int) xs = true) (hP : P = 1 ∨ P = 2) {k : Nat} (hk : xs[k]? = some 0) : joinsL (R : Int) (C : Int) (xs.set k (P : Int)) ((3 - P : Nat) : Int) = joinsL (R : Int) (C : Int) xs ((3 - P : Nat) : Int) := by
  have hb2 := pos_set hb hP k
  have h := set_putA hP hk
  rcases hP with rfl | rfl
  · have e1 := joins_two hb2
    have e2 := joins_two hb
    rw [h.2] at e1
    exact e1.trans e2.symm
  · have e1 := joins_one hb2
    have e2 := joins_one hb
    rw [h.1] at e1
    exact e1.trans e2.symm

/-! ### winning cells -/
theorem winsB_iff {r c : Int} {xs : List Int} {pl : Int} {k : Nat} : winsB r c xs pl k = true ↔ moveL r c xs (k : Int) pl = true ∧ winL r c (xs.set k pl) (3 - pl) = pl := by
  unfold winsB; rw [Bool.and_eq_true, decide_eq_true_eq]
theorem winCells_mem {r c : Int} {xs : List Int} {pl : Int} {e : Int} : e ∈ winCellsL r c xs pl ↔ ∃ k : Nat, e = (k : Int) ∧ winsB r c xs pl k = true := by
  unfold winCellsL
  rw [List.mem_map]
  constructor
  · rintro ⟨k, hk, rfl⟩
    exact ⟨k, rfl, (List.mem_filter.1 hk).2⟩
  · rintro ⟨k, rfl, hk⟩
    refine ⟨k, List.mem_filter.2 ⟨List.mem_range.2 ?_, hk⟩, rfl⟩
    exact (List.getElem?_eq_some_iff.1 (moveL_iff.1 (winsB_iff.1 hk).1).2.2.1).1
theorem winCells_sorted (r c : Int) (xs : List Int) (pl : Int) : (winCellsL r c xs pl).Pairwise (· < ·) := by
  unfold winCellsL
  rw [List.pairwise_map]
  exact ((List.pairwise_lt_range).filter _).imp fun h => by omega
section
variable {R C : Nat} {xs : List Int} (hb : posB (R : Int) (C : Int) xs = true) (hS : Sides (R : Int) (C : Int) R C xs)
include hb hS
theorem winCells_some {P : Nat} (hP : P = 1 ∨ P = 2) (h1 : joinsL (R : Int) (C : Int) xs 1 = false) (h2 : joinsL (R : Int) (C : Int) xs 2 = false) : 0 < (winCellsL (R : Int) (C : Int) xs (P : Int)).length ↔ winL (R : Int) (C : Int) xs (P : Int) = (P : Int) := by
  rw [winL_open hb hS hP h1 h2, List.length_pos_iff_exists_mem]
  constructor
  · rintro ⟨e, he⟩
    obtain ⟨k, rfl, hk⟩ := winCells_mem.1 he
    have hk := winsB_iff.1 hk
    exact ⟨k, (moveL_iff.1 hk.1).2.2.1, hk.2⟩
  · rintro ⟨k, hk, hw⟩
    exact ⟨(k : Int), winCells_mem.2 ⟨k, rfl, winsB_iff.2 ⟨moveL_iff.2 ⟨hb, playerB_of hP, hk, h1, h2⟩, hw⟩⟩⟩
omit hb hS
theorem winCells_done {r c : Int} {pl : Int} (h : joinsL r c xs 1 = true ∨ joinsL r c xs 2 = true) : winCellsL r c xs pl = [] := by
  unfold winCellsL
  rw [List.filter_eq_nil_iff.2 fun k _ => ?_]
  · rfl
  · intro hw
    have := moveL_iff.1 (winsB_iff.1 hw).1
    rcases h with h | h
    · rw [h] at this; exact absurd this.2.2.2.1 (by decide)
    · rw [h] at this; exact absurd this.2.2.2.2 (by decide)
include hb hS
/-- With a stone more of the player the other winning cells stay. -/
theorem winCells_grow {P k0 k : Nat} (hP : P = 1 ∨ P = 2) (hk0 : xs[k0]? = some 0) (hj : joinsL (R : Int) (C : Int) (xs.set k0 (P : Int)) (P : Int) = false) (hk : winsB (R : Int) (C : Int) xs (P : Int) k = true) (hne : k ≠ k0) : winsB (R : Int) (C : Int) (xs.set k0 (P : Int)) (P : Int) k = true := by
  have hw := winsB_iff.1 hk
  have hm := moveL_iff.1 hw.1
  have hP' : 3 - P = 1 ∨ 3 - P = 2 := by omega
  have hb2 := pos_set hb hP k0
  have hS2 := sides_set hb hS (k := k0) hP
  have e3 : (3 : Int) - (P : Int) = ((3 - P : Nat) : Int) := by omega
  have hkk : (xs.set k0 (P : Int))[k]? = some 0 := by rw [List.getElem?_set_ne (by omega)]; exact hm.2.2.1
  have hk2 : (xs.set k (P : Int))[k0]? = some 0 := by rw [List.getElem?_set_ne (by omega)]; exact hk0
  refine winsB_iff.2 ⟨moveL_iff.2 ⟨hb2, playerB_of hP, hkk, ?_, ?_⟩, ?_⟩
  · rcases hP with rfl | rfl
    · exact hj
    · exact (joins_other_set hb (.inr rfl) hk0).trans hm.2.2.2.1
  · rcases hP with rfl | rfl
    · exact (joins_other_set hb (.inl rfl) hk0).trans hm.2.2.2.2
    · exact hj
  · rw [List.set_comm _ _ hne.symm]
    have hb3 := pos_set hb hP k
    have hS3 := sides_set hb hS (k := k) hP
    have := hw.2
    rw [e3] at this ⊢
    exact winL_more hb3 hS3 hP' hP hk2 this
end

/-! ### played on -/
theorem listN_some {S : Nat} (hS : S < 2 ^ 9) (h : S ≠ 0) : ∃ (k : Nat) (l : List Int), listN S = (k : Int) :: l ∧ S.testBit k = true := by
  cases e : listN S with
  | nil =>
    obtain ⟨j, hj⟩ : ∃ j, S.testBit j = true := by
      apply Classical.byContradiction
      intro hh
      refine h (Nat.eq_of_testBit_eq fun j => ?_)
      rw [Nat.zero_testBit]
      cases e : S.testBit j with
      | false => rfl
      | true => exact (hh ⟨j, e⟩).elim
    have := (listN_mem hS (j : Int)).2 ⟨j, rfl, hj⟩
    rw [e] at this; cases this
  | cons a l =>
    obtain ⟨j, rfl, hj⟩ := (listN_mem hS a).1 (by rw [e]; exact List.mem_cons_self ..)
    exact ⟨j, l, rfl, hj⟩
section
variable {R C : Nat} {xs : List Int} (hb : posB (R : Int) (C : Int) xs = true) (hS : Sides (R : Int) (C : Int) R C xs)
include hb hS
theorem goB_iff : goB (R : Int) (C : Int) xs = true ↔ joinsL (R : Int) (C : Int) xs 1 = false ∧ joinsL (R : Int) (C : Int) xs 2 = false := by
  unfold goB
  simp only [Bool.and_eq_true, Bool.not_eq_true', decide_eq_false_iff_not]
  constructor
  · exact fun h => ⟨h.1.2, h.2⟩
  · rintro ⟨h1, h2⟩
    refine ⟨⟨fun h0 => ?_, h1⟩, h2⟩
    obtain ⟨k, _, hk⟩ := free_some hb hS h1 h2
    have := setL_bit.2 hk
    rw [h0, Nat.zero_testBit] at this; cases this
/-- The move that is played: it may be made, and who wins wins still. -/
theorem stepL_ok {T W : Nat} (hT : T = 1 ∨ T = 2) (hW : W = 1 ∨ W = 2) (hg : goB (R : Int) (C : Int) xs = true) (hw : winL (R : Int) (C : Int) xs (T : Int) = (W : Int)) :
    ∃ k : Nat, stepL (R : Int) (C : Int) xs (T : Int) = (k : Int) ∧ moveL (R : Int) (C : Int) xs (k : Int) (T : Int) = true ∧ winL (R : Int) (C : Int) (xs.set k (T : Int)) (3 - (T : Int)) = (W : Int) := by
  obtain ⟨h1, h2⟩ := (goB_iff hb hS).1 hg
  have hT' : 3 - T = 1 ∨ 3 - T = 2 := by omega
  have e3 : (3 : Int) - (T : Int) = ((3 - T : Nat) : Int) := by omega
  unfold stepL
  cases e : winCellsL (R : Int) (C : Int) xs (T : Int) with
  | cons a l =>
    obtain ⟨k, rfl, hk⟩ := winCells_mem.1 (show a ∈ winCellsL (R : Int) (C : Int) xs (T : Int) by rw [e]; exact List.mem_cons_self ..)
    have hk := winsB_iff.1 hk
    have : winL (R : Int) (C : Int) xs (T : Int) = (T : Int) := (winCells_some hb hS hT h1 h2).1 (by rw [e]; simp)
    have hWT : W = T := by omega
    subst hWT
    exact ⟨k, rfl, hk.1, hk.2⟩
  | nil =>
    have hs0 : setL xs 0 ≠ 0 := by unfold goB at hg; simp only [Bool.and_eq_true, Bool.not_eq_true', decide_eq_false_iff_not] at hg; exact hg.1.1
    obtain ⟨k, l, hl, hk⟩ := listN_some (set_lt9 hS 0) hs0
    have hk0 := setL_bit.1 hk
    refine ⟨k, by rw [hl]; rfl, moveL_iff.2 ⟨hb, playerB_of hT, hk0, h1, h2⟩, ?_⟩
    have hno : ¬ winL (R : Int) (C : Int) xs (T : Int) = (T : Int) := fun hh => by
      have := (winCells_some hb hS hT h1 h2).2 hh
      rw [e] at this; exact absurd this (by decide)
    have hno2 : ¬ winL (R : Int) (C : Int) (xs.set k (T : Int)) (3 - (T : Int)) = (T : Int) := fun hh => hno ((winL_open hb hS hT h1 h2).2 ⟨k, hk0, hh⟩)
    have hb3 := pos_set hb hT k
    rw [e3] at hno2 ⊢
    obtain ⟨V, hV, hV2⟩ := winL_cases hb3 hT'
    rw [hV] at hno2 ⊢
    omega
end

/-- The position behind a list of moves. -/
def behindL : List Int → List Int → Int → List Int
  | xs, [], _ => xs
  | xs, k :: l, t => behindL (xs.set k.toNat t) l (3 - t)

/-- Each move may be made, and in the end who wins has joined. -/
theorem lineF_ok {R C W : Nat} (hW : W = 1 ∨ W = 2) : ∀ (f : Nat) (xs : List Int) (T : Nat), posB (R : Int) (C : Int) xs = true → Sides (R : Int) (C : Int) R C xs → (T = 1 ∨ T = 2) → pop (setL xs 0) ≤ f → winL (R : Int) (C : Int) xs (T : Int) = (W : Int) →
    joinsL (R : Int) (C : Int) (behindL xs (lineF (R : Int) (C : Int) f xs (T : Int)) (T : Int)) (W : Int) = true := by
  intro f
  induction f with
  | zero =>
    intro xs T hb hS hT hp hw
    have hz : setL xs 0 = 0 := by
      apply Nat.eq_of_testBit_eq
      intro j
      rw [Nat.zero_testBit]
      cases e : (setL xs 0).testBit j with
      | false => rfl
      | true => have := pop_without (set_lt9 hS 0) e; omega
    rw [lineF, behindL]
    cases e1 : joinsL (R : Int) (C : Int) xs 1 with
    | true =>
      have := winL_done hb hS (P := 1) (.inl rfl) hT e1
      have : W = 1 := by omega
      subst this; exact e1
    | false =>
      cases e2 : joinsL (R : Int) (C : Int) xs 2 with
      | true =>
        have := winL_done hb hS (P := 2) (.inr rfl) hT e2
        have : W = 2 := by omega
        subst this; exact e2
      | false =>
        obtain ⟨k, _, hk⟩ := free_some hb hS e1 e2
        have := setL_bit.2 hk
        rw [hz, Nat.zero_testBit] at this; cases this
  | succ f ih =>
    intro xs T hb hS hT hp hw
    rw [lineF]
    cases hg : goB (R : Int) (C : Int) xs with
    | false =>
      rw [if_neg (by decide), behindL]
      cases e1 : joinsL (R : Int) (C : Int) xs 1 with
      | true =>
        have := winL_done hb hS (P := 1) (.inl rfl) hT e1
        have : W = 1 := by omega
        subst this; exact e1
      | false =>
        cases e2 : joinsL (R : Int) (C : Int) xs 2 with
        | true =>
          have := winL_done hb hS (P := 2) (.inr rfl) hT e2
          have : W = 2 := by omega
          subst this; exact e2
        | false => rw [(goB_iff hb hS).2 ⟨e1, e2⟩] at hg; cases hg
    | true =>
      rw [if_pos rfl, behindL]
      obtain ⟨k, hk, hm, hv⟩ := stepL_ok hb hS hT hW hg hw
      have hT' : 3 - T = 1 ∨ 3 - T = 2 := by omega
      have e3 : (3 : Int) - (T : Int) = ((3 - T : Nat) : Int) := by omega
      have hk0 := (moveL_iff.1 hm).2.2.1
      rw [hk]
      rw [e3] at hv ⊢
      refine ih (xs.set k (T : Int)) (3 - T) (pos_set hb hT k) (sides_set hb hS hT) hT' ?_ hv
      have h0 := (set_more hS hT hk0).2.1
      rw [h0]
      have := pop_without (set_lt9 hS 0) (setL_bit.2 hk0)
      omega

end Go.Proofs.YtkbnngklbfnkiaaDoor

/- The model's table of who wins: each position has a place of its own in it. No program text. -/
namespace Go.Proofs.YtkbnngklbfnkiaaDoor
open Go Go.Ip G

/-- The place of a position, from its first k cells: the same number as the model reckons. -/
def keyF (a b : Nat) : Nat → Nat
  | 0 => 0
  | k + 1 => 3 * keyF a b k + (a >>> k % 2) + 2 * (b >>> k % 2)

theorem digit_le {R C a b : Nat} (h : Pos R C a b) (k : Nat) : a >>> k % 2 + 2 * (b >>> k % 2) ≤ 2 := by
  have h1 := bit_iff a k
  have h2 := bit_iff b k
  rcases Nat.mod_two_eq_zero_or_one (a >>> k) with e1 | e1 <;> rcases Nat.mod_two_eq_zero_or_one (b >>> k) with e2 | e2
  · omega
  · omega
  · omega
  · exact (h.2.2 k (h1.1 e1) (h2.1 e2)).elim
theorem key_lt {R C a b : Nat} (h : Pos R C a b) : ∀ k, keyF a b k < 3 ^ k
  | 0 => Nat.zero_lt_one
  | k + 1 => by
    have ih := key_lt h k
    have hd := digit_le h k
    rw [keyF, Nat.pow_succ]; omega
theorem key_inj {R C a b a' b' : Nat} (h : Pos R C a b) (h' : Pos R C a' b') : ∀ k, keyF a b k = keyF a' b' k → ∀ i, i < k → a.testBit i = a'.testBit i ∧ b.testBit i = b'.testBit i
  | 0, _, i, hi => by omega
  | k + 1, he, i, hi => by
    have hd := digit_le h k
    have hd' := digit_le h' k
    rw [keyF, keyF] at he
    have e1 : keyF a b k = keyF a' b' k := by omega
    have e2 : a >>> k % 2 = a' >>> k % 2 ∧ b >>> k % 2 = b' >>> k % 2 := by
      have := Nat.mod_two_eq_zero_or_one (a >>> k); have := Nat.mod_two_eq_zero_or_one (a' >>> k); omega
    by_cases hik : i = k
    · subst hik
      have t : ∀ x y : Nat, x >>> i % 2 = y >>> i % 2 → x.testBit i = y.testBit i := fun x y e => by
        rw [Bool.eq_iff_iff, ← bit_iff, ← bit_iff, e]
      exact ⟨t _ _ e2.1, t _ _ e2.2⟩
    · exact key_inj h h' k e1 i (by omega)
theorem key_pos {R C a b a' b' : Nat} (h : Pos R C a b) (h' : Pos R C a' b') (he : keyF a b (R * C) = keyF a' b' (R * C)) : a = a' ∧ b = b' := by
  have hk := key_inj h h' _ he
  have t : ∀ x y : Nat, x < 2 ^ (R * C) → y < 2 ^ (R * C) → (∀ i, i < R * C → x.testBit i = y.testBit i) → x = y := fun x y hx hy hxy => by
    apply Nat.eq_of_testBit_eq
    intro j
    by_cases hj : j < R * C
    · exact hxy j hj
    · have e1 : x.testBit j = false := Nat.testBit_lt_two_pow (Nat.lt_of_lt_of_le hx (Nat.pow_le_pow_right (by decide) (by omega)))
      have e2 : y.testBit j = false := Nat.testBit_lt_two_pow (Nat.lt_of_lt_of_le hy (Nat.pow_le_pow_right (by decide) (by omega)))
      rw [e1, e2]
  exact ⟨t _ _ h.1 h'.1 fun i hi => (hk i hi).1, t _ _ h.2.1 h'.2.1 fun i hi => (hk i hi).2⟩

theorem pow3_le {n : Nat} (h : n ≤ 9) : 3 ^ n ≤ 19683 := Nat.pow_le_pow_right (n := 3) (by decide) h

def keyN (R C a b t : Nat) : Nat := 2 * keyF a b (R * C) + (t - 1)
/-- What the table holds: nothing, or who wins. -/
def Inv (R C : Nat) (T : List Int) : Prop := T.length = 2 * 3 ^ (R * C) ∧ ∀ a b t, Pos R C a b → (t = 1 ∨ t = 2) → T[keyN R C a b t]? = some 0 ∨ T[keyN R C a b t]? = some ((winN R C a b t : Nat) : Int)

theorem keyN_lt {R C a b t : Nat} (h : Pos R C a b) (ht : t = 1 ∨ t = 2) : keyN R C a b t < 2 * 3 ^ (R * C) := by
  have := key_lt h (R * C); unfold keyN; omega
theorem Inv.new (R C : Nat) : Inv R C (List.replicate (2 * 3 ^ (R * C)) 0) := by
  refine ⟨List.length_replicate, fun a b t h ht => .inl ?_⟩
  rw [List.getElem?_replicate, if_pos (keyN_lt h ht)]
theorem Inv.put {R C a b t : Nat} {T : List Int} (hi : Inv R C T) (h : Pos R C a b) (ht : t = 1 ∨ t = 2) : Inv R C (T.set (keyN R C a b t) ((winN R C a b t : Nat) : Int)) := by
  refine ⟨by rw [List.length_set]; exact hi.1, fun a' b' t' h' ht' => ?_⟩
  rw [List.getElem?_set]
  by_cases e : keyN R C a b t = keyN R C a' b' t'
  · right
    rw [if_pos e, if_pos (by rw [hi.1]; exact keyN_lt h ht)]
    unfold keyN at e
    have e1 : keyF a b (R * C) = keyF a' b' (R * C) := by omega
    have e2 : t = t' := by omega
    obtain ⟨rfl, rfl⟩ := key_pos h h' e1
    rw [e2]
  · rw [if_neg e]; exact hi.2 a' b' t' h' ht'
theorem Inv.get {R C a b t : Nat} {T : List Int} (hi : Inv R C T) (h : Pos R C a b) (ht : t = 1 ∨ t = 2) : ∃ hl : keyN R C a b t < T.length, T[keyN R C a b t] = 0 ∨ T[keyN R C a b t] = ((winN R C a b t : Nat) : Int) := by
  have hl : keyN R C a b t < T.length := by rw [hi.1]; exact keyN_lt h ht
  refine ⟨hl, ?_⟩
  have := hi.2 a b t h ht
  rw [List.getElem?_eq_getElem hl] at this
  exact this.imp Option.some.inj Option.some.inj

/-- A winning move among the first k cells. -/
def moveTo (R C a b t k : Nat) : Bool := (List.range k).any fun k => !(a ||| b).testBit k && decide (winN R C (putA t k a) (putB t k b) (3 - t) = t)
theorem moveTo_succ (R C a b t k : Nat) : moveTo R C a b t (k + 1) = (moveTo R C a b t k || (!(a ||| b).testBit k && decide (winN R C (putA t k a) (putB t k b) (3 - t) = t))) := by
  unfold moveTo; rw [List.range_succ, List.any_append]; simp
theorem moveTo_mono {R C a b t k : Nat} (hk : k ≤ R * C) (h : moveTo R C a b t k = true) : moveB R C a b t = true := by
  unfold moveTo at h
  rw [List.any_eq_true] at h
  obtain ⟨x, hx, hh⟩ := h
  unfold moveB
  rw [List.any_eq_true]
  exact ⟨x, List.mem_range.2 (by have := List.mem_range.1 hx; omega), hh⟩
end Go.Proofs.YtkbnngklbfnkiaaDoor

/- The model's chapter 3: what MoveOk, Played, WinnerOf, WinningCells and LinePlayed of it compute. -/
namespace Go.Proofs.YtkbnngklbfnkiaaDoor
open Go Go.Ip G

variable (g : Nat → PV) (lf n : Nat)

theorem other_W (N : Nat) (hN : 1 ≤ N) (h : PHeap) {T : Nat} (hT : T = 1 ∨ T = 2) : CL g lf N fn_spec_l1Other [.int .i64 (T : Int)] h = some (.int .i64 ((3 - T : Nat) : Int), h) := by
  have := l1Other_N g lf N hN h (x := (T : Int)) (by rcases hT with rfl | rfl <;> rfl)
  rw [swap_player hT] at this; exact this

theorem specMoveOk_calls {xs : List Int} {p : PV} {h : PHeap} (N : Nat) (hN : 6 ≤ N) (r c k pl : Int) (hp : IntSl .i64 h p xs) (hl : xs.length ≤ 2 ^ 35) (hf : xs.length < lf) (hlf : 1000 < lf) :
    ∃ h', CL g lf N fn_spec_MoveOk [.int .i64 r, .int .i64 c, p, .int .i64 k, .int .i64 pl] h = some (.bool (moveL r c xs k pl), h') ∧ Keep h.length h h' := by
  obtain ⟨n, rfl⟩ : ∃ n, N = n + 1 := ⟨N - 1, by omega⟩
  have hpos := specPositionOk_N g lf n (by omega) r c hp (by omega) hf
  have hin1 : CL g lf n fn_spec_l1In [.int .i64 pl, .int .i64 1, .int .i64 2] h = some (.bool (playerB pl), h) := l1In_N g lf n (by omega) h pl 1 2
  have : W (CL g lf (n + 1) fn_spec_MoveOk [.int .i64 r, .int .i64 c, p, .int .i64 k, .int .i64 pl] h) fun v h' => v = .bool (moveL r c xs k pl) ∧ Keep h.length h h' := by
    rw [spec_MoveOk.call_eq]
    unfold spec_MoveOk.main
    simp only [env_C, env_pick, env_load, env_bin, env_un, env_indexAddr, env_len]
    unfold moveL
    cases hb : posB r c xs with
    | false =>
      rw [hb] at hpos
      repeat (first | with_reducible refine wT ?_ | with_reducible refine wg0 rfl ?_ | with_reducible refine wpT ?_ | with_reducible refine wnF ?_ | with_reducible refine wsm ?_ | with_reducible refine wrB ?_ | with_reducible refine wbd (by assumption) ?_ | dsimp only)
      exact W.ret ⟨rfl, Keep.refl _ _⟩
    | true =>
      rw [hb] at hpos
      cases hpl : playerB pl with
      | false =>
        rw [hpl] at hin1
        repeat (first | with_reducible refine wT ?_ | with_reducible refine wg1 rfl ?_ | with_reducible refine wg0 rfl ?_ | with_reducible refine wpT ?_ | with_reducible refine wpF ?_ | with_reducible refine wnT ?_ | with_reducible refine wnF ?_ | with_reducible refine wpv ?_ | with_reducible refine wsm ?_ | with_reducible refine wrB ?_ | with_reducible refine wbd (by assumption) ?_ | dsimp only)
        exact W.ret ⟨rfl, Keep.refl _ _⟩
      | true =>
        rw [hpl] at hin1
        obtain ⟨R, C, hS⟩ := sides_of hb
        have hlen : xs.length = R * C := hS.2.2.2.2.2.2.2.1
        have hpos1 : 1 ≤ xs.length := by rw [hlen]; exact Nat.mul_pos hS.2.2.1 hS.2.2.2.2.1
        have hin2 : CL g lf n fn_spec_l1In [.int .i64 k, .int .i64 0, .int .i64 ((xs.length - 1 : Nat) : Int)] h = some (.bool (decide (0 ≤ k ∧ k ≤ ((xs.length - 1 : Nat) : Int))), h) := l1In_N g lf n (by omega) h k 0 _
        have hce : decide (0 ≤ k ∧ k ≤ ((xs.length - 1 : Nat) : Int)) = decide (0 ≤ k ∧ k < (xs.length : Int)) := decide_eq_decide.2 (by omega)
        rw [hce] at hin2
        cases hk : decide (0 ≤ k ∧ k < (xs.length : Int)) with
        | false =>
          rw [hk] at hin2
          repeat (first | with_reducible refine wT ?_ | with_reducible refine wg1 rfl ?_ | with_reducible refine wpF ?_ | with_reducible refine wnT ?_ | with_reducible refine wnF ?_ | with_reducible refine wpv ?_ | with_reducible refine wsm ?_ | with_reducible refine wrB ?_ | with_reducible refine wbd (by assumption) ?_ | with_reducible refine wlen (by assumption) ?_ | with_reducible refine wsub1 (by omega) (by omega) ?_ | dsimp only)
          exact W.ret ⟨rfl, Keep.refl _ _⟩
        | true =>
          rw [hk] at hin2
          have hkb := of_decide_eq_true hk
          obtain ⟨K, rfl⟩ := Int.eq_ofNat_of_zero_le hkb.1
          have hK : K < xs.length := by omega
          have hgd : xs.getD (K : Int).toNat 0 = xs[K] := by
            rw [show ((K : Int).toNat) = K from rfl, List.getD_eq_getElem?_getD, List.getElem?_eq_getElem hK]; rfl
          rw [hgd]
          obtain ⟨h1, e1, k1⟩ := specJoins_calls g lf n (by omega) r c 1 hp (by omega) hf hlf
          obtain ⟨h2, e2, k2⟩ := specJoins_calls g lf n (by omega) r c 2 (hp.keep k1) (by omega) hf hlf
          repeat (first | with_reducible refine wF ?_ | with_reducible refine wg1 rfl ?_ | with_reducible refine wpF ?_ | with_reducible refine wnT ?_ | with_reducible refine wpv ?_ | with_reducible refine wsm ?_ | with_reducible refine wbd (by assumption) ?_ | with_reducible refine wlen (by assumption) ?_ | (with_reducible refine wat hp hK fun a hl => ?_) | with_reducible refine wsub1 (by omega) (by omega) ?_ | dsimp only)
          refine weql (fun e => ?_) (fun e => ?_)
          · rw [decide_eq_true e]
            cases hj1 : joinsL r c xs 1 with
            | true =>
              rw [hj1] at e1
              repeat (first | with_reducible refine wg1 rfl ?_ | with_reducible refine wg0 rfl ?_ | with_reducible refine wpT ?_ | with_reducible refine wpF ?_ | with_reducible refine wnT ?_ | with_reducible refine wpv ?_ | with_reducible refine wsm ?_ | with_reducible refine wrB ?_ | with_reducible refine wbd (by assumption) ?_ | dsimp only)
              exact W.ret ⟨by simp, k1⟩
            | false =>
              rw [hj1] at e1
              cases hj2 : joinsL r c xs 2 with
              | true =>
                rw [hj2] at e2
                repeat (first | with_reducible refine wg1 rfl ?_ | with_reducible refine wpT ?_ | with_reducible refine wnT ?_ | with_reducible refine wnF ?_ | with_reducible refine wpv ?_ | with_reducible refine wsm ?_ | with_reducible refine wrB ?_ | with_reducible refine wbd (by assumption) ?_ | dsimp only)
                exact W.ret ⟨by simp, k1.trans (k2.mono k1.1)⟩
              | false =>
                rw [hj2] at e2
                repeat (first | with_reducible refine wg1 rfl ?_ | with_reducible refine wpT ?_ | with_reducible refine wnF ?_ | with_reducible refine wpv ?_ | with_reducible refine wsm ?_ | with_reducible refine wrB ?_ | with_reducible refine wbd (by assumption) ?_ | dsimp only)
                exact W.ret ⟨by simp, k1.trans (k2.mono k1.1)⟩
          · rw [decide_eq_false e]
            repeat (first | with_reducible refine wg0 rfl ?_ | with_reducible refine wpF ?_ | with_reducible refine wsm ?_ | with_reducible refine wrB ?_ | dsimp only)
            exact W.ret ⟨by simp, Keep.refl _ _⟩
  obtain ⟨_, h', e, rfl, k⟩ := this
  exact ⟨h', e, k⟩

theorem specPlayed_calls {xs : List Int} {p : PV} {h : PHeap} (N : Nat) (hN : 7 ≤ N) (r c k pl : Int) (hp : IntSl .i64 h p xs) (hl : xs.length ≤ 2 ^ 35) (hf : xs.length < lf) (hlf : 1000 < lf) :
    ∃ q h', CL g lf N fn_spec_Played [.int .i64 r, .int .i64 c, p, .int .i64 k, .int .i64 pl] h = some (.tup [q, .bool (moveL r c xs k pl)], h') ∧ OwnSl h.length h' q (playedL r c xs k pl) ∧ Keep h.length h h' := by
  obtain ⟨n, rfl⟩ : ∃ n, N = n + 1 := ⟨N - 1, by omega⟩
  obtain ⟨h1, e1, k1⟩ := specMoveOk_calls g lf n (by omega) r c k pl hp hl hf hlf
  have : W (CL g lf (n + 1) fn_spec_Played [.int .i64 r, .int .i64 c, p, .int .i64 k, .int .i64 pl] h) fun v h' => ∃ q, v = .tup [q, .bool (moveL r c xs k pl)] ∧ OwnSl h.length h' q (playedL r c xs k pl) ∧ Keep h.length h h' := by
    rw [spec_Played.call_eq]
    unfold spec_Played.main
    simp only [env_C, env_buildSlice, env_store, env_un, env_indexAddr, env_append]
    unfold playedL
    cases hm : moveL r c xs k pl with
    | false =>
      rw [hm] at e1
      repeat (first | with_reducible refine wT ?_ | with_reducible refine wnF ?_ | with_reducible refine wrB ?_ | with_reducible refine wbd (by assumption) ?_ | (refine wempty fun q h2 o2 k2 => ?_) | with_reducible refine wresO (by assumption) ?_ | dsimp only)
      skip
      exact W.ret ⟨_, rfl, o2.mono k1.1, k1.trans (k2.mono k1.1)⟩
    | true =>
      rw [hm] at e1
      obtain ⟨K, rfl, hK⟩ := moveL_cell hm
      obtain ⟨v, q, h2, e2, e3, o2, k2⟩ := copy_all (hp.keep k1) (by omega) (by omega)
      repeat (first | with_reducible refine wF ?_ | with_reducible refine wnT ?_ | with_reducible refine wrB ?_ | with_reducible refine wbd (by assumption) ?_ | (refine wst o2 hK fun h3 o3 k3 l3 a e4 => ?_) | with_reducible refine wresO (by assumption) ?_ | dsimp only | simp only [env_C, env_g, env_lf, env_pick, env_alloc, env_box, env_build, env_buildSlice, env_load, env_store, env_ptr, env_bin, env_un, env_conv, env_make, env_slice, env_fieldAddr, env_field, env_indexAddr, env_index, env_extract, env_len, env_append, env_max, env_min, env_makeMap, env_lookup, env_update])
      skip
      exact W.ret ⟨_, rfl, o3.mono k1.1, k1.trans ((k2.trans k3).mono k1.1)⟩
  obtain ⟨_, h', e, q, rfl, o, k⟩ := this
  exact ⟨q, h', e, o, k⟩

/-! ### the solver -/
theorem solve_W {R C : Nat} (hB : BoardOf R C) (hlf : 1000 < lf) : ∀ (m a b t N : Nat) (T : List Int) (p pm : PV) (h : PHeap) (b0 : Nat), frN (R * C) a b ≤ m → Pos R C a b → (t = 1 ∨ t = 2) → m + 5 ≤ N → Fix b0 h pm (ints (masksN R C)) → OwnSl b0 h p T → b0 ≤ h.length → Inv R C T →
    W (CL g lf N fn_spec_l3Solve [.int .i64 (R : Int), .int .i64 (C : Int), pm, .int .i64 (a : Int), .int .i64 (b : Int), .int .i64 (t : Int), p] h) fun v h' => v = .int .i64 ((winN R C a b t : Nat) : Int) ∧ ∃ T', OwnSl b0 h' p T' ∧ Inv R C T' ∧ Keep b0 h h' := by
  intro m
  induction m using Nat.strongRecOn with
  | _ m ih =>
  intro a b t N T p pm h b0 hm hp ht hN hpm ho hb0 hi
  obtain ⟨n, rfl⟩ : ∃ n, N = n + 1 := ⟨N - 1, by omega⟩
  have h9 := hB.2.2.2.2
  have l9 := hp.lt9 hB
  have hml : (ints (masksN R C)).length = R * C := by rw [ints_length, masksN_length]
  have e1 := l2Joins_calls g lf hB (P := 1) (.inl rfl) hpm.now l9.1 n (by omega) hlf
  have e2 := l2Joins_calls g lf hB (P := 2) (.inr rfl) hpm.now l9.2 n (by omega) hlf
  rw [spec_l3Solve.call_eq]
  unfold spec_l3Solve.main
  simp only [env_C, env_lf]
  cases j1 : joinsN R C 1 a with
  | true =>
    rw [j1] at e1
    refine wbd e1 ?_
    repeat (first | with_reducible refine wT ?_ | with_reducible refine wrI ?_ | dsimp only)
    exact W.ret ⟨by rw [win_first j1]; rfl, T, ho, hi, Keep.refl _ _⟩
  | false =>
  rw [j1] at e1
  refine wbd e1 ?_
  cases j2 : joinsN R C 2 b with
  | true =>
    rw [j2] at e2
    repeat (first | with_reducible refine wT ?_ | with_reducible refine wF ?_ | with_reducible refine wrI ?_ | (refine wbd e2 ?_) | dsimp only)
    skip
    exact W.ret ⟨by rw [win_second hB hp j2]; rfl, T, ho, hi, Keep.refl _ _⟩
  | false =>
  rw [j2] at e2
  repeat (first | with_reducible refine wF ?_ | (refine wbd e2 ?_) | dsimp only)
  skip
  -- the key
  refine loopW (fun m s => ∃ (k : Nat) (key : Int), s = spec_l3Solve.st0 (.int .i64 (R : Int)) (.int .i64 (C : Int)) pm (.int .i64 (a : Int)) (.int .i64 (b : Int)) (.int .i64 (t : Int)) p (.int .i64 key) (.int .i64 (k : Int)) h ∧ k + m = R * C ∧ key = (keyF a b k : Int)) ?_ lf (R * C) _ (by omega) ⟨0, 0, rfl, by omega, rfl⟩
  rintro n1 m1 s ⟨k, key, rfl, hkm, hkey⟩ next
  have hk3 := key_lt hp k
  have hp3 := pow3_le (show k ≤ 9 by omega)
  rw [spec_l3Solve.body0_eq]
  unfold spec_l3Solve.body0
  simp only [env_bin, env_len]
  cases m1 with
  | succ m1 =>
    repeat (first | with_reducible refine wT ?_ | with_reducible refine wlen (Fix.now (by assumption)) ?_ | with_reducible refine wadd1 (by omega) ?_ | with_reducible refine wrem2 ?_ | with_reducible refine wshr (by omega) ?_ | with_reducible refine wlssT (by omega) ?_ | with_reducible refine wadd (by omega) ?_ | with_reducible refine wmul (by omega) ?_)
    refine next _ _ (Nat.lt_succ_self m1) ⟨k + 1, _, rfl, by omega, ?_⟩
    rw [keyF]; omega
  | zero =>
    have hkR : k = R * C := by omega
    subst hkR
    repeat (first | with_reducible refine wF ?_ | with_reducible refine wlen (Fix.now (by assumption)) ?_ | with_reducible refine wlssF (by omega) ?_ | with_reducible refine wadd (by omega) ?_ | with_reducible refine wsub (by omega) ?_ | with_reducible refine wmul (by omega) ?_ | rw [kLoop_exit] | rw [spec_l3Solve.after0_se0_0_1_2_3_4_5_6_15_16_33] | simp only [env_C, env_g, env_lf, env_pick, env_alloc, env_box, env_build, env_buildSlice, env_load, env_store, env_ptr, env_bin, env_un, env_conv, env_make, env_slice, env_fieldAddr, env_field, env_indexAddr, env_index, env_extract, env_len, env_append, env_max, env_min, env_makeMap, env_lookup, env_update])
    have hkn : 2 * key + (t : Int) - 1 = ((keyN R C a b t : Nat) : Int) := by unfold keyN; omega
    rw [hkn]
    obtain ⟨hl, hT⟩ := hi.get hp ht
    refine wat ho.int hl fun ad had => ?_
    refine wbd had ?_
    have hwc := win_cases (R := R) (C := C) (a := a) (b := b) ht
    refine wgtr (fun e => ?_) (fun e => ?_)
    · have hT' : T[keyN R C a b t] = ((winN R C a b t : Nat) : Int) := by
        rcases hT with h0 | h0
        · omega
        · exact h0
      repeat (first | with_reducible refine wT ?_)
      refine wat ho.int hl fun ad had => ?_
      refine wbd had ?_
      rw [hT']
      repeat (first | with_reducible refine wrI ?_)
      exact W.ret ⟨rfl, T, ho, hi, Keep.refl _ _⟩
    · have e3 := other_W g lf n (by omega) h ht
      repeat (first | with_reducible refine wF ?_ | with_reducible refine wbd (by assumption) ?_ | dsimp only)
      obtain ⟨KEY, hKEY⟩ : ∃ x, x = keyN R C a b t := ⟨_, rfl⟩
      have hwo := win_open (t := t) j1 j2
      have fin : ∀ (bst : Int) (k : Nat) (x : PV) (T2 : List Int) (h2 : PHeap), bst = ((winN R C a b t : Nat) : Int) → OwnSl b0 h2 p T2 → Inv R C T2 → Keep b0 h h2 →
          W (spec_l3Solve.K1 (env g lf n) (kTop Tryd.prog Tryd.f79) (.exit 2) (spec_l3Solve.se2_0_1_2_3_4_5_6_15_17_18_73 (.int .i64 (R : Int)) (.int .i64 (C : Int)) pm (.int .i64 (a : Int)) (.int .i64 (b : Int)) (.int .i64 (t : Int)) p (.int .i64 (KEY : Int)) (.int .i64 bst) (.int .i64 (k : Int)) x h2))
            fun v h' => v = .int .i64 ((winN R C a b t : Nat) : Int) ∧ ∃ T', OwnSl b0 h' p T' ∧ Inv R C T' ∧ Keep b0 h h' := by
        intro bst k x T2 h2 hbst o2 i2 k2
        rw [spec_l3Solve.after1_se2_0_1_2_3_4_5_6_15_17_18_73]
        simp only [env_indexAddr, env_store]
        obtain ⟨hl2, _⟩ := i2.get hp ht
        rw [← hKEY] at hl2
        refine wst o2 hl2 fun h3 o3 k3 l3 a3 e4 => ?_
        repeat (first | with_reducible refine wrI ?_)
        rw [hbst] at o3 ⊢
        rw [hKEY] at o3
        exact W.ret ⟨rfl, _, o3, i2.put hp ht, k2.trans k3⟩
      rw [← hKEY]
      refine loopW (fun m s => ∃ (k : Nat) (bst : Int) (T2 : List Int) (h2 : PHeap), s = spec_l3Solve.st1 (.int .i64 (R : Int)) (.int .i64 (C : Int)) pm (.int .i64 (a : Int)) (.int .i64 (b : Int)) (.int .i64 (t : Int)) p (.int .i64 (KEY : Int)) (.int .i64 bst) (.int .i64 (k : Int)) h2 ∧ k + m = R * C ∧
        ((bst = ((3 - t : Nat) : Int) ∧ moveTo R C a b t k = false) ∨ (bst = (t : Int) ∧ moveB R C a b t = true)) ∧ OwnSl b0 h2 p T2 ∧ Inv R C T2 ∧ Keep b0 h h2) ?_ lf (R * C) _ (by omega) ⟨0, _, T, h, rfl, by omega, .inl ⟨rfl, rfl⟩, ho, hi, Keep.refl _ _⟩
      rintro n2 m2 s ⟨k, bst, T2, h2, rfl, hkm2, hbst, o2, i2, k2⟩ next2
      have hpm2 := hpm.keep k2
      rw [spec_l3Solve.body1_eq]
      unfold spec_l3Solve.body1
      simp only [env_C, env_pick, env_bin, env_len]
      rcases hbst with ⟨hb1, hb2⟩ | ⟨hb1, hb2⟩
      · cases m2 with
        | zero =>
          repeat (first | with_reducible refine wF ?_ | with_reducible refine wg0 rfl ?_ | with_reducible refine wpF ?_ | with_reducible refine wsm ?_ | with_reducible refine wlen (Fix.now (by assumption)) ?_ | with_reducible refine wlssF (by omega) ?_ | rw [kLoop_exit] | dsimp only)
          refine fin bst k _ T2 h2 ?_ o2 i2 k2
          have hkR : k = R * C := by omega
          subst hkR
          have : moveB R C a b t = false := hb2
          rw [hwo, this, hb1]; rfl
        | succ m2 =>
          have hkl : k < R * C := by omega
          have hne : ¬ bst = (t : Int) := by omega
          have hor : a ||| b < 2 ^ 9 := Nat.or_lt_two_pow l9.1 l9.2
          have hsl := shl_lt (show k < 9 by omega)
          have hto := moveTo_succ R C a b t k
          rw [hb2, Bool.false_or] at hto
          repeat (first | with_reducible refine wT ?_ | with_reducible refine wg1 rfl ?_ | with_reducible refine wpT ?_ | with_reducible refine wpv ?_ | with_reducible refine wsm ?_ | with_reducible refine wlen (Fix.now (by assumption)) ?_ | with_reducible refine wrem2 ?_ | with_reducible refine wshr (by omega) ?_ | with_reducible refine wor (by omega) (by omega) ?_ | with_reducible refine wlssT (by omega) ?_ | with_reducible refine wneqT (by omega) ?_ | dsimp only)
          refine weql (fun e => ?_) (fun e => ?_)
          · have hbit := (bit_iff (a ||| b) k).1 (by omega)
            rw [hbit] at hto
            repeat (first | with_reducible refine wT ?_ | with_reducible refine wadd1 (by omega) ?_)
            exact next2 _ _ (Nat.lt_succ_self m2) ⟨k + 1, bst, T2, h2, rfl, by omega, .inl ⟨hb1, hto⟩, o2, i2, k2⟩
          · have hbit : (a ||| b).testBit k = false := by
              cases e2 : (a ||| b).testBit k with
              | false => rfl
              | true => exact (e (by rw [(bit_iff (a ||| b) k).2 e2]; rfl)).elim
            have hfr := fr_put (t := t) hkl hbit
            have hpp := hp.put (t := t) hkl hbit
            rw [hbit, Bool.not_false, Bool.true_and] at hto
            have hor2 : a ||| 1 <<< k < 2 ^ 9 := Nat.or_lt_two_pow l9.1 hsl
            have hor3 : b ||| 1 <<< k < 2 ^ 9 := Nat.or_lt_two_pow l9.2 hsl
            rcases ht with rfl | rfl
            · repeat (first | with_reducible refine wT ?_ | with_reducible refine wF ?_ | with_reducible refine wshl (by omega) ?_ | with_reducible refine wor (by omega) (by omega) ?_ | with_reducible refine weqlT (by omega) ?_)
              refine wcall (ih (m - 1) (by omega) (a ||| 1 <<< k) b 2 n T2 p pm h2 b0 (Nat.le_sub_one_of_lt (Nat.lt_of_lt_of_le hfr hm)) hpp (.inr rfl) (by omega) hpm2 o2 (Nat.le_trans hb0 k2.1) i2) fun v h3 ⟨hv, T3, o3, i3, k3⟩ => ?_
              subst hv
              refine weql (fun e => ?_) (fun e => ?_)
              · repeat (first | with_reducible refine wT ?_ | with_reducible refine wadd1 (by omega) ?_ | dsimp only)
                have hw : winN R C (putA 1 k a) (putB 1 k b) (3 - 1) = 1 := Int.ofNat_inj.1 e
                rw [decide_eq_true hw] at hto
                exact next2 _ _ (Nat.lt_succ_self m2) ⟨k + 1, _, T3, h3, rfl, by omega, .inr ⟨rfl, moveTo_mono (by omega) hto⟩, o3, i3, k2.trans k3⟩
              · repeat (first | with_reducible refine wF ?_ | with_reducible refine wadd1 (by omega) ?_ | dsimp only)
                have hw : ¬ winN R C (putA 1 k a) (putB 1 k b) (3 - 1) = 1 := fun hh => e (congrArg Int.ofNat hh)
                rw [decide_eq_false hw] at hto
                exact next2 _ _ (Nat.lt_succ_self m2) ⟨k + 1, bst, T3, h3, rfl, by omega, .inl ⟨hb1, hto⟩, o3, i3, k2.trans k3⟩
            · repeat (first | with_reducible refine wF ?_ | with_reducible refine wshl (by omega) ?_ | with_reducible refine wor (by omega) (by omega) ?_ | with_reducible refine weqlF (by omega) ?_)
              refine wcall (ih (m - 1) (by omega) a (b ||| 1 <<< k) 1 n T2 p pm h2 b0 (Nat.le_sub_one_of_lt (Nat.lt_of_lt_of_le hfr hm)) hpp (.inl rfl) (by omega) hpm2 o2 (Nat.le_trans hb0 k2.1) i2) fun v h3 ⟨hv, T3, o3, i3, k3⟩ => ?_
              subst hv
              refine weql (fun e => ?_) (fun e => ?_)
              · repeat (first | with_reducible refine wT ?_ | with_reducible refine wadd1 (by omega) ?_ | dsimp only)
                have hw : winN R C (putA 2 k a) (putB 2 k b) (3 - 2) = 2 := Int.ofNat_inj.1 e
                rw [decide_eq_true hw] at hto
                exact next2 _ _ (Nat.lt_succ_self m2) ⟨k + 1, _, T3, h3, rfl, by omega, .inr ⟨rfl, moveTo_mono (by omega) hto⟩, o3, i3, k2.trans k3⟩
              · repeat (first | with_reducible refine wF ?_ | with_reducible refine wadd1 (by omega) ?_ | dsimp only)
                have hw : ¬ winN R C (putA 2 k a) (putB 2 k b) (3 - 2) = 2 := fun hh => e (congrArg Int.ofNat hh)
                rw [decide_eq_false hw] at hto
                exact next2 _ _ (Nat.lt_succ_self m2) ⟨k + 1, bst, T3, h3, rfl, by omega, .inl ⟨hb1, hto⟩, o3, i3, k2.trans k3⟩
      · have hfin : bst = ((winN R C a b t : Nat) : Int) := by rw [hwo, hb2, hb1]; rfl
        by_cases hkl : k < R * C
        · repeat (first | with_reducible refine wF ?_ | with_reducible refine wg1 rfl ?_ | with_reducible refine wpT ?_ | with_reducible refine wpv ?_ | with_reducible refine wsm ?_ | with_reducible refine wlen (Fix.now (by assumption)) ?_ | with_reducible refine wlssT (by omega) ?_ | with_reducible refine wneqF (by omega) ?_ | rw [kLoop_exit] | dsimp only)
          exact fin bst k _ T2 h2 hfin o2 i2 k2
        · repeat (first | with_reducible refine wF ?_ | with_reducible refine wg0 rfl ?_ | with_reducible refine wpF ?_ | with_reducible refine wsm ?_ | with_reducible refine wlen (Fix.now (by assumption)) ?_ | with_reducible refine wlssF (by omega) ?_ | rw [kLoop_exit] | dsimp only)
          exact fin bst k _ T2 h2 hfin o2 i2 k2

theorem table_W {R C : Nat} (hB : BoardOf R C) (hlf : 1000 < lf) (N : Nat) (hN : 1 ≤ N) (h : PHeap) :
    W (CL g lf N fn_spec_l3Table [.int .i64 ((R * C : Nat) : Int)] h) fun v h' => ∃ T, OwnSl h.length h' v T ∧ Inv R C T ∧ Keep h.length h h' := by
  obtain ⟨n, rfl⟩ : ∃ n, N = n + 1 := ⟨N - 1, by omega⟩
  have h9 := hB.2.2.2.2
  rw [spec_l3Table.call_eq]
  unfold spec_l3Table.main
  simp only [env_lf]
  refine loopW (fun m s => ∃ (k V : Nat), s = spec_l3Table.st0 (.int .i64 ((R * C : Nat) : Int)) (.int .i64 (V : Int)) (.int .i64 (k : Int)) h ∧ k + m = R * C ∧ V = 2 * 3 ^ k) ?_ lf (R * C) _ (by omega) ⟨0, 2, rfl, by omega, rfl⟩
  rintro n1 m1 s ⟨k, V, rfl, hkm, hV⟩ next
  have hp3 := pow3_le (show k ≤ 9 by omega)
  rw [spec_l3Table.body0_eq]
  unfold spec_l3Table.body0
  simp only [env_bin]
  cases m1 with
  | succ m1 =>
    repeat (first | with_reducible refine wT ?_ | with_reducible refine wadd1 (by omega) ?_ | with_reducible refine wlssT (by omega) ?_ | with_reducible refine wmul (by omega) ?_)
    refine next _ _ (Nat.lt_succ_self m1) ⟨k + 1, V * 3, rfl, by omega, by rw [Nat.pow_succ]; omega⟩
  | zero =>
    have hkR : k = R * C := by omega
    subst hkR
    subst hV
    repeat (first | with_reducible refine wF ?_ | with_reducible refine wlssF (by omega) ?_ | rw [kLoop_exit] | rw [spec_l3Table.after0_se0_0_3_4_7] | simp only [env_C, env_g, env_lf, env_pick, env_alloc, env_box, env_build, env_buildSlice, env_load, env_store, env_ptr, env_bin, env_un, env_conv, env_make, env_slice, env_fieldAddr, env_field, env_indexAddr, env_index, env_extract, env_len, env_append, env_max, env_min, env_makeMap, env_lookup, env_update])
    refine wmake (by omega) fun p h1 o1 k1 => ?_
    repeat (first | with_reducible refine wresO (by assumption) ?_ | dsimp only)
    exact W.ret ⟨_, o1, Inv.new R C, k1⟩

theorem winner_W {R C : Nat} {xs : List Int} {p : PV} {h : PHeap} (hS : Sides (R : Int) (C : Int) R C xs) {T : Nat} (hT : T = 1 ∨ T = 2) (hp : IntSl .i64 h p xs) (hlf : 1000 < lf) (N : Nat) (hN : 16 ≤ N) :
    ∃ h', CL g lf N fn_spec_l3Winner [.int .i64 (R : Int), .int .i64 (C : Int), p, .int .i64 (T : Int)] h = some (.int .i64 ((winN R C (setL xs 1) (setL xs 2) T : Nat) : Int), h') ∧ Keep h.length h h' := by
  obtain ⟨n, rfl⟩ : ∃ n, N = n + 1 := ⟨N - 1, by omega⟩
  have hB := board_of_sides hS
  have hlen : xs.length = R * C := hS.2.2.2.2.2.2.2.1
  have h9 := hB.2.2.2.2
  have hml : (ints (masksN R C)).length = R * C := by rw [ints_length, masksN_length]
  have : W (CL g lf (n + 1) fn_spec_l3Winner [.int .i64 (R : Int), .int .i64 (C : Int), p, .int .i64 (T : Int)] h) fun v h' => v = .int .i64 ((winN R C (setL xs 1) (setL xs 2) T : Nat) : Int) ∧ Keep h.length h h' := by
    rw [spec_l3Winner.call_eq]
    unfold spec_l3Winner.main
    simp only [env_C, env_len]
    obtain ⟨pm, h1, e1, o1, k1⟩ := l2Masks_calls g lf hB n (by omega) (by omega) (h := h)
    have hp1 := hp.keep k1
    have e2 := l2Set_calls g lf 1 hp1 (by omega) n (by omega) (by omega)
    have e3 := l2Set_calls g lf 2 hp1 (by omega) n (by omega) (by omega)
    have hlm := o1.int.len'
    rw [hml] at hlm
    repeat (first | with_reducible refine wbd (by assumption) ?_ | dsimp only)
    refine wcall (table_W g lf hB hlf n (by omega) h1) fun q h2 ⟨T2, o2, i2, k2⟩ => ?_
    repeat (first | dsimp only)
    refine wcall (solve_W g lf hB hlf (R * C) (setL xs 1) (setL xs 2) T n T2 q pm h2 h1.length (fr_le _ _ _) (pos_sets hS) hT (by omega) (o1.int.fix.keep k2) o2 k2.1 i2) fun v h3 ⟨hv, T3, o3, i3, k3⟩ => ?_
    subst hv
    repeat (first | with_reducible refine wrI ?_ | dsimp only)
    exact W.ret ⟨rfl, k1.trans ((k2.trans k3).mono k1.1)⟩
  obtain ⟨_, h', e, rfl, k⟩ := this
  exact ⟨h', e, k⟩

theorem specWinnerOf_calls {xs : List Int} {p : PV} {h : PHeap} (N : Nat) (hN : 17 ≤ N) (r c t : Int) (hp : IntSl .i64 h p xs) (hl : xs.length ≤ 2 ^ 35) (hf : xs.length < lf) (hlf : 1000 < lf) :
    ∃ h', CL g lf N fn_spec_WinnerOf [.int .i64 r, .int .i64 c, p, .int .i64 t] h = some (.int .i64 (winL r c xs t), h') ∧ Keep h.length h h' := by
  obtain ⟨n, rfl⟩ : ∃ n, N = n + 1 := ⟨N - 1, by omega⟩
  have hpos := specPositionOk_N g lf n (by omega) r c hp (by omega) hf
  have hin1 : CL g lf n fn_spec_l1In [.int .i64 t, .int .i64 1, .int .i64 2] h = some (.bool (playerB t), h) := l1In_N g lf n (by omega) h t 1 2
  have : W (CL g lf (n + 1) fn_spec_WinnerOf [.int .i64 r, .int .i64 c, p, .int .i64 t] h) fun v h' => v = .int .i64 (winL r c xs t) ∧ Keep h.length h h' := by
    rw [spec_WinnerOf.call_eq]
    unfold spec_WinnerOf.main
    simp only [env_C, env_pick, env_un]
    cases hb : posB r c xs with
    | false =>
      rw [hb] at hpos
      repeat (first | with_reducible refine wT ?_ | with_reducible refine wg0 rfl ?_ | with_reducible refine wpT ?_ | with_reducible refine wnF ?_ | with_reducible refine wsm ?_ | with_reducible refine wrI ?_ | with_reducible refine wbd (by assumption) ?_ | dsimp only)
      exact W.ret ⟨by rw [winL_none (.inl hb)], Keep.refl _ _⟩
    | true =>
      rw [hb] at hpos
      cases hpl : playerB t with
      | false =>
        rw [hpl] at hin1
        repeat (first | with_reducible refine wT ?_ | with_reducible refine wg1 rfl ?_ | with_reducible refine wpF ?_ | with_reducible refine wnT ?_ | with_reducible refine wnF ?_ | with_reducible refine wpv ?_ | with_reducible refine wsm ?_ | with_reducible refine wrI ?_ | with_reducible refine wbd (by assumption) ?_ | dsimp only)
        refine W.ret ⟨?_, Keep.refl _ _⟩
        unfold winL; rw [hpl, Bool.and_false]; rfl
      | true =>
        rw [hpl] at hin1
        obtain ⟨R, C, hS⟩ := sides_of hb
        obtain ⟨T, rfl, hT⟩ := player_of hpl
        obtain ⟨rfl, rfl, _⟩ := id hS
        obtain ⟨h1, e1, k1⟩ := winner_W g lf hS hT hp hlf n (by omega)
        repeat (first | with_reducible refine wF ?_ | with_reducible refine wg1 rfl ?_ | with_reducible refine wpF ?_ | with_reducible refine wnT ?_ | with_reducible refine wpv ?_ | with_reducible refine wsm ?_ | with_reducible refine wrI ?_ | with_reducible refine wbd (by assumption) ?_ | dsimp only)
        exact W.ret ⟨by rw [winL_eq hb hT], k1⟩
  obtain ⟨_, h', e, rfl, k⟩ := this
  exact ⟨h', e, k⟩

end Go.Proofs.YtkbnngklbfnkiaaDoor

/- The model's chapter 3, on: the winning cells and the moves played on. -/
namespace Go.Proofs.YtkbnngklbfnkiaaDoor
open Go Go.Ip G

/-! ### two lists at once: one between two marks, that is written to, and one apart from it, that grows -/
def Apart (b0 b1 b2 : Nat) (h : PHeap) (q : PV) (ys : List Int) : Prop := ∃ n m, OwnB n m h q ys ∧ b0 ≤ n ∧ (m ≤ b1 ∨ b2 ≤ n) ∧ m ≤ h.length
theorem Apart.keep {b0 b1 b2 : Nat} {h h' : PHeap} {q : PV} {ys : List Int} (s : Apart b0 b1 b2 h q ys) (k : Keep h.length h h') : Apart b0 b1 b2 h' q ys := by
  obtain ⟨n, m, o, h1, h2, h3⟩ := s
  exact ⟨n, m, o.keep (k.mono h3), h1, h2, Nat.le_trans h3 k.1⟩
theorem Apart.only {b0 b1 b2 : Nat} {h h' : PHeap} {q : PV} {ys : List Int} (s : Apart b0 b1 b2 h q ys) (k : Only b1 b2 h h') : Apart b0 b1 b2 h' q ys := by
  obtain ⟨n, m, o, h1, h2, h3⟩ := s
  exact ⟨n, m, o.only k (h2.imp id id), h1, h2, by rw [k.1]; exact h3⟩
theorem Apart.sl {b0 b1 b2 : Nat} {h : PHeap} {q : PV} {ys : List Int} (s : Apart b0 b1 b2 h q ys) : OwnSl b0 h q ys := by
  obtain ⟨n, m, o, h1, h2, h3⟩ := s
  exact o.sl.mono h1

theorem OwnB.append {n m : Nat} {h : PHeap} {p : PV} {xs : List Int} (s : OwnB n m h p xs) (hn : n ≤ h.length) (x : Int) (hl : xs.length + 1 ≤ 2 ^ 36) :
    ∃ v p' h', buildSliceP Tryd.prog 23 1 [(0, .int .i64 x)] h = some v ∧ appendP Tryd.prog 23 23 p v.1 v.2 = some (p', h') ∧ OwnSl h.length h' p' (xs ++ [x]) ∧ Keep n h h' ∧
      ∀ a b r zs, OwnB a b h r zs → (b ≤ n ∨ m ≤ a) → OwnB a b h' r zs := by
  have hb : buildSliceP Tryd.prog 23 1 [(0, .int .i64 x)] h = some (.sl h.length 0 1, h ++ [.own 1 [.int .i64 x]]) := by
    simp [buildSliceP, tyElem, tySize, tyZero, repeatCells, fillP, PV.cells, setCells]
  have hsrc : srcP (h ++ [.own 1 [.int .i64 x]]) 1 (.sl h.length 0 1) = some (1, [.int .i64 x]) := by
    simp [srcP, cellsAt, PObj.get]
  rcases s with ⟨rfl, rfl⟩ | ⟨id, h1, h2, rfl, h3⟩
  · refine ⟨_, .sl (h.length + 1) 0 1, h ++ [.own 1 [.int .i64 x]] ++ [.own 1 [.int .i64 x]], hb, ?_, .inr ⟨h.length + 1, by omega, rfl, ?_⟩, ?_, ?_⟩
    · simp [appendP, tyElem, tySize, tySmall, hsrc]
    · rw [List.getElem?_append_right (by simp)]; simp
    · rw [List.append_assoc]; exact Keep.append _ _ _ hn
    · rintro a b r zs (⟨rfl, rfl⟩ | ⟨i, i1, i2, rfl, i3⟩) _
      · exact .inl ⟨rfl, rfl⟩
      · refine .inr ⟨i, i1, i2, rfl, ?_⟩
        have hi : i < h.length := (List.getElem?_eq_some_iff.1 i3).1
        rw [List.append_assoc, List.getElem?_append_left hi]; exact i3
  · have hid : id < h.length := (List.getElem?_eq_some_iff.1 h3).1
    have h3' : (h ++ [PObj.own 1 [.int .i64 x]])[id]? = some (.own 1 (xs.map (.int .i64))) := by rw [List.getElem?_append_left hid]; exact h3
    refine ⟨_, .sl (h.length + 1) 0 (xs.length + 1), ((h ++ [PObj.own 1 [.int .i64 x]]).set id .dead ++ [PObj.own 1 (xs.map (.int .i64) ++ [.int .i64 x])]), hb, ?_, .inr ⟨h.length + 1, by omega, by simp, ?_⟩, ?_, ?_⟩
    · simp [appendP, tyElem, tySize, tySmall, hsrc, h3', hl]
    · rw [List.getElem?_append_right (by simp)]; simp
    · exact ((Keep.append n h _ hn).trans (Keep.set n _ id .dead h1)).trans (Keep.append _ _ _ (by simp; omega))
    · rintro a b r zs (⟨rfl, rfl⟩ | ⟨i, i1, i2, rfl, i3⟩) hd
      · exact .inl ⟨rfl, rfl⟩
      · refine .inr ⟨i, i1, i2, rfl, ?_⟩
        have hi : i < h.length := (List.getElem?_eq_some_iff.1 i3).1
        rw [List.getElem?_append_left (by simp; omega), List.getElem?_set_ne (by omega), List.getElem?_append_left hi]; exact i3

section
variable {Q : PV → PHeap → Prop} {h : PHeap} {p r : PV} {xs zs : List Int} {b0 b1 b2 : Nat}
theorem wapA (s : Apart b0 b1 b2 h p xs) (o : OwnB b1 b2 h r zs) (hb0 : b0 ≤ h.length) (hb2 : b2 ≤ h.length) {x : Int} (hl : xs.length + 1 ≤ 2 ^ 36) {F : PV × PHeap → Res}
    (hf : ∀ p' h', Apart b0 b1 b2 h' p' (xs ++ [x]) → OwnB b1 b2 h' r zs → Keep b0 h h' → W (F (p', h')) Q) :
    W ((buildSliceP Tryd.prog 23 1 [(0, .int .i64 x)] h).bind fun v => (appendP Tryd.prog 23 23 p v.1 v.2).bind F) Q := by
  obtain ⟨n, m, on, h1, h2, h3⟩ := s
  rcases Nat.le_total n h.length with hn | hn
  · obtain ⟨v, p', h', e1, e2, o', k, fr⟩ := on.append hn x hl
    exact wbd e1 (wbd e2 (hf p' h' ⟨h.length, h'.length, o'.b, hb0, .inr hb2, Nat.le_refl _⟩ (fr _ _ _ _ o (by omega)) (k.mono h1)))
  · have o0 : OwnB h.length m h p xs := by
      rcases on with on | ⟨id, i1, i2, i3, i4⟩
      · exact .inl on
      · have := (List.getElem?_eq_some_iff.1 i4).1; omega
    obtain ⟨v, p', h', e1, e2, o', k, fr⟩ := o0.append (Nat.le_refl _) x hl
    exact wbd e1 (wbd e2 (hf p' h' ⟨h.length, h'.length, o'.b, hb0, .inr hb2, Nat.le_refl _⟩ (fr _ _ _ _ o (by omega)) (k.mono hb0)))
theorem wstB (s : OwnB b1 b2 h p xs) {i : Nat} (hi : i < xs.length) {x : Int} {F : PV → PHeap → Res}
    (hf : ∀ h', OwnB b1 b2 h' p (xs.set i x) → Only b1 b2 h h' → ∀ a, W (F a h') Q) :
    W ((indexAddrP Tryd.prog 23 p (.int .i64 (i : Int))).bind fun a => (storeP Tryd.prog 3 a (.int .i64 x) h).bind fun h' => F a h') Q := by
  obtain ⟨a, h', e1, e2, o, k⟩ := s.store hi x
  refine wbd e1 ?_
  show W ((storeP Tryd.prog 3 a (.int .i64 x) h).bind fun h' => F a h') Q
  exact wbd e2 (hf h' o k a)
/-- The first element is read. -/
theorem wat0 (s : IntSl .i64 h p xs) (hi : 0 < xs.length) {f : PV → Res} (hf : ∀ a, loadP Tryd.prog 3 a h = some (.int .i64 xs[0]) → W (f a) Q) : W ((indexAddrP Tryd.prog 23 p (.int .i64 0)).bind f) Q := wat s hi hf
end

/-! ### winning cells -/
def winFrom (r c : Int) (xs : List Int) (pl : Int) (k m : Nat) : List Int := ((List.range' k m).filter (winsB r c xs pl)).map fun k : Nat => (k : Int)
theorem winFrom_all (r c : Int) (xs : List Int) (pl : Int) : winFrom r c xs pl 0 xs.length = winCellsL r c xs pl := by unfold winFrom winCellsL; rw [List.range_eq_range']
theorem winFrom_succ (r c : Int) (xs : List Int) (pl : Int) (k m : Nat) : winFrom r c xs pl k (m + 1) = if winsB r c xs pl k = true then (k : Int) :: winFrom r c xs pl (k + 1) m else winFrom r c xs pl (k + 1) m := by
  unfold winFrom
  rw [List.range'_succ, List.filter_cons]
  split <;> rfl

variable (g : Nat → PV) (lf n : Nat)

theorem specWinningCells_calls {xs : List Int} {p : PV} {h : PHeap} (N : Nat) (hN : 18 ≤ N) (r c pl : Int) (hp : IntSl .i64 h p xs) (hl : xs.length ≤ 2 ^ 35) (hf : xs.length < lf) (hlf : 1000 < lf) :
    ∃ q h', CL g lf N fn_spec_WinningCells [.int .i64 r, .int .i64 c, p, .int .i64 pl] h = some (q, h') ∧ OwnSl h.length h' q (winCellsL r c xs pl) ∧ Keep h.length h h' := by
  obtain ⟨n, rfl⟩ : ∃ n, N = n + 1 := ⟨N - 1, by omega⟩
  suffices this : W (CL g lf (n + 1) fn_spec_WinningCells [.int .i64 r, .int .i64 c, p, .int .i64 pl] h) fun q h' => OwnSl h.length h' q (winCellsL r c xs pl) ∧ Keep h.length h h' by
    obtain ⟨q, h', e, o, k⟩ := this
    exact ⟨q, h', e, o, k⟩
  rw [spec_WinningCells.call_eq]
  unfold spec_WinningCells.main
  simp only [env_lf, env_buildSlice]
  refine wempty fun q h1 o1 k1 => ?_
  refine loopW (fun m s => ∃ (k : Nat) (ys : List Int) (q : PV) (h2 : PHeap), s = spec_WinningCells.st0 (.int .i64 r) (.int .i64 c) p (.int .i64 pl) q (.int .i64 (k : Int)) h2 ∧ k + m = xs.length ∧ ys.length ≤ k ∧ ys ++ winFrom r c xs pl k m = winCellsL r c xs pl ∧ OwnSl h.length h2 q ys ∧ Keep h.length h h2) ?_ lf xs.length _ hf ⟨0, [], q, h1, rfl, by omega, Nat.le_refl _, winFrom_all r c xs pl, o1, k1⟩
  rintro n1 m s ⟨k, ys, q, h2, rfl, hkm, hy, hL, o2, k2⟩ next
  have hp2 := hp.keep k2
  rw [spec_WinningCells.body0_eq]
  unfold spec_WinningCells.body0
  simp only [env_C, env_pick, env_buildSlice, env_bin, env_extract, env_len, env_append]
  cases m with
  | zero =>
    repeat (first | with_reducible refine wF ?_ | with_reducible refine wlen (by assumption) ?_ | with_reducible refine wlssF (by omega) ?_ | with_reducible refine wresO (by assumption) ?_ | rw [kLoop_exit] | rw [spec_WinningCells.after0_se0_0_1_2_3_9_10_17])
    have : winFrom r c xs pl k 0 = [] := rfl
    rw [this, List.append_nil] at hL
    exact W.ret ⟨hL ▸ o2, k2⟩
  | succ m =>
    have hk : k < xs.length := by omega
    rw [winFrom_succ] at hL
    obtain ⟨q3, h3, e3, o3, k3⟩ := specPlayed_calls g lf n (by omega) r c (k : Int) pl hp2 hl hf hlf
    cases hm : moveL r c xs (k : Int) pl with
    | false =>
      have hw : winsB r c xs pl k = false := by unfold winsB; rw [hm]; rfl
      rw [hw, if_neg (by decide)] at hL
      rw [hm] at e3
      repeat (first | with_reducible refine wT ?_ | with_reducible refine wF ?_ | with_reducible refine wg0 rfl ?_ | with_reducible refine wpF ?_ | with_reducible refine wsm ?_ | with_reducible refine wx0 ?_ | with_reducible refine wx1 ?_ | with_reducible refine wbd (by assumption) ?_ | with_reducible refine wlen (by assumption) ?_ | with_reducible refine wadd1 (by omega) ?_ | with_reducible refine wlssT (by omega) ?_ | dsimp only)
      exact next _ _ (Nat.lt_succ_self m) ⟨k + 1, ys, q, h3, rfl, by omega, by omega, hL, o2.keep k3, k2.trans (k3.mono k2.1)⟩
    | true =>
      obtain ⟨hb, hpl, hk0, hj1, hj2⟩ := moveL_iff.1 hm
      rw [hm] at e3
      rw [playedL_eq hm] at o3
      obtain ⟨R, C, hS⟩ := sides_of hb
      obtain ⟨P, rfl, hP⟩ := player_of hpl
      obtain ⟨rfl, rfl, _⟩ := id hS
      have hP' : 3 - P = 1 ∨ 3 - P = 2 := by omega
      have e4 := other_W g lf n (by omega) h3 hP
      have hS2 := sides_set hb hS (k := k) hP
      obtain ⟨h5, e5, k5⟩ := winner_W g lf hS2 hP' o3.int hlf n (by omega)
      have kk : Keep h.length h h5 := (k2.trans (k3.mono k2.1)).trans (k5.mono (Nat.le_trans k2.1 k3.1))
      have o5 := (o2.keep k3).keep k5
      have hv : winL (R : Int) (C : Int) (xs.set k (P : Int)) (3 - (P : Int)) = ((winN R C (setL (xs.set k (P : Int)) 1) (setL (xs.set k (P : Int)) 2) (3 - P) : Nat) : Int) := by
        rw [show (3 : Int) - (P : Int) = ((3 - P : Nat) : Int) by omega]; exact winL_eq (pos_set hb hP k) hP'
      have hw : winsB (R : Int) (C : Int) xs (P : Int) k = decide (((winN R C (setL (xs.set k (P : Int)) 1) (setL (xs.set k (P : Int)) 2) (3 - P) : Nat) : Int) = (P : Int)) := by unfold winsB; rw [hm, hv, Bool.true_and]
      rw [hw] at hL
      repeat (first | with_reducible refine wT ?_ | with_reducible refine wg1 rfl ?_ | with_reducible refine wpv ?_ | with_reducible refine wsm ?_ | with_reducible refine wx0 ?_ | with_reducible refine wx1 ?_ | with_reducible refine wbd (by assumption) ?_ | with_reducible refine wlen (by assumption) ?_ | with_reducible refine wlssT (by omega) ?_ | dsimp only)
      refine weql (fun e => ?_) (fun e => ?_)
      · rw [decide_eq_true e, if_pos rfl] at hL
        repeat (first | with_reducible refine wT ?_ | with_reducible refine wpT ?_ | (refine wap o5 kk.1 (by omega) fun p' h6 o6 k6 => ?_) | with_reducible refine wadd1 (by omega) ?_ | dsimp only)
        exact next _ _ (Nat.lt_succ_self m) ⟨k + 1, ys ++ [(k : Int)], p', h6, rfl, by omega, by simp; omega, by rw [List.append_assoc]; exact hL, o6, kk.trans k6⟩
      · rw [decide_eq_false e, if_neg (by decide)] at hL
        repeat (first | with_reducible refine wF ?_ | with_reducible refine wpT ?_ | with_reducible refine wadd1 (by omega) ?_)
        exact next _ _ (Nat.lt_succ_self m) ⟨k + 1, ys, q, h5, rfl, by omega, by omega, hL, o5, kk⟩

/-! ### played on -/
theorem goB_false {R C : Nat} {zs : List Int} {f : Nat} {T : Int} (h : goB (R : Int) (C : Int) zs = false) : lineF (R : Int) (C : Int) f zs T = [] := by
  cases f with
  | zero => rfl
  | succ f => rw [lineF, h]; rfl

theorem specLine_loop {R C : Nat} (hlf : 1000 < lf) (hn : 18 ≤ n) {L : List Int} (hL9 : L.length ≤ 9) {b0 b1 b2 : Nat} {h : PHeap} (hb01 : b0 ≤ b1) (hb12 : b1 ≤ b2) (h0 : b0 ≤ h.length) {zs : List Int} {T : Nat} {q pn : PV} {h1 : PHeap} (hb : posB (R : Int) (C : Int) zs = true) (hT : T = 1 ∨ T = 2) {F : Nat} (hF : pop (setL zs 0) ≤ F) (hF9 : F ≤ 9) (hL : lineF (R : Int) (C : Int) F zs (T : Int) = L)
    (oq : Apart b0 b1 b2 h1 q []) (on : OwnB b1 b2 h1 pn zs) (h2 : b2 ≤ h1.length) (k1 : Keep b0 h h1) :
    W (loopK (ev ((env g lf n).cx Tryd.prog spec_LinePlayed.kl) spec_LinePlayed.lp0) lf (spec_LinePlayed.st0 (.int .i64 (R : Int)) (.int .i64 (C : Int)) (.int .i64 (T : Int)) q pn h1) (spec_LinePlayed.K0 (env g lf n) (kTop Tryd.prog Tryd.f39)))
      fun v h' => OwnSl b0 h' v L ∧ Keep b0 h h' := by
  refine loopW (fun m s => ∃ (zs ys : List Int) (T : Nat) (q : PV) (h1 : PHeap), s = spec_LinePlayed.st0 (.int .i64 (R : Int)) (.int .i64 (C : Int)) (.int .i64 (T : Int)) q pn h1 ∧ posB (R : Int) (C : Int) zs = true ∧ (T = 1 ∨ T = 2) ∧ pop (setL zs 0) ≤ m ∧ ys ++ lineF (R : Int) (C : Int) m zs (T : Int) = L ∧
    Apart b0 b1 b2 h1 q ys ∧ OwnB b1 b2 h1 pn zs ∧ b2 ≤ h1.length ∧ Keep b0 h h1) ?_ lf F _ (by omega) ⟨zs, [], T, q, h1, rfl, hb, hT, hF, hL, oq, on, h2, k1⟩
  · clear hL on h2 k1 hb hT oq hF
    rintro n1 m s ⟨zs, ys, T, q, h1, rfl, hb, hT, hpop, hL, oq, on, h2, k1⟩ next
    obtain ⟨R', C', hS'⟩ := sides_of hb
    have hRR : R' = R := by have := hS'.1; omega
    have hCC : C' = C := by have := hS'.2.1; omega
    subst hRR hCC
    have hS := hS'
    have h9 : zs.length ≤ 9 := by have := hS.2.2.2.2.2.2.2.1; have := hS.2.2.2.2.2.2.1; omega
    have hs0 := set_lt9 hS 0
    have e1 := l2Set_calls g lf 0 on.int (by omega) n (by omega) (by omega)
    obtain ⟨h3, e3, k3⟩ := specJoins_calls g lf n (by omega) (R' : Int) (C' : Int) 1 on.int (by omega) (by omega) hlf
    have on3 := on.keep (k3.mono h2)
    obtain ⟨h4, e4, k4⟩ := specJoins_calls g lf n (by omega) (R' : Int) (C' : Int) 2 on3.int (by omega) (by omega) hlf
    have h23 : b2 ≤ h3.length := Nat.le_trans h2 k3.1
    have h24 : b2 ≤ h4.length := Nat.le_trans h23 k4.1
    have on4 := on3.keep (k4.mono h23)
    have oq4 := (oq.keep k3).keep k4
    have k13 : Keep b0 h h3 := k1.trans (k3.mono (by omega))
    have k14 : Keep b0 h h4 := k13.trans (k4.mono (by omega))
    rw [spec_LinePlayed.body0_eq]
    unfold spec_LinePlayed.body0
    simp only [env_C, env_pick, env_buildSlice, env_load, env_store, env_bin, env_un, env_indexAddr, env_len, env_append]
    cases hg : goB (R' : Int) (C' : Int) zs with
    | false =>
      rw [goB_false hg, List.append_nil] at hL
      unfold goB at hg
      by_cases hz : setL zs 0 = 0
      · repeat (first | with_reducible refine wF ?_ | with_reducible refine wg0 rfl ?_ | with_reducible refine wpF ?_ | with_reducible refine wsm ?_ | with_reducible refine wbd (by assumption) ?_ | with_reducible refine wneqF (by omega) ?_ | rw [kLoop_exit] | rw [spec_LinePlayed.after0_se0_0_1_3_9_10_44] | dsimp only)
        refine wresO oq.sl ?_
        exact W.ret ⟨hL ▸ oq.sl, k1⟩
      · rw [decide_eq_false hz, Bool.not_false, Bool.true_and] at hg
        cases hj1 : joinsL (R' : Int) (C' : Int) zs 1 with
        | true =>
          rw [hj1] at e3
          repeat (first | with_reducible refine wF ?_ | with_reducible refine wg1 rfl ?_ | with_reducible refine wg0 rfl ?_ | with_reducible refine wpT ?_ | with_reducible refine wpF ?_ | with_reducible refine wnT ?_ | with_reducible refine wpv ?_ | with_reducible refine wsm ?_ | with_reducible refine wbd (by assumption) ?_ | with_reducible refine wneqT (by omega) ?_ | rw [kLoop_exit] | rw [spec_LinePlayed.after0_se0_0_1_3_9_10_44] | dsimp only)
          refine wresO (oq.keep k3).sl ?_
          exact W.ret ⟨hL ▸ (oq.keep k3).sl, k13⟩
        | false =>
          rw [hj1, Bool.not_false, Bool.true_and] at hg
          have hj2 : joinsL (R' : Int) (C' : Int) zs 2 = true := by simpa using hg
          rw [hj1] at e3
          rw [hj2] at e4
          repeat (first | with_reducible refine wF ?_ | with_reducible refine wg1 rfl ?_ | with_reducible refine wpT ?_ | with_reducible refine wnT ?_ | with_reducible refine wnF ?_ | with_reducible refine wpv ?_ | with_reducible refine wsm ?_ | with_reducible refine wbd (by assumption) ?_ | with_reducible refine wneqT (by omega) ?_ | rw [kLoop_exit] | rw [spec_LinePlayed.after0_se0_0_1_3_9_10_44] | dsimp only)
          refine wresO oq4.sl ?_
          exact W.ret ⟨hL ▸ oq4.sl, k14⟩
    | true =>
      obtain ⟨hj1, hj2⟩ := (goB_iff hb hS).1 hg
      have hz : ¬ setL zs 0 = 0 := by unfold goB at hg; simp only [Bool.and_eq_true, Bool.not_eq_true', decide_eq_false_iff_not] at hg; exact hg.1.1
      rw [hj1] at e3
      rw [hj2] at e4
      obtain ⟨kf, lfree, hlist, hkf⟩ := listN_some hs0 hz
      obtain ⟨m, rfl⟩ : ∃ m', m = m' + 1 := ⟨m - 1, by have := pop_without hs0 hkf; omega⟩
      obtain ⟨V, hV, hV2⟩ := winL_cases hb hT
      obtain ⟨k, hk, hm, _⟩ := stepL_ok hb hS hT hV2 hg hV
      have hk0 := (moveL_iff.1 hm).2.2.1
      have hkl : k < zs.length := (List.getElem?_eq_some_iff.1 hk0).1
      rw [lineF, if_pos hg, hk] at hL
      have hyl : ys.length ≤ 9 := by rw [← hL] at hL9; simp at hL9; omega
      have e5 := l2Set_calls g lf 0 on4.int (by omega) n (by omega) (by omega)
      obtain ⟨qf, h6, e6, o6, k6⟩ := l2List_calls g lf hs0 n (by omega) (by omega) (h := h4)
      have h26 : b2 ≤ h6.length := Nat.le_trans h24 k6.1
      have on6 := on4.keep (k6.mono h24)
      have oq6 := oq4.keep k6
      obtain ⟨qw, h7, e7, o7, k7⟩ := specWinningCells_calls g lf n (by omega) (R' : Int) (C' : Int) (T : Int) on6.int (by omega) (by omega) hlf
      have h27 : b2 ≤ h7.length := Nat.le_trans h26 k7.1
      have on7 := on6.keep (k7.mono h26)
      have oq7 := oq6.keep k7
      have k17 : Keep b0 h h7 := (k14.trans (k6.mono (by omega))).trans (k7.mono (by omega))
      have hT' : 3 - T = 1 ∨ 3 - T = 2 := by omega
      have hpop2 : pop (setL (zs.set k (T : Int)) 0) ≤ m := by
        rw [(set_more hS hT hk0).2.1]
        have := pop_without hs0 (setL_bit.2 hk0)
        omega
      have fin : ∀ p' h8, Apart b0 b1 b2 h8 p' (ys ++ [(k : Int)]) → OwnB b1 b2 h8 pn zs → Keep b0 h7 h8 → ∀ h9 (a : PV), OwnB b1 b2 h9 pn (zs.set k (T : Int)) → Only b1 b2 h8 h9 → b2 ≤ h8.length →
          W (kLoop (ev ((env g lf n).cx Tryd.prog spec_LinePlayed.kl) spec_LinePlayed.lp0) n1 (spec_LinePlayed.K0 (env g lf n) (kTop Tryd.prog Tryd.f39)) .normal (spec_LinePlayed.st0 (.int .i64 (R' : Int)) (.int .i64 (C' : Int)) (.int .i64 ((3 - T : Nat) : Int)) p' pn h9)) fun v h' => OwnSl b0 h' v L ∧ Keep b0 h h' := by
        intro p' h8 a8 _ k8 h9 _ o9 on9 hb28
        refine next m _ (Nat.lt_succ_self m) ⟨zs.set k (T : Int), ys ++ [(k : Int)], 3 - T, p', h9, rfl, pos_set hb hT k, hT', hpop2, ?_, a8.only on9, o9, by rw [on9.1]; exact hb28, (k17.trans k8).trans (on9.keep.mono hb01)⟩
        rw [List.append_assoc, ← hL, show ((3 - T : Nat) : Int) = 3 - (T : Int) by omega]
        rfl
      have h8len : ∀ h8 : PHeap, Keep b0 h7 h8 → b2 ≤ h8.length := fun h8 k8 => Nat.le_trans h27 k8.1
      have e10 : ∀ h9, CL g lf n fn_spec_l1Other [.int .i64 (T : Int)] h9 = some (.int .i64 ((3 - T : Nat) : Int), h9) := fun h9 => other_W g lf n (by omega) h9 hT
      rw [hlist] at o6
      unfold stepL at hk
      rw [hlist] at hk
      cases hw : winCellsL (R' : Int) (C' : Int) zs (T : Int) with
      | nil =>
        rw [hw] at o7 hk
        have hkk : (kf : Int) = (k : Int) := hk
        have hkk2 : kf = k := by omega
        subst hkk2
        repeat (first | with_reducible refine wT ?_ | with_reducible refine wg1 rfl ?_ | with_reducible refine wpT ?_ | with_reducible refine wnF ?_ | with_reducible refine wpv ?_ | with_reducible refine wsm ?_ | with_reducible refine wbd (by assumption) ?_ | with_reducible refine wlen (OwnSl.int (by assumption)) ?_ | (with_reducible refine wat0 o6.int (by simp) fun a hl => ?_) | with_reducible refine wneqT (by omega) ?_ | dsimp only)
        refine wapA oq7 on7 (by omega) h27 (by omega) fun p' h8 a8 o8 k8 => ?_
        refine wstB o8 hkl fun h9 o9 on9 a9 => ?_
        refine wbd (e10 h9) ?_
        exact fin p' h8 a8 o8 k8 h9 a9 o9 on9 (h8len h8 k8)
      | cons w wl =>
        rw [hw] at o7 hk
        have hkk : w = (k : Int) := hk
        subst hkk
        have hlw : ((k : Int) :: wl).length = wl.length + 1 := rfl
        repeat (first | with_reducible refine wT ?_ | with_reducible refine wg1 rfl ?_ | with_reducible refine wpT ?_ | with_reducible refine wnF ?_ | with_reducible refine wpv ?_ | with_reducible refine wsm ?_ | with_reducible refine wbd (by assumption) ?_ | with_reducible refine wlen (OwnSl.int (by assumption)) ?_ | (with_reducible refine wat0 o6.int (by simp) fun a hl => ?_) | (with_reducible refine wat0 o7.int (by simp) fun a hl => ?_) | with_reducible refine wgtrT (by omega) ?_ | with_reducible refine wneqT (by omega) ?_ | dsimp only)
        refine wapA oq7 on7 (by omega) h27 (by omega) fun p' h8 a8 o8 k8 => ?_
        refine wstB o8 hkl fun h9 o9 on9 a9 => ?_
        refine wbd (e10 h9) ?_
        exact fin p' h8 a8 o8 k8 h9 a9 o9 on9 (h8len h8 k8)

theorem specLinePlayed_calls {xs : List Int} {p : PV} {h : PHeap} (N : Nat) (hN : 19 ≤ N) (r c t : Int) (hp : IntSl .i64 h p xs) (hl : xs.length ≤ 2 ^ 35) (hf : xs.length < lf) (hlf : 1000 < lf) :
    ∃ q h', CL g lf N fn_spec_LinePlayed [.int .i64 r, .int .i64 c, p, .int .i64 t] h = some (q, h') ∧ OwnSl h.length h' q (lineL r c xs t) ∧ Keep h.length h h' := by
  obtain ⟨n, rfl⟩ : ∃ n, N = n + 1 := ⟨N - 1, by omega⟩
  suffices this : W (CL g lf (n + 1) fn_spec_LinePlayed [.int .i64 r, .int .i64 c, p, .int .i64 t] h) fun q h' => OwnSl h.length h' q (lineL r c xs t) ∧ Keep h.length h h' by
    obtain ⟨q, h', e, o, k⟩ := this
    exact ⟨q, h', e, o, k⟩
  rw [spec_LinePlayed.call_eq]
  unfold spec_LinePlayed.main
  simp only [env_C, env_lf, env_pick, env_buildSlice, env_un, env_append]
  refine wempty fun q h1 o1 k1 => ?_
  have hp1 := hp.keep k1
  have hpos := specPositionOk_N g lf n (by omega) r c hp1 (by omega) hf
  have hin1 : CL g lf n fn_spec_l1In [.int .i64 t, .int .i64 1, .int .i64 2] h1 = some (.bool (playerB t), h1) := l1In_N g lf n (by omega) h1 t 1 2
  cases hb : posB r c xs with
  | false =>
    rw [hb] at hpos
    repeat (first | with_reducible refine wT ?_ | with_reducible refine wg0 rfl ?_ | with_reducible refine wpT ?_ | with_reducible refine wnF ?_ | with_reducible refine wsm ?_ | with_reducible refine wbd (by assumption) ?_ | with_reducible refine wresO (by assumption) ?_ | dsimp only)
    exact W.ret ⟨by rw [lineL_none (.inl hb)]; exact o1, k1⟩
  | true =>
    rw [hb] at hpos
    cases hpl : playerB t with
    | false =>
      rw [hpl] at hin1
      repeat (first | with_reducible refine wT ?_ | with_reducible refine wg1 rfl ?_ | with_reducible refine wpF ?_ | with_reducible refine wnT ?_ | with_reducible refine wnF ?_ | with_reducible refine wpv ?_ | with_reducible refine wsm ?_ | with_reducible refine wbd (by assumption) ?_ | with_reducible refine wresO (by assumption) ?_ | dsimp only)
      refine W.ret ⟨?_, k1⟩
      unfold lineL; rw [hpl, Bool.and_false, if_neg (by decide)]; exact o1
    | true =>
      rw [hpl] at hin1
      obtain ⟨R, C, hS⟩ := sides_of hb
      obtain ⟨T, rfl, hT⟩ := player_of hpl
      obtain ⟨rfl, rfl, _⟩ := id hS
      have hlen : xs.length = R * C := hS.2.2.2.2.2.2.2.1
      have h9 : xs.length ≤ 9 := by have := hS.2.2.2.2.2.2.1; omega
      have hpos1 : 1 ≤ xs.length := by rw [hlen]; exact Nat.mul_pos hS.2.2.1 hS.2.2.2.2.1
      obtain ⟨v, pn, h2, e2, e3, o2, k2⟩ := copy_all hp1 (by omega) (by omega)
      have hLe : lineF (R : Int) (C : Int) xs.length xs (T : Int) = lineL (R : Int) (C : Int) xs (T : Int) := by unfold lineL; rw [hb, hpl]; rfl
      have hll := lineL_length (R : Int) (C : Int) xs (T : Int)
      repeat (first | with_reducible refine wF ?_ | with_reducible refine wg1 rfl ?_ | with_reducible refine wpF ?_ | with_reducible refine wnT ?_ | with_reducible refine wpv ?_ | with_reducible refine wsm ?_ | with_reducible refine wbd (by assumption) ?_ | dsimp only)
      refine (specLine_loop g lf n hlf (by omega) (L := lineL (R : Int) (C : Int) xs (T : Int)) (by omega) (b0 := h.length) (b1 := h1.length) (b2 := h2.length) (h := h) k1.1 k2.1 (Nat.le_refl _) hb hT (F := xs.length) ?_ h9 hLe ⟨h.length, h1.length, o1.b.keep k2, Nat.le_refl _, .inl (Nat.le_refl _), k2.1⟩ o2.b (Nat.le_refl _) (k1.trans (k2.mono k1.1)))
      rw [hlen]
      exact pop_le (by omega) (set_lt hS 0)

end Go.Proofs.YtkbnngklbfnkiaaDoor

/- Chapter 3's laws over what the program's functions are asked to compute: the draws, and the exact laws. -/
namespace Go.Proofs.YtkbnngklbfnkiaaDoor
open Go Go.Ip G

/-- What is asked of the program's functions of chapter 3. -/
def MoveOkOk (g : Nat → PV) (lf : Nat) : Prop := ∀ (N : Nat), 40 ≤ N → ∀ (r c k pl : Int) {xs : List Int} {p : PV} {h : PHeap}, TabOk g h → IntSl .i64 h p xs → xs.length ≤ 2 ^ 35 → xs.length < lf →
  ∃ h', CL g lf N fn_impl_MoveOk [.int .i64 r, .int .i64 c, p, .int .i64 k, .int .i64 pl] h = some (.bool (moveL r c xs k pl), h') ∧ Keep h.length h h'
def PlayedOk (g : Nat → PV) (lf : Nat) : Prop := ∀ (N : Nat), 40 ≤ N → ∀ (r c k pl : Int) {xs : List Int} {p : PV} {h : PHeap}, TabOk g h → IntSl .i64 h p xs → xs.length ≤ 2 ^ 35 → xs.length < lf →
  ∃ q h', CL g lf N fn_impl_Played [.int .i64 r, .int .i64 c, p, .int .i64 k, .int .i64 pl] h = some (.tup [q, .bool (moveL r c xs k pl)], h') ∧ OwnSl h.length h' q (playedL r c xs k pl) ∧ Keep h.length h h'
def WinnerOk (g : Nat → PV) (lf : Nat) : Prop := ∀ (N : Nat), 40 ≤ N → ∀ (r c t : Int) {xs : List Int} {p : PV} {h : PHeap}, TabOk g h → IntSl .i64 h p xs → xs.length ≤ 2 ^ 35 → xs.length < lf →
  ∃ h', CL g lf N fn_impl_WinnerOf [.int .i64 r, .int .i64 c, p, .int .i64 t] h = some (.int .i64 (winL r c xs t), h') ∧ Keep h.length h h'
def WinCellsOk (g : Nat → PV) (lf : Nat) : Prop := ∀ (N : Nat), 40 ≤ N → ∀ (r c pl : Int) {xs : List Int} {p : PV} {h : PHeap}, TabOk g h → IntSl .i64 h p xs → xs.length ≤ 2 ^ 35 → xs.length < lf →
  ∃ q h', CL g lf N fn_impl_WinningCells [.int .i64 r, .int .i64 c, p, .int .i64 pl] h = some (q, h') ∧ OwnSl h.length h' q (winCellsL r c xs pl) ∧ Keep h.length h h'
def LineOk (g : Nat → PV) (lf : Nat) : Prop := ∀ (N : Nat), 40 ≤ N → ∀ (r c t : Int) {xs : List Int} {p : PV} {h : PHeap}, TabOk g h → IntSl .i64 h p xs → xs.length ≤ 2 ^ 35 → xs.length < lf →
  ∃ q h', CL g lf N fn_impl_LinePlayed [.int .i64 r, .int .i64 c, p, .int .i64 t] h = some (q, h') ∧ OwnSl h.length h' q (lineL r c xs t) ∧ Keep h.length h h'

theorem W.yes {x : Res} (hx : W x fun v _ => v = .bool true) : ∃ h', x = some (.bool true, h') := by
  obtain ⟨_, h', e, rfl⟩ := hx; exact ⟨h', e⟩
section
variable {Q : PV → PHeap → Prop} {b : Bool} {f : PV → Res}
theorem wneqBB (hf : W (f (.bool false)) Q) : W ((binP Tryd.prog .neq 4 (.bool b) (.bool b)).bind f) Q := wbd (by rw [neqB]; simp) hf
theorem weqlBB (hf : W (f (.bool true)) Q) : W ((binP Tryd.prog .eql 4 (.bool b) (.bool b)).bind f) Q := wbd (by rw [eqlB]; simp) hf
/-- A call, with the heap's mark kept. -/
theorem wcv {x : Res} {v : PV} {m : Nat} {h0 h : PHeap} (c : ∃ h', x = some (v, h') ∧ Keep h.length h h') (k : Keep m h0 h) (hm : m ≤ h0.length) {f : PV × PHeap → Res} (hf : ∀ h', Keep m h0 h' → W (f (v, h')) Q) : W (x.bind f) Q := by
  obtain ⟨h', e, k'⟩ := c
  exact wbd e (hf h' (k.trans (k'.mono (Nat.le_trans hm k.1))))
theorem wcl {x : Res} {L : List Int} {m : Nat} {h0 h : PHeap} (c : ∃ q h', x = some (q, h') ∧ OwnSl h.length h' q L ∧ Keep h.length h h') (k : Keep m h0 h) (hm : m ≤ h0.length) {f : PV × PHeap → Res} (hf : ∀ q h', OwnSl h.length h' q L → Fix h'.length h' q L → Keep m h0 h' → W (f (q, h')) Q) : W (x.bind f) Q := by
  obtain ⟨q, h', e, o, k'⟩ := c
  exact wbd e (hf q h' o o.int.fix (k.trans (k'.mono (Nat.le_trans hm k.1))))
end
theorem Fix.re {m : Nat} {h h' : PHeap} {p : PV} {xs : List Int} (s : Fix m h p xs) (k : Keep m h h') (hm : m ≤ h.length) : Fix h'.length h' p xs := fun h2 k2 => s h2 (k.trans (k2.mono (Nat.le_trans hm k.1)))
theorem tabF {g : Nat → PV} {h h1 : PHeap} (t : TabOk g h) (k : Keep h.length h h1) : ∀ h2, Keep h1.length h1 h2 → TabOk g h2 := fun _ k2 => (t.keep k).keep k2

variable (g : Nat → PV) (lf n : Nat)

/-! ### the draws -/
theorem sided_W {h : PHeap} {id m : Nat} (N : Nat) (hN : 5 ≤ N) (k : Int) (hr : Rd h id m) (hm : m ≤ 700000) (hk : k ≤ 400000) (hk0 : 1 ≤ k) (hlf : 20 < lf) :
    ∃ (r c : Int) (q : PV) (xs : List Int) (pl : Int) (h' : PHeap), CL g lf N fn_spec_l20Sided [.ptr id 0, .int .i64 k] h = some (.tup [.int .i64 r, .int .i64 c, q, .int .i64 pl], h') ∧ Rd h' id (m + 32) ∧ Keep id h h' ∧ OwnSl (id + 1) h' q xs ∧ xs.length ≤ 10 ∧ 1 ≤ pl ∧ pl ≤ 4 := by
  obtain ⟨n, rfl⟩ : ∃ n, N = n + 1 := ⟨N - 1, by omega⟩
  rw [spec_l20Sided.call_eq]
  obtain ⟨r, c, q, xs, h1, e1, r1, k1, o1, hl, hrc⟩ := position_calls g lf n (by omega) k hr (by omega) hk hk0 hlf
  obtain ⟨v1, h2, e2, r2, o2, a1, a2, _⟩ := pick_calls g lf n (by omega) 2 r1 (by omega) (by omega)
  obtain ⟨v2, h3, e3, r3, o3, b1, b2, _⟩ := pick_calls g lf n (by omega) 60 r2 (by omega) (by omega)
  have a2' := a2 (by omega)
  have b2' := b2 (by omega)
  have hq := tdiv_range b1 (show (1 : Int) ≤ 59 by decide)
  have hq1 : v2.tdiv 59 ≤ 1 := by
    obtain ⟨V, rfl⟩ := Int.eq_ofNat_of_zero_le b1
    have : ((V : Int).tdiv 59) = ((V / 59 : Nat) : Int) := rfl
    rw [this]; omega
  have f1 : binP Tryd.prog .add 3 (.int .i64 1) (.int .i64 v1) = some (.int .i64 (1 + v1)) := by rw [bin_add, wr (by omega)]
  have f2 : binP Tryd.prog .quo 3 (.int .i64 v2) (.int .i64 59) = some (.int .i64 (v2.tdiv 59)) := by rw [bin_quo (by decide), wr (by omega)]
  have f3 : binP Tryd.prog .mul 3 (.int .i64 (v2.tdiv 59)) (.int .i64 2) = some (.int .i64 (v2.tdiv 59 * 2)) := by rw [bin_mul, wr (by omega)]
  have f4 : binP Tryd.prog .add 3 (.int .i64 (1 + v1)) (.int .i64 (v2.tdiv 59 * 2)) = some (.int .i64 (1 + v1 + v2.tdiv 59 * 2)) := by rw [bin_add, wr (by omega)]
  have ho := (o1.keepOnly o2 (by omega)).keepOnly o3 (by omega)
  refine ⟨r, c, q, xs, 1 + v1 + v2.tdiv 59 * 2, h3, ?_, r3.mono (by omega), (k1.trans o2.keep).trans o3.keep, ho, hl, by omega, by omega⟩
  unfold spec_l20Sided.main
  exact bd e1 (bd extract_tup (bd extract_tup (bd extract_tup (bd e2 (bd f1 (bd e3 (bd f2 (bd f3 (bd f4 (bd res_int (bd res_int (bd o1.res (bd res_int rfl)))))))))))))

theorem few_W {h : PHeap} {id m : Nat} (N : Nat) (hN : 6 ≤ N) (k : Int) (hr : Rd h id m) (hm : m ≤ 600000) (hlf : 20 < lf) :
    W (CL g lf N fn_spec_l20Few [.ptr id 0, .int .i64 k] h) fun v h' => ∃ (r c : Int) (q : PV) (xs : List Int) (pl : Int), v = .tup [.int .i64 r, .int .i64 c, q, .int .i64 pl] ∧ Keep id h h' ∧ OwnSl (id + 1) h' q xs ∧ xs.length ≤ 10 ∧ 1 ≤ pl ∧ pl ≤ 4 := by
  obtain ⟨n, rfl⟩ : ∃ n, N = n + 1 := ⟨N - 1, by omega⟩
  obtain ⟨r, c, q, xs, pl, h1, e1, r1, k1, o1, hl, hp1, hp2⟩ := sided_W g lf n (by omega) 14 hr (by omega) (by omega) (by omega) hlf
  rw [spec_l20Few.call_eq]
  unfold spec_l20Few.main
  simp only [env_C, env_lf, env_extract]
  repeat (first | with_reducible refine wx0 ?_ | with_reducible refine wx1 ?_ | with_reducible refine wx2 ?_ | with_reducible refine wx3 ?_ | with_reducible refine wbd (by assumption) ?_ | dsimp only)
  refine loopW (fun m' s => ∃ (i fr : Nat) (zs : List Int) (h2 : PHeap), s = spec_l20Few.st0 (.ptr id 0) (.int .i64 k) (.int .i64 r) (.int .i64 c) q (.int .i64 pl) (.int .i64 (fr : Int)) (.int .i64 (i : Int)) h2 ∧ i + m' = xs.length ∧ fr ≤ i ∧ zs.length = xs.length ∧ Rd h2 id (m + 32 + i) ∧ OwnSl (id + 1) h2 q zs ∧ Keep id h h2) ?_ lf xs.length _ (by omega) ⟨0, 0, xs, h1, rfl, by omega, Nat.le_refl _, rfl, r1, o1, k1⟩
  rintro n1 m1 s ⟨i, fr, zs, h2, rfl, him, hfr, hz, r2, o2, k2⟩ next
  rw [spec_l20Few.body0_eq]
  unfold spec_l20Few.body0
  simp only [env_C, env_load, env_store, env_bin, env_indexAddr, env_len]
  have hzl := wlen (Q := fun _ _ => True) o2.int (f := fun _ => some (.nilsl, [])) ⟨_, _, rfl, trivial⟩
  clear hzl
  have hlen := o2.int.len'
  rw [hz] at hlen
  cases m1 with
  | zero =>
    repeat (first | with_reducible refine wF ?_ | with_reducible refine wrI ?_ | with_reducible refine wbd (by assumption) ?_ | with_reducible refine wlssF (by omega) ?_ | with_reducible refine wresO (by assumption) ?_ | rw [kLoop_exit] | rw [spec_l20Few.after0_se0_0_1_8_9_10_11_12_13_24])
    exact W.ret ⟨r, c, q, zs, pl, rfl, k2, o2, by omega, hp1, hp2⟩
  | succ m1 =>
    have hi : i < zs.length := by omega
    repeat (first | with_reducible refine wT ?_ | with_reducible refine wbd (by assumption) ?_ | (with_reducible refine wat o2.int hi fun a hl => ?_) | with_reducible refine wlssT (by omega) ?_)
    refine weql (fun e => ?_) (fun e => ?_)
    · repeat (first | with_reducible refine wT ?_ | with_reducible refine wadd1 (by omega) ?_)
      refine wgtr (fun e2 => ?_) (fun e2 => ?_)
      · obtain ⟨v, h3, e3, r3, ok3, a1, a2, _⟩ := pick_calls g lf n (by omega) 2 r2 (by omega) (by omega)
        have a2' := a2 (by omega)
        have o3 := o2.keepOnly ok3 (by omega)
        repeat (first | with_reducible refine wT ?_ | with_reducible refine wbd (by assumption) ?_ | (refine wst o3 hi fun h4 o4 k4 l4 a4 e4 => ?_) | with_reducible refine wadd1 (by omega) ?_)
        exact next _ _ (Nat.lt_succ_self m1) ⟨i + 1, fr + 1, _, h4, rfl, by omega, by omega, by rw [List.length_set]; exact hz, (r3.keep k4 (by omega)).mono (by omega), o4, (k2.trans ok3.keep).trans (k4.mono (by omega))⟩
      · repeat (first | with_reducible refine wF ?_ | with_reducible refine wadd1 (by omega) ?_)
        exact next _ _ (Nat.lt_succ_self m1) ⟨i + 1, fr + 1, zs, h2, rfl, by omega, by omega, hz, r2.mono (by omega), o2, k2⟩
    · repeat (first | with_reducible refine wF ?_ | with_reducible refine wadd1 (by omega) ?_)
      exact next _ _ (Nat.lt_succ_self m1) ⟨i + 1, fr, zs, h2, rfl, by omega, by omega, hz, r2.mono (by omega), o2, k2⟩

theorem move_W {h : PHeap} {id m : Nat} (N : Nat) (hN : 6 ≤ N) (hr : Rd h id m) (hm : m ≤ 600000) (hlf : 20 < lf) :
    W (CL g lf N fn_spec_l20Move [.ptr id 0] h) fun v h' => ∃ (r c : Int) (q : PV) (xs : List Int) (k pl : Int), v = .tup [.int .i64 r, .int .i64 c, q, .int .i64 k, .int .i64 pl] ∧ Keep id h h' ∧ OwnSl (id + 1) h' q xs ∧ xs.length ≤ 10 ∧ 1 ≤ pl ∧ pl ≤ 4 := by
  obtain ⟨n, rfl⟩ : ∃ n, N = n + 1 := ⟨N - 1, by omega⟩
  obtain ⟨r, c, q, xs, pl, h1, e1, r1, k1, o1, hl, hp1, hp2⟩ := sided_W g lf n (by omega) 14 hr (by omega) (by omega) (by omega) hlf
  have hl' := hl
  obtain ⟨M, hM, hM1, hM2⟩ : ∃ M : Int, foldP maxP2 (.int .i64 (xs.length : Int)) [.int .i64 1] = some (.int .i64 M) ∧ 1 ≤ M ∧ M ≤ 10 := ⟨if (1 : Int) > xs.length then 1 else xs.length, rfl, by split <;> omega, by split <;> omega⟩
  obtain ⟨v1, h2, e2, r2, ok2, a1, a2, _⟩ := pick_calls g lf n (by omega) M r1 (by omega) (by omega)
  have a2' := a2 (by omega)
  obtain ⟨v2, h3, e3, r3, ok3, b1, b2, _⟩ := pick_calls g lf n (by omega) 40 r2 (by omega) (by omega)
  have b2' := b2 (by omega)
  have o2 := o1.keepOnly ok2 (by omega)
  have o3 := o2.keepOnly ok3 (by omega)
  obtain ⟨q39, hq0, hq1⟩ := quo_39 b1 b2'
  have k3 := (k1.trans ok2.keep).trans ok3.keep
  obtain ⟨V, rfl⟩ := Int.eq_ofNat_of_zero_le a1
  obtain ⟨U, hU⟩ := Int.eq_ofNat_of_zero_le hq0
  rw [hU] at q39 hq1
  have hfin : ∀ h4, Keep id h3 h4 → ∀ zs, OwnSl (id + 1) h4 q zs → zs.length ≤ 10 → ∃ (r' c' : Int) (q' : PV) (xs' : List Int) (k' pl' : Int), PV.tup [.int .i64 r, .int .i64 c, q, .int .i64 ((V : Int) + (U : Int) * 9), .int .i64 pl] = .tup [.int .i64 r', .int .i64 c', q', .int .i64 k', .int .i64 pl'] ∧ Keep id h h4 ∧ OwnSl (id + 1) h4 q' xs' ∧ xs'.length ≤ 10 ∧ 1 ≤ pl' ∧ pl' ≤ 4 :=
    fun h4 k4 zs o4 hz => ⟨r, c, q, zs, _, pl, rfl, k3.trans k4, o4, hz, hp1, hp2⟩
  rw [spec_l20Move.call_eq]
  unfold spec_l20Move.main
  simp only [env_C, env_pick, env_load, env_store, env_bin, env_indexAddr, env_extract, env_len, env_max]
  have hlen := o1.int.len'
  have hlen2 := o1.int.len'
  repeat (first | with_reducible refine wx0 ?_ | with_reducible refine wx1 ?_ | with_reducible refine wx2 ?_ | with_reducible refine wx3 ?_ | with_reducible refine wbd (by assumption) ?_ | with_reducible refine wadd (by omega) ?_ | with_reducible refine wmul (by omega) ?_ | dsimp only)
  refine wlss (fun e => ?_) (fun e => ?_)
  · have hi : V + U * 9 < xs.length := by omega
    have hc : (V : Int) + (U : Int) * 9 = ((V + U * 9 : Nat) : Int) := by omega
    rw [hc]
    repeat (first | with_reducible refine wg1 rfl ?_ | with_reducible refine wpv ?_ | with_reducible refine wsm ?_ | with_reducible refine wbd (by assumption) ?_ | (with_reducible refine wat o3.int hi fun a hl => ?_) | dsimp only)
    refine wneq (fun e2 => ?_) (fun e2 => ?_)
    · obtain ⟨v3, h4, e4, r4, ok4, c1, c2, _⟩ := pick_calls g lf n (by omega) 3 r3 (by omega) (by omega)
      have o4 := o3.keepOnly ok4 (by omega)
      repeat (first | with_reducible refine wg1 rfl ?_ | with_reducible refine wpT ?_ | with_reducible refine wpv ?_ | with_reducible refine wsm ?_ | with_reducible refine wbd (by assumption) ?_ | dsimp only)
      refine wgtr (fun e5 => ?_) (fun e5 => ?_)
      · repeat (first | with_reducible refine wT ?_ | with_reducible refine wpT ?_ | with_reducible refine wrI ?_ | (refine wst o4 hi fun h5 o5 k5 l5 a5 e6 => ?_) | with_reducible refine wresO (by assumption) ?_)
        refine W.ret (hc ▸ hfin h5 (ok4.keep.trans (k5.mono (by omega))) _ o5 (by rw [List.length_set]; exact hl'))
      · repeat (first | with_reducible refine wF ?_ | with_reducible refine wpT ?_ | with_reducible refine wrI ?_ | with_reducible refine wresO (by assumption) ?_)
        exact W.ret (hc ▸ hfin h4 ok4.keep _ o4 hl')
    · repeat (first | with_reducible refine wF ?_ | with_reducible refine wg0 rfl ?_ | with_reducible refine wpT ?_ | with_reducible refine wpF ?_ | with_reducible refine wsm ?_ | with_reducible refine wrI ?_ | with_reducible refine wresO (by assumption) ?_ | dsimp only)
      exact W.ret (hc ▸ hfin h3 (Keep.refl _ _) _ o3 hl')
  · repeat (first | with_reducible refine wF ?_ | with_reducible refine wg0 rfl ?_ | with_reducible refine wpF ?_ | with_reducible refine wsm ?_ | with_reducible refine wrI ?_ | with_reducible refine wresO (by assumption) ?_ | dsimp only)
    exact W.ret (hfin h3 (Keep.refl _ _) _ o3 hl)

theorem drawWinnerOf_W {p : PV} {ys : List Int} {h : PHeap} (N : Nat) (hN : 7 ≤ N) (ha : Arg h p ys) (hlf : 20 < lf) :
    ∃ (r c : Int) (q : PV) (xs : List Int) (pl : Int) (h' : PHeap), CL g lf N fn_spec_DrawWinnerOf [p] h = some (.tup [.int .i64 r, .int .i64 c, q, .int .i64 pl], h') ∧ Keep h.length h h' ∧ IntSl .i64 h' q xs ∧ xs.length ≤ 10 ∧ 1 ≤ pl ∧ pl ≤ 4 := by
  obtain ⟨n, rfl⟩ : ∃ n, N = n + 1 := ⟨N - 1, by omega⟩
  have : W (CL g lf (n + 1) fn_spec_DrawWinnerOf [p] h) fun v h' => ∃ (r c : Int) (q : PV) (xs : List Int) (pl : Int), v = .tup [.int .i64 r, .int .i64 c, q, .int .i64 pl] ∧ Keep h.length h h' ∧ IntSl .i64 h' q xs ∧ xs.length ≤ 10 ∧ 1 ≤ pl ∧ pl ≤ 4 := by
    obtain ⟨h1, e1, r1, k1⟩ := open_calls g lf n (by omega) ha
    rw [spec_DrawWinnerOf.call_eq]
    unfold spec_DrawWinnerOf.main
    simp only [env_C, env_extract]
    repeat (first | with_reducible refine wbd (by assumption) ?_ | dsimp only)
    refine wcall (few_W g lf n (by omega) _ r1 (by omega) hlf) fun v h2 ⟨r, c, q, xs, pl, hv, k2, o2, hl, hp1, hp2⟩ => ?_
    subst hv
    repeat (first | with_reducible refine wrI ?_ | with_reducible refine wx0 ?_ | with_reducible refine wx1 ?_ | with_reducible refine wx2 ?_ | with_reducible refine wx3 ?_ | with_reducible refine wresO (by assumption) ?_ | dsimp only)
    exact W.ret ⟨r, c, q, xs, pl, rfl, k1.trans k2, o2.int, hl, hp1, hp2⟩
  obtain ⟨v, h', e, r, c, q, xs, pl, rfl, rest⟩ := this
  exact ⟨r, c, q, xs, pl, h', e, rest⟩

theorem drawWinningCells_W {p : PV} {ys : List Int} {h : PHeap} (N : Nat) (hN : 7 ≤ N) (ha : Arg h p ys) (hlf : 20 < lf) :
    ∃ (r c : Int) (q : PV) (xs : List Int) (pl : Int) (h' : PHeap), CL g lf N fn_spec_DrawWinningCells [p] h = some (.tup [.int .i64 r, .int .i64 c, q, .int .i64 pl], h') ∧ Keep h.length h h' ∧ IntSl .i64 h' q xs ∧ xs.length ≤ 10 ∧ 1 ≤ pl ∧ pl ≤ 4 := by
  obtain ⟨n, rfl⟩ : ∃ n, N = n + 1 := ⟨N - 1, by omega⟩
  have : W (CL g lf (n + 1) fn_spec_DrawWinningCells [p] h) fun v h' => ∃ (r c : Int) (q : PV) (xs : List Int) (pl : Int), v = .tup [.int .i64 r, .int .i64 c, q, .int .i64 pl] ∧ Keep h.length h h' ∧ IntSl .i64 h' q xs ∧ xs.length ≤ 10 ∧ 1 ≤ pl ∧ pl ≤ 4 := by
    obtain ⟨h1, e1, r1, k1⟩ := open_calls g lf n (by omega) ha
    rw [spec_DrawWinningCells.call_eq]
    unfold spec_DrawWinningCells.main
    simp only [env_C, env_extract]
    repeat (first | with_reducible refine wbd (by assumption) ?_ | dsimp only)
    refine wcall (few_W g lf n (by omega) _ r1 (by omega) hlf) fun v h2 ⟨r, c, q, xs, pl, hv, k2, o2, hl, hp1, hp2⟩ => ?_
    subst hv
    repeat (first | with_reducible refine wrI ?_ | with_reducible refine wx0 ?_ | with_reducible refine wx1 ?_ | with_reducible refine wx2 ?_ | with_reducible refine wx3 ?_ | with_reducible refine wresO (by assumption) ?_ | dsimp only)
    exact W.ret ⟨r, c, q, xs, pl, rfl, k1.trans k2, o2.int, hl, hp1, hp2⟩
  obtain ⟨v, h', e, r, c, q, xs, pl, rfl, rest⟩ := this
  exact ⟨r, c, q, xs, pl, h', e, rest⟩

theorem drawLinePlayed_W {p : PV} {ys : List Int} {h : PHeap} (N : Nat) (hN : 7 ≤ N) (ha : Arg h p ys) (hlf : 20 < lf) :
    ∃ (r c : Int) (q : PV) (xs : List Int) (pl : Int) (h' : PHeap), CL g lf N fn_spec_DrawLinePlayed [p] h = some (.tup [.int .i64 r, .int .i64 c, q, .int .i64 pl], h') ∧ Keep h.length h h' ∧ IntSl .i64 h' q xs ∧ xs.length ≤ 10 ∧ 1 ≤ pl ∧ pl ≤ 4 := by
  obtain ⟨n, rfl⟩ : ∃ n, N = n + 1 := ⟨N - 1, by omega⟩
  have : W (CL g lf (n + 1) fn_spec_DrawLinePlayed [p] h) fun v h' => ∃ (r c : Int) (q : PV) (xs : List Int) (pl : Int), v = .tup [.int .i64 r, .int .i64 c, q, .int .i64 pl] ∧ Keep h.length h h' ∧ IntSl .i64 h' q xs ∧ xs.length ≤ 10 ∧ 1 ≤ pl ∧ pl ≤ 4 := by
    obtain ⟨h1, e1, r1, k1⟩ := open_calls g lf n (by omega) ha
    rw [spec_DrawLinePlayed.call_eq]
    unfold spec_DrawLinePlayed.main
    simp only [env_C, env_extract]
    repeat (first | with_reducible refine wbd (by assumption) ?_ | dsimp only)
    refine wcall (few_W g lf n (by omega) _ r1 (by omega) hlf) fun v h2 ⟨r, c, q, xs, pl, hv, k2, o2, hl, hp1, hp2⟩ => ?_
    subst hv
    repeat (first | with_reducible refine wrI ?_ | with_reducible refine wx0 ?_ | with_reducible refine wx1 ?_ | with_reducible refine wx2 ?_ | with_reducible refine wx3 ?_ | with_reducible refine wresO (by assumption) ?_ | dsimp only)
    exact W.ret ⟨r, c, q, xs, pl, rfl, k1.trans k2, o2.int, hl, hp1, hp2⟩
  obtain ⟨v, h', e, r, c, q, xs, pl, rfl, rest⟩ := this
  exact ⟨r, c, q, xs, pl, h', e, rest⟩

theorem drawMoveOk_W {p : PV} {ys : List Int} {h : PHeap} (N : Nat) (hN : 7 ≤ N) (ha : Arg h p ys) (hlf : 20 < lf) :
    ∃ (r c : Int) (q : PV) (xs : List Int) (k pl : Int) (h' : PHeap), CL g lf N fn_spec_DrawMoveOk [p] h = some (.tup [.int .i64 r, .int .i64 c, q, .int .i64 k, .int .i64 pl], h') ∧ Keep h.length h h' ∧ IntSl .i64 h' q xs ∧ xs.length ≤ 10 ∧ 1 ≤ pl ∧ pl ≤ 4 := by
  obtain ⟨n, rfl⟩ : ∃ n, N = n + 1 := ⟨N - 1, by omega⟩
  have : W (CL g lf (n + 1) fn_spec_DrawMoveOk [p] h) fun v h' => ∃ (r c : Int) (q : PV) (xs : List Int) (k pl : Int), v = .tup [.int .i64 r, .int .i64 c, q, .int .i64 k, .int .i64 pl] ∧ Keep h.length h h' ∧ IntSl .i64 h' q xs ∧ xs.length ≤ 10 ∧ 1 ≤ pl ∧ pl ≤ 4 := by
    obtain ⟨h1, e1, r1, k1⟩ := open_calls g lf n (by omega) ha
    rw [spec_DrawMoveOk.call_eq]
    unfold spec_DrawMoveOk.main
    simp only [env_C, env_extract]
    repeat (first | with_reducible refine wbd (by assumption) ?_ | dsimp only)
    refine wcall (move_W g lf n (by omega) r1 (by omega) hlf) fun v h2 ⟨r, c, q, xs, k, pl, hv, k2, o2, hl, hp1, hp2⟩ => ?_
    subst hv
    repeat (first | with_reducible refine wrI ?_ | with_reducible refine wx0 ?_ | with_reducible refine wx1 ?_ | with_reducible refine wx2 ?_ | with_reducible refine wx3 ?_ | with_reducible refine wx4 ?_ | with_reducible refine wresO (by assumption) ?_ | dsimp only)
    exact W.ret ⟨r, c, q, xs, k, pl, rfl, k1.trans k2, o2.int, hl, hp1, hp2⟩
  obtain ⟨v, h', e, r, c, q, xs, k, pl, rfl, rest⟩ := this
  exact ⟨r, c, q, xs, k, pl, h', e, rest⟩

theorem drawPlayed_W {p : PV} {ys : List Int} {h : PHeap} (N : Nat) (hN : 7 ≤ N) (ha : Arg h p ys) (hlf : 20 < lf) :
    ∃ (r c : Int) (q : PV) (xs : List Int) (k pl : Int) (h' : PHeap), CL g lf N fn_spec_DrawPlayed [p] h = some (.tup [.int .i64 r, .int .i64 c, q, .int .i64 k, .int .i64 pl], h') ∧ Keep h.length h h' ∧ IntSl .i64 h' q xs ∧ xs.length ≤ 10 ∧ 1 ≤ pl ∧ pl ≤ 4 := by
  obtain ⟨n, rfl⟩ : ∃ n, N = n + 1 := ⟨N - 1, by omega⟩
  have : W (CL g lf (n + 1) fn_spec_DrawPlayed [p] h) fun v h' => ∃ (r c : Int) (q : PV) (xs : List Int) (k pl : Int), v = .tup [.int .i64 r, .int .i64 c, q, .int .i64 k, .int .i64 pl] ∧ Keep h.length h h' ∧ IntSl .i64 h' q xs ∧ xs.length ≤ 10 ∧ 1 ≤ pl ∧ pl ≤ 4 := by
    obtain ⟨h1, e1, r1, k1⟩ := open_calls g lf n (by omega) ha
    rw [spec_DrawPlayed.call_eq]
    unfold spec_DrawPlayed.main
    simp only [env_C, env_extract]
    repeat (first | with_reducible refine wbd (by assumption) ?_ | dsimp only)
    refine wcall (move_W g lf n (by omega) r1 (by omega) hlf) fun v h2 ⟨r, c, q, xs, k, pl, hv, k2, o2, hl, hp1, hp2⟩ => ?_
    subst hv
    repeat (first | with_reducible refine wrI ?_ | with_reducible refine wx0 ?_ | with_reducible refine wx1 ?_ | with_reducible refine wx2 ?_ | with_reducible refine wx3 ?_ | with_reducible refine wx4 ?_ | with_reducible refine wresO (by assumption) ?_ | dsimp only)
    exact W.ret ⟨r, c, q, xs, k, pl, rfl, k1.trans k2, o2.int, hl, hp1, hp2⟩
  obtain ⟨v, h', e, r, c, q, xs, k, pl, rfl, rest⟩ := this
  exact ⟨r, c, q, xs, k, pl, h', e, rest⟩

theorem exactWinningCells_calls (hok : WinCellsOk g lf) {xs : List Int} {p : PV} {h : PHeap} (N : Nat) (hN : 41 ≤ N) (r c x : Int) (ht : TabOk g h) (hp : IntSl .i64 h p xs) (hf : 1048576 < lf) :
    ∃ h', CL g lf N fn_laws_FnExactWinningCells [.int .i64 r, .int .i64 c, p, .int .i64 x] h = some (.bool true, h') := by
  obtain ⟨n, rfl⟩ : ∃ n, N = n + 1 := ⟨N - 1, by omega⟩
  rw [laws_FnExactWinningCells.call_eq]
  by_cases hbig : (1048576 : Int) < (xs.length : Int)
  · exact ⟨h, by simp [laws_FnExactWinningCells.main, hp.len', hbig]⟩
  · have hl : xs.length ≤ 1048576 := by omega
    have hL := winCellsL_length r c xs x
    obtain ⟨q1, h1, w, h2, q3, h3, g0, h4, y, h5, h6, h7, q8, h8, g1, h9, e1, e2, e3, e4, e5, e6, e7, e8, e9, e10, e11, e12, e13, e14, e15⟩ := exact_chain2 g lf n (by omega)
      (fun q h => CL g lf n fn_spec_WinningCells [.int .i64 r, .int .i64 c, q, .int .i64 x] h) (fun q h => CL g lf n fn_impl_WinningCells [.int .i64 r, .int .i64 c, q, .int .i64 x] h)
      (fun q hh _ hq => specWinningCells_calls g lf n (by omega) r c x hq (by omega) (by omega) (by omega)) (fun q hh hk hq => hok n (by omega) r c x (ht.keep hk) hq (by omega) (by omega)) hp hl (by omega) hf
    refine ⟨h9, ?_⟩
    have c1 : ¬ ((1 : Int) + (xs.length : Int) < 0) := by omega
    have c2 : ¬ ((1 : Int) + ((winCellsL r c xs x).length : Int) < 0) := by omega
    simp [laws_FnExactWinningCells.main, hp.len', hbig, e1, e2, e3, e4, e5, e6, e7, e8, e9, e10, e11, e12, e13, e14, e15, c1, c2]

theorem exactLinePlayed_calls (hok : LineOk g lf) {xs : List Int} {p : PV} {h : PHeap} (N : Nat) (hN : 41 ≤ N) (r c x : Int) (ht : TabOk g h) (hp : IntSl .i64 h p xs) (hf : 1048576 < lf) :
    ∃ h', CL g lf N fn_laws_FnExactLinePlayed [.int .i64 r, .int .i64 c, p, .int .i64 x] h = some (.bool true, h') := by
  obtain ⟨n, rfl⟩ : ∃ n, N = n + 1 := ⟨N - 1, by omega⟩
  rw [laws_FnExactLinePlayed.call_eq]
  by_cases hbig : (1048576 : Int) < (xs.length : Int)
  · exact ⟨h, by simp [laws_FnExactLinePlayed.main, hp.len', hbig]⟩
  · have hl : xs.length ≤ 1048576 := by omega
    have hL := lineL_length r c xs x
    obtain ⟨q1, h1, w, h2, q3, h3, g0, h4, y, h5, h6, h7, q8, h8, g1, h9, e1, e2, e3, e4, e5, e6, e7, e8, e9, e10, e11, e12, e13, e14, e15⟩ := exact_chain2 g lf n (by omega)
      (fun q h => CL g lf n fn_spec_LinePlayed [.int .i64 r, .int .i64 c, q, .int .i64 x] h) (fun q h => CL g lf n fn_impl_LinePlayed [.int .i64 r, .int .i64 c, q, .int .i64 x] h)
      (fun q hh _ hq => specLinePlayed_calls g lf n (by omega) r c x hq (by omega) (by omega) (by omega)) (fun q hh hk hq => hok n (by omega) r c x (ht.keep hk) hq (by omega) (by omega)) hp hl (by omega) hf
    refine ⟨h9, ?_⟩
    have c1 : ¬ ((1 : Int) + (xs.length : Int) < 0) := by omega
    have c2 : ¬ ((1 : Int) + ((lineL r c xs x).length : Int) < 0) := by omega
    simp [laws_FnExactLinePlayed.main, hp.len', hbig, e1, e2, e3, e4, e5, e6, e7, e8, e9, e10, e11, e12, e13, e14, e15, c1, c2]

theorem exactMoveOk_calls (hok : MoveOkOk g lf) {xs : List Int} {p : PV} {h : PHeap} (N : Nat) (hN : 41 ≤ N) (r c x z : Int) (ht : TabOk g h) (hp : IntSl .i64 h p xs) (hf : 1048576 < lf) :
    ∃ h', CL g lf N fn_laws_FnExactMoveOk [.int .i64 r, .int .i64 c, p, .int .i64 x, .int .i64 z] h = some (.bool true, h') := by
  obtain ⟨n, rfl⟩ : ∃ n, N = n + 1 := ⟨N - 1, by omega⟩
  apply W.yes
  rw [laws_FnExactMoveOk.call_eq]
  unfold laws_FnExactMoveOk.main
  simp only [env_C, env_bin, env_un, env_len]
  have hlen := hp.len'
  by_cases hbig : (1048576 : Int) < (xs.length : Int)
  · repeat (first | with_reducible refine wT ?_ | with_reducible refine wrB ?_ | with_reducible refine wbd (by assumption) ?_ | with_reducible refine wgtrT (by omega) ?_)
    exact W.ret rfl
  · obtain ⟨q1, h1, e1, o1, k1⟩ := toIntS_calls g lf n (by omega) hp (by omega) (by omega)
    obtain ⟨h2, e2, k2⟩ := specMoveOk_calls g lf n (by omega) r c x z o1.int (by omega) (by omega) (by omega)
    have K2 : Keep h.length h h2 := k1.trans (k2.mono k1.1)
    obtain ⟨q3, h3, e3, o3, k3⟩ := toIntS_calls g lf n (by omega) (hp.keep K2) (by omega) (by omega)
    have K3 : Keep h.length h h3 := K2.trans (k3.mono K2.1)
    obtain ⟨h4, e4, k4⟩ := hok n (by omega) r c x z (ht.keep K3) o3.int (by omega) (by omega)
    have K4 : Keep h.length h h4 := K3.trans (k4.mono K3.1)
    obtain ⟨q5, h5, e5, o5, k5⟩ := toIntS_calls g lf n (by omega) (hp.keep K4) (by omega) (by omega)
    have e6 := eqIntS_N g lf n (by omega) ((o3.keep k4).keep k5).int o5.int (by omega) (by omega)
    rw [decide_eq_true rfl] at e6
    repeat (first | with_reducible refine wF ?_ | with_reducible refine wnT ?_ | with_reducible refine wrB ?_ | with_reducible refine wbd (by assumption) ?_ | (with_reducible refine wneqBB ?_) | with_reducible refine wgtrF (by omega) ?_ | dsimp only)
    exact W.ret rfl

theorem exactWinnerOf_calls (hok : WinnerOk g lf) {xs : List Int} {p : PV} {h : PHeap} (N : Nat) (hN : 41 ≤ N) (r c x : Int) (ht : TabOk g h) (hp : IntSl .i64 h p xs) (hf : 1048576 < lf) :
    ∃ h', CL g lf N fn_laws_FnExactWinnerOf [.int .i64 r, .int .i64 c, p, .int .i64 x] h = some (.bool true, h') := by
  obtain ⟨n, rfl⟩ : ∃ n, N = n + 1 := ⟨N - 1, by omega⟩
  apply W.yes
  rw [laws_FnExactWinnerOf.call_eq]
  unfold laws_FnExactWinnerOf.main
  simp only [env_C, env_bin, env_un, env_len]
  have hlen := hp.len'
  by_cases hbig : (1048576 : Int) < (xs.length : Int)
  · repeat (first | with_reducible refine wT ?_ | with_reducible refine wrB ?_ | with_reducible refine wbd (by assumption) ?_ | with_reducible refine wgtrT (by omega) ?_)
    exact W.ret rfl
  · obtain ⟨q1, h1, e1, o1, k1⟩ := toIntS_calls g lf n (by omega) hp (by omega) (by omega)
    obtain ⟨h2, e2, k2⟩ := specWinnerOf_calls g lf n (by omega) r c x o1.int (by omega) (by omega) (by omega)
    have K2 : Keep h.length h h2 := k1.trans (k2.mono k1.1)
    obtain ⟨q3, h3, e3, o3, k3⟩ := toIntS_calls g lf n (by omega) (hp.keep K2) (by omega) (by omega)
    have K3 : Keep h.length h h3 := K2.trans (k3.mono K2.1)
    obtain ⟨h4, e4, k4⟩ := hok n (by omega) r c x (ht.keep K3) o3.int (by omega) (by omega)
    have K4 : Keep h.length h h4 := K3.trans (k4.mono K3.1)
    obtain ⟨q5, h5, e5, o5, k5⟩ := toIntS_calls g lf n (by omega) (hp.keep K4) (by omega) (by omega)
    have e6 := eqIntS_N g lf n (by omega) ((o3.keep k4).keep k5).int o5.int (by omega) (by omega)
    rw [decide_eq_true rfl] at e6
    repeat (first | with_reducible refine wF ?_ | with_reducible refine wnT ?_ | with_reducible refine wrB ?_ | with_reducible refine wbd (by assumption) ?_ | with_reducible refine wgtrF (by omega) ?_ | with_reducible refine wneqF (by omega) ?_ | dsimp only)
    exact W.ret rfl

/-- Of two functions that make one list of a position both sides of an exact law come out the same: what the law looks at, in its order. -/
theorem exact_chain3 {xs L : List Int} {p : PV} {h : PHeap} (N : Nat) (hN : 1 ≤ N) (fS fI : PV → PHeap → PV → PHeap → Prop)
    (hS : ∀ q hh, Keep h.length h hh → IntSl .i64 hh q xs → ∃ w h', fS q hh w h' ∧ OwnSl hh.length h' w L ∧ Keep hh.length hh h')
    (hI : ∀ q hh, Keep h.length h hh → IntSl .i64 hh q xs → ∃ w h', fI q hh w h' ∧ OwnSl hh.length h' w L ∧ Keep hh.length hh h')
    (hp : IntSl .i64 h p xs) (hl : xs.length ≤ 1048576) (hL : L.length ≤ 1048576) (hf : 1048576 < lf) :
    ∃ q1 h1 w h2 q3 h3 g0 h4 y h5 h6 h7 q8 h8 g1 h9, CL g lf N fn_laws_toIntS [p] h = some (q1, h1) ∧ fS q1 h1 w h2 ∧ CL g lf N fn_laws_toIntS [p] h2 = some (q3, h3) ∧ fI q3 h3 g0 h4 ∧
      CL g lf N fn_laws_eqIntS [g0, w] h4 = some (.bool true, h4) ∧ CL g lf N fn_laws_toIntS [p] h4 = some (y, h5) ∧ CL g lf N fn_laws_eqIntS [q3, y] h5 = some (.bool true, h5) ∧
      CL g lf N fn_laws_markIntS [q3, .int .i64 1] h5 = some (.int .i64 (1 + xs.length), h6) ∧ CL g lf N fn_laws_eqIntS [g0, w] h6 = some (.bool true, h6) ∧
      CL g lf N fn_laws_markIntS [g0, .int .i64 1] h6 = some (.int .i64 (1 + L.length), h7) ∧ CL g lf N fn_laws_heldIntS [g0, .int .i64 1] h7 = some (.int .i64 (1 + L.length), h7) ∧
      CL g lf N fn_laws_toIntS [p] h7 = some (q8, h8) ∧ fI q8 h8 g1 h9 ∧ CL g lf N fn_laws_eqIntS [g1, w] h9 = some (.bool true, h9) ∧ CL g lf N fn_laws_heldIntS [g0, .int .i64 1] h9 = some (.int .i64 (1 + L.length), h9) := by
  obtain ⟨n, rfl⟩ : ∃ n, N = n + 1 := ⟨N - 1, by omega⟩
  obtain ⟨q1, h1, e1, o1, k1⟩ := toIntS_calls g lf (n + 1) (by omega) hp (by omega) (by omega)
  obtain ⟨w, h2, e2, ow, k2⟩ := hS q1 h1 k1 o1.int
  have K2 : Keep h.length h h2 := k1.trans (k2.mono k1.1)
  obtain ⟨q3, h3, e3, o3, k3⟩ := toIntS_calls g lf (n + 1) (by omega) (hp.keep K2) (by omega) (by omega)
  have K3 : Keep h.length h h3 := K2.trans (k3.mono K2.1)
  obtain ⟨g0, h4, e4, og, k4⟩ := hI q3 h3 K3 o3.int
  have K4 : Keep h.length h h4 := K3.trans (k4.mono K3.1)
  obtain ⟨y, h5, e5, oy, k5⟩ := toIntS_calls g lf (n + 1) (by omega) (hp.keep K4) (by omega) (by omega)
  have K5 : Keep h.length h h5 := K4.trans (k5.mono K4.1)
  have w2 := ow.b
  have w3 := w2.keep k3
  have w4 := w3.keep (k4.mono k3.1)
  have w5 := w4.keep (k5.mono (Nat.le_trans k3.1 k4.1))
  have x3 := o3.b
  have x4 := x3.keep k4
  have x5 := x4.keep (k5.mono k4.1)
  have g4 := og.b
  have g5 := g4.keep k5
  have s4 := eqIntS_calls g lf n og.int w4.int (by omega) (by omega)
  have s5 := eqIntS_calls g lf n x5.int oy.int (by omega) (by omega)
  obtain ⟨h6, e6, x6, t6⟩ := markIntS_calls g lf (n + 1) (by omega) x5 (by omega) (by omega)
  have K6 : Keep h.length h h6 := K5.trans (t6.keep.mono (K2.1))
  have w6 := w5.only t6 (.inl (Nat.le_refl _))
  have g6 := g5.only t6 (.inr (Nat.le_refl _))
  have s6 := eqIntS_calls g lf n g6.int w6.int (by omega) (by omega)
  obtain ⟨h7, e7, g7, t7⟩ := markIntS_calls g lf (n + 1) (by omega) g6 (by omega) (by omega)
  have K7 : Keep h.length h h7 := K6.trans (t7.keep.mono (K3.1))
  have w7 := w6.only t7 (.inl k3.1)
  have s7 := heldIntS_calls g lf (n + 1) (by omega) g7.int (by omega) (by omega)
  obtain ⟨q8, h8, e8, o8, k8⟩ := toIntS_calls g lf (n + 1) (by omega) (hp.keep K7) (by omega) (by omega)
  obtain ⟨g1, h9, e9, o9, k9⟩ := hI q8 h8 (K7.trans (k8.mono K7.1)) o8.int
  have len7 : h4.length ≤ h7.length := by rw [t7.1, t6.1]; exact k5.1
  have len2 : h2.length ≤ h7.length := Nat.le_trans (Nat.le_trans k3.1 k4.1) len7
  have w8 := w7.keep (k8.mono len2)
  have w9 := w8.keep (k9.mono (Nat.le_trans len2 k8.1))
  have g8 := g7.keep (k8.mono len7)
  have g9 := g8.keep (k9.mono (Nat.le_trans len7 k8.1))
  have s9 := eqIntS_calls g lf n o9.int w9.int (by omega) (by omega)
  have s10 := heldIntS_calls g lf (n + 1) (by omega) g9.int (by omega) (by omega)
  simp only [decide_true] at s4 s5 s6 s9
  exact ⟨q1, h1, w, h2, q3, h3, g0, h4, y, h5, h6, h7, q8, h8, g1, h9, e1, e2, e3, e4, s4, e5, s5, e6, s6, e7, s7, e8, e9, s9, s10⟩



theorem exactPlayed_calls (hok : PlayedOk g lf) {xs : List Int} {p : PV} {h : PHeap} (N : Nat) (hN : 41 ≤ N) (r c x z : Int) (ht : TabOk g h) (hp : IntSl .i64 h p xs) (hf : 1048576 < lf) :
    ∃ h', CL g lf N fn_laws_FnExactPlayed [.int .i64 r, .int .i64 c, p, .int .i64 x, .int .i64 z] h = some (.bool true, h') := by
  obtain ⟨n, rfl⟩ : ∃ n, N = n + 1 := ⟨N - 1, by omega⟩
  apply W.yes
  rw [laws_FnExactPlayed.call_eq]
  unfold laws_FnExactPlayed.main
  simp only [env_C, env_pick, env_bin, env_un, env_extract, env_len]
  have hlen := hp.len'
  by_cases hbig : (1048576 : Int) < (xs.length : Int)
  · repeat (first | with_reducible refine wT ?_ | with_reducible refine wrB ?_ | with_reducible refine wbd (by assumption) ?_ | with_reducible refine wgtrT (by omega) ?_)
    exact W.ret rfl
  · have hL := playedL_length r c xs x z
    obtain ⟨q1, h1, w, h2, q3, h3, g0, h4, y, h5, h6, h7, q8, h8, g1, h9, e1, e2, e3, e4, e5, e6, e7, e8, e9, e10, e11, e12, e13, e14, e15⟩ := exact_chain3 g lf n (by omega)
      (fun q h w h' => CL g lf n fn_spec_Played [.int .i64 r, .int .i64 c, q, .int .i64 x, .int .i64 z] h = some (.tup [w, .bool (moveL r c xs x z)], h')) (fun q h w h' => CL g lf n fn_impl_Played [.int .i64 r, .int .i64 c, q, .int .i64 x, .int .i64 z] h = some (.tup [w, .bool (moveL r c xs x z)], h'))
      (fun q hh _ hq => specPlayed_calls g lf n (by omega) r c x z hq (by omega) (by omega) (by omega)) (fun q hh hk hq => hok n (by omega) r c x z (ht.keep hk) hq (by omega) (by omega)) hp (by omega) (by omega) hf
    repeat (first | with_reducible refine wF ?_ | with_reducible refine wg1 rfl ?_ | with_reducible refine wpF ?_ | with_reducible refine wnT ?_ | with_reducible refine wpv ?_ | with_reducible refine wsm ?_ | with_reducible refine wrB ?_ | with_reducible refine wx0 ?_ | with_reducible refine wx1 ?_ | with_reducible refine wbd (by assumption) ?_ | (with_reducible refine wneqBB ?_) | with_reducible refine wlssF (by omega) ?_ | with_reducible refine wgtrF (by omega) ?_ | with_reducible refine wneqF (by omega) ?_ | dsimp only)
    exact W.ret rfl

end Go.Proofs.YtkbnngklbfnkiaaDoor

