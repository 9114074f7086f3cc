/- Texts of this seat, in their order, put together by program. -/
import Derived.Test.YtpaehbfknlpkbaeDoorK9
import Derived.Lib.Bytealg
set_option linter.unusedSimpArgs false
set_option linter.unusedVariables false
set_option linter.unusedSectionVars false
/- The model's sets of cells: masks, sides, the cells with a stone, growing, and whether sides are joined. -/
set_option maxRecDepth 20000
namespace Go.Proofs.YtpaehbfknlpkbaeDoor
open Go Go.Ip G

def masksN (R C : Nat) : List Nat := (List.range (R * C)).map fun k => orAll 0 (nearN R C k)
def ints (M : List Nat) : List Int := M.map fun x : Nat => (x : Int)
theorem ints_length (M : List Nat) : (ints M).length = M.length := List.length_map ..
theorem ints_get {M : List Nat} {k : Nat} (hk : k < M.length) : (ints M)[k]'(by rw [ints_length]; exact hk) = ((M.getD k 0 : Nat) : Int) := by
  simp [ints, List.getD_eq_getElem?_getD, hk]

/-- A board, as numbers. -/
def BoardOf (R C : Nat) : Prop := 1 ≤ R ∧ R ≤ 4 ∧ 1 ≤ C ∧ C ≤ 4 ∧ R * C ≤ 9

theorem masksN_length (R C : Nat) : (masksN R C).length = R * C := by simp [masksN]
theorem masksN_lt {R C : Nat} (hb : BoardOf R C) : ∀ m ∈ masksN R C, m < 2 ^ 9 := by
  intro m hm
  obtain ⟨k, hk, rfl⟩ := List.mem_map.1 hm
  rw [List.mem_range] at hk
  obtain ⟨h1, h2, h3, h4, h9⟩ := hb
  exact orAll_lt _ _ (fun e he => by have := near_in h1 h2 h3 h4 h9 hk e he; omega) (by decide)

/-- An operation under a guard that holds nothing. -/
theorem gu {α : Type} {t : Bool} {β : Type} {x y : Option α} {f : α → Option β} {r : Option β} (hy : y.bind f = r) : ((wantV (.tup []) t).bind fun v => (bif v then x else y).bind f) = r := by
  simpa using hy

variable (g : Nat → PV) (lf n : Nat)

/-! ### masks -/
theorem mask_inner {L : List Int} {p : PV} {h : PHeap} (hp : IntSl .i64 h p L) (hL : ∀ e ∈ L, 0 ≤ e ∧ e < 9) (hl : L.length ≤ 10) (R C q X : PV) (K : PX → St → Res) : ∀ (m j fuel w : Nat), j + m = L.length → m < fuel → w < 2 ^ 9 →
    loopK (ev ((env g lf n).cx Tryd.prog spec_l2Masks.kl) spec_l2Masks.lp1) fuel (spec_l2Masks.st1 R C q X (.int .i64 (w : Int)) p (.int .i64 (j : Int)) h) (spec_l2Masks.K1 (env g lf n) K) =
      spec_l2Masks.K1 (env g lf n) K (.exit 2) (spec_l2Masks.se2_0_1_5_6_7_8_9_25 R C q X (.int .i64 (orAll w (L.drop j) : Int)) p (.int .i64 (L.length : Int)) (.bool false) h)
  | 0, j, fuel, w, hjm, hf, hw => by
    obtain ⟨f, rfl⟩ : ∃ f, fuel = f + 1 := ⟨fuel - 1, by omega⟩
    obtain rfl : j = L.length := by omega
    rw [loopK_succ, spec_l2Masks.body1_eq]
    have f1 : binP Tryd.prog .lss 3 (.int .i64 (L.length : Int)) (.int .i64 (L.length : Int)) = some (.bool false) := by rw [bin_lss, decide_eq_false (by omega)]
    unfold spec_l2Masks.body1
    refine bd hp.len' (bd f1 (cdF ?_))
    rw [kLoop_exit, List.drop_length, orAll]
  | m + 1, j, fuel, w, hjm, hf, hw => by
    obtain ⟨f, rfl⟩ : ∃ f, fuel = f + 1 := ⟨fuel - 1, by omega⟩
    have hj : j < L.length := by omega
    obtain ⟨a, ha, hla⟩ := hp.at' hj
    have he := hL _ (List.getElem_mem hj)
    obtain ⟨E, hE⟩ := Int.eq_ofNat_of_zero_le he.1
    rw [hE] at hla
    have hE9 : E < 9 := by omega
    have ih := mask_inner hp hL hl R C q X K m (j + 1) f (w ||| (1 <<< E)) (by omega) (by omega) (Nat.or_lt_two_pow hw (shl_lt hE9))
    have f1 : binP Tryd.prog .lss 3 (.int .i64 (j : Int)) (.int .i64 (L.length : Int)) = some (.bool true) := by rw [bin_lss, decide_eq_true (by omega)]
    have f2 := f_shl E (by omega)
    have f3 := f_or (a := w) (b := 1 <<< E) (by omega) (by have := shl_lt hE9; omega)
    have f4 : binP Tryd.prog .add 3 (.int .i64 (j : Int)) (.int .i64 1) = some (.int .i64 ((j + 1 : Nat) : Int)) := by rw [bin_add, nx (by omega)]
    have hdx : L.drop j = L[j] :: L.drop (j + 1) := List.drop_eq_getElem_cons hj
    rw [loopK_succ, spec_l2Masks.body1_eq, hdx, orAll, hE, show ((E : Int).toNat) = E from rfl]
    unfold spec_l2Masks.body1
    exact bd hp.len' (bd f1 (cdT (bd ha (bd hla (bd f2 (bd f3 (bd f4 ih)))))))

theorem mask_loop {R C : Nat} (hB : BoardOf R C) (hn : 2 ≤ n) (hlf : 20 < lf) : ∀ (m i fuel : Nat) (q : PV) (ys : List Int) (h : PHeap) (b : Nat), i + m = R * C → m < fuel → ys = ints ((masksN R C).take i) → OwnSl b h q ys → b ≤ h.length →
    ∃ q' h', loopK (ev ((env g lf n).cx Tryd.prog spec_l2Masks.kl) spec_l2Masks.lp0) fuel (spec_l2Masks.st0 (.int .i64 (R : Int)) (.int .i64 (C : Int)) q (.int .i64 (i : Int)) h) (spec_l2Masks.K0 (env g lf n) (kTop Tryd.prog Tryd.f31)) = some (q', h') ∧
      OwnSl b h' q' (ints (masksN R C)) ∧ Keep b h h'
  | 0, i, fuel, q, ys, h, b, him, hf, hy, ho, hb => by
    obtain ⟨f, rfl⟩ : ∃ f, fuel = f + 1 := ⟨fuel - 1, by omega⟩
    obtain rfl : i = R * C := by omega
    obtain ⟨h1, h2, h3, h4, h9⟩ := hB
    rw [← masksN_length R C, List.take_length] at hy
    refine ⟨q, h, ?_, by rw [← hy]; exact ho, Keep.refl _ _⟩
    rw [loopK_succ, spec_l2Masks.body0_eq]
    have f1 : binP Tryd.prog .lss 3 (.int .i64 ((R * C : Nat) : Int)) (.int .i64 ((R * C : Nat) : Int)) = some (.bool false) := by rw [bin_lss, decide_eq_false (by omega)]
    unfold spec_l2Masks.body0
    refine bd (f_mul R C (by omega)) (bd f1 (cdF ?_))
    rw [kLoop_exit, spec_l2Masks.after0_se0_0_1_5_6_15]
    exact bd ho.res rfl
  | m + 1, i, fuel, q, ys, h, b, him, hf, hy, ho, hb => by
    obtain ⟨f, rfl⟩ : ∃ f, fuel = f + 1 := ⟨fuel - 1, by omega⟩
    obtain ⟨h1, h2, h3, h4, h9⟩ := id hB
    have f1 : binP Tryd.prog .lss 3 (.int .i64 (i : Int)) (.int .i64 ((R * C : Nat) : Int)) = some (.bool true) := by rw [bin_lss, decide_eq_true (by omega)]
    obtain ⟨p, hn1, eN, oN, kN⟩ := l1Near_calls g lf n (by omega) hlf (h := h) h2 h3 h4 (show i ≤ 9 by omega)
    have hl6 := nearN_length R C i
    have hin : ∀ e ∈ nearN R C i, 0 ≤ e ∧ e < 9 := fun e he => by have := near_in h1 h2 h3 h4 h9 (show i < R * C by omega) e he; omega
    have inner := mask_inner g lf n oN.int hin (by omega) (.int .i64 (R : Int)) (.int .i64 (C : Int)) q (.int .i64 (i : Int)) (kLoop (ev ((env g lf n).cx Tryd.prog spec_l2Masks.kl) spec_l2Masks.lp0) f (spec_l2Masks.K0 (env g lf n) (kTop Tryd.prog Tryd.f31))) (nearN R C i).length 0 lf 0 (by omega) (by omega) (by decide)
    rw [List.drop_zero] at inner
    have ho1 := ho.keep kN
    have hlen : ys.length ≤ 9 := by rw [hy, ints_length, List.length_take]; omega
    obtain ⟨v, q2, h2', hb2, ha2, ho2, hk2⟩ := ho1.append (by have := kN.1; omega) ((orAll 0 (nearN R C i) : Nat) : Int) (by omega)
    have f4 : binP Tryd.prog .add 3 (.int .i64 (i : Int)) (.int .i64 1) = some (.int .i64 ((i + 1 : Nat) : Int)) := by rw [bin_add, nx (by omega)]
    have hy2 : ys ++ [((orAll 0 (nearN R C i) : Nat) : Int)] = ints ((masksN R C).take (i + 1)) := by
      have hi : i < (masksN R C).length := by rw [masksN_length]; omega
      rw [hy, List.take_add_one, List.getElem?_eq_getElem hi]
      simp [ints, masksN]
    obtain ⟨q', h', ih, o', k'⟩ := mask_loop hB hn hlf m (i + 1) f q2 _ h2' b (by omega) (by omega) hy2 ho2 (by have := hk2.1; have := kN.1; omega)
    refine ⟨q', h', ?_, o', ((kN.mono hb).trans hk2).trans k'⟩
    rw [loopK_succ, spec_l2Masks.body0_eq]
    unfold spec_l2Masks.body0
    refine bd (f_mul R C (by omega)) (bd f1 (cdT (bd eN (inner.trans ?_))))
    rw [spec_l2Masks.after1_se2_0_1_5_6_7_8_9_25]
    exact bd hb2 (bd ha2 (bd f4 ih))

theorem l2Masks_calls {R C : Nat} (hB : BoardOf R C) (N : Nat) (hN : 3 ≤ N) (hlf : 20 < lf) {h : PHeap} :
    ∃ q h', CL g lf N fn_spec_l2Masks [.int .i64 (R : Int), .int .i64 (C : Int)] h = some (q, h') ∧ OwnSl h.length h' q (ints (masksN R C)) ∧ Keep h.length h h' := by
  obtain ⟨n, rfl⟩ : ∃ n, N = n + 1 := ⟨N - 1, by omega⟩
  rw [spec_l2Masks.call_eq]
  obtain ⟨q0, h0, e0, o0, k0⟩ := empty_lit (h := h)
  obtain ⟨q', h', e, o, k⟩ := mask_loop g lf n hB (by omega) hlf (R * C) 0 lf q0 [] h0 h.length (by omega) (by have := hB.2.2.2.2; omega) (by simp [ints]) o0 k0.1
  refine ⟨q', h', ?_, o, k0.trans k⟩
  unfold spec_l2Masks.main
  exact bd e0 e

/-! ### sides -/
def atSide (C P i : Nat) : Nat := if P = 2 then i % C else i / C
def endSide (R C P : Nat) : Nat := if P = 2 then C - 1 else R - 1
def sideFrom (R C P : Nat) (last : Bool) : Nat → Nat → Nat → Nat
  | 0, _, w => w
  | m + 1, i, w => sideFrom R C P last m (i + 1) (if (bif last then decide (atSide C P i = endSide R C P) else decide (atSide C P i = 0)) = true then w ||| (1 <<< i) else w)
def sideN (R C P : Nat) (last : Bool) : Nat := sideFrom R C P last (R * C) 0 0

theorem side_step {R C P i : Nat} (hB : BoardOf R C) (hP : P = 1 ∨ P = 2) (last : Bool) (hi : i < R * C) (w : Nat) (hw : w < 2 ^ 9) (K : PX → St → Res) (h : PHeap) :
    spec_l2Side.body0 (env g lf n) K (.int .i64 (R : Int)) (.int .i64 (C : Int)) (.int .i64 (P : Int)) (.bool last) (.int .i64 (w : Int)) (.int .i64 (i : Int)) h =
      K .normal (spec_l2Side.st0 (.int .i64 (R : Int)) (.int .i64 (C : Int)) (.int .i64 (P : Int)) (.bool last) (.int .i64 ((if (bif last then decide (atSide C P i = endSide R C P) else decide (atSide C P i = 0)) = true then w ||| (1 <<< i) else w : Nat) : Int)) (.int .i64 ((i + 1 : Nat) : Int)) h) := by
  obtain ⟨h1, h2, h3, h4, h9⟩ := hB
  have f1 : binP Tryd.prog .lss 3 (.int .i64 (i : Int)) (.int .i64 ((R * C : Nat) : Int)) = some (.bool true) := by rw [bin_lss, decide_eq_true (by omega)]
  have fq := f_quo i C h3 (by omega)
  have fr := f_rem i C h3
  have fs := f_shl i (by omega)
  have fo := f_or (a := w) (b := 1 <<< i) (by omega) (by have := shl_lt (show i < 9 by omega); omega)
  have fn' : binP Tryd.prog .add 3 (.int .i64 (i : Int)) (.int .i64 1) = some (.int .i64 ((i + 1 : Nat) : Int)) := by rw [bin_add, nx (by omega)]
  have fR : binP Tryd.prog .sub 3 (.int .i64 (R : Int)) (.int .i64 1) = some (.int .i64 ((R - 1 : Nat) : Int)) := by rw [bin_sub, wr (by omega), show (R : Int) - 1 = ((R - 1 : Nat) : Int) by omega]
  have fC : binP Tryd.prog .sub 3 (.int .i64 (C : Int)) (.int .i64 1) = some (.int .i64 ((C - 1 : Nat) : Int)) := by rw [bin_sub, wr (by omega), show (C : Int) - 1 = ((C - 1 : Nat) : Int) by omega]
  have eqz : ∀ x y : Nat, binP Tryd.prog .eql 3 (.int .i64 (x : Int)) (.int .i64 (y : Int)) = some (.bool (decide (x = y))) := fun x y => by rw [bin_eql, natEq]
  have eq0 : ∀ x : Nat, binP Tryd.prog .eql 3 (.int .i64 (x : Int)) (.int .i64 0) = some (.bool (decide (x = 0))) := fun x => eqz x 0
  unfold spec_l2Side.body0
  rcases hP with rfl | rfl
  · have fP : binP Tryd.prog .eql 3 (.int .i64 ((1 : Nat) : Int)) (.int .i64 2) = some (.bool false) := by rw [bin_eql]; rfl
    have ea : atSide C 1 i = i / C := rfl
    have ee : endSide R C 1 = R - 1 := rfl
    rw [ea, ee]
    refine bd (f_mul R C (by omega)) (bd f1 (cdT (bd fq (bd fR (bd fP (cdF ?_))))))
    cases last with
    | true =>
      simp only [cond_true]
      by_cases e : i / C = R - 1
      · have g1 := eqz (i / C) (R - 1)
        rw [decide_eq_true e] at g1
        rw [if_pos (decide_eq_true e)]
        refine gd rfl (bd rfl (gd rfl (bd rfl (gd rfl (bd (congrArg (pv _) g1) (bd (v := PV.bool true) rfl ?_))))))
        refine gn rfl (bd rfl (gn rfl (bd rfl (gn rfl (bd rfl (gu (bd rfl (gu (bd rfl (gn rfl (bd rfl (bd (v := PV.bool true) rfl (cdT ?_)))))))))))))
        exact bd fs (bd fo (bd fn' rfl))
      · have g1 := eqz (i / C) (R - 1)
        rw [decide_eq_false e] at g1
        rw [if_neg (by simpa using e)]
        refine gd rfl (bd rfl (gd rfl (bd rfl (gd rfl (bd (congrArg (pv _) g1) (bd (v := PV.bool false) rfl ?_))))))
        refine gd rfl (bd rfl (gd rfl (bd (v := (PV.bool false, h)) rfl (gd rfl (bd rfl (gn rfl (bd rfl (gn rfl (bd rfl (gd rfl (bd (v := (PV.bool false, h)) rfl (bd (v := PV.bool false) rfl (cdF ?_)))))))))))))
        exact bd fn' rfl
    | false =>
      simp only [cond_false]
      have g1 := eq0 (i / C)
      refine gn rfl (bd rfl (gn rfl (bd rfl (gn rfl (bd rfl (bd (v := PV.bool false) rfl ?_))))))
      refine gd rfl (bd rfl (gd rfl (bd (v := (PV.bool true, h)) rfl (gd rfl (bd rfl (gd rfl (bd rfl (gd rfl (bd (congrArg (pv _) g1) (gd rfl (bd (v := (PV.bool (decide (i / C = 0)), h)) rfl (bd (v := PV.bool (decide (i / C = 0))) rfl ?_))))))))))))
      by_cases e : i / C = 0
      · rw [decide_eq_true e, if_pos rfl]
        exact cdT (bd fs (bd fo (bd fn' rfl)))
      · rw [decide_eq_false e, if_neg (by decide)]
        exact cdF (bd fn' rfl)
  · have fP : binP Tryd.prog .eql 3 (.int .i64 ((2 : Nat) : Int)) (.int .i64 2) = some (.bool true) := by rw [bin_eql]; rfl
    have ea : atSide C 2 i = i % C := rfl
    have ee : endSide R C 2 = C - 1 := rfl
    rw [ea, ee]
    refine bd (f_mul R C (by omega)) (bd f1 (cdT (bd fq (bd fR (bd fP (cdT (bd fr (bd fC ?_))))))))
    cases last with
    | true =>
      simp only [cond_true]
      by_cases e : i % C = C - 1
      · have g1 := eqz (i % C) (C - 1)
        rw [decide_eq_true e] at g1
        rw [if_pos (decide_eq_true e)]
        refine gd rfl (bd rfl (gd rfl (bd rfl (gd rfl (bd (congrArg (pv _) g1) (bd (v := PV.bool true) rfl ?_))))))
        refine gn rfl (bd rfl (gn rfl (bd rfl (gn rfl (bd rfl (gu (bd rfl (gu (bd rfl (gn rfl (bd rfl (bd (v := PV.bool true) rfl (cdT ?_)))))))))))))
        exact bd fs (bd fo (bd fn' rfl))
      · have g1 := eqz (i % C) (C - 1)
        rw [decide_eq_false e] at g1
        rw [if_neg (by simpa using e)]
        refine gd rfl (bd rfl (gd rfl (bd rfl (gd rfl (bd (congrArg (pv _) g1) (bd (v := PV.bool false) rfl ?_))))))
        refine gd rfl (bd rfl (gd rfl (bd (v := (PV.bool false, h)) rfl (gd rfl (bd rfl (gn rfl (bd rfl (gn rfl (bd rfl (gd rfl (bd (v := (PV.bool false, h)) rfl (bd (v := PV.bool false) rfl (cdF ?_)))))))))))))
        exact bd fn' rfl
    | false =>
      simp only [cond_false]
      have g1 := eq0 (i % C)
      refine gn rfl (bd rfl (gn rfl (bd rfl (gn rfl (bd rfl (bd (v := PV.bool false) rfl ?_))))))
      refine gd rfl (bd rfl (gd rfl (bd (v := (PV.bool true, h)) rfl (gd rfl (bd rfl (gd rfl (bd rfl (gd rfl (bd (congrArg (pv _) g1) (gd rfl (bd (v := (PV.bool (decide (i % C = 0)), h)) rfl (bd (v := PV.bool (decide (i % C = 0))) rfl ?_))))))))))))
      by_cases e : i % C = 0
      · rw [decide_eq_true e, if_pos rfl]
        exact cdT (bd fs (bd fo (bd fn' rfl)))
      · rw [decide_eq_false e, if_neg (by decide)]
        exact cdF (bd fn' rfl)

theorem sideFrom_lt {R C P : Nat} {last : Bool} (h9 : R * C ≤ 9) : ∀ (m i w : Nat), i + m = R * C → w < 2 ^ 9 → sideFrom R C P last m i w < 2 ^ 9
  | 0, _, _, _, hw => hw
  | m + 1, i, w, him, hw => by
    rw [sideFrom]
    refine sideFrom_lt h9 m (i + 1) _ (by omega) ?_
    split
    · exact Nat.or_lt_two_pow hw (shl_lt (by omega))
    · exact hw
theorem sideN_lt {R C P : Nat} {last : Bool} (hB : BoardOf R C) : sideN R C P last < 2 ^ 9 := sideFrom_lt hB.2.2.2.2 _ _ _ (by omega) (by decide)

theorem side_loop {R C P : Nat} (hB : BoardOf R C) (hP : P = 1 ∨ P = 2) (last : Bool) (h : PHeap) : ∀ (m i fuel w : Nat), i + m = R * C → m < fuel → w < 2 ^ 9 →
    loopK (ev ((env g lf n).cx Tryd.prog spec_l2Side.kl) spec_l2Side.lp0) fuel (spec_l2Side.st0 (.int .i64 (R : Int)) (.int .i64 (C : Int)) (.int .i64 (P : Int)) (.bool last) (.int .i64 (w : Int)) (.int .i64 (i : Int)) h) (spec_l2Side.K0 (env g lf n) (kTop Tryd.prog Tryd.f44)) = some (.int .i64 (sideFrom R C P last m i w : Int), h)
  | 0, i, fuel, w, him, hf, hw => by
    obtain ⟨f, rfl⟩ : ∃ f, fuel = f + 1 := ⟨fuel - 1, by omega⟩
    obtain ⟨h1, h2, h3, h4, h9⟩ := hB
    rw [loopK_succ, spec_l2Side.body0_eq]
    have f1 : binP Tryd.prog .lss 3 (.int .i64 (i : Int)) (.int .i64 ((R * C : Nat) : Int)) = some (.bool false) := by rw [bin_lss, decide_eq_false (by omega)]
    unfold spec_l2Side.body0
    refine bd (f_mul R C (by omega)) (bd f1 (cdF ?_))
    rw [kLoop_exit, spec_l2Side.after0_se0_0_1_2_3_9_10_17]
    exact bd res_int rfl
  | m + 1, i, fuel, w, him, hf, hw => by
    obtain ⟨f, rfl⟩ : ∃ f, fuel = f + 1 := ⟨fuel - 1, by omega⟩
    rw [loopK_succ, spec_l2Side.body0_eq, side_step g lf n hB hP last (by omega) w hw, kLoop_normal, sideFrom]
    refine side_loop hB hP last h m (i + 1) f _ (by omega) (by omega) ?_
    split
    · exact Nat.or_lt_two_pow hw (shl_lt (by have := hB.2.2.2.2; omega))
    · exact hw

theorem l2Side_calls {R C P : Nat} (hB : BoardOf R C) (hP : P = 1 ∨ P = 2) (last : Bool) (N : Nat) (hN : 1 ≤ N) (hlf : 20 < lf) (h : PHeap) :
    CL g lf N fn_spec_l2Side [.int .i64 (R : Int), .int .i64 (C : Int), .int .i64 (P : Int), .bool last] h = some (.int .i64 (sideN R C P last : Int), h) := by
  obtain ⟨n, rfl⟩ : ∃ n, N = n + 1 := ⟨N - 1, by omega⟩
  rw [spec_l2Side.call_eq]
  unfold spec_l2Side.main
  exact side_loop g lf n hB hP last h (R * C) 0 lf 0 (by omega) (by have := hB.2.2.2.2; omega) (by decide)

/-! ### the cells with a stone -/
def setFrom (what : Int) : Nat → List Int → Nat → Nat
  | _, [], w => w
  | k, x :: xs, w => setFrom what (k + 1) xs (if x = what then w ||| (1 <<< k) else w)
def setL (xs : List Int) (what : Int) : Nat := setFrom what 0 xs 0

theorem setFrom_lt (what : Int) {n : Nat} : ∀ (xs : List Int) (k w : Nat), k + xs.length ≤ n → w < 2 ^ n → setFrom what k xs w < 2 ^ n
  | [], _, _, _, hw => hw
  | x :: xs, k, w, hk, hw => by
    rw [setFrom]
    rw [List.length_cons] at hk
    refine setFrom_lt what xs (k + 1) _ (by omega) ?_
    split
    · refine Nat.or_lt_two_pow hw ?_
      rw [Nat.one_shiftLeft]; exact Nat.pow_lt_pow_right (by decide) (by omega)
    · exact hw
theorem setL_lt (what : Int) {xs : List Int} {n : Nat} (h : xs.length ≤ n) : setL xs what < 2 ^ n := setFrom_lt what xs 0 0 (by omega) (Nat.two_pow_pos n)

theorem setFrom_bit (what : Int) (j : Nat) : ∀ (xs : List Int) (k w : Nat), (setFrom what k xs w).testBit j = true ↔ w.testBit j = true ∨ ∃ i, j = k + i ∧ xs[i]? = some what
  | [], k, w => by simp [setFrom]
  | x :: xs, k, w => by
    rw [setFrom, setFrom_bit what j xs (k + 1)]
    have hs : (∃ i, j = k + i ∧ (x :: xs)[i]? = some what) ↔ (j = k ∧ x = what) ∨ ∃ i, j = k + 1 + i ∧ xs[i]? = some what := by
      constructor
      · rintro ⟨i, h1, h2⟩
        cases i with
        | zero => exact .inl ⟨by omega, by simpa using h2⟩
        | succ i => exact .inr ⟨i, by omega, by simpa using h2⟩
      · rintro (⟨h1, h2⟩ | ⟨i, h1, h2⟩)
        · exact ⟨0, by omega, by simp [h2]⟩
        · exact ⟨i + 1, by omega, by simpa using h2⟩
    rw [hs]
    by_cases e : x = what
    · rw [if_pos e, Nat.testBit_or, one_bit, Bool.or_eq_true, decide_eq_true_iff]
      simp [e, or_assoc]
    · rw [if_neg e]; simp [e]

theorem setL_bit {xs : List Int} {what : Int} {j : Nat} : (setL xs what).testBit j = true ↔ xs[j]? = some what := by
  unfold setL
  rw [setFrom_bit]
  constructor
  · rintro (h | ⟨i, h1, h2⟩)
    · rw [Nat.zero_testBit] at h; cases h
    · rw [Nat.zero_add] at h1; subst h1; exact h2
  · intro h; exact .inr ⟨j, by omega, h⟩

theorem set_loop {xs : List Int} {p : PV} {h : PHeap} (what : Int) (hp : IntSl .i64 h p xs) (hl : xs.length ≤ 20) : ∀ (m i fuel w : Nat), i + m = xs.length → m < fuel → w < 2 ^ 30 →
    loopK (ev ((env g lf n).cx Tryd.prog spec_l2Set.kl) spec_l2Set.lp0) fuel (spec_l2Set.st0 p (.int .i64 what) (.int .i64 (w : Int)) (.int .i64 (i : Int)) h) (spec_l2Set.K0 (env g lf n) (kTop Tryd.prog Tryd.f16)) = some (.int .i64 (setFrom what i (xs.drop i) w : Int), h)
  | 0, i, fuel, w, him, hf, hw => by
    obtain ⟨f, rfl⟩ : ∃ f, fuel = f + 1 := ⟨fuel - 1, by omega⟩
    rw [loopK_succ, spec_l2Set.body0_eq]
    have f1 : binP Tryd.prog .lss 3 (.int .i64 (i : Int)) (.int .i64 (xs.length : Int)) = some (.bool false) := by rw [bin_lss, decide_eq_false (by omega)]
    unfold spec_l2Set.body0
    refine bd hp.len' (bd f1 (cdF ?_))
    rw [kLoop_exit, spec_l2Set.after0_se0_0_1_5_6_10, List.drop_eq_nil_of_le (by omega), setFrom]
    exact bd res_int rfl
  | m + 1, i, fuel, w, him, hf, hw => by
    obtain ⟨f, rfl⟩ : ∃ f, fuel = f + 1 := ⟨fuel - 1, by omega⟩
    have hi : i < xs.length := by omega
    obtain ⟨a, ha, hla⟩ := hp.at' hi
    have hdx : xs.drop i = xs[i] :: xs.drop (i + 1) := List.drop_eq_getElem_cons hi
    have f1 : binP Tryd.prog .lss 3 (.int .i64 (i : Int)) (.int .i64 (xs.length : Int)) = some (.bool true) := by rw [bin_lss, decide_eq_true (by omega)]
    have f2 : binP Tryd.prog .eql 3 (.int .i64 xs[i]) (.int .i64 what) = some (.bool (decide (xs[i] = what))) := by rw [bin_eql]; rfl
    have f4 : binP Tryd.prog .add 3 (.int .i64 (i : Int)) (.int .i64 1) = some (.int .i64 ((i + 1 : Nat) : Int)) := by rw [bin_add, nx (by omega)]
    have h30 : 1 <<< i < 2 ^ 30 := by rw [Nat.one_shiftLeft]; exact Nat.pow_lt_pow_right (by decide) (by omega)
    rw [loopK_succ, spec_l2Set.body0_eq, hdx, setFrom]
    unfold spec_l2Set.body0
    refine bd hp.len' (bd f1 (cdT (bd ha (bd hla (bd f2 ?_)))))
    by_cases e : xs[i] = what
    · rw [decide_eq_true e, if_pos e]
      refine cdT (bd (f_shl i (by omega)) (bd (f_or (a := w) (b := 1 <<< i) (by omega) (by omega)) (bd f4 ?_)))
      rw [kLoop_normal]
      exact set_loop what hp hl m (i + 1) f _ (by omega) (by omega) (Nat.or_lt_two_pow hw h30)
    · rw [decide_eq_false e, if_neg e]
      refine cdF (bd f4 ?_)
      rw [kLoop_normal]
      exact set_loop what hp hl m (i + 1) f _ (by omega) (by omega) hw

theorem l2Set_calls {xs : List Int} {p : PV} {h : PHeap} (what : Int) (hp : IntSl .i64 h p xs) (hl : xs.length ≤ 20) (N : Nat) (hN : 1 ≤ N) (hlf : 20 < lf) :
    CL g lf N fn_spec_l2Set [p, .int .i64 what] h = some (.int .i64 (setL xs what : Int), h) := by
  obtain ⟨n, rfl⟩ : ∃ n, N = n + 1 := ⟨N - 1, by omega⟩
  rw [spec_l2Set.call_eq]
  unfold spec_l2Set.main
  have := set_loop g lf n what hp hl xs.length 0 lf 0 (by omega) (by omega) (by decide)
  rw [List.drop_zero] at this
  exact this

/-! ### growing -/
theorem bitq (x k : Nat) (hk : k ≤ 20) : binP Tryd.prog .shr 3 (.int .i64 (x : Int)) (.int .i64 (k : Int)) = some (.int .i64 ((x >>> k : Nat) : Int)) ∧ binP Tryd.prog .rem 3 (.int .i64 ((x >>> k : Nat) : Int)) (.int .i64 2) = some (.int .i64 ((x >>> k % 2 : Nat) : Int)) ∧
    binP Tryd.prog .eql 3 (.int .i64 ((x >>> k % 2 : Nat) : Int)) (.int .i64 1) = some (.bool (decide (x >>> k % 2 = 1))) :=
  ⟨f_shr x k (by omega), f_rem (x >>> k) 2 (by decide), by rw [bin_eql]; exact congrArg (fun z => some (PV.bool z)) (natEq _ 1)⟩

theorem grow_inner {M : List Nat} {p : PV} {h : PHeap} (hp : IntSl .i64 h p (ints M)) (hM : ∀ m ∈ M, m < 2 ^ 9) (hl : M.length ≤ 9) {set now : Nat} (hs : set < 2 ^ 9) (K : PX → St → Res) : ∀ (m k fuel nx : Nat), k + m = M.length → m < fuel → nx < 2 ^ 9 →
    loopK (ev ((env g lf n).cx Tryd.prog spec_l2Grow.kl) spec_l2Grow.lp1) fuel (spec_l2Grow.st1 p (.int .i64 (set : Int)) (.int .i64 (now : Int)) (.int .i64 (nx : Int)) (.int .i64 (k : Int)) h) (spec_l2Grow.K1 (env g lf n) K) =
      K .normal (spec_l2Grow.st0 p (.int .i64 (set : Int)) (.int .i64 (stepFrom set now k (M.drop k) nx : Int)) (.bool (!decide (stepFrom set now k (M.drop k) nx = now))) h)
  | 0, k, fuel, nx', hkm, hf, hnx => by
    obtain ⟨f, rfl⟩ : ∃ f, fuel = f + 1 := ⟨fuel - 1, by omega⟩
    rw [loopK_succ, spec_l2Grow.body1_eq]
    have f1 : binP Tryd.prog .lss 3 (.int .i64 (k : Int)) (.int .i64 ((ints M).length : Int)) = some (.bool false) := by rw [bin_lss, ints_length, decide_eq_false (by omega)]
    have f2 : binP Tryd.prog .neq 3 (.int .i64 (nx' : Int)) (.int .i64 (now : Int)) = some (.bool (!decide (nx' = now))) := by
      rw [bin_neq, bne, natEq]
    unfold spec_l2Grow.body1
    refine bd hp.len' (bd f1 (cdF ?_))
    rw [kLoop_exit, spec_l2Grow.after1_se2_0_1_7_9_10_19, List.drop_eq_nil_of_le (by omega), stepFrom]
    exact bd f2 rfl
  | m + 1, k, fuel, nx', hkm, hf, hnx => by
    obtain ⟨f, rfl⟩ : ∃ f, fuel = f + 1 := ⟨fuel - 1, by omega⟩
    have hk : k < M.length := by omega
    obtain ⟨a, ha, hla⟩ := hp.at' (show k < (ints M).length by rw [ints_length]; exact hk)
    rw [ints_get hk] at hla
    have hmk : M.getD k 0 < 2 ^ 9 := by
      rw [List.getD_eq_getElem?_getD, List.getElem?_eq_getElem hk]; exact hM _ (List.getElem_mem hk)
    have hdx : M.drop k = M.getD k 0 :: M.drop (k + 1) := by
      rw [List.getD_eq_getElem?_getD, List.getElem?_eq_getElem hk]; exact List.drop_eq_getElem_cons hk
    have f1 : binP Tryd.prog .lss 3 (.int .i64 (k : Int)) (.int .i64 ((ints M).length : Int)) = some (.bool true) := by rw [bin_lss, ints_length, decide_eq_true (by omega)]
    obtain ⟨b1, b2, b3⟩ := bitq now k (by omega)
    have f4 : binP Tryd.prog .add 3 (.int .i64 (k : Int)) (.int .i64 1) = some (.int .i64 ((k + 1 : Nat) : Int)) := by rw [bin_add, nx (by omega)]
    rw [loopK_succ, spec_l2Grow.body1_eq, hdx, stepFrom]
    unfold spec_l2Grow.body1
    refine bd hp.len' (bd f1 (cdT (bd b1 (bd b2 (bd b3 ?_)))))
    by_cases e : now >>> k % 2 = 1
    · rw [decide_eq_true e, if_pos e]
      have ha2 := f_and (a := M.getD k 0) (b := set) (by omega) (by omega)
      have hlt := Nat.and_lt_two_pow (M.getD k 0) hs
      have ho2 := f_or (a := nx') (b := M.getD k 0 &&& set) (by omega) (by omega)
      refine cdT (bd ha (bd hla (bd ha2 (bd ho2 (bd f4 ?_)))))
      rw [kLoop_normal]
      exact grow_inner hp hM hl hs K m (k + 1) f _ (by omega) (by omega) (Nat.or_lt_two_pow hnx hlt)
    · rw [decide_eq_false e, if_neg e]
      refine cdF (bd f4 ?_)
      rw [kLoop_normal]
      exact grow_inner hp hM hl hs K m (k + 1) f _ (by omega) (by omega) hnx

theorem grow_loop {M : List Nat} {p : PV} {h : PHeap} (hp : IntSl .i64 h p (ints M)) (hM : ∀ m ∈ M, m < 2 ^ 9) (hl : M.length ≤ 9) {set : Nat} (hs : set < 2 ^ 9) (hlf : 20 < lf) : ∀ (f fuel now : Nat), (∀ j, now.testBit j = true → set.testBit j = true) → set < now + f → f + 1 < fuel →
    loopK (ev ((env g lf n).cx Tryd.prog spec_l2Grow.kl) spec_l2Grow.lp0) fuel (spec_l2Grow.st0 p (.int .i64 (set : Int)) (.int .i64 (now : Int)) (.bool true) h) (spec_l2Grow.K0 (env g lf n) (kTop Tryd.prog Tryd.f43)) = some (.int .i64 (growF M set f now : Int), h)
  | 0, fuel, now, hsub, hf, hfu => by have := sub_le hsub; omega
  | f + 1, fuel, now, hsub, hf, hfu => by
    obtain ⟨F, rfl⟩ : ∃ F, fuel = F + 1 := ⟨fuel - 1, by omega⟩
    have hnow : now < 2 ^ 9 := Nat.lt_of_le_of_lt (sub_le hsub) hs
    have inner := grow_inner g lf n hp hM hl (set := set) (now := now) hs (kLoop (ev ((env g lf n).cx Tryd.prog spec_l2Grow.kl) spec_l2Grow.lp0) F (spec_l2Grow.K0 (env g lf n) (kTop Tryd.prog Tryd.f43))) M.length 0 lf now (by omega) (by omega) hnow
    rw [List.drop_zero] at inner
    rw [loopK_succ, spec_l2Grow.body0_eq]
    unfold spec_l2Grow.body0
    refine cdT (inner.trans ?_)
    rw [kLoop_normal, growF]
    by_cases e : stepFrom set now 0 M now = now
    · rw [if_pos e, e, decide_eq_true rfl, Bool.not_true]
      obtain ⟨F', rfl⟩ : ∃ F', F = F' + 1 := ⟨F - 1, by omega⟩
      rw [loopK_succ, spec_l2Grow.body0_eq]
      unfold spec_l2Grow.body0
      refine cdF ?_
      rw [kLoop_exit, spec_l2Grow.after0_se0_0_1_7_14]
      exact bd res_int rfl
    · rw [if_neg e, decide_eq_false e, Bool.not_false]
      have hle := stepFrom_le set now M 0 now
      exact grow_loop hp hM hl hs hlf f F _ (step_sub hsub) (by omega) (by omega)

theorem l2Grow_calls {M : List Nat} {p : PV} {h : PHeap} (hp : IntSl .i64 h p (ints M)) (hM : ∀ m ∈ M, m < 2 ^ 9) (hl : M.length ≤ 9) {set fr : Nat} (hs : set < 2 ^ 9) (hfr : fr < 2 ^ 62) (N : Nat) (hN : 1 ≤ N) (hlf : 1000 < lf) :
    CL g lf N fn_spec_l2Grow [p, .int .i64 (set : Int), .int .i64 (fr : Int)] h = some (.int .i64 (growN M set fr : Int), h) := by
  obtain ⟨n, rfl⟩ : ∃ n, N = n + 1 := ⟨N - 1, by omega⟩
  rw [spec_l2Grow.call_eq]
  unfold spec_l2Grow.main
  refine bd (f_and (a := fr) (b := set) hfr (by omega)) ?_
  exact grow_loop g lf n hp hM hl hs (by omega) 600 lf (fr &&& set) (fun j hj => by rw [Nat.testBit_and, Bool.and_eq_true] at hj; exact hj.2) (by omega) (by omega)

def joinsN (R C P S : Nat) : Bool := !decide (growN (masksN R C) S (sideN R C P false) &&& sideN R C P true = 0)

theorem l2Joins_calls {R C P S : Nat} (hB : BoardOf R C) (hP : P = 1 ∨ P = 2) {p : PV} {h : PHeap} (hp : IntSl .i64 h p (ints (masksN R C))) (hs : S < 2 ^ 9) (N : Nat) (hN : 2 ≤ N) (hlf : 1000 < lf) :
    CL g lf N fn_spec_l2Joins [.int .i64 (R : Int), .int .i64 (C : Int), p, .int .i64 (S : Int), .int .i64 (P : Int)] h = some (.bool (joinsN R C P S), h) := by
  obtain ⟨n, rfl⟩ : ∃ n, N = n + 1 := ⟨N - 1, by omega⟩
  rw [spec_l2Joins.call_eq]
  have s1 := l2Side_calls g lf hB hP false n (by omega) (by omega) h
  have s2 := l2Side_calls g lf hB hP true n (by omega) (by omega) h
  have l1 := sideN_lt (P := P) (last := false) hB
  have l2 := sideN_lt (P := P) (last := true) hB
  have gr := l2Grow_calls g lf hp (masksN_lt hB) (by rw [masksN_length]; exact hB.2.2.2.2) hs (fr := sideN R C P false) (by omega) n (by omega) hlf
  have lg := grow_lt (M := masksN R C) (fr := sideN R C P false) hs
  have fa := f_and (a := growN (masksN R C) S (sideN R C P false)) (b := sideN R C P true) (by omega) (by omega)
  have fn' : binP Tryd.prog .neq 3 (.int .i64 ((growN (masksN R C) S (sideN R C P false) &&& sideN R C P true : Nat) : Int)) (.int .i64 0) = some (.bool (joinsN R C P S)) := by
    rw [bin_neq]
    unfold joinsN
    exact congrArg (fun z => some (PV.bool (!z))) (natEq _ 0)
  unfold spec_l2Joins.main
  exact bd s1 (bd gr (bd s2 (bd fa (bd fn' (bd res_bool rfl)))))

end Go.Proofs.YtpaehbfknlpkbaeDoor

/- The model's chapter 2: what Joins, GroupOf, GapOf, Filled and GapCells of it compute. -/
set_option maxRecDepth 20000
namespace Go.Proofs.YtpaehbfknlpkbaeDoor
open Go Go.Ip G

def playerB (p : Int) : Bool := decide (1 ≤ p ∧ p ≤ 2)
def joinsL (r c : Int) (xs : List Int) (p : Int) : Bool := posB r c xs && playerB p && joinsN r.toNat c.toNat p.toNat (setL xs p)
def listFrom (set : Nat) : Nat → Nat → List Int
  | 0, _ => []
  | m + 1, k => if set >>> k % 2 = 1 then (k : Int) :: listFrom set m (k + 1) else listFrom set m (k + 1)
def listN (set : Nat) : List Int := listFrom set 9 0
theorem board_of_sides {r c : Int} {R C : Nat} {xs : List Int} (h : Sides r c R C xs) : BoardOf R C := by
  obtain ⟨_, _, h1, h2, h3, h4, h9, _, _⟩ := h
  exact ⟨h1, h2, h3, h4, h9⟩
theorem player_of {p : Int} (h : playerB p = true) : ∃ P : Nat, p = (P : Int) ∧ (P = 1 ∨ P = 2) := by
  unfold playerB at h
  have := of_decide_eq_true h
  obtain ⟨P, rfl⟩ := Int.eq_ofNat_of_zero_le (show 0 ≤ p by omega)
  exact ⟨P, rfl, by omega⟩

variable (g : Nat → PV) (lf n : Nat)

/-! ### a set's list -/
theorem listFrom_nil {set : Nat} : ∀ (m k : Nat), set >>> k = 0 → listFrom set m k = []
  | 0, _, _ => rfl
  | m + 1, k, h => by
    have h2 : set >>> (k + 1) = 0 := by rw [Nat.shiftRight_add, h]; rfl
    rw [listFrom, h, if_neg (by decide), listFrom_nil m (k + 1) h2]

theorem list_loop {set : Nat} (hs : set < 2 ^ 9) : ∀ (m k fuel : Nat) (q : PV) (ys : List Int) (h : PHeap) (b : Nat), k + m = 9 → m < fuel → ys.length ≤ k → OwnSl b h q ys → b ≤ h.length →
    ∃ q' h', loopK (ev ((env g lf n).cx Tryd.prog spec_l2List.kl) spec_l2List.lp0) fuel (spec_l2List.st0 (.int .i64 (set : Int)) q (.int .i64 (k : Int)) h) (spec_l2List.K0 (env g lf n) (kTop Tryd.prog Tryd.f18)) = some (q', h') ∧
      OwnSl b h' q' (ys ++ listFrom set m k) ∧ Keep b h h'
  | m, k, fuel, q, ys, h, b, hkm, hf, hy, ho, hb => by
    obtain ⟨f, rfl⟩ : ∃ f, fuel = f + 1 := ⟨fuel - 1, by omega⟩
    obtain ⟨b1, b2, b3⟩ := bitq set k (by omega)
    have g1 : binP Tryd.prog .gtr 3 (.int .i64 ((set >>> k : Nat) : Int)) (.int .i64 0) = some (.bool (decide (0 < set >>> k))) := by
      rw [bin_gtr]
      congr 2
      apply decide_eq_decide.2
      omega
    by_cases hz : set >>> k = 0
    · refine ⟨q, h, ?_, by rw [listFrom_nil m k hz, List.append_nil]; exact ho, Keep.refl _ _⟩
      rw [loopK_succ, spec_l2List.body0_eq]
      rw [decide_eq_false (by omega)] at g1
      unfold spec_l2List.body0
      refine bd b1 (bd g1 (cdF ?_))
      rw [kLoop_exit, spec_l2List.after0_se0_0_3_4_9]
      exact bd ho.res rfl
    · match m with
      | 0 =>
        obtain rfl : k = 9 := by omega
        exact absurd (by rw [Nat.shiftRight_eq_div_pow]; exact Nat.div_eq_of_lt hs) hz
      | m + 1 =>
        have f4 : binP Tryd.prog .add 3 (.int .i64 (k : Int)) (.int .i64 1) = some (.int .i64 ((k + 1 : Nat) : Int)) := by rw [bin_add, nx (by omega)]
        rw [decide_eq_true (Nat.pos_of_ne_zero hz)] at g1
        rw [listFrom]
        by_cases e : set >>> k % 2 = 1
        · rw [if_pos e]
          rw [decide_eq_true e] at b3
          obtain ⟨v, q2, h2', hb2, ha2, ho2, hk2⟩ := ho.append hb (k : Int) (by omega)
          obtain ⟨q', h', ih, o', k'⟩ := list_loop hs m (k + 1) f q2 (ys ++ [(k : Int)]) h2' b (by omega) (by omega) (by simp; omega) ho2 (by have := hk2.1; omega)
          refine ⟨q', h', ?_, by simpa using o', hk2.trans k'⟩
          rw [loopK_succ, spec_l2List.body0_eq]
          unfold spec_l2List.body0
          exact bd b1 (bd g1 (cdT (bd b1 (bd b2 (bd b3 (cdT (bd hb2 (bd ha2 (bd f4 ih)))))))))
        · rw [if_neg e]
          rw [decide_eq_false e] at b3
          obtain ⟨q', h', ih, o', k'⟩ := list_loop hs m (k + 1) f q ys h b (by omega) (by omega) (by omega) ho hb
          refine ⟨q', h', ?_, o', k'⟩
          rw [loopK_succ, spec_l2List.body0_eq]
          unfold spec_l2List.body0
          exact bd b1 (bd g1 (cdT (bd b1 (bd b2 (bd b3 (cdF (bd f4 ih)))))))
termination_by m => m

theorem l2List_calls {set : Nat} (hs : set < 2 ^ 9) (N : Nat) (hN : 1 ≤ N) (hlf : 20 < lf) {h : PHeap} :
    ∃ q h', CL g lf N fn_spec_l2List [.int .i64 (set : Int)] h = some (q, h') ∧ OwnSl h.length h' q (listN set) ∧ Keep h.length h h' := by
  obtain ⟨n, rfl⟩ : ∃ n, N = n + 1 := ⟨N - 1, by omega⟩
  rw [spec_l2List.call_eq]
  obtain ⟨q0, h0, e0, o0, k0⟩ := empty_lit (h := h)
  obtain ⟨q', h', e, o, k⟩ := list_loop g lf n hs 9 0 lf q0 [] h0 h.length (by omega) (by omega) (by simp) o0 k0.1
  refine ⟨q', h', ?_, by simpa [listN] using o, k0.trans k⟩
  unfold spec_l2List.main
  exact bd e0 e

/-! ### gaps -/
/-! ### the functions -/
theorem specJoins_calls {xs : List Int} {p : PV} {h : PHeap} (N : Nat) (hN : 4 ≤ N) (r c pl : Int) (hp : IntSl .i64 h p xs) (hl : xs.length ≤ 2 ^ 35) (hf : xs.length < lf) (hlf : 1000 < lf) :
    ∃ h', CL g lf N fn_spec_Joins [.int .i64 r, .int .i64 c, p, .int .i64 pl] h = some (.bool (joinsL r c xs pl), h') ∧ Keep h.length h h' := by
  obtain ⟨n, rfl⟩ : ∃ n, N = n + 1 := ⟨N - 1, by omega⟩
  rw [spec_Joins.call_eq]
  have hpos := specPositionOk_N g lf n (by omega) r c hp (by omega) hf
  have l1 := l1In_N g lf n (by omega) h pl 1 2
  unfold joinsL
  cases hb : posB r c xs with
  | false =>
    rw [hb] at hpos
    refine ⟨h, ?_, Keep.refl _ _⟩
    unfold spec_Joins.main
    refine bd hpos (bd un_not (gn rfl (bd rfl (gn rfl (bd rfl (gn rfl (bd rfl (bd (v := PV.bool true) rfl (cdT ?_)))))))))
    exact bd res_bool rfl
  | true =>
    rw [hb] at hpos
    cases hpl : playerB pl with
    | false =>
      unfold playerB at hpl
      rw [hpl] at l1
      refine ⟨h, ?_, Keep.refl _ _⟩
      unfold spec_Joins.main
      refine bd hpos (bd un_not (gd rfl (bd rfl (gd rfl (bd l1 (gd rfl (bd (v := (PV.bool true, h)) rfl (bd (v := PV.bool true) rfl (cdT ?_)))))))))
      exact bd res_bool rfl
    | true =>
      have hpl' := hpl
      unfold playerB at hpl'
      rw [hpl'] at l1
      obtain ⟨R, C, hS⟩ := sides_of hb
      obtain ⟨P, rfl, hP⟩ := player_of hpl
      have hB := board_of_sides hS
      obtain ⟨rfl, rfl, _, _, _, _, h9, hlen, _⟩ := id hS
      obtain ⟨q, h1, e1, o1, k1⟩ := l2Masks_calls g lf hB n (by omega) (by omega) (h := h)
      have e2 := l2Set_calls g lf (P : Int) (hp.keep k1) (by omega) n (by omega) (by omega)
      have hst := setL_lt (P : Int) (xs := xs) (n := 9) (by omega)
      have e3 := l2Joins_calls g lf hB hP o1.int hst n (by omega) hlf
      refine ⟨h1, ?_, k1⟩
      rw [Bool.and_self, Bool.true_and]
      unfold spec_Joins.main
      refine bd hpos (bd un_not (gd rfl (bd rfl (gd rfl (bd l1 (gd rfl (bd (v := (PV.bool false, h)) rfl (bd (v := PV.bool false) rfl (cdF ?_)))))))))
      exact bd e1 (bd e2 (bd e3 (bd res_bool rfl)))

end Go.Proofs.YtpaehbfknlpkbaeDoor

/- The model's Filled and GapCells. -/
set_option maxRecDepth 20000
namespace Go.Proofs.YtpaehbfknlpkbaeDoor
open Go Go.Ip G

variable (g : Nat → PV) (lf n : Nat)

/-- An empty literal, and a whole list appended: a copy. -/
theorem copy_all {xs : List Int} {p : PV} {h : PHeap} (hp : IntSl .i64 h p xs) (hx : 0 < xs.length) (hl : xs.length ≤ 2 ^ 36) :
    ∃ v q h', buildSliceP Tryd.prog 22 0 [] h = some v ∧ appendP Tryd.prog 22 22 v.1 p v.2 = some (q, h') ∧ OwnSl h.length h' q xs ∧ Keep h.length h h' := by
  rcases hp with ⟨rfl, rfl⟩ | ⟨id, off, rfl, hc⟩
  · simp at hx
  have hid : id < h.length := lt_of_cell (hc 0 _ (List.getElem?_eq_getElem hx))
  have hb : buildSliceP Tryd.prog 22 0 [] h = some (.sl h.length 0 0, h ++ [.own 1 []]) := by
    simp [buildSliceP, tyElem, tySize, tyZero, repeatCells, fillP]
  have hcells : ((cellsAt (h ++ [PObj.own 1 []]) id).drop off).take (xs.length * 1) = xs.map (.int .i64) := by
    rw [Nat.mul_one]
    apply List.ext_getElem?
    intro j
    have e : cellsAt (h ++ [PObj.own 1 []]) id = cellsAt h id := by unfold cellsAt; rw [List.getElem?_append_left hid]
    rw [e]
    by_cases hj : j < xs.length
    · rw [List.getElem?_take_of_lt hj, List.getElem?_drop, hc j _ (List.getElem?_eq_getElem hj), List.getElem?_map, List.getElem?_eq_getElem hj]; rfl
    · rw [List.getElem?_eq_none (by rw [List.length_take]; omega), List.getElem?_eq_none (by simp; omega)]
  have hfit : off + xs.length * 1 ≤ (cellsAt (h ++ [PObj.own 1 []]) id).length := by
    have := congrArg List.length hcells
    simp only [List.length_take, List.length_drop, List.length_map, Nat.mul_one] at this ⊢
    omega
  have hsrc : srcP (h ++ [PObj.own 1 []]) 1 (.sl id off xs.length) = some (xs.length, xs.map (.int .i64)) := by
    simp only [srcP]
    rw [if_pos hfit, hcells]
  refine ⟨_, .sl (h.length + 1) 0 (0 + xs.length), ((h ++ [PObj.own 1 []]).set h.length .dead ++ [PObj.own 1 ([] ++ xs.map (.int .i64))]), hb, ?_, .inr ⟨h.length + 1, by omega, by simp, ?_⟩, ?_⟩
  · simp only [appendP, tyElem, tySize, tySmall, bne_self_eq_false, Bool.not_true, Bool.or_self, Bool.false_eq_true, if_false, hsrc, Option.bind_some]
    have h3 : (h ++ [PObj.own 1 []])[h.length]? = some (.own 1 []) := by simp
    rw [h3]
    have : 0 + xs.length ≤ 2 ^ 36 := by omega
    simp only [List.length_nil, Nat.zero_mul, true_and, if_pos this]
    simp
  · rw [List.getElem?_append_right (by simp)]; simp
  · exact (((Keep.append _ h _ (Nat.le_refl _)).trans (Keep.set _ _ h.length .dead (Nat.le_refl _))).trans (Keep.append _ _ _ (by simp)))

/-! ### the cells that close a gap -/
end Go.Proofs.YtpaehbfknlpkbaeDoor

/- Of all boards and all sets of cells: exactly one has joined on a full board; turned, and mirrored. No program text. -/
set_option maxRecDepth 20000
namespace Go.Proofs.YtpaehbfknlpkbaeDoor

def boards : List (Nat × Nat) := [(1, 1), (1, 2), (1, 3), (1, 4), (2, 1), (2, 2), (2, 3), (2, 4), (3, 1), (3, 2), (3, 3), (4, 1), (4, 2)]
theorem board_mem {R C : Nat} (h : BoardOf R C) : (R, C) ∈ boards := by
  obtain ⟨h1, h2, h3, h4, h9⟩ := h
  have hR : R = 1 ∨ R = 2 ∨ R = 3 ∨ R = 4 := by omega
  have hC : C = 1 ∨ C = 2 ∨ C = 3 ∨ C = 4 := by omega
  rcases hR with rfl | rfl | rfl | rfl <;> rcases hC with rfl | rfl | rfl | rfl <;> first | decide | omega

/-- The cells of a set, each at another place. -/
def moved (f : Nat → Nat) (S : Nat) : Nat → Nat
  | 0 => 0
  | k + 1 => moved f S k ||| (if S.testBit k then 1 <<< f k else 0)

def hexB (R C S : Nat) : Bool :=
  (joinsN R C 1 S != joinsN R C 2 (2 ^ (R * C) - 1 - S)) &&
  (joinsN R C 1 (moved (fun k => R * C - 1 - k) S (R * C)) == joinsN R C 1 S) && (joinsN R C 2 (moved (fun k => R * C - 1 - k) S (R * C)) == joinsN R C 2 S) &&
  (joinsN C R 2 (moved (sig C R) S (R * C)) == joinsN R C 1 S) && (joinsN C R 1 (moved (sig C R) S (R * C)) == joinsN R C 2 S)

theorem hex_all : (boards.all fun b => (List.range (2 ^ (b.1 * b.2))).all fun S => hexB b.1 b.2 S) = true := by kernel_rfl

theorem hex_ok {R C S : Nat} (hb : BoardOf R C) (hS : S < 2 ^ (R * C)) : hexB R C S = true := by
  have := List.all_eq_true.1 hex_all (R, C) (board_mem hb)
  exact List.all_eq_true.1 this S (by rw [List.mem_range]; exact hS)

end Go.Proofs.YtpaehbfknlpkbaeDoor

/- Promise 6: mirrored twice it is as before. -/
set_option maxRecDepth 20000
namespace Go.Proofs.YtpaehbfknlpkbaeDoor
open Go Go.Ip Go.RowKit G

variable (g : Nat → PV) (lf n : Nat)

end Go.Proofs.YtpaehbfknlpkbaeDoor

/- What the laws of chapter 2 say of positions, as facts on sets of cells. No program text. -/
set_option maxRecDepth 20000
namespace Go.Proofs.YtpaehbfknlpkbaeDoor

/-! ### joined sides -/
theorem joins_iff {R C P S : Nat} (hS : S < 2 ^ 9) : joinsN R C P S = true ↔ ∃ j, (sideN R C P true).testBit j = true ∧ Reach (masksN R C) S (sideN R C P false) j := by
  unfold joinsN
  rw [Bool.not_eq_true', decide_eq_false_iff_not]
  constructor
  · intro h
    apply Classical.byContradiction
    intro hn
    exact h (and_zero.2 fun j h1 h2 => hn ⟨j, h2, (grow_bit hS j).1 h1⟩)
  · rintro ⟨j, h1, h2⟩ h
    exact and_zero.1 h j ((grow_bit hS j).2 h2) h1

theorem joins_mono {R C P S T : Nat} (hS : S < 2 ^ 9) (hT : T < 2 ^ 9) (h : ∀ j, S.testBit j = true → T.testBit j = true) (hj : joinsN R C P S = true) : joinsN R C P T = true := by
  obtain ⟨j, h1, h2⟩ := (joins_iff hS).1 hj
  exact (joins_iff hT).2 ⟨j, h1, h2.mono h (fun _ h => h)⟩

theorem compl_bit {n S : Nat} (hS : S < 2 ^ n) (j : Nat) : (2 ^ n - 1 - S).testBit j = (decide (j < n) && !S.testBit j) := by
  rw [Nat.sub_sub, Nat.add_comm 1 S]; exact Nat.testBit_two_pow_sub_succ hS j

theorem hex {R C P S : Nat} (hB : BoardOf R C) (hP : P = 1 ∨ P = 2) (hS : S < 2 ^ (R * C)) : joinsN R C P S = !joinsN R C (3 - P) (2 ^ (R * C) - 1 - S) := by
  have key : ∀ T, T < 2 ^ (R * C) → joinsN R C 1 T = !joinsN R C 2 (2 ^ (R * C) - 1 - T) := fun T hT => by
    have := hex_ok hB hT
    unfold hexB at this
    simp only [Bool.and_eq_true] at this
    have := this.1.1.1.1
    cases h1 : joinsN R C 1 T <;> cases h2 : joinsN R C 2 (2 ^ (R * C) - 1 - T) <;> rw [h1, h2] at this <;> first | rfl | cases this
  rcases hP with rfl | rfl
  · exact key S hS
  · have h2 := key (2 ^ (R * C) - 1 - S) (by omega)
    rw [show 2 ^ (R * C) - 1 - (2 ^ (R * C) - 1 - S) = S by omega] at h2
    rw [show 3 - 2 = 1 from rfl, h2, Bool.not_not]

theorem content_cases {R C : Nat} {r c : Int} {xs : List Int} (hs : Sides r c R C xs) {j : Nat} (hj : j < R * C) : xs[j]? = some 0 ∨ xs[j]? = some 1 ∨ xs[j]? = some 2 := by
  obtain ⟨_, _, _, _, _, _, _, hlen, hall⟩ := hs
  have hj' : j < xs.length := by omega
  have := List.all_eq_true.1 hall _ (List.getElem_mem hj')
  unfold contentB at this
  have := of_decide_eq_true this
  rw [List.getElem?_eq_getElem hj']
  have h3 : xs[j] = 0 ∨ xs[j] = 1 ∨ xs[j] = 2 := by omega
  rcases h3 with h | h | h <;> rw [h] <;> simp

theorem set_lt {R C : Nat} {r c : Int} {xs : List Int} (hs : Sides r c R C xs) (w : Int) : setL xs w < 2 ^ (R * C) := setL_lt w (by have := hs.2.2.2.2.2.2.2.1; omega)
theorem set_lt9 {R C : Nat} {r c : Int} {xs : List Int} (hs : Sides r c R C xs) (w : Int) : setL xs w < 2 ^ 9 := setL_lt w (by have := hs.2.2.2.2.2.2.2.1; have := hs.2.2.2.2.2.2.1; omega)

theorem set_in {R C : Nat} {r c : Int} {xs : List Int} (hs : Sides r c R C xs) {w : Int} {j : Nat} (h : (setL xs w).testBit j = true) : j < R * C := bit_small (set_lt hs w) h

theorem joinsL_eq {R C P : Nat} {xs : List Int} (hb : posB (R : Int) (C : Int) xs = true) (hP : P = 1 ∨ P = 2) : joinsL (R : Int) (C : Int) xs (P : Int) = joinsN R C P (setL xs (P : Int)) := by
  have hp : playerB (P : Int) = true := by rcases hP with rfl | rfl <;> rfl
  unfold joinsL
  rw [hb, hp]; rfl

/-! ### filled -/
/-! ### turned and mirrored -/
theorem moved_bit (f : Nat → Nat) (S : Nat) : ∀ (n j : Nat), (moved f S n).testBit j = true ↔ ∃ k, k < n ∧ S.testBit k = true ∧ j = f k
  | 0, j => by simp [moved]
  | n + 1, j => by
    rw [moved, Nat.testBit_or, Bool.or_eq_true, moved_bit f S n j]
    have hlast : ((if S.testBit n = true then 1 <<< f n else 0).testBit j = true) ↔ (S.testBit n = true ∧ j = f n) := by
      by_cases h : S.testBit n = true
      · rw [if_pos h, one_bit, decide_eq_true_iff]; simp [h]
      · rw [if_neg h, Nat.zero_testBit]; simp [h]
    rw [hlast]
    constructor
    · rintro (⟨k, h1, h2, h3⟩ | ⟨h1, h2⟩)
      · exact ⟨k, by omega, h2, h3⟩
      · exact ⟨n, by omega, h1, h2⟩
    · rintro ⟨k, h1, h2, h3⟩
      by_cases e : k = n
      · subst e; exact .inr ⟨h2, h3⟩
      · exact .inl ⟨k, by omega, h2, h3⟩

theorem swap_player {P : Nat} (hP : P = 1 ∨ P = 2) : swapI (P : Int) = ((3 - P : Nat) : Int) := by rcases hP with rfl | rfl <;> rfl

/-! ### gaps -/
/-- A stone more on a free cell. -/
theorem set_more {R C P : Nat} {r c : Int} {xs : List Int} (hs : Sides r c R C xs) (hP : P = 1 ∨ P = 2) {k : Nat} (hk : xs[k]? = some 0) : setL (xs.set k (P : Int)) (P : Int) = setL xs (P : Int) ||| (1 <<< k) ∧ setL (xs.set k (P : Int)) 0 = without (setL xs 0) k ∧ Sides r c R C (xs.set k (P : Int)) := by
  have hkl : k < xs.length := (List.getElem?_eq_some_iff.1 hk).1
  refine ⟨?_, ?_, ?_⟩
  · apply Nat.eq_of_testBit_eq
    intro j
    rw [with_bit, Bool.eq_iff_iff, Bool.or_eq_true, decide_eq_true_iff, setL_bit, setL_bit, List.getElem?_set]
    by_cases e : k = j
    · subst e; simp [hkl]
    · rw [if_neg e]
      constructor
      · exact .inl
      · rintro (h | h)
        · exact h
        · exact absurd h.symm e
  · apply Nat.eq_of_testBit_eq
    intro j
    rw [without_bit, Bool.eq_iff_iff, Bool.and_eq_true, decide_eq_true_iff, setL_bit, setL_bit, List.getElem?_set]
    by_cases e : k = j
    · subst e
      rcases hP with rfl | rfl <;> simp [hkl]
    · rw [if_neg e]
      exact ⟨fun h => ⟨h, fun h2 => e h2.symm⟩, fun h => h.1⟩
  · obtain ⟨a1, a2, a3, a4, a5, a6, a7, a8, a9⟩ := hs
    refine ⟨a1, a2, a3, a4, a5, a6, a7, by rw [List.length_set]; exact a8, ?_⟩
    rw [List.all_eq_true]
    intro x hx
    rcases List.mem_or_eq_of_mem_set hx with hx | rfl
    · exact List.all_eq_true.1 a9 x hx
    · rcases hP with rfl | rfl <;> rfl

/-! ### the cells that close a gap -/
end Go.Proofs.YtpaehbfknlpkbaeDoor

/- Who wins, told by the sets of both players' stones: what it is, that a stone more never harms, that to move never harms, and that turned and mirrored it is the same. No program text. -/
set_option maxRecDepth 20000
namespace Go.Proofs.YtpaehbfknlpkbaeDoor
open Go Go.Ip G

/-- A stone of the one to move. -/
def putA (t k a : Nat) : Nat := if t = 1 then a ||| (1 <<< k) else a
def putB (t k b : Nat) : Nat := if t = 1 then b else b ||| (1 <<< k)

def winF (R C : Nat) : Nat → Nat → Nat → Nat → Nat
  | 0, a, b, t => if joinsN R C 1 a = true then 1 else if joinsN R C 2 b = true then 2 else 3 - t
  | f + 1, a, b, t => if joinsN R C 1 a = true then 1 else if joinsN R C 2 b = true then 2 else
      if ((List.range (R * C)).any fun k => !(a ||| b).testBit k && decide (winF R C f (putA t k a) (putB t k b) (3 - t) = t)) = true then t else 3 - t

/-- The free cells. -/
def frN (n a b : Nat) : Nat := (List.range n).countP fun k => !(a ||| b).testBit k
def winN (R C a b t : Nat) : Nat := winF R C (R * C) a b t

theorem put_bit (t k a b j : Nat) : (putA t k a ||| putB t k b).testBit j = ((a ||| b).testBit j || decide (j = k)) := by
  unfold putA putB
  split
  · rw [Nat.testBit_or, with_bit, Nat.testBit_or]; cases a.testBit j <;> cases b.testBit j <;> simp
  · rw [Nat.testBit_or, with_bit, Nat.testBit_or, Bool.or_assoc]

theorem fr_put {n t k a b : Nat} (hk : k < n) (h : (a ||| b).testBit k = false) : frN n (putA t k a) (putB t k b) + 1 ≤ frN n a b := by
  refine countP_lt (c := k) (fun x _ hx => ?_) (List.mem_range.2 hk) (by show (!(a ||| b).testBit k) = true; rw [h]; rfl) (by show (!(putA t k a ||| putB t k b).testBit k) = false; rw [put_bit]; simp)
  rw [put_bit] at hx
  cases e : (a ||| b).testBit x with
  | false => rfl
  | true => rw [e] at hx; simp at hx

theorem fr_le (n a b : Nat) : frN n a b ≤ n := by
  have := List.countP_le_length (p := fun k => !(a ||| b).testBit k) (l := List.range n)
  rw [List.length_range] at this; exact this

theorem fr_zero {n a b : Nat} (h : frN n a b ≤ 0) {k : Nat} (hk : k < n) : (a ||| b).testBit k = true := by
  have h0 : frN n a b = 0 := by omega
  have := List.countP_eq_zero.1 h0 k (List.mem_range.2 hk)
  cases e : (a ||| b).testBit k with
  | true => rfl
  | false => rw [e] at this; exact (this rfl).elim

theorem winF_fuel {R C : Nat} : ∀ (f f' a b t : Nat), frN (R * C) a b ≤ f → frN (R * C) a b ≤ f' → winF R C f a b t = winF R C f' a b t
  | 0, 0, a, b, t, _, _ => rfl
  | 0, f' + 1, a, b, t, h, _ => by
    rw [winF, winF]
    have : ((List.range (R * C)).any fun k => !(a ||| b).testBit k && decide (winF R C f' (putA t k a) (putB t k b) (3 - t) = t)) = false := by
      rw [List.any_eq_false]
      intro k hk
      rw [fr_zero h (List.mem_range.1 hk)]; simp
    rw [this]; rfl
  | f + 1, 0, a, b, t, _, h => by
    rw [winF, winF]
    have : ((List.range (R * C)).any fun k => !(a ||| b).testBit k && decide (winF R C f (putA t k a) (putB t k b) (3 - t) = t)) = false := by
      rw [List.any_eq_false]
      intro k hk
      rw [fr_zero h (List.mem_range.1 hk)]; simp
    rw [this]; rfl
  | f + 1, f' + 1, a, b, t, h, h' => by
    rw [winF, winF]
    have : ((List.range (R * C)).any fun k => !(a ||| b).testBit k && decide (winF R C f (putA t k a) (putB t k b) (3 - t) = t)) = ((List.range (R * C)).any fun k => !(a ||| b).testBit k && decide (winF R C f' (putA t k a) (putB t k b) (3 - t) = t)) := by
      rw [Bool.eq_iff_iff, List.any_eq_true, List.any_eq_true]
      refine exists_congr fun k => and_congr_right fun hk => ?_
      rw [← Bool.eq_iff_iff]
      cases e : (a ||| b).testBit k with
      | true => rfl
      | false =>
        have := fr_put (t := t) (List.mem_range.1 hk) e
        rw [winF_fuel f f' (putA t k a) (putB t k b) (3 - t) (by omega) (by omega)]
    rw [this]

/-- What is asked of a position that nobody has won: is there a move after which the one to move wins? -/
def moveB (R C a b t : Nat) : Bool := (List.range (R * C)).any fun k => !(a ||| b).testBit k && decide (winN R C (putA t k a) (putB t k b) (3 - t) = t)

theorem winN_eq (R C a b t : Nat) : winN R C a b t = if joinsN R C 1 a = true then 1 else if joinsN R C 2 b = true then 2 else if moveB R C a b t = true then t else 3 - t := by
  have h1 : winN R C a b t = winF R C (R * C + 1) a b t := winF_fuel _ _ _ _ _ (fr_le _ _ _) (by have := fr_le (R * C) a b; omega)
  rw [h1, winF]; rfl

theorem moveB_iff {R C a b t : Nat} : moveB R C a b t = true ↔ ∃ k, k < R * C ∧ (a ||| b).testBit k = false ∧ winN R C (putA t k a) (putB t k b) (3 - t) = t := by
  unfold moveB
  rw [List.any_eq_true]
  constructor
  · rintro ⟨k, hk, h⟩
    rw [Bool.and_eq_true, decide_eq_true_eq] at h
    exact ⟨k, List.mem_range.1 hk, by simpa using h.1, h.2⟩
  · rintro ⟨k, hk, h1, h2⟩
    exact ⟨k, List.mem_range.2 hk, by rw [h1, h2]; simp⟩

theorem win_cases {R C a b t : Nat} (ht : t = 1 ∨ t = 2) : winN R C a b t = 1 ∨ winN R C a b t = 2 := by
  rw [winN_eq]
  repeat' split
  all_goals first | exact .inl rfl | exact .inr rfl | omega

/-- A position, by its two sets. -/
def Pos (R C a b : Nat) : Prop := a < 2 ^ (R * C) ∧ b < 2 ^ (R * C) ∧ ∀ j, a.testBit j = true → b.testBit j = true → False

theorem Pos.lt9 {R C a b : Nat} (hB : BoardOf R C) (h : Pos R C a b) : a < 2 ^ 9 ∧ b < 2 ^ 9 := by
  have : 2 ^ (R * C) ≤ 2 ^ 9 := Nat.pow_le_pow_right (by decide) hB.2.2.2.2
  exact ⟨Nat.lt_of_lt_of_le h.1 this, Nat.lt_of_lt_of_le h.2.1 this⟩

theorem Pos.put {R C a b t k : Nat} (h : Pos R C a b) (hk : k < R * C) (hf : (a ||| b).testBit k = false) : Pos R C (putA t k a) (putB t k b) := by
  rw [Nat.testBit_or, Bool.or_eq_false_iff] at hf
  have hl : 1 <<< k < 2 ^ (R * C) := by rw [Nat.one_shiftLeft]; exact Nat.pow_lt_pow_right (by decide) hk
  unfold putA putB
  split
  · refine ⟨Nat.or_lt_two_pow h.1 hl, h.2.1, fun j h1 h2 => ?_⟩
    rw [with_bit, Bool.or_eq_true, decide_eq_true_eq] at h1
    rcases h1 with h1 | rfl
    · exact h.2.2 j h1 h2
    · rw [hf.2] at h2; cases h2
  · refine ⟨h.1, Nat.or_lt_two_pow h.2.1 hl, fun j h1 h2 => ?_⟩
    rw [with_bit, Bool.or_eq_true, decide_eq_true_eq] at h2
    rcases h2 with h2 | rfl
    · exact h.2.2 j h1 h2
    · rw [hf.1] at h1; cases h1

/-- Never have both joined. -/
theorem Pos.both {R C a b : Nat} (hB : BoardOf R C) (h : Pos R C a b) (h1 : joinsN R C 1 a = true) : joinsN R C 2 b = false := by
  cases e : joinsN R C 2 b with
  | false => rfl
  | true =>
    have l9 := h.lt9 hB
    have hc : 2 ^ (R * C) - 1 - a < 2 ^ 9 := by
      have : 2 ^ (R * C) ≤ 2 ^ 9 := Nat.pow_le_pow_right (by decide) hB.2.2.2.2
      omega
    have h2 := joins_mono (P := 2) l9.2 hc (fun j hj => by
      rw [compl_bit h.1]
      have hjn := bit_small h.2.1 hj
      cases ea : a.testBit j with
      | false => simp [hjn]
      | true => exact (h.2.2 j ea hj).elim) e
    have h3 := hex hB (.inl rfl) h.1
    rw [h1, show 3 - 1 = 2 from rfl, h2] at h3
    cases h3

/-- If nobody has joined there is a free cell. -/
theorem Pos.free {R C a b : Nat} (hB : BoardOf R C) (h : Pos R C a b) (h1 : joinsN R C 1 a = false) (h2 : joinsN R C 2 b = false) : ∃ k, k < R * C ∧ (a ||| b).testBit k = false := by
  apply Classical.byContradiction
  intro hn
  have hall : ∀ k, k < R * C → (a ||| b).testBit k = true := fun k hk => by
    cases e : (a ||| b).testBit k with
    | true => rfl
    | false => exact (hn ⟨k, hk, e⟩).elim
  have hb : 2 ^ (R * C) - 1 - a = b := by
    apply Nat.eq_of_testBit_eq
    intro j
    rw [compl_bit h.1]
    by_cases hj : j < R * C
    · have := hall j hj
      rw [Nat.testBit_or, Bool.or_eq_true] at this
      cases ea : a.testBit j with
      | true =>
        cases eb : b.testBit j with
        | false => simp
        | true => exact (h.2.2 j ea eb).elim
      | false =>
        rw [ea] at this
        simp at this
        simp [hj, this]
    · cases eb : b.testBit j with
      | true => exact (hj (bit_small h.2.1 eb)).elim
      | false => simp [hj]
  have h3 := hex hB (.inl rfl) h.1
  rw [show 3 - 1 = 2 from rfl, hb, h1, h2] at h3
  cases h3

theorem win_first {R C a b t : Nat} (h : joinsN R C 1 a = true) : winN R C a b t = 1 := by rw [winN_eq, if_pos h]
theorem win_second {R C a b t : Nat} (hB : BoardOf R C) (hp : Pos R C a b) (h : joinsN R C 2 b = true) : winN R C a b t = 2 := by
  rw [winN_eq, if_neg, if_pos h]
  intro h1; rw [hp.both hB h1] at h; cases h
theorem win_open {R C a b t : Nat} (h1 : joinsN R C 1 a = false) (h2 : joinsN R C 2 b = false) : winN R C a b t = if moveB R C a b t = true then t else 3 - t := by
  rw [winN_eq, if_neg (by rw [h1]; decide), if_neg (by rw [h2]; decide)]

/-! ### turned and mirrored -/
/-- Each place is taken by just one. -/
structure Perm (f : Nat → Nat) (n : Nat) : Prop where
  lt : ∀ k, k < n → f k < n
  inj : ∀ i k, i < n → k < n → f i = f k → i = k
  onto : ∀ j, j < n → ∃ k, k < n ∧ f k = j

theorem moved_at {f : Nat → Nat} {S n k : Nat} (hf : Perm f n) (hk : k < n) : (moved f S n).testBit (f k) = S.testBit k := by
  rw [Bool.eq_iff_iff, moved_bit]
  constructor
  · rintro ⟨i, hi, h, e⟩
    rw [hf.inj k i hk hi e]; exact h
  · intro h; exact ⟨k, hk, h, rfl⟩

theorem moved_lt {f : Nat → Nat} {S n : Nat} (hf : Perm f n) : moved f S n < 2 ^ n := by
  apply Nat.lt_pow_two_of_testBit
  intro i hi
  cases e : (moved f S n).testBit i with
  | false => rfl
  | true =>
    obtain ⟨k, hk, _, rfl⟩ := (moved_bit f S n i).1 e
    have := hf.lt k hk
    omega

theorem Pos.moved {R C R' C' a b : Nat} {f : Nat → Nat} (hn : R' * C' = R * C) (hf : Perm f (R * C)) (h : Pos R C a b) : Pos R' C' (moved f a (R * C)) (moved f b (R * C)) := by
  refine ⟨by rw [hn]; exact moved_lt hf, by rw [hn]; exact moved_lt hf, fun j h1 h2 => ?_⟩
  obtain ⟨i, hi, ha, rfl⟩ := (moved_bit _ _ _ _).1 h1
  rw [moved_at hf hi] at h2
  exact h.2.2 i ha h2

end Go.Proofs.YtpaehbfknlpkbaeDoor

/- Rules to walk through a function's plain form with what is to hold in the end: binds, conditions, guards, comparisons, numbers, calls and loops. -/
set_option maxRecDepth 20000
namespace Go.Proofs.YtpaehbfknlpkbaeDoor
open Go Go.Ip G

/-- The result is there, and Q holds of it. -/
def W (x : Res) (Q : PV → PHeap → Prop) : Prop := ∃ v h', x = some (v, h') ∧ Q v h'

section
variable {α : Type} {Q Q' : PV → PHeap → Prop} {P : Program} {t : TypeId} {k : IntKind}

theorem W.ret {v : PV} {h : PHeap} (hq : Q v h) : W (some (v, h)) Q := ⟨v, h, rfl, hq⟩
theorem W.mono {x : Res} (hx : W x Q') (hf : ∀ v h, Q' v h → Q v h) : W x Q := by
  obtain ⟨v, h, e, q⟩ := hx; exact ⟨v, h, e, hf v h q⟩
theorem W.of {x : Res} {v : PV} {h : PHeap} (hx : x = some (v, h)) (hq : Q v h) : W x Q := ⟨v, h, hx, hq⟩
theorem wbd {x : Option α} {v : α} {f : α → Res} (hx : x = some v) (hf : W (f v) Q) : W (x.bind f) Q := by rw [hx]; exact hf
theorem wcall {x : Res} {f : PV × PHeap → Res} (hx : W x Q') (hf : ∀ v h, Q' v h → W (f (v, h)) Q) : W (x.bind f) Q := by
  obtain ⟨v, h, e, q⟩ := hx; rw [e]; exact hf v h q
theorem wT {x y : Res} (h : W x Q) : W (condP (.bool true) x y) Q := h
theorem wF {x y : Res} (h : W y Q) : W (condP (.bool false) x y) Q := h
theorem wg1 {b u : Bool} {x y : Option α} {f : α → Res} (hb : b = u) (hx : W (x.bind f) Q) : W ((wantV (.bool b) u).bind fun v => (bif v then x else y).bind f) Q := by
  subst hb; simpa using hx
theorem wg0 {b u : Bool} {x y : Option α} {f : α → Res} (hb : b = !u) (hy : W (y.bind f) Q) : W ((wantV (.bool b) u).bind fun v => (bif v then x else y).bind f) Q := by
  subst hb; cases u <;> simpa using hy
theorem wpT {u v : PV} {f : PV → Res} (h : W (f u) Q) : W ((pickP (.bool true) u v).bind f) Q := h
theorem wpF {u v : PV} {f : PV → Res} (h : W (f v) Q) : W ((pickP (.bool false) u v).bind f) Q := h
theorem wnT {f : PV → Res} (h : W (f (.bool false)) Q) : W ((unP .not (.bool true)).bind f) Q := h
theorem wnF {f : PV → Res} (h : W (f (.bool true)) Q) : W ((unP .not (.bool false)).bind f) Q := h
theorem wpv {x : Option PV} {h : PHeap} {f : PV × PHeap → Res} (hx : W (x.bind fun v => f (v, h)) Q) : W ((pv h x).bind f) Q := by
  cases x <;> exact hx
theorem wsm {v : α} {f : α → Res} (h : W (f v) Q) : W ((some v).bind f) Q := h
theorem wrI {a : Int} {f : PV → Res} (h : W (f (.int k a)) Q) : W ((resV (.int k a)).bind f) Q := h
theorem wrB {a : Bool} {f : PV → Res} (h : W (f (.bool a)) Q) : W ((resV (.bool a)).bind f) Q := h
theorem wrN {f : PV → Res} (h : W (f .nilsl) Q) : W ((resV .nilsl).bind f) Q := h
theorem wrP {i o : Nat} {f : PV → Res} (h : W (f (.ptr i o)) Q) : W ((resV (.ptr i o)).bind f) Q := h
theorem wx0 {a : PV} {l : List PV} {f : PV → Res} (h : W (f a) Q) : W ((extractP (.tup (a :: l)) 0).bind f) Q := h
theorem wx1 {a b : PV} {l : List PV} {f : PV → Res} (h : W (f b) Q) : W ((extractP (.tup (a :: b :: l)) 1).bind f) Q := h
theorem wck {b : Bool} {x : Res} (hb : b = true) (h : W x Q) : W (ckP b x) Q := by rw [hb]; exact h
theorem wptr {i o : Nat} {f : PV → Res} (h : W (f (.ptr i o)) Q) : W ((ptrP (.ptr i o)).bind f) Q := h

/-! ### comparisons -/
section
variable {a b : Int} {f : PV → Res}
theorem wlssT (h : a < b) (hf : W (f (.bool true)) Q) : W ((binP P .lss t (.int k a) (.int k b)).bind f) Q := wbd (by rw [bin_lss, decide_eq_true h]) hf
theorem wlssF (h : ¬ a < b) (hf : W (f (.bool false)) Q) : W ((binP P .lss t (.int k a) (.int k b)).bind f) Q := wbd (by rw [bin_lss, decide_eq_false h]) hf
theorem wleqT (h : a ≤ b) (hf : W (f (.bool true)) Q) : W ((binP P .leq t (.int k a) (.int k b)).bind f) Q := wbd (by rw [bin_leq, decide_eq_true h]) hf
theorem wleqF (h : ¬ a ≤ b) (hf : W (f (.bool false)) Q) : W ((binP P .leq t (.int k a) (.int k b)).bind f) Q := wbd (by rw [bin_leq, decide_eq_false h]) hf
theorem wgtrT (h : b < a) (hf : W (f (.bool true)) Q) : W ((binP P .gtr t (.int k a) (.int k b)).bind f) Q := wbd (by rw [bin_gtr, decide_eq_true h]) hf
theorem wgtrF (h : ¬ b < a) (hf : W (f (.bool false)) Q) : W ((binP P .gtr t (.int k a) (.int k b)).bind f) Q := wbd (by rw [bin_gtr, decide_eq_false h]) hf
theorem weqlT (h : a = b) (hf : W (f (.bool true)) Q) : W ((binP P .eql t (.int k a) (.int k b)).bind f) Q := wbd (by rw [bin_eql, beq_iff_eq.2 h]) hf
theorem weqlF (h : ¬ a = b) (hf : W (f (.bool false)) Q) : W ((binP P .eql t (.int k a) (.int k b)).bind f) Q := wbd (by rw [bin_eql, beq_eq_false_iff_ne.2 h]) hf
theorem wneqT (h : ¬ a = b) (hf : W (f (.bool true)) Q) : W ((binP P .neq t (.int k a) (.int k b)).bind f) Q := wbd (by rw [bin_neq, bne, beq_eq_false_iff_ne.2 h]; rfl) hf
theorem wneqF (h : a = b) (hf : W (f (.bool false)) Q) : W ((binP P .neq t (.int k a) (.int k b)).bind f) Q := wbd (by rw [bin_neq, bne, beq_iff_eq.2 h]; rfl) hf
theorem wgtr (h1 : b < a → W (f (.bool true)) Q) (h2 : ¬ b < a → W (f (.bool false)) Q) : W ((binP P .gtr t (.int k a) (.int k b)).bind f) Q := by
  by_cases e : b < a
  · exact wgtrT e (h1 e)
  · exact wgtrF e (h2 e)
theorem weql (h1 : a = b → W (f (.bool true)) Q) (h2 : ¬ a = b → W (f (.bool false)) Q) : W ((binP P .eql t (.int k a) (.int k b)).bind f) Q := by
  by_cases e : a = b
  · exact weqlT e (h1 e)
  · exact weqlF e (h2 e)
theorem wneq (h1 : ¬ a = b → W (f (.bool true)) Q) (h2 : a = b → W (f (.bool false)) Q) : W ((binP P .neq t (.int k a) (.int k b)).bind f) Q := by
  by_cases e : a = b
  · exact wneqF e (h2 e)
  · exact wneqT e (h1 e)
end

/-! ### numbers -/
section
variable {a b : Int} {x y : Nat} {f : PV → Res}
theorem wadd (h : -4611686018427387904 ≤ a + b ∧ a + b ≤ 4611686018427387904) (hf : W (f (.int .i64 (a + b))) Q) : W ((binP P .add t (.int .i64 a) (.int .i64 b)).bind f) Q := wbd (by rw [bin_add, wr (by omega)]) hf
theorem wsub (h : -4611686018427387904 ≤ a - b ∧ a - b ≤ 4611686018427387904) (hf : W (f (.int .i64 (a - b))) Q) : W ((binP P .sub t (.int .i64 a) (.int .i64 b)).bind f) Q := wbd (by rw [bin_sub, wr (by omega)]) hf
theorem wmul (h : -4611686018427387904 ≤ a * b ∧ a * b ≤ 4611686018427387904) (hf : W (f (.int .i64 (a * b))) Q) : W ((binP P .mul t (.int .i64 a) (.int .i64 b)).bind f) Q := wbd (by rw [bin_mul, wr (by omega)]) hf
theorem wadd1 (h : x < 4611686018427387904) (hf : W (f (.int .i64 ((x + 1 : Nat) : Int))) Q) : W ((binP P .add t (.int .i64 (x : Int)) (.int .i64 1)).bind f) Q := wbd (by rw [bin_add, wr (by omega)]; rfl) hf
theorem wsub1 (h : 1 ≤ x) (h2 : x < 4611686018427387904) (hf : W (f (.int .i64 ((x - 1 : Nat) : Int))) Q) : W ((binP P .sub t (.int .i64 (x : Int)) (.int .i64 1)).bind f) Q := wbd (by rw [bin_sub, wr (by omega), show (x : Int) - 1 = ((x - 1 : Nat) : Int) by omega]) hf
theorem wmulN (h : x * y < 4611686018427387904) (hf : W (f (.int .i64 ((x * y : Nat) : Int))) Q) : W ((binP P .mul t (.int .i64 (x : Int)) (.int .i64 (y : Int))).bind f) Q := wbd (by rw [bin_mul, ← Int.natCast_mul, wr (by omega)]) hf
end
end

section
variable {Q : PV → PHeap → Prop} {x y : Nat} {f : PV → Res}
theorem wquoN (h : 1 ≤ y) (h2 : x < 4611686018427387904) (hf : W (f (.int .i64 ((x / y : Nat) : Int))) Q) : W ((binP Tryd.prog .quo 3 (.int .i64 (x : Int)) (.int .i64 (y : Int))).bind f) Q :=
  wbd (by rw [bin_quo (by omega), ← Int.ofNat_tdiv, wr (by have := Nat.div_le_self x y; generalize x / y = z at this ⊢; omega)]) hf
theorem wremN (h : 1 ≤ y) (hf : W (f (.int .i64 ((x % y : Nat) : Int))) Q) : W ((binP Tryd.prog .rem 3 (.int .i64 (x : Int)) (.int .i64 (y : Int))).bind f) Q := wbd (f_rem x y h) hf
theorem wrem2 (hf : W (f (.int .i64 ((x % 2 : Nat) : Int))) Q) : W ((binP Tryd.prog .rem 3 (.int .i64 (x : Int)) (.int .i64 2)).bind f) Q := wbd (f_rem x 2 (by decide)) hf
theorem wshl (h : y ≤ 30) (hf : W (f (.int .i64 ((1 <<< y : Nat) : Int))) Q) : W ((binP Tryd.prog .shl 3 (.int .i64 1) (.int .i64 (y : Int))).bind f) Q := wbd (f_shl y h) hf
theorem wshr (h : y ≤ 60) (hf : W (f (.int .i64 ((x >>> y : Nat) : Int))) Q) : W ((binP Tryd.prog .shr 3 (.int .i64 (x : Int)) (.int .i64 (y : Int))).bind f) Q := wbd (f_shr x y h) hf
theorem wand (hx : x < 2 ^ 62) (hy : y < 2 ^ 62) (hf : W (f (.int .i64 ((x &&& y : Nat) : Int))) Q) : W ((binP Tryd.prog .and 3 (.int .i64 (x : Int)) (.int .i64 (y : Int))).bind f) Q := wbd (f_and hx hy) hf
theorem wor (hx : x < 2 ^ 62) (hy : y < 2 ^ 62) (hf : W (f (.int .i64 ((x ||| y : Nat) : Int))) Q) : W ((binP Tryd.prog .or 3 (.int .i64 (x : Int)) (.int .i64 (y : Int))).bind f) Q := wbd (f_or hx hy) hf

/-- What is in x, and not in y. -/
def minusN (x y : Nat) : Nat := x ^^^ (x &&& y)
theorem minusN_bit (x y j : Nat) : (minusN x y).testBit j = (x.testBit j && !y.testBit j) := by
  unfold minusN; rw [Nat.testBit_xor, Nat.testBit_and]; cases x.testBit j <;> cases y.testBit j <;> rfl
theorem minusN_lt {x y n : Nat} (hx : x < 2 ^ n) : minusN x y < 2 ^ n := Nat.lt_of_le_of_lt (sub_le fun j hj => by rw [minusN_bit, Bool.and_eq_true] at hj; exact hj.1) hx
theorem minusN_one (x k : Nat) : minusN x (1 <<< k) = without x k := rfl

theorem f_andNot (hx : x < 2 ^ 62) (hy : y < 2 ^ 62) : binP Tryd.prog .andNot 3 (.int .i64 (x : Int)) (.int .i64 (y : Int)) = some (.int .i64 ((minusN x y : Nat) : Int)) := by
  have e1 : BitVec.ofInt 64 (x : Int) = BitVec.ofNat 64 x := by rw [BitVec.ofInt_natCast]
  have e2 : BitVec.ofInt 64 (y : Int) = BitVec.ofNat 64 y := by rw [BitVec.ofInt_natCast]
  have e3 : (BitVec.ofNat 64 x &&& ~~~(BitVec.ofNat 64 y)).toNat = minusN x y := by
    apply Nat.eq_of_testBit_eq
    intro j
    rw [minusN_bit, ← BitVec.getLsbD, BitVec.getLsbD_and, BitVec.getLsbD_not, BitVec.getLsbD_ofNat, BitVec.getLsbD_ofNat]
    by_cases hj : j < 64
    · simp [hj]
    · have : x.testBit j = false := Nat.testBit_lt_two_pow (Nat.lt_of_lt_of_le hx (Nat.pow_le_pow_right (by decide) (by omega)))
      simp [hj, this]
  show binI .andNot .i64 (x : Int) (y : Int) = _
  have hl : minusN x y < 2 ^ 62 := minusN_lt hx
  show some (PV.int .i64 (IntKind.i64.wrap ((BitVec.ofInt 64 (x : Int) &&& ~~~(BitVec.ofInt 64 (y : Int))).toNat))) = _
  rw [e1, e2, e3, wr (by omega)]
theorem wandNot (hx : x < 2 ^ 62) (hy : y < 2 ^ 62) (hf : W (f (.int .i64 ((minusN x y : Nat) : Int))) Q) : W ((binP Tryd.prog .andNot 3 (.int .i64 (x : Int)) (.int .i64 (y : Int))).bind f) Q := wbd (f_andNot hx hy) hf

/-! ### slices of integers -/
variable {h : PHeap} {p : PV} {xs : List Int}
theorem wlen (s : IntSl .i64 h p xs) (hf : W (f (.int .i64 (xs.length : Int))) Q) : W ((lenP Tryd.prog 22 p).bind f) Q := wbd s.len' hf
/-- An element is read. -/
theorem wat (s : IntSl .i64 h p xs) {i : Nat} (hi : i < xs.length) (hf : ∀ a, loadP Tryd.prog 3 a h = some (.int .i64 xs[i]) → W (f a) Q) : W ((indexAddrP Tryd.prog 22 p (.int .i64 (i : Int))).bind f) Q := by
  obtain ⟨a, e, l⟩ := s.at' hi; exact wbd e (hf a l)
theorem wresO {n : Nat} (s : OwnSl n h p xs) (hf : W (f p) Q) : W ((resV p).bind f) Q := wbd s.res hf
/-- An element is written. -/
theorem wst {n i : Nat} (s : OwnSl n h p xs) (hi : i < xs.length) {x : Int} {F : PV → PHeap → Res}
    (hf : ∀ h', OwnSl n h' p (xs.set i x) → Keep n h h' → h'.length = h.length → ∀ a, storeP Tryd.prog 3 a (.int .i64 x) h = some h' → W (F a h') Q) :
    W ((indexAddrP Tryd.prog 22 p (.int .i64 (i : Int))).bind fun a => (storeP Tryd.prog 3 a (.int .i64 x) h).bind fun h' => F a h') Q := by
  obtain ⟨a, h', e1, e2, o, k, l⟩ := s.store hi x
  refine wbd e1 ?_
  show W ((storeP Tryd.prog 3 a (.int .i64 x) h).bind fun h' => F a h') Q
  exact wbd e2 (hf h' o k l a e2)
/-- One element is appended. -/
theorem wap {n : Nat} (s : OwnSl n h p xs) (hn : n ≤ h.length) {x : Int} (hl : xs.length + 1 ≤ 2 ^ 36) {F : PV × PHeap → Res}
    (hf : ∀ p' h', OwnSl n h' p' (xs ++ [x]) → Keep n h h' → W (F (p', h')) Q) :
    W ((buildSliceP Tryd.prog 22 1 [(0, .int .i64 x)] h).bind fun v => (appendP Tryd.prog 22 22 p v.1 v.2).bind F) Q := by
  obtain ⟨v, p', h', e1, e2, o, k⟩ := s.append hn x hl
  exact wbd e1 (wbd e2 (hf p' h' o k))
/-- A slice is made. -/
theorem wmake {m : Nat} (hm : m ≤ 2 ^ 36) {F : PV × PHeap → Res} (hf : ∀ p h', OwnSl h.length h' p (List.replicate m 0) → Keep h.length h h' → W (F (p, h')) Q) :
    W ((makeP Tryd.prog 22 (.int .i64 (m : Int)) (.int .i64 (m : Int)) h).bind F) Q := by
  obtain ⟨p, h', e, o, k⟩ := made (h := h) hm; exact wbd e (hf p h' o k)
theorem wempty {F : PV × PHeap → Res} (hf : ∀ p h', OwnSl h.length h' p [] → Keep h.length h h' → W (F (p, h')) Q) : W ((buildSliceP Tryd.prog 22 0 [] h).bind F) Q := by
  obtain ⟨p, h', e, o, k⟩ := empty_lit (h := h); exact wbd e (hf p h' o k)
end

/-! ### loops -/
theorem loopW {f : St → (PX → St → Res) → Res} {k : PX → St → Res} {Q : PV → PHeap → Prop} (I : Nat → St → Prop)
    (step : ∀ n m s, I m s → (∀ m' s', m' < m → I m' s' → W (kLoop f n k .normal s') Q) → W (f s (kLoop f n k)) Q) : ∀ (fuel m : Nat) (s : St), m < fuel → I m s → W (loopK f fuel s k) Q
  | 0, m, s, hm, _ => by omega
  | n + 1, m, s, hm, hI => by
    rw [loopK_succ]
    exact step n m s hI fun m' s' hm' hI' => by rw [kLoop_normal]; exact loopW I step n m' s' (by omega) hI'

/-- A list that whatever changes behind mark b leaves as it is. -/
def Fix (b : Nat) (h : PHeap) (p : PV) (xs : List Int) : Prop := ∀ h', Keep b h h' → IntSl .i64 h' p xs
theorem Fix.now {b : Nat} {h : PHeap} {p : PV} {xs : List Int} (s : Fix b h p xs) : IntSl .i64 h p xs := s h (Keep.refl _ _)
theorem Fix.keep {b : Nat} {h h' : PHeap} {p : PV} {xs : List Int} (s : Fix b h p xs) (k : Keep b h h') : Fix b h' p xs := fun h2 k2 => s h2 (k.trans k2)
theorem IntSl.fix {h : PHeap} {p : PV} {xs : List Int} (s : IntSl .i64 h p xs) : Fix h.length h p xs := fun _ k => s.keep k
theorem Fix.mono {b b' : Nat} {h : PHeap} {p : PV} {xs : List Int} (s : Fix b h p xs) (hb : b ≤ b') : Fix b' h p xs := fun h2 k2 => s h2 (k2.mono hb)

end Go.Proofs.YtpaehbfknlpkbaeDoor

/- The laws of chapter 2 over what the program's functions are asked to compute: the draws, the exact laws, and promise 9. -/
set_option maxRecDepth 20000
namespace Go.Proofs.YtpaehbfknlpkbaeDoor
open Go Go.Ip G

def TabT (g : Nat → PV) (h : PHeap) : Prop := Tab64 g h
theorem TabT.keep {g : Nat → PV} {h h' : PHeap} (t : TabT g h) (k : Keep h.length h h') : TabT g h' := Tab64.keep t k
def TabOk (g : Nat → PV) (h : PHeap) : Prop := Tab g h ∧ Tab64 g h
theorem TabOk.keep {g : Nat → PV} {h h' : PHeap} (t : TabOk g h) (k : Keep h.length h h') : TabOk g h' := ⟨Tab.keep t.1 k, Tab64.keep t.2 k⟩

variable (g : Nat → PV) (lf n : Nat)

/-! ### the exact laws -/
/-! ### the draws -/
end Go.Proofs.YtpaehbfknlpkbaeDoor

/- Promises 11, 12, 13 and 14 over what the program's functions are asked to compute. -/
set_option maxRecDepth 20000
namespace Go.Proofs.YtpaehbfknlpkbaeDoor
open Go Go.Ip G

/-! ### more facts on positions -/
theorem pos_set {R C P : Nat} {xs : List Int} (hb : posB (R : Int) (C : Int) xs = true) (hP : P = 1 ∨ P = 2) (k : Nat) : posB (R : Int) (C : Int) (xs.set k (P : Int)) = true := by
  unfold posB at hb ⊢
  rw [List.length_set]
  rw [Bool.and_eq_true] at hb ⊢
  refine ⟨hb.1, ?_⟩
  rw [List.all_eq_true]
  intro x hx
  rcases List.mem_or_eq_of_mem_set hx with hx | rfl
  · exact List.all_eq_true.1 hb.2 x hx
  · rcases hP with rfl | rfl <;> rfl

variable (g : Nat → PV) (lf n : Nat)

/-! ### promise 12 -/
end Go.Proofs.YtpaehbfknlpkbaeDoor

/- Promises 13 and 14 over what the program's functions are asked to compute. -/
set_option maxRecDepth 20000
namespace Go.Proofs.YtpaehbfknlpkbaeDoor
open Go Go.Ip G

/-! ### the cells that close a gap -/
variable (g : Nat → PV) (lf n : Nat)

/-! ### gaps of free boards, and mirrored -/
end Go.Proofs.YtpaehbfknlpkbaeDoor

/- Promises 10 and 15 over what the program's functions are asked to compute. -/
set_option maxRecDepth 20000
namespace Go.Proofs.YtpaehbfknlpkbaeDoor
open Go Go.Ip G

/-! ### lists of sets -/
theorem listFrom_mem (S : Nat) (e : Int) : ∀ (m k : Nat), e ∈ listFrom S m k ↔ ∃ j : Nat, e = (j : Int) ∧ k ≤ j ∧ j < k + m ∧ S.testBit j = true
  | 0, k => by
    rw [listFrom]
    constructor
    · intro h; simp at h
    · rintro ⟨j, _, h1, h2, _⟩; omega
  | m + 1, k => by
    have ih := listFrom_mem S e m (k + 1)
    rw [listFrom]
    by_cases hb : S >>> k % 2 = 1
    · rw [if_pos hb, List.mem_cons, ih]
      constructor
      · rintro (h | ⟨j, h1, h2, h3, h4⟩)
        · exact ⟨k, h, Nat.le_refl _, by omega, (bit_iff S k).1 hb⟩
        · exact ⟨j, h1, by omega, by omega, h4⟩
      · rintro ⟨j, h1, h2, h3, h4⟩
        by_cases e2 : j = k
        · exact .inl (by rw [h1, e2])
        · exact .inr ⟨j, h1, by omega, by omega, h4⟩
    · rw [if_neg hb, ih]
      constructor
      · rintro ⟨j, h1, h2, h3, h4⟩
        exact ⟨j, h1, by omega, by omega, h4⟩
      · rintro ⟨j, h1, h2, h3, h4⟩
        by_cases e2 : j = k
        · subst e2; exact absurd ((bit_iff S j).2 h4) hb
        · exact ⟨j, h1, by omega, by omega, h4⟩

theorem listN_mem {S : Nat} (hS : S < 2 ^ 9) (e : Int) : e ∈ listN S ↔ ∃ j : Nat, e = (j : Int) ∧ S.testBit j = true := by
  unfold listN
  rw [listFrom_mem]
  constructor
  · rintro ⟨j, h1, _, _, h4⟩; exact ⟨j, h1, h4⟩
  · rintro ⟨j, h1, h4⟩; exact ⟨j, h1, Nat.zero_le _, by have := bit_small hS h4; omega, h4⟩

/-! ### masks -/
def maskOkB (R C : Nat) : Bool :=
  (masksN R C).all (fun m => decide (m < 2 ^ (R * C))) && ((List.range (R * C)).all fun k => (List.range (R * C)).all fun j =>
    (((masksN R C).getD k 0).testBit j == ((masksN R C).getD j 0).testBit k) && (((masksN R C).getD k 0).testBit j == decide ((j : Int) ∈ nearN R C k)))
theorem maskOk_all : (boards.all fun b => maskOkB b.1 b.2) = true := by kernel_rfl

theorem adj_in {R C k j : Nat} (hB : BoardOf R C) (h : Adj (masksN R C) k j) : k < R * C ∧ j < R * C := by
  unfold Adj at h
  have hk : k < (masksN R C).length := by
    rcases Nat.lt_or_ge k (masksN R C).length with hlt | hge
    · exact hlt
    · rw [List.getD_eq_getElem?_getD, List.getElem?_eq_none hge] at h
      simp at h
  have hm := List.all_eq_true.1 maskOk_all (R, C) (board_mem hB)
  unfold maskOkB at hm
  rw [Bool.and_eq_true] at hm
  rw [List.getD_eq_getElem?_getD, List.getElem?_eq_getElem hk] at h
  have := List.all_eq_true.1 hm.1 _ (List.getElem_mem hk)
  have := of_decide_eq_true this
  exact ⟨by rw [masksN_length] at hk; exact hk, bit_small this h⟩

/-! ### groups -/
variable (g : Nat → PV) (lf n : Nat)

theorem loadAt {xs : List Int} {p a : PV} {h : PHeap} {i : Nat} (hp : IntSl .i64 h p xs) (hi : i < xs.length) (ha : indexAddrP Tryd.prog 22 p (.int .i64 (i : Int)) = some a) : loadP Tryd.prog 3 a h = some (.int .i64 xs[i]) := by
  obtain ⟨a', ha', hla⟩ := hp.at' hi
  obtain rfl : a = a' := Option.some.inj (ha.symm.trans ha')
  exact hla

end Go.Proofs.YtpaehbfknlpkbaeDoor

/- Promise 15 over what the program's functions are asked to compute. -/
set_option maxRecDepth 20000
namespace Go.Proofs.YtpaehbfknlpkbaeDoor
open Go Go.Ip G

/-! ### sides -/
variable (g : Nat → PV) (lf n : Nat)

end Go.Proofs.YtpaehbfknlpkbaeDoor

/- What chapter 3's functions tell of a position (moveL, playedL, winL, winCellsL, lineL), and what holds of them. No program text. -/
set_option maxRecDepth 20000
namespace Go.Proofs.YtpaehbfknlpkbaeDoor
open Go Go.Ip G

def moveL (r c : Int) (xs : List Int) (k pl : Int) : Bool := posB r c xs && playerB pl && decide (0 ≤ k ∧ k < (xs.length : Int)) && decide (xs.getD k.toNat 0 = 0) && !joinsL r c xs 1 && !joinsL r c xs 2
def playedL (r c : Int) (xs : List Int) (k pl : Int) : List Int := if moveL r c xs k pl = true then xs.set k.toNat pl else []
def winL (r c : Int) (xs : List Int) (t : Int) : Int := if (posB r c xs && playerB t) = true then ((winN r.toNat c.toNat (setL xs 1) (setL xs 2) t.toNat : Nat) : Int) else 0
def winsB (r c : Int) (xs : List Int) (pl : Int) (k : Nat) : Bool := moveL r c xs (k : Int) pl && decide (winL r c (xs.set k pl) (3 - pl) = pl)
def winCellsL (r c : Int) (xs : List Int) (pl : Int) : List Int := ((List.range xs.length).filter (winsB r c xs pl)).map fun k : Nat => (k : Int)
def goB (r c : Int) (xs : List Int) : Bool := !decide (setL xs 0 = 0) && !joinsL r c xs 1 && !joinsL r c xs 2
def stepL (r c : Int) (xs : List Int) (t : Int) : Int := (winCellsL r c xs t).headD ((listN (setL xs 0)).headD 0)
def lineF (r c : Int) : Nat → List Int → Int → List Int
  | 0, _, _ => []
  | f + 1, xs, t => if goB r c xs = true then stepL r c xs t :: lineF r c f (xs.set (stepL r c xs t).toNat t) (3 - t) else []
def lineL (r c : Int) (xs : List Int) (t : Int) : List Int := if (posB r c xs && playerB t) = true then lineF r c xs.length xs t else []

/-! ### none -/
theorem playerB_of {P : Nat} (hP : P = 1 ∨ P = 2) : playerB (P : Int) = true := by rcases hP with rfl | rfl <;> rfl
theorem playerB_none {pl : Int} (h : 2 < pl) : playerB pl = false := by unfold playerB; exact decide_eq_false (by omega)
theorem lineL_none {r c : Int} {xs : List Int} {pl : Int} (h : posB r c xs = false ∨ 2 < pl) : lineL r c xs pl = [] := by
  unfold lineL
  rw [if_neg]
  rcases h with h | h
  · rw [h]; simp
  · rw [playerB_none h]; simp
theorem lineF_length (r c : Int) : ∀ (f : Nat) (xs : List Int) (t : Int), (lineF r c f xs t).length ≤ f
  | 0, _, _ => Nat.le_refl _
  | f + 1, xs, t => by
    rw [lineF]; split
    · have := lineF_length r c f (xs.set (stepL r c xs t).toNat t) (3 - t)
      rw [List.length_cons]; omega
    · exact Nat.zero_le _
theorem lineL_length (r c : Int) (xs : List Int) (t : Int) : (lineL r c xs t).length ≤ xs.length := by
  unfold lineL; split
  · exact lineF_length ..
  · exact Nat.zero_le _
/-! ### sets -/
section
variable {R C : Nat} {xs : List Int} (hb : posB (R : Int) (C : Int) xs = true) (hS : Sides (R : Int) (C : Int) R C xs)
include hS
theorem pos_sets : Pos R C (setL xs 1) (setL xs 2) :=
  ⟨set_lt hS 1, set_lt hS 2, fun j h1 h2 => by
    rw [setL_bit] at h1 h2; rw [h1] at h2; exact absurd (Option.some.inj h2) (by decide)⟩
theorem free_bit {k : Nat} (hk : k < R * C) : (setL xs 1 ||| setL xs 2).testBit k = false ↔ xs[k]? = some 0 := by
  rw [Nat.testBit_or, Bool.or_eq_false_iff]
  have e1 : (setL xs 1).testBit k = false ↔ ¬ xs[k]? = some 1 := by rw [← setL_bit]; simp
  have e2 : (setL xs 2).testBit k = false ↔ ¬ xs[k]? = some 2 := by rw [← setL_bit]; simp
  rw [e1, e2]
  rcases content_cases hS hk with h | h | h <;> rw [h] <;> simp
omit hS
theorem set_putA {P k : Nat} (hP : P = 1 ∨ P = 2) (hk : xs[k]? = some 0) : setL (xs.set k (P : Int)) 1 = putA P k (setL xs 1) ∧ setL (xs.set k (P : Int)) 2 = putB P k (setL xs 2) := by
  have hkl : k < xs.length := (List.getElem?_eq_some_iff.1 hk).1
  rcases hP with rfl | rfl
  · refine ⟨Nat.eq_of_testBit_eq fun j => ?_, Nat.eq_of_testBit_eq fun j => ?_⟩
    · show _ = (setL xs 1 ||| (1 <<< k)).testBit j
      rw [with_bit, Bool.eq_iff_iff, Bool.or_eq_true, decide_eq_true_iff, setL_bit, setL_bit, List.getElem?_set]
      by_cases e : k = j
      · subst e; simp [hkl]
      · rw [if_neg e]; exact ⟨.inl, fun h => h.resolve_right fun h2 => e h2.symm⟩
    · show _ = (setL xs 2).testBit j
      rw [Bool.eq_iff_iff, setL_bit, setL_bit, List.getElem?_set]
      by_cases e : k = j
      · subst e; rw [hk]; simp [hkl]
      · rw [if_neg e]
  · refine ⟨Nat.eq_of_testBit_eq fun j => ?_, Nat.eq_of_testBit_eq fun j => ?_⟩
    · show _ = (setL xs 1).testBit j
      rw [Bool.eq_iff_iff, setL_bit, setL_bit, List.getElem?_set]
      by_cases e : k = j
      · subst e; rw [hk]; simp [hkl]
      · rw [if_neg e]
    · show _ = (setL xs 2 ||| (1 <<< k)).testBit j
      rw [with_bit, Bool.eq_iff_iff, Bool.or_eq_true, decide_eq_true_iff, setL_bit, setL_bit, List.getElem?_set]
      by_cases e : k = j
      · subst e; simp [hkl]
      · rw [if_neg e]; exact ⟨.inl, fun h => h.resolve_right fun h2 => e h2.symm⟩
include hb
theorem joins_one : joinsL (R : Int) (C : Int) xs 1 = joinsN R C 1 (setL xs 1) := joinsL_eq (P := 1) hb (.inl rfl)
theorem joins_two : joinsL (R : Int) (C : Int) xs 2 = joinsN R C 2 (setL xs 2) := joinsL_eq (P := 2) hb (.inr rfl)
theorem winL_eq {T : Nat} (hT : T = 1 ∨ T = 2) : winL (R : Int) (C : Int) xs (T : Int) = ((winN R C (setL xs 1) (setL xs 2) T : Nat) : Int) := by
  unfold winL; rw [hb, playerB_of hT]; rfl
theorem winL_set {P T k : Nat} (hP : P = 1 ∨ P = 2) (hT : T = 1 ∨ T = 2) (hk : xs[k]? = some 0) : winL (R : Int) (C : Int) (xs.set k (P : Int)) (T : Int) = ((winN R C (putA P k (setL xs 1)) (putB P k (setL xs 2)) T : Nat) : Int) := by
  rw [winL_eq (pos_set hb hP k) hT, (set_putA hP hk).1, (set_putA hP hk).2]
theorem winL_cases {T : Nat} (hT : T = 1 ∨ T = 2) : ∃ W : Nat, winL (R : Int) (C : Int) xs (T : Int) = (W : Int) ∧ (W = 1 ∨ W = 2) := ⟨_, winL_eq hb hT, win_cases hT⟩
include hS
theorem sides_set {P k : Nat} (hP : P = 1 ∨ P = 2) : Sides (R : Int) (C : Int) R C (xs.set k (P : Int)) := by
  have h2 := pos_set hb hP k
  obtain ⟨a1, a2, a3, a4, a5, a6, a7, a8, a9⟩ := hS
  refine ⟨a1, a2, a3, a4, a5, a6, a7, by rw [List.length_set]; exact a8, ?_⟩
  unfold posB at h2; rw [Bool.and_eq_true] at h2; exact h2.2
theorem free_some (h1 : joinsL (R : Int) (C : Int) xs 1 = false) (h2 : joinsL (R : Int) (C : Int) xs 2 = false) : ∃ k, k < xs.length ∧ xs[k]? = some 0 := by
  rw [joins_one hb] at h1; rw [joins_two hb] at h2
  obtain ⟨k, hk, hf⟩ := (pos_sets hS).free (board_of_sides hS) h1 h2
  have hlen : xs.length = R * C := hS.2.2.2.2.2.2.2.1
  exact ⟨k, by rw [hlen]; exact hk, (free_bit hS hk).1 hf⟩
theorem winL_open {T : Nat} (hT : T = 1 ∨ T = 2) (h1 : joinsL (R : Int) (C : Int) xs 1 = false) (h2 : joinsL (R : Int) (C : Int) xs 2 = false) : winL (R : Int) (C : Int) xs (T : Int) = (T : Int) ↔ ∃ k : Nat, xs[k]? = some 0 ∧ winL (R : Int) (C : Int) (xs.set k (T : Int)) (3 - (T : Int)) = (T : Int) := by
  have hlen : xs.length = R * C := hS.2.2.2.2.2.2.2.1
  have hT' : 3 - T = 1 ∨ 3 - T = 2 := by omega
  have e3 : (3 : Int) - (T : Int) = ((3 - T : Nat) : Int) := by omega
  rw [winL_eq hb hT, win_open (by rw [← joins_one hb]; exact h1) (by rw [← joins_two hb]; exact h2)]
  have : (((if moveB R C (setL xs 1) (setL xs 2) T = true then T else 3 - T : Nat) : Int) = (T : Int)) ↔ moveB R C (setL xs 1) (setL xs 2) T = true := by
    cases moveB R C (setL xs 1) (setL xs 2) T
    · simp only [Bool.false_eq_true, ↓reduceIte]; rcases hT with rfl | rfl <;> decide
    · simp only [↓reduceIte]
  rw [this, moveB_iff]
  constructor
  · rintro ⟨k, hk, hf, hw⟩
    have hk0 := (free_bit hS hk).1 hf
    exact ⟨k, hk0, by rw [e3, winL_set hb hT hT' hk0, hw]⟩
  · rintro ⟨k, hk0, hw⟩
    have hk : k < R * C := by rw [← hlen]; exact (List.getElem?_eq_some_iff.1 hk0).1
    rw [e3, winL_set hb hT hT' hk0] at hw
    exact ⟨k, hk, (free_bit hS hk).2 hk0, Int.ofNat_inj.1 hw⟩
end

/-! ### turned, mirrored -/
section
variable {R C : Nat} {xs : List Int} (hb : posB (R : Int) (C : Int) xs = true) (hS : Sides (R : Int) (C : Int) R C xs)
include hb hS
end

/-! ### moves -/
theorem moveL_iff {r c : Int} {xs : List Int} {pl : Int} {k : Nat} : moveL r c xs (k : Int) pl = true ↔ posB r c xs = true ∧ playerB pl = true ∧ xs[k]? = some 0 ∧ joinsL r c xs 1 = false ∧ joinsL r c xs 2 = false := by
  unfold moveL
  simp only [Bool.and_eq_true, Bool.not_eq_true', decide_eq_true_eq]
  constructor
  · rintro ⟨⟨⟨⟨⟨h1, h2⟩, h3⟩, h4⟩, h5⟩, h6⟩
    have hk : k < xs.length := by omega
    refine ⟨h1, h2, ?_, h5, h6⟩
    rw [List.getElem?_eq_getElem hk]
    have : xs.getD k 0 = xs[k] := by rw [List.getD_eq_getElem?_getD, List.getElem?_eq_getElem hk]; rfl
    rw [← this]
    exact congrArg some h4
  · rintro ⟨h1, h2, h3, h5, h6⟩
    have hk : k < xs.length := (List.getElem?_eq_some_iff.1 h3).1
    refine ⟨⟨⟨⟨⟨h1, h2⟩, by omega⟩, ?_⟩, h5⟩, h6⟩
    show xs.getD k 0 = 0
    rw [List.getD_eq_getElem?_getD, h3]; rfl
theorem moveL_cell {r c : Int} {xs : List Int} {k pl : Int} (h : moveL r c xs k pl = true) : ∃ K : Nat, k = (K : Int) ∧ K < xs.length := by
  unfold moveL at h
  simp only [Bool.and_eq_true, decide_eq_true_eq] at h
  have := h.1.1.1.2
  obtain ⟨K, rfl⟩ := Int.eq_ofNat_of_zero_le this.1
  exact ⟨K, rfl, by omega⟩
theorem playedL_eq {r c : Int} {xs : List Int} {k : Nat} {pl : Int} (h : moveL r c xs (k : Int) pl = true) : playedL r c xs (k : Int) pl = xs.set k pl := by
  unfold playedL; rw [if_pos h]; rfl
/-! ### winning cells -/
theorem winsB_iff {r c : Int} {xs : List Int} {pl : Int} {k : Nat} : winsB r c xs pl k = true ↔ moveL r c xs (k : Int) pl = true ∧ winL r c (xs.set k pl) (3 - pl) = pl := by
  unfold winsB; rw [Bool.and_eq_true, decide_eq_true_eq]
theorem winCells_mem {r c : Int} {xs : List Int} {pl : Int} {e : Int} : e ∈ winCellsL r c xs pl ↔ ∃ k : Nat, e = (k : Int) ∧ winsB r c xs pl k = true := by
  unfold winCellsL
  rw [List.mem_map]
  constructor
  · rintro ⟨k, hk, rfl⟩
    exact ⟨k, rfl, (List.mem_filter.1 hk).2⟩
  · rintro ⟨k, rfl, hk⟩
    refine ⟨k, List.mem_filter.2 ⟨List.mem_range.2 ?_, hk⟩, rfl⟩
    exact (List.getElem?_eq_some_iff.1 (moveL_iff.1 (winsB_iff.1 hk).1).2.2.1).1
section
variable {R C : Nat} {xs : List Int} (hb : posB (R : Int) (C : Int) xs = true) (hS : Sides (R : Int) (C : Int) R C xs)
include hb hS
theorem winCells_some {P : Nat} (hP : P = 1 ∨ P = 2) (h1 : joinsL (R : Int) (C : Int) xs 1 = false) (h2 : joinsL (R : Int) (C : Int) xs 2 = false) : 0 < (winCellsL (R : Int) (C : Int) xs (P : Int)).length ↔ winL (R : Int) (C : Int) xs (P : Int) = (P : Int) := by
  rw [winL_open hb hS hP h1 h2, List.length_pos_iff_exists_mem]
  constructor
  · rintro ⟨e, he⟩
    obtain ⟨k, rfl, hk⟩ := winCells_mem.1 he
    have hk := winsB_iff.1 hk
    exact ⟨k, (moveL_iff.1 hk.1).2.2.1, hk.2⟩
  · rintro ⟨k, hk, hw⟩
    exact ⟨(k : Int), winCells_mem.2 ⟨k, rfl, winsB_iff.2 ⟨moveL_iff.2 ⟨hb, playerB_of hP, hk, h1, h2⟩, hw⟩⟩⟩
omit hb hS
include hb hS
end

/-! ### played on -/
theorem listN_some {S : Nat} (hS : S < 2 ^ 9) (h : S ≠ 0) : ∃ (k : Nat) (l : List Int), listN S = (k : Int) :: l ∧ S.testBit k = true := by
  cases e : listN S with
  | nil =>
    obtain ⟨j, hj⟩ : ∃ j, S.testBit j = true := by
      apply Classical.byContradiction
      intro hh
      refine h (Nat.eq_of_testBit_eq fun j => ?_)
      rw [Nat.zero_testBit]
      cases e : S.testBit j with
      | false => rfl
      | true => exact (hh ⟨j, e⟩).elim
    have := (listN_mem hS (j : Int)).2 ⟨j, rfl, hj⟩
    rw [e] at this; cases this
  | cons a l =>
    obtain ⟨j, rfl, hj⟩ := (listN_mem hS a).1 (by rw [e]; exact List.mem_cons_self ..)
    exact ⟨j, l, rfl, hj⟩
section
variable {R C : Nat} {xs : List Int} (hb : posB (R : Int) (C : Int) xs = true) (hS : Sides (R : Int) (C : Int) R C xs)
include hb hS
theorem goB_iff : goB (R : Int) (C : Int) xs = true ↔ joinsL (R : Int) (C : Int) xs 1 = false ∧ joinsL (R : Int) (C : Int) xs 2 = false := by
  unfold goB
  simp only [Bool.and_eq_true, Bool.not_eq_true', decide_eq_false_iff_not]
  constructor
  · exact fun h => ⟨h.1.2, h.2⟩
  · rintro ⟨h1, h2⟩
    refine ⟨⟨fun h0 => ?_, h1⟩, h2⟩
    obtain ⟨k, _, hk⟩ := free_some hb hS h1 h2
    have := setL_bit.2 hk
    rw [h0, Nat.zero_testBit] at this; cases this
/-- The move that is played: it may be made, and who wins wins still. -/
theorem stepL_ok {T W : Nat} (hT : T = 1 ∨ T = 2) (hW : W = 1 ∨ W = 2) (hg : goB (R : Int) (C : Int) xs = true) (hw : winL (R : Int) (C : Int) xs (T : Int) = (W : Int)) :
    ∃ k : Nat, stepL (R : Int) (C : Int) xs (T : Int) = (k : Int) ∧ moveL (R : Int) (C : Int) xs (k : Int) (T : Int) = true ∧ winL (R : Int) (C : Int) (xs.set k (T : Int)) (3 - (T : Int)) = (W : Int) := by
  obtain ⟨h1, h2⟩ := (goB_iff hb hS).1 hg
  have hT' : 3 - T = 1 ∨ 3 - T = 2 := by omega
  have e3 : (3 : Int) - (T : Int) = ((3 - T : Nat) : Int) := by omega
  unfold stepL
  cases e : winCellsL (R : Int) (C : Int) xs (T : Int) with
  | cons a l =>
    obtain ⟨k, rfl, hk⟩ := winCells_mem.1 (show a ∈ winCellsL (R : Int) (C : Int) xs (T : Int) by rw [e]; exact List.mem_cons_self ..)
    have hk := winsB_iff.1 hk
    have : winL (R : Int) (C : Int) xs (T : Int) = (T : Int) := (winCells_some hb hS hT h1 h2).1 (by rw [e]; simp)
    have hWT : W = T := by omega
    subst hWT
    exact ⟨k, rfl, hk.1, hk.2⟩
  | nil =>
    have hs0 : setL xs 0 ≠ 0 := by unfold goB at hg; simp only [Bool.and_eq_true, Bool.not_eq_true', decide_eq_false_iff_not] at hg; exact hg.1.1
    obtain ⟨k, l, hl, hk⟩ := listN_some (set_lt9 hS 0) hs0
    have hk0 := setL_bit.1 hk
    refine ⟨k, by rw [hl]; rfl, moveL_iff.2 ⟨hb, playerB_of hT, hk0, h1, h2⟩, ?_⟩
    have hno : ¬ winL (R : Int) (C : Int) xs (T : Int) = (T : Int) := fun hh => by
      have := (winCells_some hb hS hT h1 h2).2 hh
      rw [e] at this; exact absurd this (by decide)
    have hno2 : ¬ winL (R : Int) (C : Int) (xs.set k (T : Int)) (3 - (T : Int)) = (T : Int) := fun hh => hno ((winL_open hb hS hT h1 h2).2 ⟨k, hk0, hh⟩)
    have hb3 := pos_set hb hT k
    rw [e3] at hno2 ⊢
    obtain ⟨V, hV, hV2⟩ := winL_cases hb3 hT'
    rw [hV] at hno2 ⊢
    omega
end

end Go.Proofs.YtpaehbfknlpkbaeDoor

/- The model's table of who wins: each position has a place of its own in it. No program text. -/
set_option maxRecDepth 20000
namespace Go.Proofs.YtpaehbfknlpkbaeDoor
open Go Go.Ip G

/-- The place of a position, from its first k cells: the same number as the model reckons. -/
def keyF (a b : Nat) : Nat → Nat
  | 0 => 0
  | k + 1 => 3 * keyF a b k + (a >>> k % 2) + 2 * (b >>> k % 2)

theorem digit_le {R C a b : Nat} (h : Pos R C a b) (k : Nat) : a >>> k % 2 + 2 * (b >>> k % 2) ≤ 2 := by
  have h1 := bit_iff a k
  have h2 := bit_iff b k
  rcases Nat.mod_two_eq_zero_or_one (a >>> k) with e1 | e1 <;> rcases Nat.mod_two_eq_zero_or_one (b >>> k) with e2 | e2
  · omega
  · omega
  · omega
  · exact (h.2.2 k (h1.1 e1) (h2.1 e2)).elim
theorem key_lt {R C a b : Nat} (h : Pos R C a b) : ∀ k, keyF a b k < 3 ^ k
  | 0 => Nat.zero_lt_one
  | k + 1 => by
    have ih := key_lt h k
    have hd := digit_le h k
    rw [keyF, Nat.pow_succ]; omega
theorem key_inj {R C a b a' b' : Nat} (h : Pos R C a b) (h' : Pos R C a' b') : ∀ k, keyF a b k = keyF a' b' k → ∀ i, i < k → a.testBit i = a'.testBit i ∧ b.testBit i = b'.testBit i
  | 0, _, i, hi => by omega
  | k + 1, he, i, hi => by
    have hd := digit_le h k
    have hd' := digit_le h' k
    rw [keyF, keyF] at he
    have e1 : keyF a b k = keyF a' b' k := by omega
    have e2 : a >>> k % 2 = a' >>> k % 2 ∧ b >>> k % 2 = b' >>> k % 2 := by
      have := Nat.mod_two_eq_zero_or_one (a >>> k); have := Nat.mod_two_eq_zero_or_one (a' >>> k); omega
    by_cases hik : i = k
    · subst hik
      have t : ∀ x y : Nat, x >>> i % 2 = y >>> i % 2 → x.testBit i = y.testBit i := fun x y e => by
        rw [Bool.eq_iff_iff, ← bit_iff, ← bit_iff, e]
      exact ⟨t _ _ e2.1, t _ _ e2.2⟩
    · exact key_inj h h' k e1 i (by omega)
theorem key_pos {R C a b a' b' : Nat} (h : Pos R C a b) (h' : Pos R C a' b') (he : keyF a b (R * C) = keyF a' b' (R * C)) : a = a' ∧ b = b' := by
  have hk := key_inj h h' _ he
  have t : ∀ x y : Nat, x < 2 ^ (R * C) → y < 2 ^ (R * C) → (∀ i, i < R * C → x.testBit i = y.testBit i) → x = y := fun x y hx hy hxy => by
    apply Nat.eq_of_testBit_eq
    intro j
    by_cases hj : j < R * C
    · exact hxy j hj
    · have e1 : x.testBit j = false := Nat.testBit_lt_two_pow (Nat.lt_of_lt_of_le hx (Nat.pow_le_pow_right (by decide) (by omega)))
      have e2 : y.testBit j = false := Nat.testBit_lt_two_pow (Nat.lt_of_lt_of_le hy (Nat.pow_le_pow_right (by decide) (by omega)))
      rw [e1, e2]
  exact ⟨t _ _ h.1 h'.1 fun i hi => (hk i hi).1, t _ _ h.2.1 h'.2.1 fun i hi => (hk i hi).2⟩

theorem pow3_le {n : Nat} (h : n ≤ 9) : 3 ^ n ≤ 19683 := Nat.pow_le_pow_right (n := 3) (by decide) h

def keyN (R C a b t : Nat) : Nat := 2 * keyF a b (R * C) + (t - 1)
/-- What the table holds: nothing, or who wins. -/
def Inv (R C : Nat) (T : List Int) : Prop := T.length = 2 * 3 ^ (R * C) ∧ ∀ a b t, Pos R C a b → (t = 1 ∨ t = 2) → T[keyN R C a b t]? = some 0 ∨ T[keyN R C a b t]? = some ((winN R C a b t : Nat) : Int)

theorem keyN_lt {R C a b t : Nat} (h : Pos R C a b) (ht : t = 1 ∨ t = 2) : keyN R C a b t < 2 * 3 ^ (R * C) := by
  have := key_lt h (R * C); unfold keyN; omega
theorem Inv.new (R C : Nat) : Inv R C (List.replicate (2 * 3 ^ (R * C)) 0) := by
  refine ⟨List.length_replicate, fun a b t h ht => .inl ?_⟩
  rw [List.getElem?_replicate, if_pos (keyN_lt h ht)]
theorem Inv.put {R C a b t : Nat} {T : List Int} (hi : Inv R C T) (h : Pos R C a b) (ht : t = 1 ∨ t = 2) : Inv R C (T.set (keyN R C a b t) ((winN R C a b t : Nat) : Int)) := by
  refine ⟨by rw [List.length_set]; exact hi.1, fun a' b' t' h' ht' => ?_⟩
  rw [List.getElem?_set]
  by_cases e : keyN R C a b t = keyN R C a' b' t'
  · right
    rw [if_pos e, if_pos (by rw [hi.1]; exact keyN_lt h ht)]
    unfold keyN at e
    have e1 : keyF a b (R * C) = keyF a' b' (R * C) := by omega
    have e2 : t = t' := by omega
    obtain ⟨rfl, rfl⟩ := key_pos h h' e1
    rw [e2]
  · rw [if_neg e]; exact hi.2 a' b' t' h' ht'
theorem Inv.get {R C a b t : Nat} {T : List Int} (hi : Inv R C T) (h : Pos R C a b) (ht : t = 1 ∨ t = 2) : ∃ hl : keyN R C a b t < T.length, T[keyN R C a b t] = 0 ∨ T[keyN R C a b t] = ((winN R C a b t : Nat) : Int) := by
  have hl : keyN R C a b t < T.length := by rw [hi.1]; exact keyN_lt h ht
  refine ⟨hl, ?_⟩
  have := hi.2 a b t h ht
  rw [List.getElem?_eq_getElem hl] at this
  exact this.imp Option.some.inj Option.some.inj

/-- A winning move among the first k cells. -/
def moveTo (R C a b t k : Nat) : Bool := (List.range k).any fun k => !(a ||| b).testBit k && decide (winN R C (putA t k a) (putB t k b) (3 - t) = t)
theorem moveTo_succ (R C a b t k : Nat) : moveTo R C a b t (k + 1) = (moveTo R C a b t k || (!(a ||| b).testBit k && decide (winN R C (putA t k a) (putB t k b) (3 - t) = t))) := by
  unfold moveTo; rw [List.range_succ, List.any_append]; simp
theorem moveTo_mono {R C a b t k : Nat} (hk : k ≤ R * C) (h : moveTo R C a b t k = true) : moveB R C a b t = true := by
  unfold moveTo at h
  rw [List.any_eq_true] at h
  obtain ⟨x, hx, hh⟩ := h
  unfold moveB
  rw [List.any_eq_true]
  exact ⟨x, List.mem_range.2 (by have := List.mem_range.1 hx; omega), hh⟩
end Go.Proofs.YtpaehbfknlpkbaeDoor

/- The model's chapter 3: what MoveOk, Played, WinnerOf, WinningCells and LinePlayed of it compute. -/
set_option maxRecDepth 20000
namespace Go.Proofs.YtpaehbfknlpkbaeDoor
open Go Go.Ip G

variable (g : Nat → PV) (lf n : Nat)

theorem other_W (N : Nat) (hN : 1 ≤ N) (h : PHeap) {T : Nat} (hT : T = 1 ∨ T = 2) : CL g lf N fn_spec_l1Other [.int .i64 (T : Int)] h = some (.int .i64 ((3 - T : Nat) : Int), h) := by
  have := l1Other_N g lf N hN h (x := (T : Int)) (by rcases hT with rfl | rfl <;> rfl)
  rw [swap_player hT] at this; exact this

theorem specMoveOk_calls {xs : List Int} {p : PV} {h : PHeap} (N : Nat) (hN : 6 ≤ N) (r c k pl : Int) (hp : IntSl .i64 h p xs) (hl : xs.length ≤ 2 ^ 35) (hf : xs.length < lf) (hlf : 1000 < lf) :
    ∃ h', CL g lf N fn_spec_MoveOk [.int .i64 r, .int .i64 c, p, .int .i64 k, .int .i64 pl] h = some (.bool (moveL r c xs k pl), h') ∧ Keep h.length h h' := by
  obtain ⟨n, rfl⟩ : ∃ n, N = n + 1 := ⟨N - 1, by omega⟩
  have hpos := specPositionOk_N g lf n (by omega) r c hp (by omega) hf
  have hin1 : CL g lf n fn_spec_l1In [.int .i64 pl, .int .i64 1, .int .i64 2] h = some (.bool (playerB pl), h) := l1In_N g lf n (by omega) h pl 1 2
  have : W (CL g lf (n + 1) fn_spec_MoveOk [.int .i64 r, .int .i64 c, p, .int .i64 k, .int .i64 pl] h) fun v h' => v = .bool (moveL r c xs k pl) ∧ Keep h.length h h' := by
    rw [spec_MoveOk.call_eq]
    unfold spec_MoveOk.main
    simp only [env_C, env_pick, env_load, env_bin, env_un, env_indexAddr, env_len]
    unfold moveL
    cases hb : posB r c xs with
    | false =>
      rw [hb] at hpos
      repeat (first | with_reducible refine wT ?_ | with_reducible refine wg0 rfl ?_ | with_reducible refine wpT ?_ | with_reducible refine wnF ?_ | with_reducible refine wsm ?_ | with_reducible refine wrB ?_ | with_reducible refine wbd (by assumption) ?_ | dsimp only)
      exact W.ret ⟨rfl, Keep.refl _ _⟩
    | true =>
      rw [hb] at hpos
      cases hpl : playerB pl with
      | false =>
        rw [hpl] at hin1
        repeat (first | with_reducible refine wT ?_ | with_reducible refine wg1 rfl ?_ | with_reducible refine wg0 rfl ?_ | with_reducible refine wpT ?_ | with_reducible refine wpF ?_ | with_reducible refine wnT ?_ | with_reducible refine wnF ?_ | with_reducible refine wpv ?_ | with_reducible refine wsm ?_ | with_reducible refine wrB ?_ | with_reducible refine wbd (by assumption) ?_ | dsimp only)
        exact W.ret ⟨rfl, Keep.refl _ _⟩
      | true =>
        rw [hpl] at hin1
        obtain ⟨R, C, hS⟩ := sides_of hb
        have hlen : xs.length = R * C := hS.2.2.2.2.2.2.2.1
        have hpos1 : 1 ≤ xs.length := by rw [hlen]; exact Nat.mul_pos hS.2.2.1 hS.2.2.2.2.1
        have hin2 : CL g lf n fn_spec_l1In [.int .i64 k, .int .i64 0, .int .i64 ((xs.length - 1 : Nat) : Int)] h = some (.bool (decide (0 ≤ k ∧ k ≤ ((xs.length - 1 : Nat) : Int))), h) := l1In_N g lf n (by omega) h k 0 _
        have hce : decide (0 ≤ k ∧ k ≤ ((xs.length - 1 : Nat) : Int)) = decide (0 ≤ k ∧ k < (xs.length : Int)) := decide_eq_decide.2 (by omega)
        rw [hce] at hin2
        cases hk : decide (0 ≤ k ∧ k < (xs.length : Int)) with
        | false =>
          rw [hk] at hin2
          repeat (first | with_reducible refine wT ?_ | with_reducible refine wg1 rfl ?_ | with_reducible refine wpF ?_ | with_reducible refine wnT ?_ | with_reducible refine wnF ?_ | with_reducible refine wpv ?_ | with_reducible refine wsm ?_ | with_reducible refine wrB ?_ | with_reducible refine wbd (by assumption) ?_ | with_reducible refine wlen (by assumption) ?_ | with_reducible refine wsub1 (by omega) (by omega) ?_ | dsimp only)
          exact W.ret ⟨rfl, Keep.refl _ _⟩
        | true =>
          rw [hk] at hin2
          have hkb := of_decide_eq_true hk
          obtain ⟨K, rfl⟩ := Int.eq_ofNat_of_zero_le hkb.1
          have hK : K < xs.length := by omega
          have hgd : xs.getD (K : Int).toNat 0 = xs[K] := by
            rw [show ((K : Int).toNat) = K from rfl, List.getD_eq_getElem?_getD, List.getElem?_eq_getElem hK]; rfl
          rw [hgd]
          obtain ⟨h1, e1, k1⟩ := specJoins_calls g lf n (by omega) r c 1 hp (by omega) hf hlf
          obtain ⟨h2, e2, k2⟩ := specJoins_calls g lf n (by omega) r c 2 (hp.keep k1) (by omega) hf hlf
          repeat (first | with_reducible refine wF ?_ | with_reducible refine wg1 rfl ?_ | with_reducible refine wpF ?_ | with_reducible refine wnT ?_ | with_reducible refine wpv ?_ | with_reducible refine wsm ?_ | with_reducible refine wbd (by assumption) ?_ | with_reducible refine wlen (by assumption) ?_ | (with_reducible refine wat hp hK fun a hl => ?_) | with_reducible refine wsub1 (by omega) (by omega) ?_ | dsimp only)
          refine weql (fun e => ?_) (fun e => ?_)
          · rw [decide_eq_true e]
            cases hj1 : joinsL r c xs 1 with
            | true =>
              rw [hj1] at e1
              repeat (first | with_reducible refine wg1 rfl ?_ | with_reducible refine wg0 rfl ?_ | with_reducible refine wpT ?_ | with_reducible refine wpF ?_ | with_reducible refine wnT ?_ | with_reducible refine wpv ?_ | with_reducible refine wsm ?_ | with_reducible refine wrB ?_ | with_reducible refine wbd (by assumption) ?_ | dsimp only)
              exact W.ret ⟨by simp, k1⟩
            | false =>
              rw [hj1] at e1
              cases hj2 : joinsL r c xs 2 with
              | true =>
                rw [hj2] at e2
                repeat (first | with_reducible refine wg1 rfl ?_ | with_reducible refine wpT ?_ | with_reducible refine wnT ?_ | with_reducible refine wnF ?_ | with_reducible refine wpv ?_ | with_reducible refine wsm ?_ | with_reducible refine wrB ?_ | with_reducible refine wbd (by assumption) ?_ | dsimp only)
                exact W.ret ⟨by simp, k1.trans (k2.mono k1.1)⟩
              | false =>
                rw [hj2] at e2
                repeat (first | with_reducible refine wg1 rfl ?_ | with_reducible refine wpT ?_ | with_reducible refine wnF ?_ | with_reducible refine wpv ?_ | with_reducible refine wsm ?_ | with_reducible refine wrB ?_ | with_reducible refine wbd (by assumption) ?_ | dsimp only)
                exact W.ret ⟨by simp, k1.trans (k2.mono k1.1)⟩
          · rw [decide_eq_false e]
            repeat (first | with_reducible refine wg0 rfl ?_ | with_reducible refine wpF ?_ | with_reducible refine wsm ?_ | with_reducible refine wrB ?_ | dsimp only)
            exact W.ret ⟨by simp, Keep.refl _ _⟩
  obtain ⟨_, h', e, rfl, k⟩ := this
  exact ⟨h', e, k⟩

theorem specPlayed_calls {xs : List Int} {p : PV} {h : PHeap} (N : Nat) (hN : 7 ≤ N) (r c k pl : Int) (hp : IntSl .i64 h p xs) (hl : xs.length ≤ 2 ^ 35) (hf : xs.length < lf) (hlf : 1000 < lf) :
    ∃ q h', CL g lf N fn_spec_Played [.int .i64 r, .int .i64 c, p, .int .i64 k, .int .i64 pl] h = some (.tup [q, .bool (moveL r c xs k pl)], h') ∧ OwnSl h.length h' q (playedL r c xs k pl) ∧ Keep h.length h h' := by
  obtain ⟨n, rfl⟩ : ∃ n, N = n + 1 := ⟨N - 1, by omega⟩
  obtain ⟨h1, e1, k1⟩ := specMoveOk_calls g lf n (by omega) r c k pl hp hl hf hlf
  have : W (CL g lf (n + 1) fn_spec_Played [.int .i64 r, .int .i64 c, p, .int .i64 k, .int .i64 pl] h) fun v h' => ∃ q, v = .tup [q, .bool (moveL r c xs k pl)] ∧ OwnSl h.length h' q (playedL r c xs k pl) ∧ Keep h.length h h' := by
    rw [spec_Played.call_eq]
    unfold spec_Played.main
    simp only [env_C, env_buildSlice, env_store, env_un, env_indexAddr, env_append]
    unfold playedL
    cases hm : moveL r c xs k pl with
    | false =>
      rw [hm] at e1
      repeat (first | with_reducible refine wT ?_ | with_reducible refine wnF ?_ | with_reducible refine wrB ?_ | with_reducible refine wbd (by assumption) ?_ | (refine wempty fun q h2 o2 k2 => ?_) | with_reducible refine wresO (by assumption) ?_ | dsimp only)
      skip
      exact W.ret ⟨_, rfl, o2.mono k1.1, k1.trans (k2.mono k1.1)⟩
    | true =>
      rw [hm] at e1
      obtain ⟨K, rfl, hK⟩ := moveL_cell hm
      obtain ⟨v, q, h2, e2, e3, o2, k2⟩ := copy_all (hp.keep k1) (by omega) (by omega)
      repeat (first | with_reducible refine wF ?_ | with_reducible refine wnT ?_ | with_reducible refine wrB ?_ | with_reducible refine wbd (by assumption) ?_ | (refine wst o2 hK fun h3 o3 k3 l3 a e4 => ?_) | with_reducible refine wresO (by assumption) ?_ | dsimp only | simp only [env_C, env_Y, env_g, env_lf, env_pick, env_alloc, env_box, env_build, env_buildSlice, env_load, env_store, env_ptr, env_bin, env_un, env_conv, env_make, env_slice, env_fieldAddr, env_field, env_indexAddr, env_index, env_extract, env_len, env_append, env_max, env_min, env_makeMap, env_lookup, env_update, env_clos, env_bstr, env_ext])
      skip
      exact W.ret ⟨_, rfl, o3.mono k1.1, k1.trans ((k2.trans k3).mono k1.1)⟩
  obtain ⟨_, h', e, q, rfl, o, k⟩ := this
  exact ⟨q, h', e, o, k⟩

/-! ### the solver -/
theorem solve_W {R C : Nat} (hB : BoardOf R C) (hlf : 1000 < lf) : ∀ (m a b t N : Nat) (T : List Int) (p pm : PV) (h : PHeap) (b0 : Nat), frN (R * C) a b ≤ m → Pos R C a b → (t = 1 ∨ t = 2) → m + 5 ≤ N → Fix b0 h pm (ints (masksN R C)) → OwnSl b0 h p T → b0 ≤ h.length → Inv R C T →
    W (CL g lf N fn_spec_l3Solve [.int .i64 (R : Int), .int .i64 (C : Int), pm, .int .i64 (a : Int), .int .i64 (b : Int), .int .i64 (t : Int), p] h) fun v h' => v = .int .i64 ((winN R C a b t : Nat) : Int) ∧ ∃ T', OwnSl b0 h' p T' ∧ Inv R C T' ∧ Keep b0 h h' := by
  intro m
  induction m using Nat.strongRecOn with
  | _ m ih =>
  intro a b t N T p pm h b0 hm hp ht hN hpm ho hb0 hi
  obtain ⟨n, rfl⟩ : ∃ n, N = n + 1 := ⟨N - 1, by omega⟩
  have h9 := hB.2.2.2.2
  have l9 := hp.lt9 hB
  have hml : (ints (masksN R C)).length = R * C := by rw [ints_length, masksN_length]
  have e1 := l2Joins_calls g lf hB (P := 1) (.inl rfl) hpm.now l9.1 n (by omega) hlf
  have e2 := l2Joins_calls g lf hB (P := 2) (.inr rfl) hpm.now l9.2 n (by omega) hlf
  rw [spec_l3Solve.call_eq]
  unfold spec_l3Solve.main
  simp only [env_C, env_lf]
  cases j1 : joinsN R C 1 a with
  | true =>
    rw [j1] at e1
    refine wbd e1 ?_
    repeat (first | with_reducible refine wT ?_ | with_reducible refine wrI ?_ | dsimp only)
    exact W.ret ⟨by rw [win_first j1]; rfl, T, ho, hi, Keep.refl _ _⟩
  | false =>
  rw [j1] at e1
  refine wbd e1 ?_
  cases j2 : joinsN R C 2 b with
  | true =>
    rw [j2] at e2
    repeat (first | with_reducible refine wT ?_ | with_reducible refine wF ?_ | with_reducible refine wrI ?_ | (refine wbd e2 ?_) | dsimp only)
    skip
    exact W.ret ⟨by rw [win_second hB hp j2]; rfl, T, ho, hi, Keep.refl _ _⟩
  | false =>
  rw [j2] at e2
  repeat (first | with_reducible refine wF ?_ | (refine wbd e2 ?_) | dsimp only)
  skip
  -- the key
  refine loopW (fun m s => ∃ (k : Nat) (key : Int), s = spec_l3Solve.st0 (.int .i64 (R : Int)) (.int .i64 (C : Int)) pm (.int .i64 (a : Int)) (.int .i64 (b : Int)) (.int .i64 (t : Int)) p (.int .i64 key) (.int .i64 (k : Int)) h ∧ k + m = R * C ∧ key = (keyF a b k : Int)) ?_ lf (R * C) _ (by omega) ⟨0, 0, rfl, by omega, rfl⟩
  rintro n1 m1 s ⟨k, key, rfl, hkm, hkey⟩ next
  have hk3 := key_lt hp k
  have hp3 := pow3_le (show k ≤ 9 by omega)
  rw [spec_l3Solve.body0_eq]
  unfold spec_l3Solve.body0
  simp only [env_bin, env_len]
  cases m1 with
  | succ m1 =>
    repeat (first | with_reducible refine wT ?_ | with_reducible refine wlen (Fix.now (by assumption)) ?_ | with_reducible refine wadd1 (by omega) ?_ | with_reducible refine wrem2 ?_ | with_reducible refine wshr (by omega) ?_ | with_reducible refine wlssT (by omega) ?_ | with_reducible refine wadd (by omega) ?_ | with_reducible refine wmul (by omega) ?_)
    refine next _ _ (Nat.lt_succ_self m1) ⟨k + 1, _, rfl, by omega, ?_⟩
    rw [keyF]; omega
  | zero =>
    have hkR : k = R * C := by omega
    subst hkR
    repeat (first | with_reducible refine wF ?_ | with_reducible refine wlen (Fix.now (by assumption)) ?_ | with_reducible refine wlssF (by omega) ?_ | with_reducible refine wadd (by omega) ?_ | with_reducible refine wsub (by omega) ?_ | with_reducible refine wmul (by omega) ?_ | rw [kLoop_exit] | rw [spec_l3Solve.after0_se0_0_1_2_3_4_5_6_15_16_33] | simp only [env_C, env_Y, env_g, env_lf, env_pick, env_alloc, env_box, env_build, env_buildSlice, env_load, env_store, env_ptr, env_bin, env_un, env_conv, env_make, env_slice, env_fieldAddr, env_field, env_indexAddr, env_index, env_extract, env_len, env_append, env_max, env_min, env_makeMap, env_lookup, env_update, env_clos, env_bstr, env_ext])
    have hkn : 2 * key + (t : Int) - 1 = ((keyN R C a b t : Nat) : Int) := by unfold keyN; omega
    rw [hkn]
    obtain ⟨hl, hT⟩ := hi.get hp ht
    refine wat ho.int hl fun ad had => ?_
    refine wbd had ?_
    have hwc := win_cases (R := R) (C := C) (a := a) (b := b) ht
    refine wgtr (fun e => ?_) (fun e => ?_)
    · have hT' : T[keyN R C a b t] = ((winN R C a b t : Nat) : Int) := by
        rcases hT with h0 | h0
        · omega
        · exact h0
      repeat (first | with_reducible refine wT ?_)
      refine wat ho.int hl fun ad had => ?_
      refine wbd had ?_
      rw [hT']
      repeat (first | with_reducible refine wrI ?_)
      exact W.ret ⟨rfl, T, ho, hi, Keep.refl _ _⟩
    · have e3 := other_W g lf n (by omega) h ht
      repeat (first | with_reducible refine wF ?_ | with_reducible refine wbd (by assumption) ?_ | dsimp only)
      obtain ⟨KEY, hKEY⟩ : ∃ x, x = keyN R C a b t := ⟨_, rfl⟩
      have hwo := win_open (t := t) j1 j2
      have fin : ∀ (bst : Int) (k : Nat) (x : PV) (T2 : List Int) (h2 : PHeap), bst = ((winN R C a b t : Nat) : Int) → OwnSl b0 h2 p T2 → Inv R C T2 → Keep b0 h h2 →
          W (spec_l3Solve.K1 (env g lf n) (kTop Tryd.prog Tryd.f47) (.exit 2) (spec_l3Solve.se2_0_1_2_3_4_5_6_15_17_18_73 (.int .i64 (R : Int)) (.int .i64 (C : Int)) pm (.int .i64 (a : Int)) (.int .i64 (b : Int)) (.int .i64 (t : Int)) p (.int .i64 (KEY : Int)) (.int .i64 bst) (.int .i64 (k : Int)) x h2))
            fun v h' => v = .int .i64 ((winN R C a b t : Nat) : Int) ∧ ∃ T', OwnSl b0 h' p T' ∧ Inv R C T' ∧ Keep b0 h h' := by
        intro bst k x T2 h2 hbst o2 i2 k2
        rw [spec_l3Solve.after1_se2_0_1_2_3_4_5_6_15_17_18_73]
        simp only [env_indexAddr, env_store]
        obtain ⟨hl2, _⟩ := i2.get hp ht
        rw [← hKEY] at hl2
        refine wst o2 hl2 fun h3 o3 k3 l3 a3 e4 => ?_
        repeat (first | with_reducible refine wrI ?_)
        rw [hbst] at o3 ⊢
        rw [hKEY] at o3
        exact W.ret ⟨rfl, _, o3, i2.put hp ht, k2.trans k3⟩
      rw [← hKEY]
      refine loopW (fun m s => ∃ (k : Nat) (bst : Int) (T2 : List Int) (h2 : PHeap), s = spec_l3Solve.st1 (.int .i64 (R : Int)) (.int .i64 (C : Int)) pm (.int .i64 (a : Int)) (.int .i64 (b : Int)) (.int .i64 (t : Int)) p (.int .i64 (KEY : Int)) (.int .i64 bst) (.int .i64 (k : Int)) h2 ∧ k + m = R * C ∧
        ((bst = ((3 - t : Nat) : Int) ∧ moveTo R C a b t k = false) ∨ (bst = (t : Int) ∧ moveB R C a b t = true)) ∧ OwnSl b0 h2 p T2 ∧ Inv R C T2 ∧ Keep b0 h h2) ?_ lf (R * C) _ (by omega) ⟨0, _, T, h, rfl, by omega, .inl ⟨rfl, rfl⟩, ho, hi, Keep.refl _ _⟩
      rintro n2 m2 s ⟨k, bst, T2, h2, rfl, hkm2, hbst, o2, i2, k2⟩ next2
      have hpm2 := hpm.keep k2
      rw [spec_l3Solve.body1_eq]
      unfold spec_l3Solve.body1
      simp only [env_C, env_pick, env_bin, env_len]
      rcases hbst with ⟨hb1, hb2⟩ | ⟨hb1, hb2⟩
      · cases m2 with
        | zero =>
          repeat (first | with_reducible refine wF ?_ | with_reducible refine wg0 rfl ?_ | with_reducible refine wpF ?_ | with_reducible refine wsm ?_ | with_reducible refine wlen (Fix.now (by assumption)) ?_ | with_reducible refine wlssF (by omega) ?_ | rw [kLoop_exit] | dsimp only)
          refine fin bst k _ T2 h2 ?_ o2 i2 k2
          have hkR : k = R * C := by omega
          subst hkR
          have : moveB R C a b t = false := hb2
          rw [hwo, this, hb1]; rfl
        | succ m2 =>
          have hkl : k < R * C := by omega
          have hne : ¬ bst = (t : Int) := by omega
          have hor : a ||| b < 2 ^ 9 := Nat.or_lt_two_pow l9.1 l9.2
          have hsl := shl_lt (show k < 9 by omega)
          have hto := moveTo_succ R C a b t k
          rw [hb2, Bool.false_or] at hto
          repeat (first | with_reducible refine wT ?_ | with_reducible refine wg1 rfl ?_ | with_reducible refine wpT ?_ | with_reducible refine wpv ?_ | with_reducible refine wsm ?_ | with_reducible refine wlen (Fix.now (by assumption)) ?_ | with_reducible refine wrem2 ?_ | with_reducible refine wshr (by omega) ?_ | with_reducible refine wor (by omega) (by omega) ?_ | with_reducible refine wlssT (by omega) ?_ | with_reducible refine wneqT (by omega) ?_ | dsimp only)
          refine weql (fun e => ?_) (fun e => ?_)
          · have hbit := (bit_iff (a ||| b) k).1 (by omega)
            rw [hbit] at hto
            repeat (first | with_reducible refine wT ?_ | with_reducible refine wadd1 (by omega) ?_)
            exact next2 _ _ (Nat.lt_succ_self m2) ⟨k + 1, bst, T2, h2, rfl, by omega, .inl ⟨hb1, hto⟩, o2, i2, k2⟩
          · have hbit : (a ||| b).testBit k = false := by
              cases e2 : (a ||| b).testBit k with
              | false => rfl
              | true => exact (e (by rw [(bit_iff (a ||| b) k).2 e2]; rfl)).elim
            have hfr := fr_put (t := t) hkl hbit
            have hpp := hp.put (t := t) hkl hbit
            rw [hbit, Bool.not_false, Bool.true_and] at hto
            have hor2 : a ||| 1 <<< k < 2 ^ 9 := Nat.or_lt_two_pow l9.1 hsl
            have hor3 : b ||| 1 <<< k < 2 ^ 9 := Nat.or_lt_two_pow l9.2 hsl
            rcases ht with rfl | rfl
            · repeat (first | with_reducible refine wT ?_ | with_reducible refine wF ?_ | with_reducible refine wshl (by omega) ?_ | with_reducible refine wor (by omega) (by omega) ?_ | with_reducible refine weqlT (by omega) ?_)
              refine wcall (ih (m - 1) (by omega) (a ||| 1 <<< k) b 2 n T2 p pm h2 b0 (Nat.le_sub_one_of_lt (Nat.lt_of_lt_of_le hfr hm)) hpp (.inr rfl) (by omega) hpm2 o2 (Nat.le_trans hb0 k2.1) i2) fun v h3 ⟨hv, T3, o3, i3, k3⟩ => ?_
              subst hv
              refine weql (fun e => ?_) (fun e => ?_)
              · repeat (first | with_reducible refine wT ?_ | with_reducible refine wadd1 (by omega) ?_ | dsimp only)
                have hw : winN R C (putA 1 k a) (putB 1 k b) (3 - 1) = 1 := Int.ofNat_inj.1 e
                rw [decide_eq_true hw] at hto
                exact next2 _ _ (Nat.lt_succ_self m2) ⟨k + 1, _, T3, h3, rfl, by omega, .inr ⟨rfl, moveTo_mono (by omega) hto⟩, o3, i3, k2.trans k3⟩
              · repeat (first | with_reducible refine wF ?_ | with_reducible refine wadd1 (by omega) ?_ | dsimp only)
                have hw : ¬ winN R C (putA 1 k a) (putB 1 k b) (3 - 1) = 1 := fun hh => e (congrArg Int.ofNat hh)
                rw [decide_eq_false hw] at hto
                exact next2 _ _ (Nat.lt_succ_self m2) ⟨k + 1, bst, T3, h3, rfl, by omega, .inl ⟨hb1, hto⟩, o3, i3, k2.trans k3⟩
            · repeat (first | with_reducible refine wF ?_ | with_reducible refine wshl (by omega) ?_ | with_reducible refine wor (by omega) (by omega) ?_ | with_reducible refine weqlF (by omega) ?_)
              refine wcall (ih (m - 1) (by omega) a (b ||| 1 <<< k) 1 n T2 p pm h2 b0 (Nat.le_sub_one_of_lt (Nat.lt_of_lt_of_le hfr hm)) hpp (.inl rfl) (by omega) hpm2 o2 (Nat.le_trans hb0 k2.1) i2) fun v h3 ⟨hv, T3, o3, i3, k3⟩ => ?_
              subst hv
              refine weql (fun e => ?_) (fun e => ?_)
              · repeat (first | with_reducible refine wT ?_ | with_reducible refine wadd1 (by omega) ?_ | dsimp only)
                have hw : winN R C (putA 2 k a) (putB 2 k b) (3 - 2) = 2 := Int.ofNat_inj.1 e
                rw [decide_eq_true hw] at hto
                exact next2 _ _ (Nat.lt_succ_self m2) ⟨k + 1, _, T3, h3, rfl, by omega, .inr ⟨rfl, moveTo_mono (by omega) hto⟩, o3, i3, k2.trans k3⟩
              · repeat (first | with_reducible refine wF ?_ | with_reducible refine wadd1 (by omega) ?_ | dsimp only)
                have hw : ¬ winN R C (putA 2 k a) (putB 2 k b) (3 - 2) = 2 := fun hh => e (congrArg Int.ofNat hh)
                rw [decide_eq_false hw] at hto
                exact next2 _ _ (Nat.lt_succ_self m2) ⟨k + 1, bst, T3, h3, rfl, by omega, .inl ⟨hb1, hto⟩, o3, i3, k2.trans k3⟩
      · have hfin : bst = ((winN R C a b t : Nat) : Int) := by rw [hwo, hb2, hb1]; rfl
        by_cases hkl : k < R * C
        · repeat (first | with_reducible refine wF ?_ | with_reducible refine wg1 rfl ?_ | with_reducible refine wpT ?_ | with_reducible refine wpv ?_ | with_reducible refine wsm ?_ | with_reducible refine wlen (Fix.now (by assumption)) ?_ | with_reducible refine wlssT (by omega) ?_ | with_reducible refine wneqF (by omega) ?_ | rw [kLoop_exit] | dsimp only)
          exact fin bst k _ T2 h2 hfin o2 i2 k2
        · repeat (first | with_reducible refine wF ?_ | with_reducible refine wg0 rfl ?_ | with_reducible refine wpF ?_ | with_reducible refine wsm ?_ | with_reducible refine wlen (Fix.now (by assumption)) ?_ | with_reducible refine wlssF (by omega) ?_ | rw [kLoop_exit] | dsimp only)
          exact fin bst k _ T2 h2 hfin o2 i2 k2

theorem table_W {R C : Nat} (hB : BoardOf R C) (hlf : 1000 < lf) (N : Nat) (hN : 1 ≤ N) (h : PHeap) :
    W (CL g lf N fn_spec_l3Table [.int .i64 ((R * C : Nat) : Int)] h) fun v h' => ∃ T, OwnSl h.length h' v T ∧ Inv R C T ∧ Keep h.length h h' := by
  obtain ⟨n, rfl⟩ : ∃ n, N = n + 1 := ⟨N - 1, by omega⟩
  have h9 := hB.2.2.2.2
  rw [spec_l3Table.call_eq]
  unfold spec_l3Table.main
  simp only [env_lf]
  refine loopW (fun m s => ∃ (k V : Nat), s = spec_l3Table.st0 (.int .i64 ((R * C : Nat) : Int)) (.int .i64 (V : Int)) (.int .i64 (k : Int)) h ∧ k + m = R * C ∧ V = 2 * 3 ^ k) ?_ lf (R * C) _ (by omega) ⟨0, 2, rfl, by omega, rfl⟩
  rintro n1 m1 s ⟨k, V, rfl, hkm, hV⟩ next
  have hp3 := pow3_le (show k ≤ 9 by omega)
  rw [spec_l3Table.body0_eq]
  unfold spec_l3Table.body0
  simp only [env_bin]
  cases m1 with
  | succ m1 =>
    repeat (first | with_reducible refine wT ?_ | with_reducible refine wadd1 (by omega) ?_ | with_reducible refine wlssT (by omega) ?_ | with_reducible refine wmul (by omega) ?_)
    refine next _ _ (Nat.lt_succ_self m1) ⟨k + 1, V * 3, rfl, by omega, by rw [Nat.pow_succ]; omega⟩
  | zero =>
    have hkR : k = R * C := by omega
    subst hkR
    subst hV
    repeat (first | with_reducible refine wF ?_ | with_reducible refine wlssF (by omega) ?_ | rw [kLoop_exit] | rw [spec_l3Table.after0_se0_0_3_4_7] | simp only [env_C, env_Y, env_g, env_lf, env_pick, env_alloc, env_box, env_build, env_buildSlice, env_load, env_store, env_ptr, env_bin, env_un, env_conv, env_make, env_slice, env_fieldAddr, env_field, env_indexAddr, env_index, env_extract, env_len, env_append, env_max, env_min, env_makeMap, env_lookup, env_update, env_clos, env_bstr, env_ext])
    refine wmake (by omega) fun p h1 o1 k1 => ?_
    repeat (first | with_reducible refine wresO (by assumption) ?_ | dsimp only)
    exact W.ret ⟨_, o1, Inv.new R C, k1⟩

theorem winner_W {R C : Nat} {xs : List Int} {p : PV} {h : PHeap} (hS : Sides (R : Int) (C : Int) R C xs) {T : Nat} (hT : T = 1 ∨ T = 2) (hp : IntSl .i64 h p xs) (hlf : 1000 < lf) (N : Nat) (hN : 16 ≤ N) :
    ∃ h', CL g lf N fn_spec_l3Winner [.int .i64 (R : Int), .int .i64 (C : Int), p, .int .i64 (T : Int)] h = some (.int .i64 ((winN R C (setL xs 1) (setL xs 2) T : Nat) : Int), h') ∧ Keep h.length h h' := by
  obtain ⟨n, rfl⟩ : ∃ n, N = n + 1 := ⟨N - 1, by omega⟩
  have hB := board_of_sides hS
  have hlen : xs.length = R * C := hS.2.2.2.2.2.2.2.1
  have h9 := hB.2.2.2.2
  have hml : (ints (masksN R C)).length = R * C := by rw [ints_length, masksN_length]
  have : W (CL g lf (n + 1) fn_spec_l3Winner [.int .i64 (R : Int), .int .i64 (C : Int), p, .int .i64 (T : Int)] h) fun v h' => v = .int .i64 ((winN R C (setL xs 1) (setL xs 2) T : Nat) : Int) ∧ Keep h.length h h' := by
    rw [spec_l3Winner.call_eq]
    unfold spec_l3Winner.main
    simp only [env_C, env_len]
    obtain ⟨pm, h1, e1, o1, k1⟩ := l2Masks_calls g lf hB n (by omega) (by omega) (h := h)
    have hp1 := hp.keep k1
    have e2 := l2Set_calls g lf 1 hp1 (by omega) n (by omega) (by omega)
    have e3 := l2Set_calls g lf 2 hp1 (by omega) n (by omega) (by omega)
    have hlm := o1.int.len'
    rw [hml] at hlm
    repeat (first | with_reducible refine wbd (by assumption) ?_ | dsimp only)
    refine wcall (table_W g lf hB hlf n (by omega) h1) fun q h2 ⟨T2, o2, i2, k2⟩ => ?_
    repeat (first | dsimp only)
    refine wcall (solve_W g lf hB hlf (R * C) (setL xs 1) (setL xs 2) T n T2 q pm h2 h1.length (fr_le _ _ _) (pos_sets hS) hT (by omega) (o1.int.fix.keep k2) o2 k2.1 i2) fun v h3 ⟨hv, T3, o3, i3, k3⟩ => ?_
    subst hv
    repeat (first | with_reducible refine wrI ?_ | dsimp only)
    exact W.ret ⟨rfl, k1.trans ((k2.trans k3).mono k1.1)⟩
  obtain ⟨_, h', e, rfl, k⟩ := this
  exact ⟨h', e, k⟩

end Go.Proofs.YtpaehbfknlpkbaeDoor

/- The model's chapter 3, on: the winning cells and the moves played on. -/
set_option maxRecDepth 20000
namespace Go.Proofs.YtpaehbfknlpkbaeDoor
open Go Go.Ip G

/-! ### two lists at once: one between two marks, that is written to, and one apart from it, that grows -/
def Apart (b0 b1 b2 : Nat) (h : PHeap) (q : PV) (ys : List Int) : Prop := ∃ n m, OwnB n m h q ys ∧ b0 ≤ n ∧ (m ≤ b1 ∨ b2 ≤ n) ∧ m ≤ h.length
theorem Apart.keep {b0 b1 b2 : Nat} {h h' : PHeap} {q : PV} {ys : List Int} (s : Apart b0 b1 b2 h q ys) (k : Keep h.length h h') : Apart b0 b1 b2 h' q ys := by
  obtain ⟨n, m, o, h1, h2, h3⟩ := s
  exact ⟨n, m, o.keep (k.mono h3), h1, h2, Nat.le_trans h3 k.1⟩
theorem Apart.only {b0 b1 b2 : Nat} {h h' : PHeap} {q : PV} {ys : List Int} (s : Apart b0 b1 b2 h q ys) (k : Only b1 b2 h h') : Apart b0 b1 b2 h' q ys := by
  obtain ⟨n, m, o, h1, h2, h3⟩ := s
  exact ⟨n, m, o.only k (h2.imp id id), h1, h2, by rw [k.1]; exact h3⟩
theorem Apart.sl {b0 b1 b2 : Nat} {h : PHeap} {q : PV} {ys : List Int} (s : Apart b0 b1 b2 h q ys) : OwnSl b0 h q ys := by
  obtain ⟨n, m, o, h1, h2, h3⟩ := s
  exact o.sl.mono h1

theorem OwnB.append {n m : Nat} {h : PHeap} {p : PV} {xs : List Int} (s : OwnB n m h p xs) (hn : n ≤ h.length) (x : Int) (hl : xs.length + 1 ≤ 2 ^ 36) :
    ∃ v p' h', buildSliceP Tryd.prog 22 1 [(0, .int .i64 x)] h = some v ∧ appendP Tryd.prog 22 22 p v.1 v.2 = some (p', h') ∧ OwnSl h.length h' p' (xs ++ [x]) ∧ Keep n h h' ∧
      ∀ a b r zs, OwnB a b h r zs → (b ≤ n ∨ m ≤ a) → OwnB a b h' r zs := by
  have hb : buildSliceP Tryd.prog 22 1 [(0, .int .i64 x)] h = some (.sl h.length 0 1, h ++ [.own 1 [.int .i64 x]]) := by
    simp [buildSliceP, tyElem, tySize, tyZero, repeatCells, fillP, PV.cells, setCells]
  have hsrc : srcP (h ++ [.own 1 [.int .i64 x]]) 1 (.sl h.length 0 1) = some (1, [.int .i64 x]) := by
    simp [srcP, cellsAt, PObj.get]
  rcases s with ⟨rfl, rfl⟩ | ⟨id, h1, h2, rfl, h3⟩
  · refine ⟨_, .sl (h.length + 1) 0 1, h ++ [.own 1 [.int .i64 x]] ++ [.own 1 [.int .i64 x]], hb, ?_, .inr ⟨h.length + 1, by omega, rfl, ?_⟩, ?_, ?_⟩
    · simp [appendP, tyElem, tySize, tySmall, hsrc]
    · rw [List.getElem?_append_right (by simp)]; simp
    · rw [List.append_assoc]; exact Keep.append _ _ _ hn
    · rintro a b r zs (⟨rfl, rfl⟩ | ⟨i, i1, i2, rfl, i3⟩) _
      · exact .inl ⟨rfl, rfl⟩
      · refine .inr ⟨i, i1, i2, rfl, ?_⟩
        have hi : i < h.length := (List.getElem?_eq_some_iff.1 i3).1
        rw [List.append_assoc, List.getElem?_append_left hi]; exact i3
  · have hid : id < h.length := (List.getElem?_eq_some_iff.1 h3).1
    have h3' : (h ++ [PObj.own 1 [.int .i64 x]])[id]? = some (.own 1 (xs.map (.int .i64))) := by rw [List.getElem?_append_left hid]; exact h3
    refine ⟨_, .sl (h.length + 1) 0 (xs.length + 1), ((h ++ [PObj.own 1 [.int .i64 x]]).set id .dead ++ [PObj.own 1 (xs.map (.int .i64) ++ [.int .i64 x])]), hb, ?_, .inr ⟨h.length + 1, by omega, by simp, ?_⟩, ?_, ?_⟩
    · simp [appendP, tyElem, tySize, tySmall, hsrc, h3', hl]
    · rw [List.getElem?_append_right (by simp)]; simp
    · exact ((Keep.append n h _ hn).trans (Keep.set n _ id .dead h1)).trans (Keep.append _ _ _ (by simp; omega))
    · rintro a b r zs (⟨rfl, rfl⟩ | ⟨i, i1, i2, rfl, i3⟩) hd
      · exact .inl ⟨rfl, rfl⟩
      · refine .inr ⟨i, i1, i2, rfl, ?_⟩
        have hi : i < h.length := (List.getElem?_eq_some_iff.1 i3).1
        rw [List.getElem?_append_left (by simp; omega), List.getElem?_set_ne (by omega), List.getElem?_append_left hi]; exact i3

section
variable {Q : PV → PHeap → Prop} {h : PHeap} {p r : PV} {xs zs : List Int} {b0 b1 b2 : Nat}
theorem wapA (s : Apart b0 b1 b2 h p xs) (o : OwnB b1 b2 h r zs) (hb0 : b0 ≤ h.length) (hb2 : b2 ≤ h.length) {x : Int} (hl : xs.length + 1 ≤ 2 ^ 36) {F : PV × PHeap → Res}
    (hf : ∀ p' h', Apart b0 b1 b2 h' p' (xs ++ [x]) → OwnB b1 b2 h' r zs → Keep b0 h h' → W (F (p', h')) Q) :
    W ((buildSliceP Tryd.prog 22 1 [(0, .int .i64 x)] h).bind fun v => (appendP Tryd.prog 22 22 p v.1 v.2).bind F) Q := by
  obtain ⟨n, m, on, h1, h2, h3⟩ := s
  rcases Nat.le_total n h.length with hn | hn
  · obtain ⟨v, p', h', e1, e2, o', k, fr⟩ := on.append hn x hl
    exact wbd e1 (wbd e2 (hf p' h' ⟨h.length, h'.length, o'.b, hb0, .inr hb2, Nat.le_refl _⟩ (fr _ _ _ _ o (by omega)) (k.mono h1)))
  · have o0 : OwnB h.length m h p xs := by
      rcases on with on | ⟨id, i1, i2, i3, i4⟩
      · exact .inl on
      · have := (List.getElem?_eq_some_iff.1 i4).1; omega
    obtain ⟨v, p', h', e1, e2, o', k, fr⟩ := o0.append (Nat.le_refl _) x hl
    exact wbd e1 (wbd e2 (hf p' h' ⟨h.length, h'.length, o'.b, hb0, .inr hb2, Nat.le_refl _⟩ (fr _ _ _ _ o (by omega)) (k.mono hb0)))
theorem wstB (s : OwnB b1 b2 h p xs) {i : Nat} (hi : i < xs.length) {x : Int} {F : PV → PHeap → Res}
    (hf : ∀ h', OwnB b1 b2 h' p (xs.set i x) → Only b1 b2 h h' → ∀ a, W (F a h') Q) :
    W ((indexAddrP Tryd.prog 22 p (.int .i64 (i : Int))).bind fun a => (storeP Tryd.prog 3 a (.int .i64 x) h).bind fun h' => F a h') Q := by
  obtain ⟨a, h', e1, e2, o, k⟩ := s.store hi x
  refine wbd e1 ?_
  show W ((storeP Tryd.prog 3 a (.int .i64 x) h).bind fun h' => F a h') Q
  exact wbd e2 (hf h' o k a)
/-- The first element is read. -/
theorem wat0 (s : IntSl .i64 h p xs) (hi : 0 < xs.length) {f : PV → Res} (hf : ∀ a, loadP Tryd.prog 3 a h = some (.int .i64 xs[0]) → W (f a) Q) : W ((indexAddrP Tryd.prog 22 p (.int .i64 0)).bind f) Q := wat s hi hf
end

/-! ### winning cells -/
def winFrom (r c : Int) (xs : List Int) (pl : Int) (k m : Nat) : List Int := ((List.range' k m).filter (winsB r c xs pl)).map fun k : Nat => (k : Int)
theorem winFrom_all (r c : Int) (xs : List Int) (pl : Int) : winFrom r c xs pl 0 xs.length = winCellsL r c xs pl := by unfold winFrom winCellsL; rw [List.range_eq_range']
theorem winFrom_succ (r c : Int) (xs : List Int) (pl : Int) (k m : Nat) : winFrom r c xs pl k (m + 1) = if winsB r c xs pl k = true then (k : Int) :: winFrom r c xs pl (k + 1) m else winFrom r c xs pl (k + 1) m := by
  unfold winFrom
  rw [List.range'_succ, List.filter_cons]
  split <;> rfl

variable (g : Nat → PV) (lf n : Nat)

theorem specWinningCells_calls {xs : List Int} {p : PV} {h : PHeap} (N : Nat) (hN : 18 ≤ N) (r c pl : Int) (hp : IntSl .i64 h p xs) (hl : xs.length ≤ 2 ^ 35) (hf : xs.length < lf) (hlf : 1000 < lf) :
    ∃ q h', CL g lf N fn_spec_WinningCells [.int .i64 r, .int .i64 c, p, .int .i64 pl] h = some (q, h') ∧ OwnSl h.length h' q (winCellsL r c xs pl) ∧ Keep h.length h h' := by
  obtain ⟨n, rfl⟩ : ∃ n, N = n + 1 := ⟨N - 1, by omega⟩
  suffices this : W (CL g lf (n + 1) fn_spec_WinningCells [.int .i64 r, .int .i64 c, p, .int .i64 pl] h) fun q h' => OwnSl h.length h' q (winCellsL r c xs pl) ∧ Keep h.length h h' by
    obtain ⟨q, h', e, o, k⟩ := this
    exact ⟨q, h', e, o, k⟩
  rw [spec_WinningCells.call_eq]
  unfold spec_WinningCells.main
  simp only [env_lf, env_buildSlice]
  refine wempty fun q h1 o1 k1 => ?_
  refine loopW (fun m s => ∃ (k : Nat) (ys : List Int) (q : PV) (h2 : PHeap), s = spec_WinningCells.st0 (.int .i64 r) (.int .i64 c) p (.int .i64 pl) q (.int .i64 (k : Int)) h2 ∧ k + m = xs.length ∧ ys.length ≤ k ∧ ys ++ winFrom r c xs pl k m = winCellsL r c xs pl ∧ OwnSl h.length h2 q ys ∧ Keep h.length h h2) ?_ lf xs.length _ hf ⟨0, [], q, h1, rfl, by omega, Nat.le_refl _, winFrom_all r c xs pl, o1, k1⟩
  rintro n1 m s ⟨k, ys, q, h2, rfl, hkm, hy, hL, o2, k2⟩ next
  have hp2 := hp.keep k2
  rw [spec_WinningCells.body0_eq]
  unfold spec_WinningCells.body0
  simp only [env_C, env_pick, env_buildSlice, env_bin, env_extract, env_len, env_append]
  cases m with
  | zero =>
    repeat (first | with_reducible refine wF ?_ | with_reducible refine wlen (by assumption) ?_ | with_reducible refine wlssF (by omega) ?_ | with_reducible refine wresO (by assumption) ?_ | rw [kLoop_exit] | rw [spec_WinningCells.after0_se0_0_1_2_3_9_10_17])
    have : winFrom r c xs pl k 0 = [] := rfl
    rw [this, List.append_nil] at hL
    exact W.ret ⟨hL ▸ o2, k2⟩
  | succ m =>
    have hk : k < xs.length := by omega
    rw [winFrom_succ] at hL
    obtain ⟨q3, h3, e3, o3, k3⟩ := specPlayed_calls g lf n (by omega) r c (k : Int) pl hp2 hl hf hlf
    cases hm : moveL r c xs (k : Int) pl with
    | false =>
      have hw : winsB r c xs pl k = false := by unfold winsB; rw [hm]; rfl
      rw [hw, if_neg (by decide)] at hL
      rw [hm] at e3
      repeat (first | with_reducible refine wT ?_ | with_reducible refine wF ?_ | with_reducible refine wg0 rfl ?_ | with_reducible refine wpF ?_ | with_reducible refine wsm ?_ | with_reducible refine wx0 ?_ | with_reducible refine wx1 ?_ | with_reducible refine wbd (by assumption) ?_ | with_reducible refine wlen (by assumption) ?_ | with_reducible refine wadd1 (by omega) ?_ | with_reducible refine wlssT (by omega) ?_ | dsimp only)
      exact next _ _ (Nat.lt_succ_self m) ⟨k + 1, ys, q, h3, rfl, by omega, by omega, hL, o2.keep k3, k2.trans (k3.mono k2.1)⟩
    | true =>
      obtain ⟨hb, hpl, hk0, hj1, hj2⟩ := moveL_iff.1 hm
      rw [hm] at e3
      rw [playedL_eq hm] at o3
      obtain ⟨R, C, hS⟩ := sides_of hb
      obtain ⟨P, rfl, hP⟩ := player_of hpl
      obtain ⟨rfl, rfl, _⟩ := id hS
      have hP' : 3 - P = 1 ∨ 3 - P = 2 := by omega
      have e4 := other_W g lf n (by omega) h3 hP
      have hS2 := sides_set hb hS (k := k) hP
      obtain ⟨h5, e5, k5⟩ := winner_W g lf hS2 hP' o3.int hlf n (by omega)
      have kk : Keep h.length h h5 := (k2.trans (k3.mono k2.1)).trans (k5.mono (Nat.le_trans k2.1 k3.1))
      have o5 := (o2.keep k3).keep k5
      have hv : winL (R : Int) (C : Int) (xs.set k (P : Int)) (3 - (P : Int)) = ((winN R C (setL (xs.set k (P : Int)) 1) (setL (xs.set k (P : Int)) 2) (3 - P) : Nat) : Int) := by
        rw [show (3 : Int) - (P : Int) = ((3 - P : Nat) : Int) by omega]; exact winL_eq (pos_set hb hP k) hP'
      have hw : winsB (R : Int) (C : Int) xs (P : Int) k = decide (((winN R C (setL (xs.set k (P : Int)) 1) (setL (xs.set k (P : Int)) 2) (3 - P) : Nat) : Int) = (P : Int)) := by unfold winsB; rw [hm, hv, Bool.true_and]
      rw [hw] at hL
      repeat (first | with_reducible refine wT ?_ | with_reducible refine wg1 rfl ?_ | with_reducible refine wpv ?_ | with_reducible refine wsm ?_ | with_reducible refine wx0 ?_ | with_reducible refine wx1 ?_ | with_reducible refine wbd (by assumption) ?_ | with_reducible refine wlen (by assumption) ?_ | with_reducible refine wlssT (by omega) ?_ | dsimp only)
      refine weql (fun e => ?_) (fun e => ?_)
      · rw [decide_eq_true e, if_pos rfl] at hL
        repeat (first | with_reducible refine wT ?_ | with_reducible refine wpT ?_ | (refine wap o5 kk.1 (by omega) fun p' h6 o6 k6 => ?_) | with_reducible refine wadd1 (by omega) ?_ | dsimp only)
        exact next _ _ (Nat.lt_succ_self m) ⟨k + 1, ys ++ [(k : Int)], p', h6, rfl, by omega, by simp; omega, by rw [List.append_assoc]; exact hL, o6, kk.trans k6⟩
      · rw [decide_eq_false e, if_neg (by decide)] at hL
        repeat (first | with_reducible refine wF ?_ | with_reducible refine wpT ?_ | with_reducible refine wadd1 (by omega) ?_)
        exact next _ _ (Nat.lt_succ_self m) ⟨k + 1, ys, q, h5, rfl, by omega, by omega, hL, o5, kk⟩

/-! ### played on -/
theorem goB_false {R C : Nat} {zs : List Int} {f : Nat} {T : Int} (h : goB (R : Int) (C : Int) zs = false) : lineF (R : Int) (C : Int) f zs T = [] := by
  cases f with
  | zero => rfl
  | succ f => rw [lineF, h]; rfl

theorem specLine_loop {R C : Nat} (hlf : 1000 < lf) (hn : 18 ≤ n) {L : List Int} (hL9 : L.length ≤ 9) {b0 b1 b2 : Nat} {h : PHeap} (hb01 : b0 ≤ b1) (hb12 : b1 ≤ b2) (h0 : b0 ≤ h.length) {zs : List Int} {T : Nat} {q pn : PV} {h1 : PHeap} (hb : posB (R : Int) (C : Int) zs = true) (hT : T = 1 ∨ T = 2) {F : Nat} (hF : pop (setL zs 0) ≤ F) (hF9 : F ≤ 9) (hL : lineF (R : Int) (C : Int) F zs (T : Int) = L)
    (oq : Apart b0 b1 b2 h1 q []) (on : OwnB b1 b2 h1 pn zs) (h2 : b2 ≤ h1.length) (k1 : Keep b0 h h1) :
    W (loopK (ev ((env g lf n).cx Tryd.prog spec_LinePlayed.kl) spec_LinePlayed.lp0) lf (spec_LinePlayed.st0 (.int .i64 (R : Int)) (.int .i64 (C : Int)) (.int .i64 (T : Int)) q pn h1) (spec_LinePlayed.K0 (env g lf n) (kTop Tryd.prog Tryd.f10)))
      fun v h' => OwnSl b0 h' v L ∧ Keep b0 h h' := by
  refine loopW (fun m s => ∃ (zs ys : List Int) (T : Nat) (q : PV) (h1 : PHeap), s = spec_LinePlayed.st0 (.int .i64 (R : Int)) (.int .i64 (C : Int)) (.int .i64 (T : Int)) q pn h1 ∧ posB (R : Int) (C : Int) zs = true ∧ (T = 1 ∨ T = 2) ∧ pop (setL zs 0) ≤ m ∧ ys ++ lineF (R : Int) (C : Int) m zs (T : Int) = L ∧
    Apart b0 b1 b2 h1 q ys ∧ OwnB b1 b2 h1 pn zs ∧ b2 ≤ h1.length ∧ Keep b0 h h1) ?_ lf F _ (by omega) ⟨zs, [], T, q, h1, rfl, hb, hT, hF, hL, oq, on, h2, k1⟩
  · clear hL on h2 k1 hb hT oq hF
    rintro n1 m s ⟨zs, ys, T, q, h1, rfl, hb, hT, hpop, hL, oq, on, h2, k1⟩ next
    obtain ⟨R', C', hS'⟩ := sides_of hb
    have hRR : R' = R := by have := hS'.1; omega
    have hCC : C' = C := by have := hS'.2.1; omega
    subst hRR hCC
    have hS := hS'
    have h9 : zs.length ≤ 9 := by have := hS.2.2.2.2.2.2.2.1; have := hS.2.2.2.2.2.2.1; omega
    have hs0 := set_lt9 hS 0
    have e1 := l2Set_calls g lf 0 on.int (by omega) n (by omega) (by omega)
    obtain ⟨h3, e3, k3⟩ := specJoins_calls g lf n (by omega) (R' : Int) (C' : Int) 1 on.int (by omega) (by omega) hlf
    have on3 := on.keep (k3.mono h2)
    obtain ⟨h4, e4, k4⟩ := specJoins_calls g lf n (by omega) (R' : Int) (C' : Int) 2 on3.int (by omega) (by omega) hlf
    have h23 : b2 ≤ h3.length := Nat.le_trans h2 k3.1
    have h24 : b2 ≤ h4.length := Nat.le_trans h23 k4.1
    have on4 := on3.keep (k4.mono h23)
    have oq4 := (oq.keep k3).keep k4
    have k13 : Keep b0 h h3 := k1.trans (k3.mono (by omega))
    have k14 : Keep b0 h h4 := k13.trans (k4.mono (by omega))
    rw [spec_LinePlayed.body0_eq]
    unfold spec_LinePlayed.body0
    simp only [env_C, env_pick, env_buildSlice, env_load, env_store, env_bin, env_un, env_indexAddr, env_len, env_append]
    cases hg : goB (R' : Int) (C' : Int) zs with
    | false =>
      rw [goB_false hg, List.append_nil] at hL
      unfold goB at hg
      by_cases hz : setL zs 0 = 0
      · repeat (first | with_reducible refine wF ?_ | with_reducible refine wg0 rfl ?_ | with_reducible refine wpF ?_ | with_reducible refine wsm ?_ | with_reducible refine wbd (by assumption) ?_ | with_reducible refine wneqF (by omega) ?_ | rw [kLoop_exit] | rw [spec_LinePlayed.after0_se0_0_1_3_9_10_44] | dsimp only)
        refine wresO oq.sl ?_
        exact W.ret ⟨hL ▸ oq.sl, k1⟩
      · rw [decide_eq_false hz, Bool.not_false, Bool.true_and] at hg
        cases hj1 : joinsL (R' : Int) (C' : Int) zs 1 with
        | true =>
          rw [hj1] at e3
          repeat (first | with_reducible refine wF ?_ | with_reducible refine wg1 rfl ?_ | with_reducible refine wg0 rfl ?_ | with_reducible refine wpT ?_ | with_reducible refine wpF ?_ | with_reducible refine wnT ?_ | with_reducible refine wpv ?_ | with_reducible refine wsm ?_ | with_reducible refine wbd (by assumption) ?_ | with_reducible refine wneqT (by omega) ?_ | rw [kLoop_exit] | rw [spec_LinePlayed.after0_se0_0_1_3_9_10_44] | dsimp only)
          refine wresO (oq.keep k3).sl ?_
          exact W.ret ⟨hL ▸ (oq.keep k3).sl, k13⟩
        | false =>
          rw [hj1, Bool.not_false, Bool.true_and] at hg
          have hj2 : joinsL (R' : Int) (C' : Int) zs 2 = true := by simpa using hg
          rw [hj1] at e3
          rw [hj2] at e4
          repeat (first | with_reducible refine wF ?_ | with_reducible refine wg1 rfl ?_ | with_reducible refine wpT ?_ | with_reducible refine wnT ?_ | with_reducible refine wnF ?_ | with_reducible refine wpv ?_ | with_reducible refine wsm ?_ | with_reducible refine wbd (by assumption) ?_ | with_reducible refine wneqT (by omega) ?_ | rw [kLoop_exit] | rw [spec_LinePlayed.after0_se0_0_1_3_9_10_44] | dsimp only)
          refine wresO oq4.sl ?_
          exact W.ret ⟨hL ▸ oq4.sl, k14⟩
    | true =>
      obtain ⟨hj1, hj2⟩ := (goB_iff hb hS).1 hg
      have hz : ¬ setL zs 0 = 0 := by unfold goB at hg; simp only [Bool.and_eq_true, Bool.not_eq_true', decide_eq_false_iff_not] at hg; exact hg.1.1
      rw [hj1] at e3
      rw [hj2] at e4
      obtain ⟨kf, lfree, hlist, hkf⟩ := listN_some hs0 hz
      obtain ⟨m, rfl⟩ : ∃ m', m = m' + 1 := ⟨m - 1, by have := pop_without hs0 hkf; omega⟩
      obtain ⟨V, hV, hV2⟩ := winL_cases hb hT
      obtain ⟨k, hk, hm, _⟩ := stepL_ok hb hS hT hV2 hg hV
      have hk0 := (moveL_iff.1 hm).2.2.1
      have hkl : k < zs.length := (List.getElem?_eq_some_iff.1 hk0).1
      rw [lineF, if_pos hg, hk] at hL
      have hyl : ys.length ≤ 9 := by rw [← hL] at hL9; simp at hL9; omega
      have e5 := l2Set_calls g lf 0 on4.int (by omega) n (by omega) (by omega)
      obtain ⟨qf, h6, e6, o6, k6⟩ := l2List_calls g lf hs0 n (by omega) (by omega) (h := h4)
      have h26 : b2 ≤ h6.length := Nat.le_trans h24 k6.1
      have on6 := on4.keep (k6.mono h24)
      have oq6 := oq4.keep k6
      obtain ⟨qw, h7, e7, o7, k7⟩ := specWinningCells_calls g lf n (by omega) (R' : Int) (C' : Int) (T : Int) on6.int (by omega) (by omega) hlf
      have h27 : b2 ≤ h7.length := Nat.le_trans h26 k7.1
      have on7 := on6.keep (k7.mono h26)
      have oq7 := oq6.keep k7
      have k17 : Keep b0 h h7 := (k14.trans (k6.mono (by omega))).trans (k7.mono (by omega))
      have hT' : 3 - T = 1 ∨ 3 - T = 2 := by omega
      have hpop2 : pop (setL (zs.set k (T : Int)) 0) ≤ m := by
        rw [(set_more hS hT hk0).2.1]
        have := pop_without hs0 (setL_bit.2 hk0)
        omega
      have fin : ∀ p' h8, Apart b0 b1 b2 h8 p' (ys ++ [(k : Int)]) → OwnB b1 b2 h8 pn zs → Keep b0 h7 h8 → ∀ h9 (a : PV), OwnB b1 b2 h9 pn (zs.set k (T : Int)) → Only b1 b2 h8 h9 → b2 ≤ h8.length →
          W (kLoop (ev ((env g lf n).cx Tryd.prog spec_LinePlayed.kl) spec_LinePlayed.lp0) n1 (spec_LinePlayed.K0 (env g lf n) (kTop Tryd.prog Tryd.f10)) .normal (spec_LinePlayed.st0 (.int .i64 (R' : Int)) (.int .i64 (C' : Int)) (.int .i64 ((3 - T : Nat) : Int)) p' pn h9)) fun v h' => OwnSl b0 h' v L ∧ Keep b0 h h' := by
        intro p' h8 a8 _ k8 h9 _ o9 on9 hb28
        refine next m _ (Nat.lt_succ_self m) ⟨zs.set k (T : Int), ys ++ [(k : Int)], 3 - T, p', h9, rfl, pos_set hb hT k, hT', hpop2, ?_, a8.only on9, o9, by rw [on9.1]; exact hb28, (k17.trans k8).trans (on9.keep.mono hb01)⟩
        rw [List.append_assoc, ← hL, show ((3 - T : Nat) : Int) = 3 - (T : Int) by omega]
        rfl
      have h8len : ∀ h8 : PHeap, Keep b0 h7 h8 → b2 ≤ h8.length := fun h8 k8 => Nat.le_trans h27 k8.1
      have e10 : ∀ h9, CL g lf n fn_spec_l1Other [.int .i64 (T : Int)] h9 = some (.int .i64 ((3 - T : Nat) : Int), h9) := fun h9 => other_W g lf n (by omega) h9 hT
      rw [hlist] at o6
      unfold stepL at hk
      rw [hlist] at hk
      cases hw : winCellsL (R' : Int) (C' : Int) zs (T : Int) with
      | nil =>
        rw [hw] at o7 hk
        have hkk : (kf : Int) = (k : Int) := hk
        have hkk2 : kf = k := by omega
        subst hkk2
        repeat (first | with_reducible refine wT ?_ | with_reducible refine wg1 rfl ?_ | with_reducible refine wpT ?_ | with_reducible refine wnF ?_ | with_reducible refine wpv ?_ | with_reducible refine wsm ?_ | with_reducible refine wbd (by assumption) ?_ | with_reducible refine wlen (OwnSl.int (by assumption)) ?_ | (with_reducible refine wat0 o6.int (by simp) fun a hl => ?_) | with_reducible refine wneqT (by omega) ?_ | dsimp only)
        refine wapA oq7 on7 (by omega) h27 (by omega) fun p' h8 a8 o8 k8 => ?_
        refine wstB o8 hkl fun h9 o9 on9 a9 => ?_
        refine wbd (e10 h9) ?_
        exact fin p' h8 a8 o8 k8 h9 a9 o9 on9 (h8len h8 k8)
      | cons w wl =>
        rw [hw] at o7 hk
        have hkk : w = (k : Int) := hk
        subst hkk
        have hlw : ((k : Int) :: wl).length = wl.length + 1 := rfl
        repeat (first | with_reducible refine wT ?_ | with_reducible refine wg1 rfl ?_ | with_reducible refine wpT ?_ | with_reducible refine wnF ?_ | with_reducible refine wpv ?_ | with_reducible refine wsm ?_ | with_reducible refine wbd (by assumption) ?_ | with_reducible refine wlen (OwnSl.int (by assumption)) ?_ | (with_reducible refine wat0 o6.int (by simp) fun a hl => ?_) | (with_reducible refine wat0 o7.int (by simp) fun a hl => ?_) | with_reducible refine wgtrT (by omega) ?_ | with_reducible refine wneqT (by omega) ?_ | dsimp only)
        refine wapA oq7 on7 (by omega) h27 (by omega) fun p' h8 a8 o8 k8 => ?_
        refine wstB o8 hkl fun h9 o9 on9 a9 => ?_
        refine wbd (e10 h9) ?_
        exact fin p' h8 a8 o8 k8 h9 a9 o9 on9 (h8len h8 k8)

theorem specLinePlayed_calls {xs : List Int} {p : PV} {h : PHeap} (N : Nat) (hN : 19 ≤ N) (r c t : Int) (hp : IntSl .i64 h p xs) (hl : xs.length ≤ 2 ^ 35) (hf : xs.length < lf) (hlf : 1000 < lf) :
    ∃ q h', CL g lf N fn_spec_LinePlayed [.int .i64 r, .int .i64 c, p, .int .i64 t] h = some (q, h') ∧ OwnSl h.length h' q (lineL r c xs t) ∧ Keep h.length h h' := by
  obtain ⟨n, rfl⟩ : ∃ n, N = n + 1 := ⟨N - 1, by omega⟩
  suffices this : W (CL g lf (n + 1) fn_spec_LinePlayed [.int .i64 r, .int .i64 c, p, .int .i64 t] h) fun q h' => OwnSl h.length h' q (lineL r c xs t) ∧ Keep h.length h h' by
    obtain ⟨q, h', e, o, k⟩ := this
    exact ⟨q, h', e, o, k⟩
  rw [spec_LinePlayed.call_eq]
  unfold spec_LinePlayed.main
  simp only [env_C, env_lf, env_pick, env_buildSlice, env_un, env_append]
  refine wempty fun q h1 o1 k1 => ?_
  have hp1 := hp.keep k1
  have hpos := specPositionOk_N g lf n (by omega) r c hp1 (by omega) hf
  have hin1 : CL g lf n fn_spec_l1In [.int .i64 t, .int .i64 1, .int .i64 2] h1 = some (.bool (playerB t), h1) := l1In_N g lf n (by omega) h1 t 1 2
  cases hb : posB r c xs with
  | false =>
    rw [hb] at hpos
    repeat (first | with_reducible refine wT ?_ | with_reducible refine wg0 rfl ?_ | with_reducible refine wpT ?_ | with_reducible refine wnF ?_ | with_reducible refine wsm ?_ | with_reducible refine wbd (by assumption) ?_ | with_reducible refine wresO (by assumption) ?_ | dsimp only)
    exact W.ret ⟨by rw [lineL_none (.inl hb)]; exact o1, k1⟩
  | true =>
    rw [hb] at hpos
    cases hpl : playerB t with
    | false =>
      rw [hpl] at hin1
      repeat (first | with_reducible refine wT ?_ | with_reducible refine wg1 rfl ?_ | with_reducible refine wpF ?_ | with_reducible refine wnT ?_ | with_reducible refine wnF ?_ | with_reducible refine wpv ?_ | with_reducible refine wsm ?_ | with_reducible refine wbd (by assumption) ?_ | with_reducible refine wresO (by assumption) ?_ | dsimp only)
      refine W.ret ⟨?_, k1⟩
      unfold lineL; rw [hpl, Bool.and_false, if_neg (by decide)]; exact o1
    | true =>
      rw [hpl] at hin1
      obtain ⟨R, C, hS⟩ := sides_of hb
      obtain ⟨T, rfl, hT⟩ := player_of hpl
      obtain ⟨rfl, rfl, _⟩ := id hS
      have hlen : xs.length = R * C := hS.2.2.2.2.2.2.2.1
      have h9 : xs.length ≤ 9 := by have := hS.2.2.2.2.2.2.1; omega
      have hpos1 : 1 ≤ xs.length := by rw [hlen]; exact Nat.mul_pos hS.2.2.1 hS.2.2.2.2.1
      obtain ⟨v, pn, h2, e2, e3, o2, k2⟩ := copy_all hp1 (by omega) (by omega)
      have hLe : lineF (R : Int) (C : Int) xs.length xs (T : Int) = lineL (R : Int) (C : Int) xs (T : Int) := by unfold lineL; rw [hb, hpl]; rfl
      have hll := lineL_length (R : Int) (C : Int) xs (T : Int)
      repeat (first | with_reducible refine wF ?_ | with_reducible refine wg1 rfl ?_ | with_reducible refine wpF ?_ | with_reducible refine wnT ?_ | with_reducible refine wpv ?_ | with_reducible refine wsm ?_ | with_reducible refine wbd (by assumption) ?_ | dsimp only)
      refine (specLine_loop g lf n hlf (by omega) (L := lineL (R : Int) (C : Int) xs (T : Int)) (by omega) (b0 := h.length) (b1 := h1.length) (b2 := h2.length) (h := h) k1.1 k2.1 (Nat.le_refl _) hb hT (F := xs.length) ?_ h9 hLe ⟨h.length, h1.length, o1.b.keep k2, Nat.le_refl _, .inl (Nat.le_refl _), k2.1⟩ o2.b (Nat.le_refl _) (k1.trans (k2.mono k1.1)))
      rw [hlen]
      exact pop_le (by omega) (set_lt hS 0)

end Go.Proofs.YtpaehbfknlpkbaeDoor

/- Chapter 3's laws over what the program's functions are asked to compute: the draws, and the exact laws. -/
set_option maxRecDepth 20000
namespace Go.Proofs.YtpaehbfknlpkbaeDoor
open Go Go.Ip G

def LineOk (g : Nat → PV) (lf : Nat) : Prop := ∀ (N : Nat), 40 ≤ N → ∀ (r c t : Int) {xs : List Int} {p : PV} {h : PHeap}, TabOk g h → IntSl .i64 h p xs → xs.length ≤ 2 ^ 35 → xs.length < lf →
  ∃ q h', CL g lf N fn_impl_LinePlayed [.int .i64 r, .int .i64 c, p, .int .i64 t] h = some (q, h') ∧ OwnSl h.length h' q (lineL r c xs t) ∧ Keep h.length h h'

theorem W.yes {x : Res} (hx : W x fun v _ => v = .bool true) : ∃ h', x = some (.bool true, h') := by
  obtain ⟨_, h', e, rfl⟩ := hx; exact ⟨h', e⟩
section
variable {Q : PV → PHeap → Prop} {b : Bool} {f : PV → Res}
end
theorem Fix.re {m : Nat} {h h' : PHeap} {p : PV} {xs : List Int} (s : Fix m h p xs) (k : Keep m h h') (hm : m ≤ h.length) : Fix h'.length h' p xs := fun h2 k2 => s h2 (k.trans (k2.mono (Nat.le_trans hm k.1)))
variable (g : Nat → PV) (lf n : Nat)

/-! ### the draws -/
end Go.Proofs.YtpaehbfknlpkbaeDoor

/- The laws of chapter 3 over what the program's functions are asked to compute: promises 16, 17, 18 and 21. -/
set_option maxRecDepth 20000
namespace Go.Proofs.YtpaehbfknlpkbaeDoor
open Go Go.Ip G

variable (g : Nat → PV) (lf n : Nat)

end Go.Proofs.YtpaehbfknlpkbaeDoor

/- The laws of chapter 3 over what the program's functions are asked to compute: promises 18, 19, 20 and 22. -/
set_option maxRecDepth 20000
namespace Go.Proofs.YtpaehbfknlpkbaeDoor
open Go Go.Ip G

theorem Fix.get {b : Nat} {h h' : PHeap} {p : PV} {xs : List Int} (s : Fix b h p xs) (k : Keep b h h') : IntSl .i64 h' p xs := s h' k
variable (g : Nat → PV) (lf n : Nat)

end Go.Proofs.YtpaehbfknlpkbaeDoor

/- The boards that the model draws for chapters 4 and 5, and the draws. -/
set_option maxRecDepth 20000
namespace Go.Proofs.YtpaehbfknlpkbaeDoor
open Go Go.Ip Go.RowKit G

variable (g : Nat → PV) (lf n : Nat)

end Go.Proofs.YtpaehbfknlpkbaeDoor

/- Stolen plans and pairs that answer: what chapter 4's functions tell, and what holds of it. No program text. -/
set_option maxRecDepth 20000
namespace Go.Proofs.YtpaehbfknlpkbaeDoor
open Go Go.Ip G

/-! ### pairs -/
/-! ### pairs that are shared -/
/-! ### openings -/
def freeL (R C : Nat) : List Int := List.replicate (R * C) 0
end Go.Proofs.YtpaehbfknlpkbaeDoor

/- Fillings: how many of them a player wins, which cells matter, and that stones on cells that do not matter change nothing. No program text. -/
set_option maxRecDepth 20000
namespace Go.Proofs.YtpaehbfknlpkbaeDoor
open Go Go.Ip G

/-! ### counting over all fillings of some cells -/
/-! ### what a stone more is worth -/
/-! ### each filling is won by one -/
/-- A position whose free cells are those of a list. -/
structure Cover (R C a b : Nat) (l : List Nat) : Prop where
  pos : Pos R C a b
  nodup : l.Nodup
  free : ∀ j, j ∈ l ↔ j < R * C ∧ (a ||| b).testBit j = false
theorem Cover.put {R C a b c : Nat} {l : List Nat} (h : Cover R C a b (c :: l)) (t : Nat) : Cover R C (putA t c a) (putB t c b) l := by
  have hc := (h.free c).1 (List.mem_cons_self ..)
  have hnd := List.nodup_cons.1 h.nodup
  refine ⟨h.pos.put hc.1 hc.2, hnd.2, fun j => ?_⟩
  rw [put_bit, Bool.or_eq_false_iff, decide_eq_false_iff_not]
  constructor
  · intro hj
    have := (h.free j).1 (List.mem_cons_of_mem _ hj)
    exact ⟨this.1, this.2, fun e => hnd.1 (e ▸ hj)⟩
  · rintro ⟨h1, h2, h3⟩
    exact (List.mem_cons.1 ((h.free j).2 ⟨h1, h2⟩)).resolve_left h3
/-! ### the free cells of a set, as a list -/
/-! ### played to the last cell -/
end Go.Proofs.YtpaehbfknlpkbaeDoor

/- What chapter 5's functions tell of a position (countL, pivotL, mattersL, deadL), and what holds of them. No program text. -/
set_option maxRecDepth 20000
namespace Go.Proofs.YtpaehbfknlpkbaeDoor
open Go Go.Ip G

section
variable {R C : Nat} {xs : List Int} (hb : posB (R : Int) (C : Int) xs = true) (hS : Sides (R : Int) (C : Int) R C xs)
include hS
omit hS
include hb
include hS
/-! ### turned and mirrored -/
/-! ### dead cells -/
end

end Go.Proofs.YtpaehbfknlpkbaeDoor

/- Carriers and threats: what holds of positions whose free cells outside a set are given to the other player. No program text. -/
set_option maxRecDepth 20000
namespace Go.Proofs.YtpaehbfknlpkbaeDoor
open Go Go.Ip G

section
variable {R C : Nat} {xs ys : List Int} (hb : posB (R : Int) (C : Int) xs = true) (hb' : posB (R : Int) (C : Int) ys = true)
include hb
include hb'
end

section
variable {xs : List Int} {P : Nat} (hP : P = 1 ∨ P = 2)
include hP
end
section
variable {R C P : Nat} {xs : List Int} (hb : posB (R : Int) (C : Int) xs = true) (hP : P = 1 ∨ P = 2)
include hb hP
end

end Go.Proofs.YtpaehbfknlpkbaeDoor

/- The program's sets of cells: the cells with a stone, the sides, growing and gaps, walked through with the rules of XW. -/
set_option maxRecDepth 20000
namespace Go.Proofs.YtpaehbfknlpkbaeDoor
open Go Go.Ip G

/-! ### sets, without program text -/
theorem bit_of_ne {w : Nat} (h : w ≠ 0) : ∃ j, w.testBit j = true := by
  apply Classical.byContradiction
  intro hh
  refine h (Nat.eq_of_testBit_eq fun j => ?_)
  rw [Nat.zero_testBit]
  cases e : w.testBit j with
  | false => rfl
  | true => exact (hh ⟨j, e⟩).elim

theorem orAll_or : ∀ (L : List Int) (w : Nat), orAll w L = w ||| orAll 0 L
  | [], w => by simp [orAll]
  | e :: l, w => by rw [orAll, orAll_or l, orAll, orAll_or l (0 ||| _), Nat.zero_or, Nat.or_assoc]

theorem wide_step {R C S : Nat} (hB : BoardOf R C) : ∀ (m i w : Nat), i + m = R * C → wideFrom R C S m i w = stepFrom (2 ^ 9 - 1) S i ((masksN R C).drop i) w
  | 0, i, w, h => by rw [List.drop_eq_nil_of_le (by rw [masksN_length]; omega)]; rfl
  | m + 1, i, w, h => by
    have hi : i < (masksN R C).length := by rw [masksN_length]; omega
    have hm : (masksN R C)[i] = orAll 0 (nearN R C i) := by simp [masksN]
    have hlt : (masksN R C)[i] < 2 ^ 9 := masksN_lt hB _ (List.getElem_mem hi)
    have ha : (masksN R C)[i] &&& (2 ^ 9 - 1) = (masksN R C)[i] := by rw [Nat.and_two_pow_sub_one_eq_mod, Nat.mod_eq_of_lt hlt]
    rw [wideFrom, List.drop_eq_getElem_cons hi, stepFrom, Nat.and_one_is_mod, wide_step hB m (i + 1) _ (by omega), ha, hm]
    congr 1
    by_cases e : S >>> i % 2 = 1
    · rw [if_pos e, if_neg (by omega), orAll_or]
    · rw [if_neg e, if_pos (by omega)]

theorem wide_bit {R C S : Nat} (hB : BoardOf R C) (j : Nat) : (wideN R C S).testBit j = true ↔ S.testBit j = true ∨ ∃ k, S.testBit k = true ∧ Adj (masksN R C) k j := by
  unfold wideN
  rw [wide_step hB _ 0 S (by omega), List.drop_zero, stepFrom_bit]
  refine or_congr_right ⟨fun ⟨i, h1, h2, _⟩ => ⟨i, by simpa using h1, h2⟩, fun ⟨i, h1, h2⟩ => ⟨i, by simpa using h1, h2, ?_⟩⟩
  have := (adj_in hB h2).2
  have h9 := hB.2.2.2.2
  rw [Nat.testBit_two_pow_sub_one]; simp; omega

theorem wide_lt {R C S : Nat} (hB : BoardOf R C) (hS : S < 2 ^ 9) : wideN R C S < 2 ^ 9 := by
  obtain ⟨h1, h2, h3, h4, h9⟩ := hB; exact wideFrom_lt h1 h2 h3 h4 h9 _ _ _ (by omega) hS

theorem grown_is {M : List Nat} {S T X : Nat} (hS : S < 2 ^ 9) (hT : T < 2 ^ 9) (h0 : ∀ j, S.testBit j = true → X.testBit j = true) (hr : ∀ j, X.testBit j = true → Reach M (S ||| T) S j)
    (hc : ∀ k j, X.testBit k = true → Adj M k j → T.testBit j = true → X.testBit j = true) : X = growN M (S ||| T) S := by
  apply Nat.eq_of_testBit_eq
  intro j
  rw [Bool.eq_iff_iff, grow_bit (Nat.or_lt_two_pow hS hT)]
  refine ⟨hr j, fun h => ?_⟩
  induction h with
  | start h _ => exact h0 _ h
  | step _ ha hs ih =>
    rw [Nat.testBit_or, Bool.or_eq_true] at hs
    rcases hs with hs | hs
    · exact h0 _ hs
    · exact hc _ _ ih ha hs

theorem grown_in {M : List Nat} {own first : Nat} : growN M ((first &&& own) ||| own) (first &&& own) = growN M own first := by
  have : (first &&& own) ||| own = own := by
    apply Nat.eq_of_testBit_eq; intro j
    rw [Nat.testBit_or, Nat.testBit_and]; cases first.testBit j <;> cases own.testBit j <;> rfl
  rw [this]
  unfold growN
  rw [Nat.and_assoc, Nat.and_self]

theorem listN_filter (S : Nat) : listN S = ((List.range 9).filter S.testBit).map fun k : Nat => (k : Int) := by
  have : ∀ m k, listFrom S m k = ((List.range' k m).filter S.testBit).map fun k : Nat => (k : Int) := by
    intro m
    induction m with
    | zero => intro k; rfl
    | succ m ih =>
      intro k
      rw [listFrom, List.range'_succ, List.filter_cons, ih]
      by_cases e : S >>> k % 2 = 1
      · rw [if_pos e, if_pos ((bit_iff S k).1 e), List.map_cons]
      · rw [if_neg e, if_neg (fun h => e ((bit_iff S k).2 h))]
  rw [List.range_eq_range']; exact this 9 0

variable (g : Nat → PV) (lf n : Nat)

/-! ### the program -/
theorem playerOk_W (N : Nat) (hN : 1 ≤ N) (h : PHeap) (p : Int) : CL g lf N fn_impl_playerOk [.int .i64 p] h = some (.bool (playerB p), h) := by
  obtain ⟨n, rfl⟩ : ∃ n, N = n + 1 := ⟨N - 1, by omega⟩
  have : W (CL g lf (n + 1) fn_impl_playerOk [.int .i64 p] h) fun v h' => v = .bool (playerB p) ∧ h' = h := by
    rw [impl_playerOk.call_eq]
    unfold impl_playerOk.main
    simp only [env_pick, env_bin]
    refine weql (fun e => ?_) (fun e => ?_)
    · repeat (first | with_reducible refine wg0 rfl ?_ | with_reducible refine wpT ?_ | with_reducible refine wsm ?_ | with_reducible refine wrB ?_ | dsimp only)
      exact W.ret ⟨by subst e; rfl, rfl⟩
    · repeat (first | with_reducible refine wg1 rfl ?_ | with_reducible refine wpv ?_ | with_reducible refine wsm ?_ | dsimp only)
      refine weql (fun e2 => ?_) (fun e2 => ?_)
      · repeat (first | with_reducible refine wpF ?_ | with_reducible refine wrB ?_)
        exact W.ret ⟨by subst e2; rfl, rfl⟩
      · repeat (first | with_reducible refine wpF ?_ | with_reducible refine wrB ?_)
        exact W.ret ⟨by rw [show playerB p = false by unfold playerB; exact decide_eq_false (by omega)], rfl⟩
  obtain ⟨_, _, e, rfl, rfl⟩ := this
  exact e

theorem setOf_W {xs : List Int} {p : PV} {h : PHeap} (what : Int) (hp : IntSl .i64 h p xs) (hl : xs.length ≤ 20) (N : Nat) (hN : 1 ≤ N) (hlf : 1000 < lf) :
    CL g lf N fn_impl_setOf [p, .int .i64 what] h = some (.int .i64 (setL xs what : Int), h) := by
  obtain ⟨n, rfl⟩ : ∃ n, N = n + 1 := ⟨N - 1, by omega⟩
  have : W (CL g lf (n + 1) fn_impl_setOf [p, .int .i64 what] h) fun v h' => v = .int .i64 (setL xs what : Int) ∧ h' = h := by
    rw [impl_setOf.call_eq]
    unfold impl_setOf.main
    simp only [env_lf, env_len]
    repeat (first | with_reducible refine wlen (by assumption) ?_)
    refine loopW (fun m s => ∃ i w : Nat, s = impl_setOf.st0 (.int .i64 what) (.int .i64 (w : Int)) p (.int .i64 (xs.length : Int)) (.int .i64 (i : Int)) h ∧ i + m = xs.length ∧ w < 2 ^ 30 ∧ setFrom what i (xs.drop i) w = setL xs what) ?_ lf xs.length _ (by omega) ⟨0, 0, rfl, by omega, by decide, rfl⟩
    rintro n1 m s ⟨i, w, rfl, him, hw, hset⟩ next
    rw [impl_setOf.body0_eq]
    unfold impl_setOf.body0
    simp only [env_load, env_bin, env_indexAddr]
    by_cases hi : i < xs.length
    · have hdx : xs.drop i = xs[i] :: xs.drop (i + 1) := List.drop_eq_getElem_cons hi
      have h30 : 1 <<< i < 2 ^ 30 := by rw [Nat.one_shiftLeft]; exact Nat.pow_lt_pow_right (by decide) (by omega)
      rw [hdx, setFrom] at hset
      repeat (first | with_reducible refine wT ?_ | with_reducible refine wbd (by assumption) ?_ | (with_reducible refine wat hp hi fun a hl => ?_) | with_reducible refine wlssT (by omega) ?_)
      refine weql (fun e => ?_) (fun e => ?_)
      · repeat (first | with_reducible refine wT ?_ | with_reducible refine wadd1 (by omega) ?_ | with_reducible refine wshl (by omega) ?_ | with_reducible refine wor (by omega) (by omega) ?_)
        rw [if_pos e] at hset
        exact next _ _ (show m - 1 < m by omega) ⟨i + 1, _, rfl, by omega, Nat.or_lt_two_pow hw h30, hset⟩
      · repeat (first | with_reducible refine wF ?_ | with_reducible refine wadd1 (by omega) ?_)
        rw [if_neg e] at hset
        exact next _ _ (show m - 1 < m by omega) ⟨i + 1, _, rfl, by omega, hw, hset⟩
    · rw [List.drop_eq_nil_of_le (by omega), setFrom] at hset
      repeat (first | with_reducible refine wF ?_ | with_reducible refine wrI ?_ | with_reducible refine wlssF (by omega) ?_ | rw [kLoop_exit] | rw [impl_setOf.after0_se0_1_5_8_9_10_11])
      exact W.ret ⟨by rw [hset], rfl⟩
  obtain ⟨_, _, e, rfl, rfl⟩ := this
  exact e

theorem sidesOf_W {R C P : Nat} (hB : BoardOf R C) (hP : P = 1 ∨ P = 2) (N : Nat) (hN : 1 ≤ N) (hlf : 1000 < lf) (h : PHeap) :
    CL g lf N fn_impl_sidesOf [.int .i64 (R : Int), .int .i64 (C : Int), .int .i64 (P : Int)] h = some (.tup [.int .i64 (sideN R C P false : Int), .int .i64 (sideN R C P true : Int)], h) := by
  obtain ⟨n, rfl⟩ : ∃ n, N = n + 1 := ⟨N - 1, by omega⟩
  have : W (CL g lf (n + 1) fn_impl_sidesOf [.int .i64 (R : Int), .int .i64 (C : Int), .int .i64 (P : Int)] h) fun v h' => v = .tup [.int .i64 (sideN R C P false : Int), .int .i64 (sideN R C P true : Int)] ∧ h' = h := by
    obtain ⟨h1, h2, h3, h4, h9⟩ := id hB
    rw [impl_sidesOf.call_eq]
    unfold impl_sidesOf.main
    simp only [env_lf, env_bin]
    repeat (first | with_reducible refine wmulN (by omega) ?_)
    refine loopW (fun m s => ∃ i w1 w2 : Nat, s = impl_sidesOf.st0 (.int .i64 (R : Int)) (.int .i64 (C : Int)) (.int .i64 (P : Int)) (.int .i64 (w1 : Int)) (.int .i64 (w2 : Int)) (.int .i64 ((R * C : Nat) : Int)) (.int .i64 (i : Int)) h ∧ i + m = R * C ∧ w1 < 2 ^ 9 ∧ w2 < 2 ^ 9 ∧ sideFrom R C P false m i w1 = sideN R C P false ∧ sideFrom R C P true m i w2 = sideN R C P true) ?_ lf (R * C) _ (by omega) ⟨0, 0, 0, rfl, by omega, by decide, by decide, rfl, rfl⟩
    rintro n1 m s ⟨i, w1, w2, rfl, him, hw1, hw2, hs1, hs2⟩ next
    rw [impl_sidesOf.body0_eq]
    unfold impl_sidesOf.body0
    simp only [env_bin]
    cases m with
    | zero =>
      rw [sideFrom] at hs1 hs2
      repeat (first | with_reducible refine wF ?_ | with_reducible refine wrI ?_ | with_reducible refine wlssF (by omega) ?_ | rw [kLoop_exit] | rw [impl_sidesOf.after0_se0_0_1_2_8_9_15_16_17])
      exact W.ret ⟨by rw [hs1, hs2], rfl⟩
    | succ m =>
      have hsl := shl_lt (show i < 9 by omega)
      rw [sideFrom] at hs1 hs2
      simp only [cond_true, cond_false, decide_eq_true_eq] at hs1 hs2
      obtain ⟨x, hx⟩ : ∃ x, x = atSide C P i := ⟨_, rfl⟩
      obtain ⟨y, hy⟩ : ∃ y, y = endSide R C P := ⟨_, rfl⟩
      rw [← hx] at hs1 hs2
      rw [← hy] at hs2
      have l1 := Nat.or_lt_two_pow hw1 hsl
      have l2 := Nat.or_lt_two_pow hw2 hsl
      rcases hP with rfl | rfl
      · have hx' : x = i / C := hx
        have hy' : y = R - 1 := hy
        by_cases a0 : x = 0 <;> by_cases a1 : x = y 
        all_goals
          first | rw [if_pos a0] at hs1 | rw [if_neg a0] at hs1
          first | rw [if_pos a1] at hs2 | rw [if_neg a1] at hs2
          repeat (first | with_reducible refine wT ?_ | with_reducible refine wF ?_ | (rw [← hx', ← hy']) | with_reducible refine wadd1 (by omega) ?_ | with_reducible refine wsub1 (by omega) (by omega) ?_ | with_reducible refine wquoN (by omega) (by omega) ?_ | with_reducible refine wshl (by omega) ?_ | with_reducible refine wor (by omega) (by omega) ?_ | with_reducible refine wlssT (by omega) ?_ | with_reducible refine weqlT (by omega) ?_ | with_reducible refine weqlF (by omega) ?_)
          first
            | exact next _ _ (Nat.lt_succ_self m) ⟨i + 1, _, _, rfl, by omega, l1, l2, hs1, hs2⟩
            | exact next _ _ (Nat.lt_succ_self m) ⟨i + 1, _, _, rfl, by omega, hw1, l2, hs1, hs2⟩
            | exact next _ _ (Nat.lt_succ_self m) ⟨i + 1, _, _, rfl, by omega, l1, hw2, hs1, hs2⟩
            | exact next _ _ (Nat.lt_succ_self m) ⟨i + 1, _, _, rfl, by omega, hw1, hw2, hs1, hs2⟩
      · have hx' : x = i % C := hx
        have hy' : y = C - 1 := hy
        by_cases a0 : x = 0 <;> by_cases a1 : x = y 
        all_goals
          first | rw [if_pos a0] at hs1 | rw [if_neg a0] at hs1
          first | rw [if_pos a1] at hs2 | rw [if_neg a1] at hs2
          repeat (first | with_reducible refine wT ?_ | with_reducible refine wF ?_ | (rw [← hx', ← hy']) | with_reducible refine wadd1 (by omega) ?_ | with_reducible refine wsub1 (by omega) (by omega) ?_ | with_reducible refine wquoN (by omega) (by omega) ?_ | with_reducible refine wremN (by omega) ?_ | with_reducible refine wshl (by omega) ?_ | with_reducible refine wor (by omega) (by omega) ?_ | with_reducible refine wlssT (by omega) ?_ | with_reducible refine weqlT (by omega) ?_ | with_reducible refine weqlF (by omega) ?_)
          first
            | exact next _ _ (Nat.lt_succ_self m) ⟨i + 1, _, _, rfl, by omega, l1, l2, hs1, hs2⟩
            | exact next _ _ (Nat.lt_succ_self m) ⟨i + 1, _, _, rfl, by omega, hw1, l2, hs1, hs2⟩
            | exact next _ _ (Nat.lt_succ_self m) ⟨i + 1, _, _, rfl, by omega, l1, hw2, hs1, hs2⟩
            | exact next _ _ (Nat.lt_succ_self m) ⟨i + 1, _, _, rfl, by omega, hw1, hw2, hs1, hs2⟩
  obtain ⟨_, _, e, rfl, rfl⟩ := this
  exact e

end Go.Proofs.YtpaehbfknlpkbaeDoor

/- The model's chapters 4 and 5: what Openings, PairCell, PairFilled, MattersAt, DeadCells, FillCount and PivotCount of it compute. -/
set_option maxRecDepth 20000
namespace Go.Proofs.YtpaehbfknlpkbaeDoor
open Go Go.Ip G

section
variable {Q : PV → PHeap → Prop} {x y : Nat} {f : PV → Res}
end

variable (g : Nat → PV) (lf n : Nat)

/-! ### pairs -/
theorem boardB_of {r c : Int} (h : boardB r c = true) : ∃ R C : Nat, r = (R : Int) ∧ c = (C : Int) ∧ BoardOf R C := by
  unfold boardB at h
  have := of_decide_eq_true h
  obtain ⟨R, rfl⟩ := Int.eq_ofNat_of_zero_le (show 0 ≤ r by omega)
  obtain ⟨C, rfl⟩ := Int.eq_ofNat_of_zero_le (show 0 ≤ c by omega)
  have h9 := this.2.2.2.2
  rw [← Int.natCast_mul] at h9
  exact ⟨R, C, rfl, rfl, by omega, by omega, by omega, by omega, by omega⟩
/-! ### fillings -/
/-! ### what one cell decides -/
end Go.Proofs.YtpaehbfknlpkbaeDoor

/- The laws of chapter 4 over what the program's functions are asked to compute. -/
set_option maxRecDepth 20000
namespace Go.Proofs.YtpaehbfknlpkbaeDoor
open Go Go.Ip G

variable (g : Nat → PV) (lf n : Nat)

/-! ### the exact laws -/
end Go.Proofs.YtpaehbfknlpkbaeDoor

/- Texts: rules to walk through what joins, compares, cuts and reads them; slices of texts on the heap. -/
set_option maxRecDepth 20000
namespace Go.Proofs.YtpaehbfknlpkbaeDoor
open Go Go.Ip G

section
variable {Q : PV → PHeap → Prop} {P : Program} {t : TypeId} {f : PV → Res} {a b : List UInt8}
end

/-! ### types -/
section
variable {Q : PV → PHeap → Prop} {f : PV → Res} {a : List UInt8} {h : PHeap}
end

/-! ### a slice of bytes, made into a text -/
/-! ### slices of texts -/
def OwnT (n : Nat) (h : PHeap) (p : PV) (ss : List (List UInt8)) : Prop := (p = .nilsl ∧ ss = []) ∨ ∃ id, n ≤ id ∧ p = .sl id 0 ss.length ∧ h[id]? = some (.own 1 (ss.map fun s => .str (sB s)))
theorem OwnT.nil (n : Nat) (h : PHeap) : OwnT n h .nilsl [] := .inl ⟨rfl, rfl⟩
theorem OwnT.mono {m n : Nat} {h : PHeap} {p : PV} {ss : List (List UInt8)} (s : OwnT m h p ss) (hm : n ≤ m) : OwnT n h p ss := by
  rcases s with s | ⟨id, h1, h2, h3⟩
  · exact .inl s
  · exact .inr ⟨id, Nat.le_trans hm h1, h2, h3⟩
theorem OwnT.keep {n : Nat} {h h' : PHeap} {p : PV} {ss : List (List UInt8)} (s : OwnT n h p ss) (k : Keep h.length h h') : OwnT n h' p ss := by
  rcases s with s | ⟨id, h1, h2, h3⟩
  · exact .inl s
  · exact .inr ⟨id, h1, h2, by rw [k.2 id (List.getElem?_eq_some_iff.1 h3).1]; exact h3⟩
section
variable {Q : PV → PHeap → Prop} {h : PHeap}
end

end Go.Proofs.YtpaehbfknlpkbaeDoor

/- Records of play: moves one after the other; what stands at the end, which moves are slips, the best record; turned records. -/
set_option maxRecDepth 20000
namespace Go.Proofs.YtpaehbfknlpkbaeDoor
open Go Go.Ip

theorem boardB_nat {r c : Int} (h : boardB r c = true) : ∃ R C : Nat, r = (R : Int) ∧ c = (C : Int) ∧ BoardOf R C := by
  unfold boardB at h
  have := of_decide_eq_true h
  obtain ⟨R, rfl⟩ := Int.eq_ofNat_of_zero_le (show 0 ≤ r by omega)
  obtain ⟨C, rfl⟩ := Int.eq_ofNat_of_zero_le (show 0 ≤ c by omega)
  have h9 : ((R * C : Nat) : Int) ≤ 9 := by rw [Int.natCast_mul]; exact this.2.2.2.2
  exact ⟨R, C, rfl, rfl, by omega, by omega, by omega, by omega, by omega⟩

def startL (r c : Int) : List Int := List.replicate (r * c).toNat 0
/-! ### the stones at the end -/
/-! ### slips -/
/-! ### the best record -/
def bestL (r c : Int) : List Int := if boardB r c = true ∧ r * c ≤ 6 then lineL r c (startL r c) 1 else []

/-! ### turned records -/
end Go.Proofs.YtpaehbfknlpkbaeDoor

/- Names of cells and texts of records, as lists of bytes: none says two things, and each is read again. -/
set_option maxRecDepth 20000
namespace Go.Proofs.YtpaehbfknlpkbaeDoor
open Go Go.Ip

/-! ### names of cells -/
/-! ### texts of records -/
/-! ### cut at a byte -/
/-! ### numbers -/
end Go.Proofs.YtpaehbfknlpkbaeDoor

/- The model's chapter 11: names of cells, records, what is at their end, their texts. -/
set_option maxRecDepth 20000
namespace Go.Proofs.YtpaehbfknlpkbaeDoor
open Go Go.Ip G

variable (g : Nat → PV) (lf n : Nat)

end Go.Proofs.YtpaehbfknlpkbaeDoor

/- The model's chapter 11, on: records, what is at their end, their texts. -/
set_option maxRecDepth 20000
namespace Go.Proofs.YtpaehbfknlpkbaeDoor
open Go Go.Ip G

theorem start_nat (R C : Nat) : startL (R : Int) (C : Int) = List.replicate (R * C) 0 := by
  unfold startL; rw [← Int.natCast_mul, Int.toNat_natCast]

variable (g : Nat → PV) (lf n : Nat)

end Go.Proofs.YtpaehbfknlpkbaeDoor

/- A text cut step by step; a record read word by word is the record that the text says. -/
set_option maxRecDepth 20000
namespace Go.Proofs.YtpaehbfknlpkbaeDoor
open Go Go.Ip

/-! ### cut step by step: the word under way, and what is behind it -/
/-! ### a record, read word by word -/
end Go.Proofs.YtpaehbfknlpkbaeDoor

/- The model's chapter 11, on: texts cut, numbers and records read. -/
set_option maxRecDepth 20000
namespace Go.Proofs.YtpaehbfknlpkbaeDoor
open Go Go.Ip G

theorem OwnT.res {n : Nat} {h : PHeap} {p : PV} {ss : List (List UInt8)} (s : OwnT n h p ss) : resV p = some p := by
  rcases s with ⟨rfl, _⟩ | ⟨_, _, rfl, _⟩ <;> rfl
section
variable {Q : PV → PHeap → Prop} {f : PV → Res}
end

variable (g : Nat → PV) (lf n : Nat)

end Go.Proofs.YtpaehbfknlpkbaeDoor

/- The model's chapter 11, on: records read, slips, the best record. -/
set_option maxRecDepth 20000
namespace Go.Proofs.YtpaehbfknlpkbaeDoor
open Go Go.Ip G

variable (g : Nat → PV) (lf n : Nat)

theorem specBestRecord_W (hlf : 1000 < lf) (r c : Int) (h : PHeap) (N : Nat) (hN : 20 ≤ N) :
    W (CL g lf N fn_spec_BestRecord [.int .i64 r, .int .i64 c] h) fun q h' => OwnSl h.length h' q (bestL r c) ∧ Keep h.length h h' := by
  obtain ⟨n, rfl⟩ : ∃ n, N = n + 1 := ⟨N - 1, by omega⟩
  have e1 := specBoardOk_N g lf n (by omega) h r c
  rw [spec_BestRecord.call_eq]
  unfold spec_BestRecord.main
  simp only [env_C, env_pick, env_buildSlice, env_bin, env_un, env_make]
  cases hb : boardB r c with
  | false =>
    rw [hb] at e1
    have he : bestL r c = [] := by unfold bestL; rw [hb, if_neg (by simp)]
    rw [he]
    repeat (first | with_reducible refine wT ?_ | with_reducible refine wg0 rfl ?_ | with_reducible refine wpT ?_ | with_reducible refine wnF ?_ | with_reducible refine wsm ?_ | with_reducible refine wbd (by assumption) ?_ | (refine wempty fun q4 h4 o4 k4 => ?_) | with_reducible refine wresO (by assumption) ?_ | dsimp only)
    exact W.ret ⟨o4, k4⟩
  | true =>
    rw [hb] at e1
    obtain ⟨R, C, rfl, rfl, hB⟩ := boardB_nat hb
    obtain ⟨b1, b2, b3, b4, b9⟩ := id hB
    by_cases h6 : R * C ≤ 6
    case neg =>
      have he : bestL (R : Int) (C : Int) = [] := by unfold bestL; rw [if_neg]; rintro ⟨_, a⟩; rw [← Int.natCast_mul] at a; omega
      rw [he]
      repeat (first | with_reducible refine wT ?_ | with_reducible refine wg1 rfl ?_ | with_reducible refine wpF ?_ | with_reducible refine wnT ?_ | with_reducible refine wpv ?_ | with_reducible refine wsm ?_ | with_reducible refine wbd (by assumption) ?_ | (refine wempty fun q4 h4 o4 k4 => ?_) | with_reducible refine wmulN (by omega) ?_ | with_reducible refine wgtrT (by omega) ?_ | with_reducible refine wresO (by assumption) ?_ | dsimp only)
      exact W.ret ⟨o4, k4⟩
    case pos =>
    have he : bestL (R : Int) (C : Int) = lineL (R : Int) (C : Int) (startL (R : Int) (C : Int)) 1 := by unfold bestL; rw [if_pos ⟨hb, by rw [← Int.natCast_mul]; omega⟩]
    rw [he]
    repeat (first | with_reducible refine wF ?_ | with_reducible refine wg1 rfl ?_ | with_reducible refine wpF ?_ | with_reducible refine wnT ?_ | with_reducible refine wpv ?_ | with_reducible refine wsm ?_ | with_reducible refine wbd (by assumption) ?_ | (refine wmake (by omega) fun q3 h3 o3 k3 => ?_) | with_reducible refine wmulN (by omega) ?_ | with_reducible refine wgtrF (by omega) ?_ | dsimp only)
    rw [← start_nat] at o3
    have hl : (startL (R : Int) (C : Int)).length = R * C := by rw [start_nat, List.length_replicate]
    obtain ⟨q4, h4, e4, o4, k4⟩ := specLinePlayed_calls g lf n (by omega) (R : Int) (C : Int) 1 o3.int (by omega) (by omega) hlf
    repeat (first | with_reducible refine wbd (by assumption) ?_ | with_reducible refine wresO (by assumption) ?_ | dsimp only)
    exact W.ret ⟨o4.mono k3.1, k3.trans (k4.mono k3.1)⟩

end Go.Proofs.YtpaehbfknlpkbaeDoor

/- The exact laws of chapter 11 over what the program's functions are asked to compute. -/
set_option maxRecDepth 20000
namespace Go.Proofs.YtpaehbfknlpkbaeDoor
open Go Go.Ip G

def BestOk (g : Nat → PV) (lf : Nat) : Prop := ∀ (N : Nat), 44 ≤ N → ∀ (r c : Int) {h : PHeap}, TabOk g h →
  ∃ q h', CL g lf N fn_impl_BestRecord [.int .i64 r, .int .i64 c] h = some (q, h') ∧ OwnSl h.length h' q (bestL r c) ∧ Keep h.length h h'

theorem bestL_length (r c : Int) : (bestL r c).length ≤ 9 := by
  unfold bestL
  split
  · rename_i h
    obtain ⟨R, C, rfl, rfl, hB⟩ := boardB_nat h.1
    have := hB.2.2.2.2
    have h2 := lineL_length (R : Int) (C : Int) (startL (R : Int) (C : Int)) 1
    rw [start_nat, List.length_replicate] at h2
    rw [start_nat]
    omega
  · simp
section
variable {Q : PV → PHeap → Prop} {P : Program} {t : TypeId} {a : List UInt8} {f : PV → Res}
end

variable (g : Nat → PV) (lf n : Nat)

/-- Of two functions that make one list of numbers, and more besides. -/
theorem exact_chain5 {L : List Int} {h : PHeap} (N : Nat) (hN : 1 ≤ N) (fS fI : PHeap → PV → PHeap → Prop)
    (hS : ∀ hh, Keep h.length h hh → ∃ w h', fS hh w h' ∧ OwnSl hh.length h' w L ∧ Keep hh.length hh h')
    (hI : ∀ hh, Keep h.length h hh → ∃ w h', fI hh w h' ∧ OwnSl hh.length h' w L ∧ Keep hh.length hh h')
    (hL : L.length ≤ 1048576) (hf : 1048576 < lf) :
    ∃ w h2 g0 h4 h7 g1 h9, fS h w h2 ∧ fI h2 g0 h4 ∧ CL g lf N fn_laws_eqIntS [g0, w] h4 = some (.bool true, h4) ∧
      CL g lf N fn_laws_markIntS [g0, .int .i64 1] h4 = some (.int .i64 (1 + L.length), h7) ∧ CL g lf N fn_laws_heldIntS [g0, .int .i64 1] h7 = some (.int .i64 (1 + L.length), h7) ∧
      fI h7 g1 h9 ∧ CL g lf N fn_laws_eqIntS [g1, w] h9 = some (.bool true, h9) ∧ CL g lf N fn_laws_heldIntS [g0, .int .i64 1] h9 = some (.int .i64 (1 + L.length), h9) := by
  obtain ⟨n, rfl⟩ : ∃ n, N = n + 1 := ⟨N - 1, by omega⟩
  obtain ⟨w, h2, e2, ow, k2⟩ := hS h (Keep.refl _ _)
  obtain ⟨g0, h4, e4, og, k4⟩ := hI h2 k2
  have K4 : Keep h.length h h4 := k2.trans (k4.mono k2.1)
  have w2 := ow.b
  have w4 := w2.keep k4
  have g4 := og.b
  have s4 := eqIntS_calls g lf n og.int w4.int (by omega) (by omega)
  obtain ⟨h7, e7, g7, t7⟩ := markIntS_calls g lf (n + 1) (by omega) g4 (by omega) (by omega)
  have K7 : Keep h.length h h7 := K4.trans (t7.keep.mono k2.1)
  have w7 := w4.only t7 (.inl (Nat.le_refl _))
  have s7 := heldIntS_calls g lf (n + 1) (by omega) g7.int (by omega) (by omega)
  obtain ⟨g1, h9, e9, o9, k9⟩ := hI h7 K7
  have len7 : h4.length ≤ h7.length := by rw [t7.1]; exact Nat.le_refl _
  have w9 := w7.keep (k9.mono (Nat.le_trans k4.1 len7))
  have g9 := g7.keep (k9.mono len7)
  have s9 := eqIntS_calls g lf n o9.int w9.int (by omega) (by omega)
  have s10 := heldIntS_calls g lf (n + 1) (by omega) g9.int (by omega) (by omega)
  simp only [decide_true] at s4 s9
  exact ⟨w, h2, g0, h4, h7, g1, h9, e2, e4, s4, e7, s7, e9, s9, s10⟩

theorem exactBestRecord_calls (hok : BestOk g lf) {h : PHeap} (N : Nat) (hN : 48 ≤ N) (r c : Int) (ht : TabOk g h) (hf : 1048576 < lf) :
    ∃ h', CL g lf N fn_laws_FnExactBestRecord [.int .i64 r, .int .i64 c] h = some (.bool true, h') := by
  obtain ⟨n, rfl⟩ : ∃ n, N = n + 1 := ⟨N - 1, by omega⟩
  apply W.yes
  have hL := bestL_length r c
  obtain ⟨w, h2, g0, h4, h7, g1, h9, e2, e4, s4, e7, s7, e9, s9, s10⟩ := exact_chain5 g lf n (by omega)
    (fun h w h' => CL g lf n fn_spec_BestRecord [.int .i64 r, .int .i64 c] h = some (w, h')) (fun h w h' => CL g lf n fn_impl_BestRecord [.int .i64 r, .int .i64 c] h = some (w, h'))
    (fun hh _ => by
        obtain ⟨v, h', e, o, k⟩ := specBestRecord_W g lf (by omega) r c hh n (by omega)
        exact ⟨v, h', e, o, k⟩) (fun hh hk => hok n (by omega) r c (ht.keep hk)) (by omega) hf
  rw [laws_FnExactBestRecord.call_eq]
  unfold laws_FnExactBestRecord.main
  simp only [env_C, env_bin, env_un]
  repeat (first | with_reducible refine wF ?_ | with_reducible refine wnT ?_ | with_reducible refine wrB ?_ | with_reducible refine wbd (by assumption) ?_ | with_reducible refine wlssF (by omega) ?_ | with_reducible refine wneqF (by omega) ?_ | dsimp only)
  exact W.ret rfl

end Go.Proofs.YtpaehbfknlpkbaeDoor

/- Texts that are cut: where a byte is first, how often it is there, the pieces; the texts of boards, and records that are read. -/
set_option maxRecDepth 20000
namespace Go.Proofs.YtpaehbfknlpkbaeDoor
open Go Go.Ip

/-! ### texts of boards -/
end Go.Proofs.YtpaehbfknlpkbaeDoor

/- The program's chapter 2: Joins, GapOf, GroupOf, Filled and GapCells compute what the model's do. -/
set_option maxRecDepth 20000
namespace Go.Proofs.YtpaehbfknlpkbaeDoor
open Go Go.Ip G

variable (g : Nat → PV) (lf n : Nat)

end Go.Proofs.YtpaehbfknlpkbaeDoor

/- The least cell of a set, as the library finds it by its table of 64 bytes; and comparing a slice with nil, copying it. -/
set_option maxRecDepth 20000
namespace Go.Proofs.YtpaehbfknlpkbaeDoor
open Go Go.Ip G

/-- The least number in a set of nine; nine if there is none. -/
def lowN (x : Nat) : Nat := ((List.range 9).find? fun k => x.testBit k).getD 9
def lsB (x : Nat) : Bool := x.testBit (lowN x) && decide (lowN x < 9) && (List.range (lowN x)).all (fun j => !x.testBit j) && (x &&& (x - 1) == without x (lowN x))
theorem ls_all : ((List.range 512).all fun x => x == 0 || lsB x) = true := by kernel_rfl
theorem low_ok {x : Nat} (hx : x < 2 ^ 9) (h0 : x ≠ 0) : x.testBit (lowN x) = true ∧ lowN x < 9 ∧ (∀ j, j < lowN x → x.testBit j = false) ∧ x &&& (x - 1) = without x (lowN x) := by
  have h := List.all_eq_true.1 ls_all x (List.mem_range.2 hx)
  have h1 : lsB x = true := by
    rcases Bool.or_eq_true_iff.1 h with h | h
    · exact absurd (by simpa using h) h0
    · exact h
  unfold lsB at h1
  simp only [Bool.and_eq_true, decide_eq_true_eq, beq_iff_eq] at h1
  obtain ⟨⟨⟨a, b⟩, c⟩, d⟩ := h1
  exact ⟨a, b, fun j hj => by have := List.all_eq_true.1 c j (List.mem_range.2 hj); simpa using this, d⟩

/-- What the library computes, step by step. -/
def isU (o : Option PV) (a : Nat) : Bool := match o with | some (.int .u64 (.ofNat b)) => b == a | _ => false
theorem isU_eq {o : Option PV} {a : Nat} (h : isU o a = true) : o = some (.int .u64 (a : Int)) := by
  unfold isU at h
  split at h
  · have := beq_iff_eq.1 h; subst this; rfl
  · cases h
def tz5 (x : Nat) : Nat := ((1 <<< lowN x) * 285870213051353865) % 2 ^ 64
def tz6 (x : Nat) : Nat := tz5 x / 2 ^ 58
noncomputable def tzB (x : Nat) : Bool := isU (unP .neg (.int .u64 (x : Int))) (2 ^ 64 - x) && (isU (binP Tryd.prog .and 63 (.int .u64 (x : Int)) (.int .u64 ((2 ^ 64 - x : Nat) : Int))) (1 <<< lowN x) &&
  (isU (binP Tryd.prog .mul 63 (.int .u64 ((1 <<< lowN x : Nat) : Int)) (.int .u64 285870213051353865)) (tz5 x) && (isU (binP Tryd.prog .shr 63 (.int .u64 (tz5 x : Int)) (.int .u64 58)) (tz6 x) && tab64N[tz6 x]? == some (lowN x))))
theorem tz_all : ((List.range 512).all fun x => x == 0 || tzB x) = true := by kernel_rfl
theorem tz_one {x : Nat} (hx : x < 2 ^ 9) (h0 : x ≠ 0) : tzB x = true := by
  have h := List.all_eq_true.1 tz_all x (List.mem_range.2 hx)
  rcases Bool.or_eq_true_iff.1 h with h | h
  · exact absurd (beq_iff_eq.1 h) h0
  · exact h
theorem tz_steps {x : Nat} (hx : x < 2 ^ 9) (h0 : x ≠ 0) : ∃ v3 v4 v5, ∃ i : Nat, unP .neg (.int .u64 (x : Int)) = some v3 ∧ binP Tryd.prog .and 63 (.int .u64 (x : Int)) v3 = some v4 ∧ binP Tryd.prog .mul 63 v4 (.int .u64 285870213051353865) = some v5 ∧
    binP Tryd.prog .shr 63 v5 (.int .u64 58) = some (.int .u64 (i : Int)) ∧ tab64N[i]? = some (lowN x) := by
  have h1 := tz_one hx h0
  unfold tzB at h1
  obtain ⟨a, h1⟩ := Bool.and_eq_true_iff.1 h1
  obtain ⟨b, h1⟩ := Bool.and_eq_true_iff.1 h1
  obtain ⟨c, h1⟩ := Bool.and_eq_true_iff.1 h1
  obtain ⟨d, h1⟩ := Bool.and_eq_true_iff.1 h1
  exact ⟨_, _, _, _, isU_eq a, isU_eq b, isU_eq c, isU_eq d, beq_iff_eq.1 h1⟩

theorem tyTzU : Tryd.prog.underlying 67 = some (.array 64 5) := by kernel_rfl
theorem tyTz1 : sizeT Tryd.prog 5 = some 1 := by kernel_rfl
theorem tyTzA : isAggT Tryd.prog 5 = some false := by kernel_rfl
theorem tzConv (l : Nat) (hl : l < 9) : convP Tryd.prog 5 3 (.int .u8 (l : Int)) = some (.int .i64 (l : Int)) := by
  have : convP Tryd.prog 5 3 (.int .u8 (l : Int)) = some (.int .i64 (IntKind.i64.wrap (l : Int))) := by kernel_rfl
  rw [this, wr (by omega)]
theorem tzConv2 (x : Nat) (hx : x < 2 ^ 9) : convP Tryd.prog 3 54 (.int .i64 (x : Int)) = some (.int .u64 (x : Int)) := by
  have : convP Tryd.prog 3 54 (.int .i64 (x : Int)) = some (.int .u64 (IntKind.u64.wrap (x : Int))) := by kernel_rfl
  rw [this]
  have : IntKind.u64.wrap (x : Int) = (x : Int) := by unfold IntKind.wrap; simp [IntKind.bits, IntKind.signed]; omega
  rw [this]

variable (g : Nat → PV) (lf n : Nat)

/-- The library's table is known to lie somewhere. -/
def Big (g : Nat → PV) : Prop := ∃ id, g 2 = .ptr id 0

theorem tz64_W {x : Nat} (hx : x < 2 ^ 9) (h0 : x ≠ 0) (hb : Big g) {h : PHeap} (ht : Tab64 g h) (N : Nat) (hN : 1 ≤ N) : CL g lf N fn_bits_TrailingZeros64 [.int .u64 (x : Int)] h = some (.int .i64 (lowN x : Int), h) := by
  obtain ⟨n, rfl⟩ : ∃ n, N = n + 1 := ⟨N - 1, by omega⟩
  obtain ⟨id, hg⟩ := hb
  have ho := ht id hg
  obtain ⟨v3, v4, v5, i, e3, e4, e5, e6, hi⟩ := tz_steps hx h0
  have hi64 : i < 64 := (List.getElem?_eq_some_iff.1 hi).1
  have e7 : indexAddrP Tryd.prog 67 (.ptr id 0) (.int .u64 (i : Int)) = some (.ptr id i) := by simp [indexAddrP, tyTzU, tyTz1]; omega
  have e8 : loadP Tryd.prog 5 (.ptr id i) h = some (.int .u8 (lowN x : Int)) := by
    simp [loadP, tyTzA, cellsAt, ho, PObj.get, tab64Cells, hi]
  have e9 := tzConv (lowN x) (low_ok hx h0).2.1
  have : W (CL g lf (n + 1) fn_bits_TrailingZeros64 [.int .u64 (x : Int)] h) fun v h' => v = .int .i64 (lowN x : Int) ∧ h' = h := by
    rw [bits_TrailingZeros64.call_eq]
    unfold bits_TrailingZeros64.main
    simp only [env_g, env_load, env_bin, env_un, env_conv, env_indexAddr]
    refine weqlF (by omega) ?_
    rw [hg]
    repeat (first | with_reducible refine wF ?_ | with_reducible refine wrI ?_ | with_reducible refine wbd (by assumption) ?_)
    exact W.ret ⟨rfl, rfl⟩
  obtain ⟨_, _, e, rfl, rfl⟩ := this
  exact e

theorem leastIn_W {x : Nat} (hx : x < 2 ^ 9) (h0 : x ≠ 0) (hb : Big g) {h : PHeap} (ht : Tab64 g h) (N : Nat) (hN : 3 ≤ N) : CL g lf N fn_impl_leastIn [.int .i64 (x : Int)] h = some (.int .i64 (lowN x : Int), h) := by
  obtain ⟨n, rfl⟩ : ∃ n, N = n + 1 := ⟨N - 1, by omega⟩
  obtain ⟨n, rfl⟩ : ∃ m, n = m + 1 := ⟨n - 1, by omega⟩
  have e1 := tzConv2 x hx
  have e2 := tz64_W g lf hx h0 hb ht n (by omega)
  have e3 : CL g lf (n + 1) fn_bits_TrailingZeros [.int .u64 (x : Int)] h = some (.int .i64 (lowN x : Int), h) := by
    have : W (CL g lf (n + 1) fn_bits_TrailingZeros [.int .u64 (x : Int)] h) fun v h' => v = .int .i64 (lowN x : Int) ∧ h' = h := by
      rw [bits_TrailingZeros.call_eq]
      unfold bits_TrailingZeros.main
      simp only [env_C, env_conv]
      repeat (first | with_reducible refine wF ?_ | with_reducible refine wrI ?_ | with_reducible refine wbd (by assumption) ?_ | dsimp only)
      exact W.ret ⟨rfl, rfl⟩
    obtain ⟨_, _, e, rfl, rfl⟩ := this
    exact e
  have : W (CL g lf (n + 1 + 1) fn_impl_leastIn [.int .i64 (x : Int)] h) fun v h' => v = .int .i64 (lowN x : Int) ∧ h' = h := by
    rw [impl_leastIn.call_eq]
    unfold impl_leastIn.main
    simp only [env_C, env_conv]
    repeat (first | with_reducible refine wrI ?_ | with_reducible refine wbd (by assumption) ?_ | dsimp only)
    exact W.ret ⟨rfl, rfl⟩
  obtain ⟨_, _, e, rfl, rfl⟩ := this
  exact e

/-- What a set loses with its least cell. -/
theorem f_drop {x : Nat} (hx : x < 2 ^ 9) (h0 : x ≠ 0) : binP Tryd.prog .sub 3 (.int .i64 (x : Int)) (.int .i64 1) = some (.int .i64 ((x - 1 : Nat) : Int)) ∧ binP Tryd.prog .and 3 (.int .i64 (x : Int)) (.int .i64 ((x - 1 : Nat) : Int)) = some (.int .i64 (without x (lowN x) : Int)) := by
  refine ⟨by rw [bin_sub, wr (by omega), show (x : Int) - 1 = ((x - 1 : Nat) : Int) by omega], ?_⟩
  rw [f_and (by omega) (by omega), (low_ok hx h0).2.2.2]
theorem without_lt9 {x k : Nat} (hx : x < 2 ^ 9) : without x k < 2 ^ 9 := by rw [← minusN_one]; exact minusN_lt hx
theorem without_less {x : Nat} (hx : x < 2 ^ 9) (h0 : x ≠ 0) : without x (lowN x) < x := by
  have h := (low_ok hx h0).2.2.2
  rw [← h]
  have : x &&& (x - 1) ≤ x - 1 := Nat.and_le_right
  omega

/-! ### slices.Clone -/
end Go.Proofs.YtpaehbfknlpkbaeDoor

/- The program's search: structs and a map on the interpreter's heap; the sets' joining; what stands after a move. -/
set_option maxRecDepth 20000
namespace Go.Proofs.YtpaehbfknlpkbaeDoor
open Go Go.Ip G

/-! ### objects by themselves, and what keeps all but one -/
def At (h : PHeap) (id : Nat) (l : List PV) : Prop := h[id]? = some (.own 1 l)
theorem At.lt {h : PHeap} {id : Nat} {l : List PV} (a : At h id l) : id < h.length := (List.getElem?_eq_some_iff.1 a).1
/-- All is as it was but the object m, and what is behind. -/
def KB (m : Nat) (h h' : PHeap) : Prop := h.length ≤ h'.length ∧ ∀ i, i < h.length → i ≠ m → h'[i]? = h[i]?
theorem KB.refl (m : Nat) (h : PHeap) : KB m h h := ⟨Nat.le_refl _, fun _ _ _ => rfl⟩
theorem KB.trans {m : Nat} {a b c : PHeap} (h : KB m a b) (k : KB m b c) : KB m a c := ⟨Nat.le_trans h.1 k.1, fun i hi hn => (k.2 i (Nat.lt_of_lt_of_le hi h.1) hn).trans (h.2 i hi hn)⟩
theorem Keep.kb {m : Nat} {a b : PHeap} (h : Keep a.length a b) : KB m a b := ⟨h.1, fun i hi _ => h.2 i hi⟩
theorem KB.keep {m n : Nat} {a b : PHeap} (h : KB m a b) (hm : n ≤ m) (hn : n ≤ a.length) : Keep n a b := ⟨h.1, fun i hi => h.2 i (Nat.lt_of_lt_of_le hi hn) (by omega)⟩
theorem At.keep {h h' : PHeap} {id : Nat} {l : List PV} (a : At h id l) (k : Keep h.length h h') : At h' id l := by unfold At; rw [k.2 id a.lt]; exact a
theorem At.kb {h h' : PHeap} {id m : Nat} {l : List PV} (a : At h id l) (k : KB m h h') (hn : id ≠ m) : At h' id l := by unfold At; rw [k.2 id a.lt hn]; exact a
def MapAt (h : PHeap) (m : Nat) (es : List (PV × PV)) : Prop := h[m]? = some (.mp es)
theorem MapAt.lt {h : PHeap} {m : Nat} {es : List (PV × PV)} (a : MapAt h m es) : m < h.length := (List.getElem?_eq_some_iff.1 a).1
theorem MapAt.keep {h h' : PHeap} {m : Nat} {es : List (PV × PV)} (a : MapAt h m es) (k : Keep h.length h h') : MapAt h' m es := by unfold MapAt; rw [k.2 m a.lt]; exact a
theorem MapAt.kb {h h' : PHeap} {id m : Nat} {es : List (PV × PV)} (a : MapAt h m es) (k : KB id h h') (hn : m ≠ id) : MapAt h' m es := by unfold MapAt; rw [k.2 m a.lt hn]; exact a
theorem At.ne {h : PHeap} {id m : Nat} {l : List PV} {es : List (PV × PV)} (a : At h id l) (b : MapAt h m es) : id ≠ m := by
  intro e; subst e; unfold At at a; unfold MapAt at b; rw [a] at b; cases b
theorem Fix.kb {b m : Nat} {h h' : PHeap} {p : PV} {xs : List Int} (s : Fix b h p xs) (k : KB m h h') (hb : b ≤ m) (hb2 : b ≤ h.length) : Fix b h' p xs := s.keep (k.keep hb hb2)

section
variable {Q : PV → PHeap → Prop} {h : PHeap}
/-- A new object. -/
theorem wnew {l : List PV} {x : Res} {f : PV × PHeap → Res} (hx : x = some (.ptr h.length 0, h ++ [.own 1 l])) (hf : ∀ h' id, At h' id l → Keep h.length h h' → h.length ≤ id → W (f (.ptr id 0, h')) Q) : W (x.bind f) Q := by
  rw [hx]
  exact hf _ _ (by unfold At; simp) (Keep.append _ _ _ (Nat.le_refl _)) (Nat.le_refl _)
/-- An object is written to. -/
theorem put_at {id : Nat} {l l' : List PV} (a : At h id l) : At (h.set id (.own 1 l')) id l' ∧ KB id h (h.set id (.own 1 l')) := by
  refine ⟨by unfold At; rw [List.getElem?_set_self a.lt], by simp, fun i _ hn => List.getElem?_set_ne (by omega)⟩
end

/-! ### types -/
theorem tyStA : isAggT Tryd.prog 38 = some true := by kernel_rfl
theorem tySt4 : sizeT Tryd.prog 38 = some 4 := by kernel_rfl
theorem tyStZ : zeroCellsT Tryd.prog 38 = some [.int .i64 0, .int .i64 0, .int .i64 0, .int .i64 0] := by kernel_rfl
theorem tyA3 : Tryd.prog.underlying 36 = some (.array 3 3) := by kernel_rfl
theorem tyA9 : Tryd.prog.underlying 47 = some (.array 9 3) := by kernel_rfl
theorem tyMp : Tryd.prog.underlying 46 = some (.map 38 3) := by kernel_rfl
theorem tyMpA : isAggT Tryd.prog 46 = some false := by kernel_rfl
theorem fSt0 (id : Nat) : fieldAddrP Tryd.prog 38 (.ptr id 0) 0 = some (.ptr id 0) := by kernel_rfl
theorem fSt1 (id : Nat) : fieldAddrP Tryd.prog 38 (.ptr id 0) 1 = some (.ptr id 3) := by kernel_rfl
theorem fs0 (id : Nat) : fieldAddrP Tryd.prog 49 (.ptr id 0) 0 = some (.ptr id 0) := by kernel_rfl
theorem fs1 (id : Nat) : fieldAddrP Tryd.prog 49 (.ptr id 0) 1 = some (.ptr id 9) := by kernel_rfl
theorem fs2 (id : Nat) : fieldAddrP Tryd.prog 49 (.ptr id 0) 2 = some (.ptr id 12) := by kernel_rfl
theorem fs3 (id : Nat) : fieldAddrP Tryd.prog 49 (.ptr id 0) 3 = some (.ptr id 15) := by kernel_rfl
theorem ia3 (id o i : Nat) (hi : i < 3) : indexAddrP Tryd.prog 36 (.ptr id o) (.int .i64 (i : Int)) = some (.ptr id (o + i)) := by simp [indexAddrP, tyA3, tySize]; omega
theorem ia9 (id o i : Nat) (hi : i < 9) : indexAddrP Tryd.prog 47 (.ptr id o) (.int .i64 (i : Int)) = some (.ptr id (o + i)) := by simp [indexAddrP, tyA9, tySize]; omega
theorem ld1 {h : PHeap} {id i : Nat} {l : List PV} {v : PV} (a : At h id l) (hv : l[i]? = some v) : loadP Tryd.prog 3 (.ptr id i) h = some v := by
  simp [loadP, tyAgg, cellsAt, show h[id]? = some (.own 1 l) from a, PObj.get, hv]
theorem ldM {h : PHeap} {id i : Nat} {l : List PV} {v : PV} (a : At h id l) (hv : l[i]? = some v) : loadP Tryd.prog 46 (.ptr id i) h = some v := by
  simp [loadP, tyMpA, cellsAt, show h[id]? = some (.own 1 l) from a, PObj.get, hv]
theorem st1 {h : PHeap} {id i : Nat} {l : List PV} {x : Int} (a : At h id l) (hi : i < l.length) : storeP Tryd.prog 3 (.ptr id i) (.int .i64 x) h = some (h.set id (.own 1 (l.set i (.int .i64 x)))) := by
  simp [storeP, show h[id]? = some (.own 1 l) from a, PV.cells, tySize, setCells]; omega

/-! ### what stands -/
def stC (f a b t : Nat) : List PV := [.int .i64 (f : Int), .int .i64 (a : Int), .int .i64 (b : Int), .int .i64 (t : Int)]
def stP (f a b t : Nat) : PV := .agg (stC f a b t)
theorem ldS {h : PHeap} {id f a b t : Nat} (o : At h id (stC f a b t)) : loadP Tryd.prog 38 (.ptr id 0) h = some (stP f a b t) := by
  simp [loadP, tyStA, tySt4, cellsAt, show h[id]? = some (.own 1 (stC f a b t)) from o, PObj.get, stC, stP]
theorem boxS (h : PHeap) (f a b t : Nat) : boxP (stP f a b t) h = some (.ptr h.length 0, h ++ [.own 1 (stC f a b t)]) := by simp [boxP, stP, stC, PV.cells, PV.oneCell]
theorem alS (h : PHeap) : allocP Tryd.prog 38 h = some (.ptr h.length 0, h ++ [.own 1 (stC 0 0 0 0)]) := by simp [allocP, tyStZ, stC]
theorem stS {h : PHeap} {id f a b t f' a' b' t' : Nat} (o : At h id (stC f' a' b' t')) : storeP Tryd.prog 38 (.ptr id 0) (stP f a b t) h = some (h.set id (.own 1 (stC f a b t))) := by
  simp [storeP, show h[id]? = some (.own 1 (stC f' a' b' t')) from o, stP, stC, PV.cells, PV.oneCell, tySt4, setCells]
theorem plainS {f a b t : Nat} : plainEq (stP f a b t) (stP f a b t) = true := plain_agg4

section
variable {Q : PV → PHeap → Prop} {h : PHeap} {id f a b t : Nat}
theorem wboxS {F : PV × PHeap → Res} (hf : ∀ h' id, At h' id (stC f a b t) → Keep h.length h h' → h.length ≤ id → W (F (.ptr id 0, h')) Q) : W ((boxP (stP f a b t) h).bind F) Q := wnew (boxS h f a b t) hf
theorem walS {F : PV × PHeap → Res} (hf : ∀ h' id, At h' id (stC 0 0 0 0) → Keep h.length h h' → h.length ≤ id → W (F (.ptr id 0, h')) Q) : W ((allocP Tryd.prog 38 h).bind F) Q := wnew (alS h) hf
theorem wstS {f' a' b' t' : Nat} (o : At h id (stC f' a' b' t')) {F : PHeap → Res} (hf : ∀ h', At h' id (stC f a b t) → KB id h h' → W (F h') Q) : W ((storeP Tryd.prog 38 (.ptr id 0) (stP f a b t) h).bind F) Q := by
  rw [stS o]; exact hf _ (put_at o).1 (put_at o).2
theorem wst1 {i : Nat} {l : List PV} {x : Int} (o : At h id l) (hi : i < l.length) {F : PHeap → Res} (hf : ∀ h', At h' id (l.set i (.int .i64 x)) → KB id h h' → W (F h') Q) : W ((storeP Tryd.prog 3 (.ptr id i) (.int .i64 x) h).bind F) Q := by
  rw [st1 o hi]; exact hf _ (put_at o).1 (put_at o).2
theorem wia3 {o i : Nat} (hi : i < 3) {F : PV → Res} (hf : W (F (.ptr id (o + i))) Q) : W ((indexAddrP Tryd.prog 36 (.ptr id o) (.int .i64 (i : Int))).bind F) Q := wbd (ia3 id o i hi) hf
theorem wia9 {o i : Nat} (hi : i < 9) {F : PV → Res} (hf : W (F (.ptr id (o + i))) Q) : W ((indexAddrP Tryd.prog 47 (.ptr id o) (.int .i64 (i : Int))).bind F) Q := wbd (ia9 id o i hi) hf
end

variable (g : Nat → PV) (lf n : Nat)

theorem exchanged_W (N : Nat) (hN : 1 ≤ N) (h : PHeap) {T : Nat} (hT : T = 1 ∨ T = 2) : CL g lf N fn_impl_exchanged [.int .i64 (T : Int)] h = some (.int .i64 ((3 - T : Nat) : Int), h) := by
  obtain ⟨n, rfl⟩ : ∃ n, N = n + 1 := ⟨N - 1, by omega⟩
  have : W (CL g lf (n + 1) fn_impl_exchanged [.int .i64 (T : Int)] h) fun v h' => v = .int .i64 ((3 - T : Nat) : Int) ∧ h' = h := by
    rw [impl_exchanged.call_eq]
    unfold impl_exchanged.main
    simp only [env_bin]
    rcases hT with rfl | rfl
    · repeat (first | with_reducible refine wT ?_ | with_reducible refine wrI ?_ | with_reducible refine weqlT (by omega) ?_)
      exact W.ret ⟨rfl, rfl⟩
    · repeat (first | with_reducible refine wT ?_ | with_reducible refine wF ?_ | with_reducible refine wrI ?_ | with_reducible refine weqlT (by omega) ?_ | with_reducible refine weqlF (by omega) ?_)
      exact W.ret ⟨rfl, rfl⟩
  obtain ⟨_, _, e, rfl, rfl⟩ := this
  exact e

theorem Keep.kbs {n m : Nat} {a b c : PHeap} (k : Keep n a b) (hn : n ≤ a.length) (k' : KB m b c) (hm : n ≤ m) : Keep n a c := k.trans (k'.keep hm (Nat.le_trans hn k.1))
theorem wia30 {Q : PV → PHeap → Prop} {id o : Nat} {F : PV → Res} (hf : W (F (.ptr id (o + 0))) Q) : W ((indexAddrP Tryd.prog 36 (.ptr id o) (.int .i64 0)).bind F) Q := wbd (ia3 id o 0 (by decide)) hf

theorem after_W {f a b t k : Nat} (hf : f < 2 ^ 9) (ha : a < 2 ^ 9) (hb : b < 2 ^ 9) (hk : k < 9) (ht : t = 1 ∨ t = 2) (N : Nat) (hN : 2 ≤ N) (h : PHeap) :
    W (CL g lf N fn_impl_standing_after [stP f a b t, .int .i64 (k : Int)] h) fun v h' => v = stP (without f k) (putA t k a) (putB t k b) (3 - t) ∧ Keep h.length h h' := by
  obtain ⟨n, rfl⟩ : ∃ n, N = n + 1 := ⟨N - 1, by omega⟩
  have hsl := shl_lt hk
  have e1 : ∀ h, CL g lf n fn_impl_exchanged [.int .i64 (t : Int)] h = some (.int .i64 ((3 - t : Nat) : Int), h) := fun h => exchanged_W g lf n (by omega) h ht
  rw [impl_standing_after.call_eq]
  unfold impl_standing_after.main
  simp only [env_C, env_alloc, env_box, env_load, env_store, env_bin, env_fieldAddr, env_indexAddr]
  refine wboxS fun h1 id o1 k1 l1 => ?_
  dsimp only
  refine walS fun h2 id2 o2 k2 l2 => ?_
  have o1' := o1.keep k2
  have hne : id2 ≠ id := by have := o1.lt; omega
  have kk2 : Keep h.length h h2 := k1.trans (k2.mono k1.1)
  repeat (first | (with_reducible refine wbd (fSt0 _) ?_) | (with_reducible refine wia30 ?_) | (with_reducible refine wbd (ld1 (by assumption) rfl) ?_) | with_reducible refine wshl (by omega) ?_ | with_reducible refine wandNot (by omega) (by omega) ?_ | dsimp only)
  refine wst1 o1' (show 0 + 0 < 4 by decide) fun h3 o3 k3 => ?_
  have o3 : At h3 id (stC (without f k) a b t) := o3
  have o23 := o2.kb k3 hne
  rcases ht with rfl | rfl
  · repeat (first | (with_reducible refine wbd (fSt0 _) ?_) | (with_reducible refine wbd (fSt1 _) ?_) | (with_reducible refine wia3 (by omega) ?_) | (with_reducible refine wbd (ld1 (by assumption) rfl) ?_) | with_reducible refine wshl (by omega) ?_ | with_reducible refine wor (by omega) (by omega) ?_)
    refine wst1 o3 (show 0 + 1 < 4 by decide) fun h4 o4 k4 => ?_
    have o4 : At h4 id (stC (without f k) (a ||| 1 <<< k) b 1) := o4
    have o24 := o23.kb k4 hne
    have e2 := e1 h4
    repeat (first | with_reducible refine wbd (by assumption) ?_ | (with_reducible refine wbd (fSt1 _) ?_) | (with_reducible refine wbd (ld1 (by assumption) rfl) ?_) | dsimp only)
    refine wst1 o4 (show 3 < 4 by decide) fun h5 o5 k5 => ?_
    have o5 : At h5 id (stC (without f k) (a ||| 1 <<< k) b (3 - 1)) := o5
    have o25 := o24.kb k5 hne
    repeat (first | (with_reducible refine wbd (ldS (by assumption)) ?_))
    refine wstS o25 fun h6 o6 k6 => ?_
    repeat (first | (with_reducible refine wbd (ldS (by assumption)) ?_))
    exact W.ret ⟨rfl, (((kk2.kbs (Nat.le_refl _) k3 l1).kbs (Nat.le_refl _) k4 l1).kbs (Nat.le_refl _) k5 l1).kbs (Nat.le_refl _) k6 (Nat.le_trans k1.1 l2)⟩
  · repeat (first | (with_reducible refine wbd (fSt0 _) ?_) | (with_reducible refine wbd (fSt1 _) ?_) | (with_reducible refine wia3 (by omega) ?_) | (with_reducible refine wbd (ld1 (by assumption) rfl) ?_) | with_reducible refine wshl (by omega) ?_ | with_reducible refine wor (by omega) (by omega) ?_)
    refine wst1 o3 (show 0 + 2 < 4 by decide) fun h4 o4 k4 => ?_
    have o4 : At h4 id (stC (without f k) a (b ||| 1 <<< k) 2) := o4
    have o24 := o23.kb k4 hne
    have e2 := e1 h4
    repeat (first | with_reducible refine wbd (by assumption) ?_ | (with_reducible refine wbd (fSt1 _) ?_) | (with_reducible refine wbd (ld1 (by assumption) rfl) ?_) | dsimp only)
    refine wst1 o4 (show 3 < 4 by decide) fun h5 o5 k5 => ?_
    have o5 : At h5 id (stC (without f k) a (b ||| 1 <<< k) (3 - 2)) := o5
    have o25 := o24.kb k5 hne
    repeat (first | (with_reducible refine wbd (ldS (by assumption)) ?_))
    refine wstS o25 fun h6 o6 k6 => ?_
    repeat (first | (with_reducible refine wbd (ldS (by assumption)) ?_))
    exact W.ret ⟨rfl, (((kk2.kbs (Nat.le_refl _) k3 l1).kbs (Nat.le_refl _) k4 l1).kbs (Nat.le_refl _) k5 l1).kbs (Nat.le_refl _) k6 (Nat.le_trans k1.1 l2)⟩

/-! ### a board's search -/
def nearV (R C j : Nat) : Nat := if j < R * C then wideN R C (1 <<< j) else 0
def srchV (R C : Nat) : List Nat := (List.range 9).map (nearV R C) ++ [0, sideN R C 1 false, sideN R C 2 false, 0, sideN R C 1 true, sideN R C 2 true]
def srchC (R C m : Nat) : List PV := (srchV R C).map (fun x : Nat => .int .i64 (x : Int)) ++ [.mapv m]
theorem srch_near (R C m k : Nat) (hk : k < 9) : (srchC R C m)[0 + k]? = some (.int .i64 (nearV R C k : Int)) := by
  rw [Nat.zero_add]
  unfold srchC srchV
  rw [List.map_append, List.append_assoc, List.getElem?_append_left (by simp; omega)]
  simp [hk]
theorem srch_first (R C m : Nat) {P : Nat} (hP : P = 1 ∨ P = 2) : (srchC R C m)[9 + P]? = some (.int .i64 (sideN R C P false : Int)) := by
  rcases hP with rfl | rfl <;> rfl
theorem srch_last (R C m : Nat) {P : Nat} (hP : P = 1 ∨ P = 2) : (srchC R C m)[12 + P]? = some (.int .i64 (sideN R C P true : Int)) := by
  rcases hP with rfl | rfl <;> rfl
theorem srch_map (R C m : Nat) : (srchC R C m)[15]? = some (.mapv m) := rfl

theorem nearV_lt {R C j : Nat} (hB : BoardOf R C) (hj : j < 9) : nearV R C j < 2 ^ 9 := by
  unfold nearV; split
  · exact wide_lt hB (shl_lt hj)
  · decide
theorem nearV_bit {R C k j : Nat} (hB : BoardOf R C) (hk : k < R * C) : (nearV R C k).testBit j = true ↔ j = k ∨ Adj (masksN R C) k j := by
  unfold nearV
  rw [if_pos hk, wide_bit hB, one_bit]
  constructor
  · rintro (h | ⟨i, h1, h2⟩)
    · exact .inl (by simpa using h)
    · rw [one_bit] at h1
      have : i = k := by simpa using h1
      exact .inr (this ▸ h2)
  · rintro (h | h)
    · exact .inl (by simpa using h)
    · exact .inr ⟨k, by rw [one_bit]; simp, h⟩
theorem bit_lt {x n j : Nat} (hx : x < 2 ^ n) (hj : x.testBit j = true) : j < n := by
  apply Classical.byContradiction
  intro hn
  rw [Nat.testBit_lt_two_pow (Nat.lt_of_lt_of_le hx (Nat.pow_le_pow_right (by decide) (by omega)))] at hj; cases hj

theorem joins_W {R C P own : Nat} (hB : BoardOf R C) (hP : P = 1 ∨ P = 2) (hown : own < 2 ^ (R * C)) (hbig : Big g) {h : PHeap} {s m : Nat} (hs : At h s (srchC R C m)) (ht : Tab64 g h) (N : Nat) (hN : 4 ≤ N) (hlf : 1000 < lf) :
    CL g lf N fn_impl_search_joins [.ptr s 0, .int .i64 (own : Int), .int .i64 (P : Int)] h = some (.bool (joinsN R C P own), h) := by
  obtain ⟨n, rfl⟩ : ∃ n, N = n + 1 := ⟨N - 1, by omega⟩
  have h9 := hB.2.2.2.2
  have hown9 : own < 2 ^ 9 := Nat.lt_of_lt_of_le hown (Nat.pow_le_pow_right (by decide) h9)
  have hP3 : P < 3 := by omega
  have s1 := sideN_lt (P := P) (last := false) hB
  have s2 := sideN_lt (P := P) (last := true) hB
  have hS9 : own &&& sideN R C P false < 2 ^ 9 := Nat.and_lt_two_pow _ s1
  have : W (CL g lf (n + 1) fn_impl_search_joins [.ptr s 0, .int .i64 (own : Int), .int .i64 (P : Int)] h) fun v h' => v = .bool (joinsN R C P own) ∧ h' = h := by
    rw [impl_search_joins.call_eq]
    unfold impl_search_joins.main
    simp only [env_lf, env_load, env_ptr, env_bin, env_fieldAddr, env_indexAddr]
    repeat (first | with_reducible refine wptr ?_ | (with_reducible refine wbd (fs1 _) ?_) | (with_reducible refine wia3 (by omega) ?_) | (with_reducible refine wbd (ld1 (by assumption) (srch_first _ _ _ hP)) ?_) | with_reducible refine wand (by omega) (by omega) ?_)
    obtain ⟨S, hS⟩ : ∃ S, S = own &&& sideN R C P false := ⟨_, rfl⟩
    rw [← hS] at hS9 ⊢
    have hSo : ∀ j, S.testBit j = true → own.testBit j = true := fun j hj => by
      rw [hS, Nat.testBit_and, Bool.and_eq_true] at hj; exact hj.1
    refine loopW (fun m' st => ∃ X w : Nat, st = impl_search_joins.st0 (.ptr s 0) (.int .i64 (own : Int)) (.int .i64 (P : Int)) (.int .i64 (X : Int)) (.int .i64 (w : Int)) h ∧ X < 2 ^ 9 ∧ (∀ j, w.testBit j = true → X.testBit j = true) ∧ (∀ j, X.testBit j = true → own.testBit j = true) ∧
      (∀ j, S.testBit j = true → X.testBit j = true) ∧ (∀ j, X.testBit j = true → Reach (masksN R C) (S ||| own) S j) ∧ (∀ k j, X.testBit k = true → w.testBit k = false → Adj (masksN R C) k j → own.testBit j = true → X.testBit j = true) ∧ m' = (512 - X) + (if w = 0 then 0 else 1)) ?_ lf (512 - S + (if S = 0 then 0 else 1)) _ (by split <;> omega)
      ⟨S, S, rfl, hS9, fun _ h => h, hSo, fun _ h => h, fun j hj => .start hj (by rw [Nat.testBit_or, hj]; rfl), fun k j h1 h2 _ _ => (by rw [h1] at h2; cases h2), rfl⟩
    rintro n1 m1 st ⟨X, w, rfl, hX, hw, hXo, hSX, hXr, hc, hm⟩ next
    rw [impl_search_joins.body0_eq]
    unfold impl_search_joins.body0
    simp only [env_lf, env_bin]
    by_cases e : w = 0
    · subst e
      repeat (first | with_reducible refine wF ?_ | with_reducible refine wptr ?_ | (with_reducible refine wbd (fs2 _) ?_) | (with_reducible refine wia3 (by omega) ?_) | (with_reducible refine wbd (ld1 (by assumption) (srch_last _ _ _ hP)) ?_) | with_reducible refine wand (by omega) (by omega) ?_ | with_reducible refine wneqF (by omega) ?_ | rw [kLoop_exit] | rw [impl_search_joins.after0_se0_0_1_2_7_8_21] | simp only [env_C, env_Y, env_g, env_lf, env_pick, env_alloc, env_box, env_build, env_buildSlice, env_load, env_store, env_ptr, env_bin, env_un, env_conv, env_make, env_slice, env_fieldAddr, env_field, env_indexAddr, env_index, env_extract, env_len, env_append, env_max, env_min, env_makeMap, env_lookup, env_update, env_clos, env_bstr, env_ext])
      have hXg : X = growN (masksN R C) own (sideN R C P false) := by
        rw [grown_is hS9 hown9 hSX hXr fun k j h1 h2 h3 => hc k j h1 (Nat.zero_testBit _) h2 h3, hS, Nat.and_comm]
        exact grown_in
      unfold joinsN
      rw [← hXg]
      refine wneq (fun e => ?_) (fun e => ?_)
      · repeat (first | with_reducible refine wrB ?_)
        refine W.ret ⟨?_, rfl⟩
        rw [decide_eq_false (by omega)]; rfl
      · repeat (first | with_reducible refine wrB ?_)
        refine W.ret ⟨?_, rfl⟩
        rw [decide_eq_true (by omega)]; rfl
    · have hw9 : w < 2 ^ 9 := Nat.lt_of_le_of_lt (sub_le hw) hX
      have hwc : ∀ k, w.testBit k = true → k < R * C := fun k hk => bit_lt hown (hXo k (hw k hk))
      repeat (first | with_reducible refine wT ?_ | with_reducible refine wneqT (by omega) ?_)
      refine loopW (fun m' st => ∃ wd r : Nat, st = impl_search_joins.st1 (.ptr s 0) (.int .i64 (own : Int)) (.int .i64 (P : Int)) (.int .i64 (X : Int)) (.int .i64 (wd : Int)) (.int .i64 (r : Int)) h ∧ wd < 2 ^ 9 ∧ r < 2 ^ 9 ∧ (∀ j, r.testBit j = true → w.testBit j = true) ∧
        (∀ j, wd.testBit j = true ↔ ∃ k, w.testBit k = true ∧ r.testBit k = false ∧ (nearV R C k).testBit j = true) ∧ m' = r) ?_ lf w _ (by omega) ⟨0, w, rfl, by decide, hw9, fun _ h => h, fun j => ⟨fun h => (by rw [Nat.zero_testBit] at h; cases h), fun ⟨k, h1, h2, _⟩ => (by rw [h1] at h2; cases h2)⟩, rfl⟩
      rintro n2 m2 st ⟨wd, r, rfl, hwd, hr, hrw, hwb, hm2⟩ next2
      rw [impl_search_joins.body1_eq]
      unfold impl_search_joins.body1
      simp only [env_C, env_load, env_ptr, env_bin, env_fieldAddr, env_indexAddr]
      by_cases e2 : r = 0
      · subst e2
        have hal : wd &&& own < 2 ^ 9 := Nat.and_lt_two_pow _ hown9
        have hml : minusN (wd &&& own) X < 2 ^ 9 := minusN_lt hal
        repeat (first | with_reducible refine wF ?_ | with_reducible refine wand (by omega) (by omega) ?_ | with_reducible refine wor (by omega) (by omega) ?_ | with_reducible refine wandNot (by omega) (by omega) ?_ | with_reducible refine wneqF (by omega) ?_ | rw [kLoop_exit] | rw [impl_search_joins.after1_se2_0_1_2_7_9_10_24] | simp only [env_C, env_Y, env_g, env_lf, env_pick, env_alloc, env_box, env_build, env_buildSlice, env_load, env_store, env_ptr, env_bin, env_un, env_conv, env_make, env_slice, env_fieldAddr, env_field, env_indexAddr, env_index, env_extract, env_len, env_append, env_max, env_min, env_makeMap, env_lookup, env_update, env_clos, env_bstr, env_ext])
        obtain ⟨w', hw'⟩ : ∃ w', w' = minusN (wd &&& own) X := ⟨_, rfl⟩
        have hb : ∀ j, w'.testBit j = true ↔ (w.testBit j = true ∨ ∃ k, w.testBit k = true ∧ Adj (masksN R C) k j) ∧ own.testBit j = true ∧ X.testBit j = false := fun j => by
          have hwj : wd.testBit j = true ↔ (w.testBit j = true ∨ ∃ k, w.testBit k = true ∧ Adj (masksN R C) k j) := by
            rw [hwb]
            constructor
            · rintro ⟨k, h1, _, h2⟩
              rcases (nearV_bit hB (hwc k h1)).1 h2 with rfl | h3
              · exact .inl h1
              · exact .inr ⟨k, h1, h3⟩
            · rintro (h1 | ⟨k, h1, h3⟩)
              · exact ⟨j, h1, Nat.zero_testBit _, (nearV_bit hB (hwc j h1)).2 (.inl rfl)⟩
              · exact ⟨k, h1, Nat.zero_testBit _, (nearV_bit hB (hwc k h1)).2 (.inr h3)⟩
          rw [← hwj, hw', minusN_bit, Nat.testBit_and]; cases wd.testBit j <;> cases own.testBit j <;> cases X.testBit j <;> simp
        rw [← hw'] at hml ⊢
        have hor : X ||| w' < 2 ^ 9 := Nat.or_lt_two_pow hX hml
        have hle : X ≤ X ||| w' := Nat.left_le_or
        have hne : w' ≠ 0 → X ≠ X ||| w' := fun hz he => by
          obtain ⟨j, hj⟩ := bit_of_ne hz
          have h1 := ((hb j).1 hj).2.2
          rw [he, Nat.testBit_or, hj, Bool.or_true] at h1; cases h1
        refine next _ _ ?_ ⟨X ||| w', w', rfl, hor, fun j hj => by rw [Nat.testBit_or, hj, Bool.or_true], fun j hj => ?_, fun j hj => by rw [Nat.testBit_or, hSX j hj, Bool.true_or], ?_, ?_, rfl⟩
        · rw [hm, if_neg e]
          by_cases e' : w' = 0
          · rw [if_pos e']; omega
          · rw [if_neg e']; have := hne e'; omega
        · rw [Nat.testBit_or, Bool.or_eq_true] at hj
          rcases hj with hj | hj
          · exact hXo j hj
          · exact ((hb j).1 hj).2.1
        · intro j hj
          rw [Nat.testBit_or, Bool.or_eq_true] at hj
          rcases hj with hj | hj
          · exact hXr j hj
          · obtain ⟨h1 | ⟨k, h1, h2⟩, h3, h4⟩ := (hb j).1 hj
            · rw [hw j h1] at h4; cases h4
            · exact .step (hXr k (hw k h1)) h2 (by rw [Nat.testBit_or, h3, Bool.or_true])
        · intro k j h1 h2 h3 h4
          rw [Nat.testBit_or, h2, Bool.or_false] at h1
          rw [Nat.testBit_or]
          by_cases hk : w.testBit k = true
          · cases hx : X.testBit j with
            | true => rfl
            | false => rw [(hb j).2 ⟨.inr ⟨k, hk, h3⟩, h4, hx⟩]; rfl
          · rw [hc k j h1 (by simpa using hk) h3 h4]; rfl
      · have el := leastIn_W g lf hr e2 hbig ht n (by omega)
        obtain ⟨l1, l2, l3, l4⟩ := low_ok hr e2
        obtain ⟨d1, d2⟩ := f_drop hr e2
        have hlt := without_less hr e2
        have hwl := without_lt9 (k := lowN r) hr
        obtain ⟨k, hk⟩ : ∃ k, k = lowN r := ⟨_, rfl⟩
        rw [← hk] at el l1 l2 d2 hlt hwl
        have hnv := nearV_lt hB l2
        have hwr := hrw k l1
        repeat (first | with_reducible refine wT ?_ | with_reducible refine wptr ?_ | with_reducible refine wbd (by assumption) ?_ | (with_reducible refine wbd (fs0 _) ?_) | (with_reducible refine wia9 l2 ?_) | (with_reducible refine wbd (ld1 (by assumption) (srch_near _ _ _ _ l2)) ?_) | with_reducible refine wor (by omega) (by omega) ?_ | with_reducible refine wneqT (by omega) ?_ | dsimp only)
        refine next2 _ _ (hm2 ▸ hlt) ⟨_, _, rfl, Nat.or_lt_two_pow hwd hnv, hwl, fun j hj => ?_, fun j => ?_, rfl⟩
        · rw [without_bit, Bool.and_eq_true] at hj; exact hrw j hj.1
        · rw [Nat.testBit_or, Bool.or_eq_true, hwb]
          constructor
          · rintro (⟨i, h1, h2, h3⟩ | h1)
            · exact ⟨i, h1, by rw [without_bit, h2]; rfl, h3⟩
            · exact ⟨k, hwr, by rw [without_bit]; simp, h1⟩
          · rintro ⟨i, h1, h2, h3⟩
            by_cases hik : i = k
            · subst hik; exact .inr h3
            · rw [without_bit] at h2
              simp only [ne_eq, hik, not_false_eq_true, decide_true, Bool.and_true] at h2
              exact .inl ⟨i, h1, h2, h3⟩
  obtain ⟨_, _, e, rfl, rfl⟩ := this
  exact e

def whoN (R C a b : Nat) : Nat := if joinsN R C 1 a = true then 1 else if joinsN R C 2 b = true then 2 else 0

theorem joined_W {R C f a b t : Nat} (hB : BoardOf R C) (hp : Pos R C a b) (hbig : Big g) {h : PHeap} {s m : Nat} (hs : At h s (srchC R C m)) (ht : Tab64 g h) (N : Nat) (hN : 5 ≤ N) (hlf : 1000 < lf) :
    ∃ h', CL g lf N fn_impl_search_joined [.ptr s 0, stP f a b t] h = some (.int .i64 (whoN R C a b : Int), h') ∧ Keep h.length h h' := by
  obtain ⟨n, rfl⟩ : ∃ n, N = n + 1 := ⟨N - 1, by omega⟩
  have : W (CL g lf (n + 1) fn_impl_search_joined [.ptr s 0, stP f a b t] h) fun v h' => v = .int .i64 (whoN R C a b : Int) ∧ Keep h.length h h' := by
    rw [impl_search_joined.call_eq]
    unfold impl_search_joined.main
    simp only [env_lf, env_box]
    refine wboxS fun h1 id o1 k1 l1 => ?_
    have hs1 := hs.keep k1
    have e1 := joins_W g lf hB (P := 1) (.inl rfl) hp.1 hbig hs1 (ht.keep k1) n (by omega) hlf
    have e2 := joins_W g lf hB (P := 2) (.inr rfl) hp.2.1 hbig hs1 (ht.keep k1) n (by omega) hlf
    refine loopW (fun m' st => ∃ P : Nat, st = impl_search_joined.st0 (.ptr s 0) (.ptr id 0) (.int .i64 (P : Int)) h1 ∧ P + m' = 3 ∧ 1 ≤ P ∧ (2 ≤ P → joinsN R C 1 a = false) ∧ (3 ≤ P → joinsN R C 2 b = false)) ?_ lf 2 _ (by omega) ⟨1, rfl, rfl, by decide, by omega, by omega⟩
    rintro n1 m1 st ⟨P, rfl, hm, hP1, j1, j2⟩ next
    rw [impl_search_joined.body0_eq]
    unfold impl_search_joined.body0
    simp only [env_C, env_load, env_bin, env_fieldAddr, env_indexAddr]
    have hP : P = 1 ∨ P = 2 ∨ P = 3 := by omega
    rcases hP with rfl | rfl | rfl
    · cases hj : joinsN R C 1 a with
      | true =>
        rw [hj] at e1
        repeat (first | with_reducible refine wT ?_ | with_reducible refine wrI ?_ | with_reducible refine wbd (by assumption) ?_ | (with_reducible refine wbd (fSt0 _) ?_) | (with_reducible refine wia3 (by omega) ?_) | (with_reducible refine wbd (ld1 (by assumption) rfl) ?_) | with_reducible refine wleqT (by omega) ?_ | rw [kLoop_ret] | rw [impl_search_joined.K0_ret] | rw [impl_search_joined.top_sr_4] | dsimp only)
        exact W.ret ⟨by unfold whoN; rw [hj]; rfl, k1⟩
      | false =>
        rw [hj] at e1
        repeat (first | with_reducible refine wT ?_ | with_reducible refine wF ?_ | with_reducible refine wbd (by assumption) ?_ | (with_reducible refine wbd (fSt0 _) ?_) | (with_reducible refine wia3 (by omega) ?_) | (with_reducible refine wbd (ld1 (by assumption) rfl) ?_) | with_reducible refine wadd1 (by omega) ?_ | with_reducible refine wleqT (by omega) ?_ | dsimp only)
        exact next _ _ (show 1 < m1 by omega) ⟨2, rfl, rfl, by decide, fun _ => hj, by omega⟩
    · cases hj : joinsN R C 2 b with
      | true =>
        rw [hj] at e2
        repeat (first | with_reducible refine wT ?_ | with_reducible refine wrI ?_ | with_reducible refine wbd (by assumption) ?_ | (with_reducible refine wbd (fSt0 _) ?_) | (with_reducible refine wia3 (by omega) ?_) | (with_reducible refine wbd (ld1 (by assumption) rfl) ?_) | with_reducible refine wleqT (by omega) ?_ | rw [kLoop_ret] | rw [impl_search_joined.K0_ret] | rw [impl_search_joined.top_sr_4] | dsimp only)
        exact W.ret ⟨by unfold whoN; rw [j1 (by decide), hj]; rfl, k1⟩
      | false =>
        rw [hj] at e2
        repeat (first | with_reducible refine wT ?_ | with_reducible refine wF ?_ | with_reducible refine wbd (by assumption) ?_ | (with_reducible refine wbd (fSt0 _) ?_) | (with_reducible refine wia3 (by omega) ?_) | (with_reducible refine wbd (ld1 (by assumption) rfl) ?_) | with_reducible refine wadd1 (by omega) ?_ | with_reducible refine wleqT (by omega) ?_ | dsimp only)
        exact next _ _ (show 0 < m1 by omega) ⟨3, rfl, rfl, by decide, fun _ => j1 (by decide), fun _ => hj⟩
    · repeat (first | with_reducible refine wF ?_ | with_reducible refine wrI ?_ | with_reducible refine wleqF (by omega) ?_ | rw [kLoop_exit] | rw [impl_search_joined.after0_se0_0_3_5_7])
      exact W.ret ⟨by unfold whoN; rw [j1 (by decide), j2 (by decide)]; rfl, k1⟩
  obtain ⟨_, h', e, rfl, k⟩ := this
  exact ⟨h', e, k⟩

end Go.Proofs.YtpaehbfknlpkbaeDoor

/- The program's search with its map: who wins what stands, and by which moves. -/
set_option maxRecDepth 20000
namespace Go.Proofs.YtpaehbfknlpkbaeDoor
open Go Go.Ip G

/-- What may stand: free cells, stones of both, who is to move. -/
def Stands (R C f a b t : Nat) : Prop := Pos R C a b ∧ f < 2 ^ 9 ∧ (∀ k, f.testBit k = true ↔ k < R * C ∧ (a ||| b).testBit k = false) ∧ (t = 1 ∨ t = 2)
theorem Stands.put {R C f a b t k : Nat} (h : Stands R C f a b t) (hk : f.testBit k = true) : Stands R C (without f k) (putA t k a) (putB t k b) (3 - t) := by
  obtain ⟨h1, h2, h3, h4⟩ := h
  obtain ⟨k1, k2⟩ := (h3 k).1 hk
  refine ⟨h1.put k1 k2, without_lt9 h2, fun j => ?_, by omega⟩
  rw [without_bit, put_bit, Bool.and_eq_true, h3, Bool.or_eq_false_iff]
  simp only [decide_eq_true_eq, decide_eq_false_iff_not]
  exact ⟨fun ⟨⟨a1, a2⟩, a3⟩ => ⟨a1, a2, a3⟩, fun ⟨a1, a2, a3⟩ => ⟨⟨a1, a2⟩, a3⟩⟩

/-- Every entry of the map tells who wins. -/
def Memo (R C : Nat) (es : List (PV × PV)) : Prop := ∀ p ∈ es, ∃ f a b t, Stands R C f a b t ∧ p = (stP f a b t, .int .i64 (winN R C a b t : Int))

theorem eqK_st {f a b t f' a' b' t' : Nat} (h : eqK (stP f a b t) (stP f' a' b' t') = true) : f = f' ∧ a = a' ∧ b = b' ∧ t = t' := by
  simp only [eqK, stP, stC, eqL, eq1, Bool.and_eq_true, decide_eq_true_eq] at h
  omega
theorem memo_find {R C f a b t : Nat} : ∀ {es : List (PV × PV)} {v : PV}, Memo R C es → findM es (stP f a b t) = some v → v = .int .i64 (winN R C a b t : Int)
  | [], v, _, h => by cases h
  | p :: es, v, hm, h => by
    obtain ⟨f', a', b', t', _, rfl⟩ := hm p (by simp)
    unfold findM at h
    cases e : eqK (stP f' a' b' t') (stP f a b t) with
    | true =>
      rw [e] at h
      obtain ⟨_, rfl, rfl, rfl⟩ := eqK_st e
      cases h; rfl
    | false =>
      rw [e] at h
      exact memo_find (fun q hq => hm q (by simp [hq])) h
theorem memo_put {R C f a b t : Nat} (hs : Stands R C f a b t) : ∀ {es : List (PV × PV)}, Memo R C es → Memo R C (putM es (stP f a b t) (.int .i64 (winN R C a b t : Int)))
  | [], _ => fun p hp => by
    simp only [putM, List.mem_singleton] at hp
    exact ⟨f, a, b, t, hs, hp⟩
  | p :: es, hm => by
    obtain ⟨f', a', b', t', hs', rfl⟩ := hm p (by simp)
    have hr : Memo R C es := fun q hq => hm q (by simp [hq])
    unfold putM
    cases e : eqK (stP f' a' b' t') (stP f a b t) with
    | true =>
      obtain ⟨rfl, rfl, rfl, rfl⟩ := eqK_st e
      intro q hq
      rcases List.mem_cons.1 hq with rfl | hq
      · exact ⟨f', a', b', t', hs, rfl⟩
      · exact hr q hq
    | false =>
      intro q hq
      rcases List.mem_cons.1 hq with rfl | hq
      · exact ⟨f', a', b', t', hs', rfl⟩
      · exact memo_put hs hr q hq

/-! ### the keys -/
theorem keyedSt : keyedB Tryd.prog 38 = true := by kernel_rfl
theorem zeroInt : zero1 Tryd.prog 3 = some (.int .i64 0) := by kernel_rfl
theorem stU : Tryd.prog.underlying 38 = some (.struct (Tryd.prog.fieldsOf 38)) := by kernel_rfl
theorem stF : (Tryd.prog.fieldsOf 38).toList.map (fun f => (f.type, f.offset)) = [(36, 0), (3, 3)] := by kernel_rfl
theorem stN : (Tryd.prog.fieldsOf 38).all (·.name != "_") = true := by kernel_rfl
theorem stK : Tryd.prog.keyType 38 = true := by kernel_rfl
theorem tyIntU : Tryd.prog.underlying 3 = some (.int .i64) := by kernel_rfl
theorem ce1 : Tryd.prog.cellsOf 3 = 1 := by kernel_rfl
theorem ce3 : Tryd.prog.cellsOf 36 = 3 := by kernel_rfl
theorem ce4 : Tryd.prog.cellsOf 38 = 4 := by kernel_rfl
theorem tySz : Nat.ble 2 Tryd.prog.types.size = true := by kernel_rfl
theorem wf_small {x : Nat} (hx : x < 2 ^ 9) : (Lit.int .i64 (x : Int)).wf = true := by
  have h1 : IntKind.i64.min = -9223372036854775808 := by decide
  have h2 : IntKind.i64.max = 9223372036854775807 := by decide
  simp only [Lit.wf, h1, h2, Bool.and_eq_true, decide_eq_true_eq]
  omega
theorem lits_int {D x : Nat} (hx : x < 2 ^ 9) : Tryd.prog.keyLits (D + 1) 3 [.int .i64 (x : Int)] = some [.int .i64 (x : Int)] := by
  simp [Program.keyLits, tyIntU, wf_small hx]
theorem lits_arr {D x y z : Nat} (hx : x < 2 ^ 9) (hy : y < 2 ^ 9) (hz : z < 2 ^ 9) : Tryd.prog.keyLits (D + 2) 36 [.int .i64 (x : Int), .int .i64 (y : Int), .int .i64 (z : Int)] = some [.int .i64 (x : Int), .int .i64 (y : Int), .int .i64 (z : Int)] := by
  unfold Program.keyLits
  rw [tyA3]
  simp only [ce1, ce3, List.length_cons, List.length_nil, if_true]
  rw [show List.range 3 = [0, 1, 2] from rfl]
  simp [lits_int hx, lits_int hy, lits_int hz]
theorem lits_st {D f a b t : Nat} (hf : f < 2 ^ 9) (ha : a < 2 ^ 9) (hb : b < 2 ^ 9) (ht : t < 2 ^ 9) : ∃ L, Tryd.prog.keyLits (D + 3) 38 [.int .i64 (f : Int), .int .i64 (a : Int), .int .i64 (b : Int), .int .i64 (t : Int)] = some L := by
  unfold Program.keyLits
  rw [stU]
  simp only [ce4, List.length_cons, List.length_nil, stN, and_self, if_true]
  have hF := stF
  generalize Tryd.prog.fieldsOf 38 = fs at hF ⊢
  obtain ⟨L⟩ := fs
  match L, hF with
  | [f0, f1], hF =>
    simp only [List.map_cons, List.map_nil, List.cons.injEq, Prod.mk.injEq, and_true] at hF
    obtain ⟨⟨t0, o0⟩, t1, o1⟩ := hF
    refine ⟨[.int .i64 (f : Int), .int .i64 (a : Int), .int .i64 (b : Int), .int .i64 (t : Int)], ?_⟩
    simp [t0, o0, t1, o1, ce1, ce3, lits_arr hf ha hb, lits_int ht]
  | [], hF => simp at hF
  | [_], hF => simp at hF
  | _ :: _ :: _ :: _, hF => simp at hF
theorem isKey_st {R C f a b t : Nat} (hB : BoardOf R C) (hs : Stands R C f a b t) : isKeyP Tryd.prog 38 (stP f a b t) = true := by
  obtain ⟨hp, hf, _, ht⟩ := hs
  have l9 := hp.lt9 hB
  obtain ⟨D, hD⟩ : ∃ D, Tryd.prog.types.size + 1 = D + 3 := ⟨Tryd.prog.types.size - 2, by have := Nat.le_of_ble_eq_true tySz; omega⟩
  obtain ⟨L, hL⟩ := lits_st (D := D) hf l9.1 l9.2 (show t < 2 ^ 9 by omega)
  have hk : keyV (stP f a b t) = some (.agg #[.int .i64 (f : Int), .int .i64 (a : Int), .int .i64 (b : Int), .int .i64 (t : Int)]) := rfl
  have hfo : (Value.agg #[.int .i64 (f : Int), .int .i64 (a : Int), .int .i64 (b : Int), .int .i64 (t : Int)]).formed Tryd.prog 38 = true := by
    simp [Value.formed, stU, ce4]
  unfold isKeyP
  rw [hk]
  simp only [keyOf, stU, stK, hfo, Bool.and_self, if_true, hD, Value.cells, hL, Option.map_some, Option.isSome_some]
theorem keys_memo {R C : Nat} {es : List (PV × PV)} (hB : BoardOf R C) (hm : Memo R C es) {f a b t : Nat} (hs : Stands R C f a b t) : keysB Tryd.prog 38 es (stP f a b t) = true := by
  unfold keysB
  rw [keyedSt, isKey_st hB hs, Bool.and_self, Bool.true_and, List.all_eq_true]
  intro p hp
  obtain ⟨f', a', b', t', hs', rfl⟩ := hm p hp
  exact isKey_st hB hs'

theorem look_st {R C m : Nat} {es : List (PV × PV)} {h : PHeap} (hB : BoardOf R C) (hM : MapAt h m es) (hm : Memo R C es) {f a b t : Nat} (hs : Stands R C f a b t) :
    lookupP Tryd.prog 46 (.mapv m) (stP f a b t) true h = some (foundP true (.int .i64 0) (findM es (stP f a b t))) := by
  have hk := keys_memo hB hm hs
  have hma : mapAt h m = some es := by unfold mapAt; rw [show h[m]? = some (.mp es) from hM]
  simp only [lookupP, tyMp, hma, zeroInt, hk, cond_true]
theorem upd_st {R C m : Nat} {es : List (PV × PV)} {h : PHeap} (hB : BoardOf R C) (hM : MapAt h m es) (hm : Memo R C es) {f a b t : Nat} (hs : Stands R C f a b t) (x : Int) :
    updateP Tryd.prog 46 (.mapv m) (stP f a b t) (.int .i64 x) h = some (h.set m (.mp (putM es (stP f a b t) (.int .i64 x)))) := by
  have hk := keys_memo hB hm hs
  have hma : mapAt h m = some es := by unfold mapAt; rw [show h[m]? = some (.mp es) from hM]
  simp only [updateP, tyMp, hma, hk, PV.oneCell, Bool.and_self, cond_true]

/-- The search of a board: its tables, and its map, right in every entry. -/
def Sch (R C : Nat) (h : PHeap) (s m : Nat) : Prop := At h s (srchC R C m) ∧ ∃ es, MapAt h m es ∧ Memo R C es
theorem Sch.keep {R C s m : Nat} {h h' : PHeap} (hs : Sch R C h s m) (k : Keep h.length h h') : Sch R C h' s m := by
  obtain ⟨a, es, b, c⟩ := hs; exact ⟨a.keep k, es, b.keep k, c⟩
theorem Sch.ne {R C s m id : Nat} {h : PHeap} {l : List PV} (hs : Sch R C h s m) (a : At h id l) : id ≠ m := by
  obtain ⟨_, es, b, _⟩ := hs; exact a.ne b
theorem Sch.lt {R C s m : Nat} {h : PHeap} (hs : Sch R C h s m) : m < h.length := by
  obtain ⟨_, es, b, _⟩ := hs; exact b.lt
theorem Tab64.kb {g : Nat → PV} {R C s m : Nat} {h h' : PHeap} (t : Tab64 g h) (hs : Sch R C h s m) (k : KB m h h') : Tab64 g h' := fun id e => by
  have ho := t id e
  obtain ⟨_, es, b, _⟩ := hs
  rw [k.2 id (List.getElem?_eq_some_iff.1 ho).1 (fun e => by subst e; unfold MapAt at b; rw [ho] at b; cases b)]; exact ho
theorem Tab.kb {g : Nat → PV} {R C s m : Nat} {h h' : PHeap} (t : Tab g h) (hs : Sch R C h s m) (k : KB m h h') : Tab g h' := by
  obtain ⟨id, e, ho⟩ := t
  obtain ⟨_, es, b, _⟩ := hs
  exact ⟨id, e, by rw [k.2 id (List.getElem?_eq_some_iff.1 ho).1 (fun e => by subst e; unfold MapAt at b; rw [ho] at b; cases b)]; exact ho⟩

theorem who_win {R C a b t : Nat} (hB : BoardOf R C) (hp : Pos R C a b) : (whoN R C a b ≠ 0 → winN R C a b t = whoN R C a b) ∧ (whoN R C a b = 0 → joinsN R C 1 a = false ∧ joinsN R C 2 b = false) ∧ whoN R C a b ≤ 2 := by
  unfold whoN
  cases h1 : joinsN R C 1 a with
  | true => exact ⟨fun _ => win_first h1, fun h => by simp at h, by simp⟩
  | false =>
    cases h2 : joinsN R C 2 b with
    | true => exact ⟨fun _ => by rw [win_second hB hp h2]; rfl, fun h => by simp at h, by simp⟩
    | false => exact ⟨fun h => by simp at h, fun _ => ⟨rfl, rfl⟩, by simp⟩

theorem fr_put' {R C f a b t k : Nat} (hs : Stands R C f a b t) (hk : f.testBit k = true) : frN (R * C) (putA t k a) (putB t k b) + 1 ≤ frN (R * C) a b := by
  obtain ⟨k1, k2⟩ := (hs.2.2.1 k).1 hk; exact fr_put k1 k2

variable (g : Nat → PV) (lf n : Nat)

def WinOk (R C s m : Nat) (b : Nat) : Prop := ∀ (f a b' t N : Nat) (h : PHeap), frN (R * C) a b' ≤ b → Stands R C f a b' t → 2 * b + 8 ≤ N → Sch R C h s m → Tab64 g h →
  W (CL g lf N fn_impl_search_winner [.ptr s 0, stP f a b' t] h) fun v h' => v = .int .i64 (winN R C a b' t : Int) ∧ Sch R C h' s m ∧ KB m h h'

theorem solved_W {R C s m B : Nat} (hB : BoardOf R C) (hbig : Big g) (hlf : 1000 < lf) (ih : ∀ b, b < B → WinOk g lf R C s m b) {f a b t : Nat} (hfr : frN (R * C) a b ≤ B) (hst : Stands R C f a b t) (N : Nat) (hN : 2 * B + 7 ≤ N) {h : PHeap} (hs : Sch R C h s m) (ht : Tab64 g h) :
    W (CL g lf N fn_impl_search_solved [.ptr s 0, stP f a b t] h) fun v h' => v = .int .i64 (winN R C a b t : Int) ∧ Sch R C h' s m ∧ KB m h h' := by
  obtain ⟨n, rfl⟩ : ∃ n, N = n + 1 := ⟨N - 1, by omega⟩
  obtain ⟨hp, hf9, hfree, hT⟩ := id hst
  have h9 := hB.2.2.2.2
  have l9 := hp.lt9 hB
  obtain ⟨w1, w2, w3⟩ := who_win (t := t) hB hp
  rw [impl_search_solved.call_eq]
  unfold impl_search_solved.main
  simp only [env_C, env_lf, env_box, env_load, env_bin, env_fieldAddr, env_indexAddr]
  refine wboxS fun h1 id o1 k1 l1 => ?_
  have hs1 := hs.keep k1
  have ht1 := ht.keep k1
  obtain ⟨h2, e1, k2⟩ := joined_W g lf (f := f) (t := t) hB hp hbig hs1.1 ht1 n (by omega) hlf
  have hs2 := hs1.keep k2
  have ht2 := ht1.keep k2
  have o2 := o1.keep k2
  repeat (first | with_reducible refine wbd (by assumption) ?_ | (with_reducible refine wbd (ldS (by assumption)) ?_) | dsimp only)
  refine wneq (fun e => ?_) (fun e => ?_)
  · repeat (first | with_reducible refine wT ?_ | with_reducible refine wrI ?_)
    exact W.ret ⟨by rw [w1 (by omega)], hs2, k1.kb.trans k2.kb⟩
  · obtain ⟨j1, j2⟩ := w2 (by omega)
    have hwo := win_open (t := t) j1 j2
    have e3 : ∀ h, CL g lf n fn_impl_exchanged [.int .i64 (t : Int)] h = some (.int .i64 ((3 - t : Nat) : Int), h) := fun h => exchanged_W g lf n (by omega) h hT
    repeat (first | with_reducible refine wF ?_ | (with_reducible refine wbd (fSt0 _) ?_) | (with_reducible refine wia30 ?_) | (with_reducible refine wbd (ld1 (by assumption) rfl) ?_))
    refine loopW (fun m' st => ∃ (r : Nat) (h3 : PHeap), st = impl_search_solved.st0 (.ptr s 0) (.ptr id 0) (.int .i64 (r : Int)) h3 ∧ r < 2 ^ 9 ∧ (∀ k, r.testBit k = true → f.testBit k = true) ∧ (∀ k, f.testBit k = true → r.testBit k = false → winN R C (putA t k a) (putB t k b) (3 - t) ≠ t) ∧
      At h3 id (stC f a b t) ∧ Sch R C h3 s m ∧ Tab64 g h3 ∧ KB m h2 h3 ∧ m' = r) ?_ lf f _ (by omega) ⟨f, h2, rfl, hf9, fun _ h => h, fun k h1 h2 => (by rw [h1] at h2; cases h2), o2, hs2, ht2, KB.refl _ _, rfl⟩
    rintro n1 m1 st ⟨r, h3, rfl, hr, hrf, hno, o3, hs3, ht3, k3, hm⟩ next
    rw [impl_search_solved.body0_eq]
    unfold impl_search_solved.body0
    simp only [env_C, env_load, env_bin, env_fieldAddr]
    by_cases e4 : r = 0
    · subst e4
      have e3' := e3 h3
      repeat (first | with_reducible refine wF ?_ | with_reducible refine wrI ?_ | with_reducible refine wbd (by assumption) ?_ | (with_reducible refine wbd (fSt1 _) ?_) | (with_reducible refine wbd (ld1 (by assumption) rfl) ?_) | with_reducible refine wneqF (by omega) ?_ | rw [kLoop_exit] | rw [impl_search_solved.after0_se0_0_3_6_17] | dsimp only | simp only [env_C, env_Y, env_g, env_lf, env_pick, env_alloc, env_box, env_build, env_buildSlice, env_load, env_store, env_ptr, env_bin, env_un, env_conv, env_make, env_slice, env_fieldAddr, env_field, env_indexAddr, env_index, env_extract, env_len, env_append, env_max, env_min, env_makeMap, env_lookup, env_update, env_clos, env_bstr, env_ext])
      refine W.ret ⟨?_, hs3, (k1.kb.trans k2.kb).trans k3⟩
      have hmv : moveB R C a b t = false := by
        cases hh : moveB R C a b t with
        | false => rfl
        | true =>
          obtain ⟨k, c1, c2, c3⟩ := moveB_iff.1 hh
          exact absurd c3 (hno k ((hfree k).2 ⟨c1, c2⟩) (Nat.zero_testBit _))
      rw [hwo, hmv]; rfl
    · have el := leastIn_W g lf hr e4 hbig ht3 n (by omega)
      obtain ⟨c1, c2, c3, c4⟩ := low_ok hr e4
      obtain ⟨d1, d2⟩ := f_drop hr e4
      have hlt := without_less hr e4
      have hwl := without_lt9 (k := lowN r) hr
      obtain ⟨k, hk⟩ : ∃ k, k = lowN r := ⟨_, rfl⟩
      rw [← hk] at el c1 c2 d2 hlt hwl
      have hkf := hrf k c1
      have hfr' := fr_put' hst hkf
      have hst' := hst.put hkf
      repeat (first | with_reducible refine wT ?_ | with_reducible refine wck plain_int ?_ | with_reducible refine wbd (by assumption) ?_ | (with_reducible refine wbd (fSt1 _) ?_) | (with_reducible refine wbd (ld1 (by assumption) rfl) ?_) | (with_reducible refine wbd (ldS (by assumption)) ?_) | (with_reducible refine wck plainS ?_) | with_reducible refine wneqT (by omega) ?_ | dsimp only)
      refine wcall (after_W g lf hf9 l9.1 l9.2 c2 hT n (by omega) h3) fun v h4 ⟨hv, k4⟩ => ?_
      subst hv
      have o4 := o3.keep k4
      have hs4 := hs3.keep k4
      have ht4 := ht3.keep k4
      repeat (first | with_reducible refine wck plain_int ?_ | (with_reducible refine wbd (ld1 (by assumption) rfl) ?_) | (with_reducible refine wbd (ldS (by assumption)) ?_) | (with_reducible refine wck plainS ?_) | dsimp only)
      refine wcall (ih (B - 1) (by omega) _ _ _ _ n h4 (by omega) hst' (by omega) hs4 ht4) fun v h5 ⟨hv, hs5, k5⟩ => ?_
      subst hv
      have o5 := o4.kb k5 (hs4.ne o4)
      have ht5 := ht4.kb hs4 k5
      repeat (first | with_reducible refine wck plain_int ?_ | (with_reducible refine wbd (ld1 (by assumption) rfl) ?_) | (with_reducible refine wbd (ldS (by assumption)) ?_) | (with_reducible refine wck plainS ?_) | dsimp only)
      refine weql (fun e5 => ?_) (fun e5 => ?_)
      · repeat (first | with_reducible refine wT ?_ | with_reducible refine wrI ?_ | (with_reducible refine wbd (fSt1 _) ?_) | (with_reducible refine wbd (ld1 (by assumption) rfl) ?_) | rw [kLoop_ret] | rw [impl_search_solved.K0_ret] | rw [impl_search_solved.top_sr_4])
        refine W.ret ⟨?_, hs5, ((k1.kb.trans k2.kb).trans k3).trans (k4.kb.trans k5)⟩
        obtain ⟨q1, q2⟩ := (hfree k).1 hkf
        have hmv : moveB R C a b t = true := moveB_iff.2 ⟨k, q1, q2, by omega⟩
        rw [hwo, hmv]; rfl
      · repeat (first | with_reducible refine wF ?_ | with_reducible refine wbd (by assumption) ?_)
        refine next _ _ (hm ▸ hlt) ⟨_, h5, rfl, hwl, fun j hj => ?_, fun j hj1 hj2 => ?_, o5, hs5, ht5, k3.trans (k4.kb.trans k5), rfl⟩
        · rw [without_bit, Bool.and_eq_true] at hj; exact hrf j hj.1
        · by_cases hjk : j = k
          · subst hjk; omega
          · rw [without_bit] at hj2
            simp only [ne_eq, hjk, not_false_eq_true, decide_true, Bool.and_true] at hj2
            exact hno j hj1 hj2

theorem sWinner_W {R C s m : Nat} (hB : BoardOf R C) (hbig : Big g) (hlf : 1000 < lf) (B : Nat) : WinOk g lf R C s m B := by
  induction B using Nat.strongRecOn with
  | _ B ih =>
  intro f a b t N h hfr hst hN hs ht
  obtain ⟨n, rfl⟩ : ∃ n, N = n + 1 := ⟨N - 1, by omega⟩
  rw [impl_search_winner.call_eq]
  unfold impl_search_winner.main
  simp only [env_C, env_box, env_load, env_ptr, env_un, env_fieldAddr, env_extract, env_lookup, env_update]
  refine wboxS fun h1 id o1 k1 l1 => ?_
  have hs1 := hs.keep k1
  have ht1 := ht.keep k1
  obtain ⟨sa, es, ma, mm⟩ := _root_.id hs1
  have hlook := look_st hB ma mm hst
  repeat (first | with_reducible refine wptr ?_ | with_reducible refine wbd (by assumption) ?_ | (with_reducible refine wbd (fs3 _) ?_) | (with_reducible refine wbd (ldS (by assumption)) ?_) | (with_reducible refine wbd (ldM (by assumption) (srch_map _ _ _)) ?_) | dsimp only)
  cases hfd : findM es (stP f a b t) with
  | some v =>
    have hv := memo_find mm hfd
    subst hv
    refine wx0 ?_
    refine wx1 ?_
    repeat (first | with_reducible refine wF ?_ | with_reducible refine wnT ?_ | with_reducible refine wrI ?_)
    exact W.ret ⟨rfl, hs1, k1.kb⟩
  | none =>
    refine wx0 ?_
    refine wx1 ?_
    repeat (first | with_reducible refine wT ?_ | with_reducible refine wnF ?_ | (with_reducible refine wbd (ldS (by assumption)) ?_))
    refine wcall (solved_W g lf hB hbig hlf ih hfr hst n (by omega) hs1 ht1) fun v h2 ⟨hv, hs2, k2⟩ => ?_
    subst hv
    have o2 := o1.kb k2 (hs1.ne o1)
    obtain ⟨sa2, es2, ma2, mm2⟩ := _root_.id hs2
    repeat (first | with_reducible refine wptr ?_ | (with_reducible refine wbd (fs3 _) ?_) | (with_reducible refine wbd (ldS (by assumption)) ?_) | (with_reducible refine wbd (ldM (by assumption) (srch_map _ _ _)) ?_) | dsimp only)
    refine wbd (upd_st hB ma2 mm2 hst _) ?_
    have ma3 : MapAt (h2.set m (.mp (putM es2 (stP f a b t) (.int .i64 (winN R C a b t : Int))))) m (putM es2 (stP f a b t) (.int .i64 (winN R C a b t : Int))) := by
      unfold MapAt; rw [List.getElem?_set_self ma2.lt]
    have k3 : KB m h2 (h2.set m (.mp (putM es2 (stP f a b t) (.int .i64 (winN R C a b t : Int))))) := ⟨by simp, fun i _ hn => List.getElem?_set_ne (by omega)⟩
    generalize h2.set m (.mp (putM es2 (stP f a b t) (.int .i64 (winN R C a b t : Int)))) = h3 at ma3 k3 ⊢
    have sa3 := sa2.kb k3 (sa2.ne ma2)
    repeat (first | with_reducible refine wrI ?_)
    exact W.ret ⟨rfl, ⟨sa3, _, ma3, memo_put hst mm2⟩, (k1.kb.trans k2).trans k3⟩

end Go.Proofs.YtpaehbfknlpkbaeDoor

/- The program's search: made for a board, begun at a position; the moves by which one wins. -/
set_option maxRecDepth 20000
namespace Go.Proofs.YtpaehbfknlpkbaeDoor
open Go Go.Ip G

variable (g : Nat → PV) (lf n : Nat)

theorem sWinning_W {R C s m : Nat} (hB : BoardOf R C) (hbig : Big g) (hlf : 1000 < lf) {f a b t : Nat} (hst : Stands R C f a b t) (N : Nat) (hN : 30 ≤ N) {h : PHeap} (hs : Sch R C h s m) (ht : Tab64 g h) :
    W (CL g lf N fn_impl_search_winning [.ptr s 0, stP f a b t] h) fun v h' => ∃ S : Nat, v = .int .i64 (S : Int) ∧ S < 2 ^ 9 ∧ (∀ k, S.testBit k = true ↔ whoN R C a b = 0 ∧ f.testBit k = true ∧ winN R C (putA t k a) (putB t k b) (3 - t) = t) ∧ Sch R C h' s m ∧ KB m h h' := by
  obtain ⟨n, rfl⟩ : ∃ n, N = n + 1 := ⟨N - 1, by omega⟩
  obtain ⟨hp, hf9, hfree, hT⟩ := id hst
  have h9 := hB.2.2.2.2
  have l9 := hp.lt9 hB
  obtain ⟨w1, w2, w3⟩ := who_win (t := t) hB hp
  rw [impl_search_winning.call_eq]
  unfold impl_search_winning.main
  simp only [env_C, env_lf, env_box, env_load, env_bin, env_fieldAddr, env_indexAddr]
  refine wboxS fun h1 id o1 k1 l1 => ?_
  have hs1 := hs.keep k1
  have ht1 := ht.keep k1
  obtain ⟨h2, e1, k2⟩ := joined_W g lf (f := f) (t := t) hB hp hbig hs1.1 ht1 n (by omega) hlf
  have hs2 := hs1.keep k2
  have ht2 := ht1.keep k2
  have o2 := o1.keep k2
  repeat (first | with_reducible refine wbd (by assumption) ?_ | (with_reducible refine wbd (ldS (by assumption)) ?_) | dsimp only)
  refine wneq (fun e => ?_) (fun e => ?_)
  · repeat (first | with_reducible refine wT ?_ | with_reducible refine wrI ?_)
    exact W.ret ⟨0, rfl, by decide, fun k => ⟨fun hh => (by rw [Nat.zero_testBit] at hh; cases hh), fun hh => absurd hh.1 (by omega)⟩, hs2, k1.kb.trans k2.kb⟩
  · have hw0 : whoN R C a b = 0 := by omega
    repeat (first | with_reducible refine wF ?_ | (with_reducible refine wbd (fSt0 _) ?_) | (with_reducible refine wia30 ?_) | (with_reducible refine wbd (ld1 (by assumption) rfl) ?_))
    refine loopW (fun m' st => ∃ (S r : Nat) (h3 : PHeap), st = impl_search_winning.st0 (.ptr s 0) (.ptr id 0) (.int .i64 (S : Int)) (.int .i64 (r : Int)) h3 ∧ r < 2 ^ 9 ∧ S < 2 ^ 9 ∧ (∀ k, r.testBit k = true → f.testBit k = true) ∧ (∀ k, S.testBit k = true ↔ f.testBit k = true ∧ r.testBit k = false ∧ winN R C (putA t k a) (putB t k b) (3 - t) = t) ∧
      At h3 id (stC f a b t) ∧ Sch R C h3 s m ∧ Tab64 g h3 ∧ KB m h2 h3 ∧ m' = r) ?_ lf f _ (by omega) ⟨0, f, h2, rfl, hf9, by decide, fun _ h => h, fun k => ⟨fun hh => (by rw [Nat.zero_testBit] at hh; cases hh), fun ⟨h1, h2, _⟩ => (by rw [h1] at h2; cases h2)⟩, o2, hs2, ht2, KB.refl _ _, rfl⟩
    rintro n1 m1 st ⟨S, r, h3, rfl, hr, hS, hrf, hSb, o3, hs3, ht3, k3, hm⟩ next
    rw [impl_search_winning.body0_eq]
    unfold impl_search_winning.body0
    simp only [env_C, env_load, env_bin, env_fieldAddr]
    by_cases e4 : r = 0
    · subst e4
      repeat (first | with_reducible refine wF ?_ | with_reducible refine wrI ?_ | with_reducible refine wneqF (by omega) ?_ | rw [kLoop_exit] | rw [impl_search_winning.after0_se0_0_3_5_6_16])
      refine W.ret ⟨S, rfl, hS, fun k => ?_, hs3, (k1.kb.trans k2.kb).trans k3⟩
      rw [hSb]
      exact ⟨fun ⟨c1, _, c3⟩ => ⟨hw0, c1, c3⟩, fun ⟨_, c1, c3⟩ => ⟨c1, Nat.zero_testBit _, c3⟩⟩
    · have el := leastIn_W g lf hr e4 hbig ht3 n (by omega)
      obtain ⟨c1, c2, c3, c4⟩ := low_ok hr e4
      obtain ⟨d1, d2⟩ := f_drop hr e4
      have hlt := without_less hr e4
      have hwl := without_lt9 (k := lowN r) hr
      obtain ⟨k, hk⟩ : ∃ k, k = lowN r := ⟨_, rfl⟩
      rw [← hk] at el c1 c2 d2 hlt hwl
      have hkf := hrf k c1
      have hst' := hst.put hkf
      have hsl := shl_lt c2
      repeat (first | with_reducible refine wT ?_ | with_reducible refine wbd (by assumption) ?_ | (with_reducible refine wbd (fSt1 _) ?_) | (with_reducible refine wbd (ld1 (by assumption) rfl) ?_) | (with_reducible refine wbd (ldS (by assumption)) ?_) | with_reducible refine wneqT (by omega) ?_ | dsimp only)
      refine wcall (after_W g lf hf9 l9.1 l9.2 c2 hT n (by omega) h3) fun v h4 ⟨hv, k4⟩ => ?_
      subst hv
      have o4 := o3.keep k4
      have hs4 := hs3.keep k4
      have ht4 := ht3.keep k4
      repeat (first | with_reducible refine wck plain_int ?_ | (with_reducible refine wbd (ld1 (by assumption) rfl) ?_) | (with_reducible refine wbd (ldS (by assumption)) ?_) | (with_reducible refine wck plainS ?_) | dsimp only)
      refine wcall (sWinner_W g lf hB hbig hlf 9 _ _ _ _ n h4 (Nat.le_trans (fr_le _ _ _) h9) hst' (by omega) hs4 ht4) fun v h5 ⟨hv, hs5, k5⟩ => ?_
      subst hv
      have o5 := o4.kb k5 (hs4.ne o4)
      have ht5 := ht4.kb hs4 k5
      have hrw : ∀ j, (without r k).testBit j = true → f.testBit j = true := fun j hj => by
        rw [without_bit, Bool.and_eq_true] at hj; exact hrf j hj.1
      repeat (first | with_reducible refine wck plain_int ?_ | (with_reducible refine wbd (ld1 (by assumption) rfl) ?_) | (with_reducible refine wbd (ldS (by assumption)) ?_) | (with_reducible refine wck plainS ?_) | dsimp only)
      refine weql (fun e5 => ?_) (fun e5 => ?_)
      · repeat (first | with_reducible refine wT ?_ | with_reducible refine wbd (by assumption) ?_ | with_reducible refine wshl (by omega) ?_ | with_reducible refine wor (by omega) (by omega) ?_)
        refine next _ _ (hm ▸ hlt) ⟨_, _, h5, rfl, hwl, Nat.or_lt_two_pow hS hsl, hrw, fun j => ?_, o5, hs5, ht5, k3.trans (k4.kb.trans k5), rfl⟩
        rw [with_bit, Bool.or_eq_true, hSb, without_bit, decide_eq_true_iff]
        by_cases hjk : j = k
        · subst hjk
          exact ⟨fun _ => ⟨hkf, by simp, by omega⟩, fun _ => .inr rfl⟩
        · simp only [ne_eq, hjk, not_false_eq_true, decide_true, Bool.and_true, or_false]
      · repeat (first | with_reducible refine wF ?_ | with_reducible refine wbd (by assumption) ?_)
        refine next _ _ (hm ▸ hlt) ⟨_, _, h5, rfl, hwl, hS, hrw, fun j => ?_, o5, hs5, ht5, k3.trans (k4.kb.trans k5), rfl⟩
        rw [hSb, without_bit]
        by_cases hjk : j = k
        · subst hjk
          exact ⟨fun hh => (by rw [c1] at hh; cases hh.2.1), fun hh => absurd hh.2.2 (by omega)⟩
        · simp only [ne_eq, hjk, not_false_eq_true, decide_true, Bool.and_true]

/-! ### a search is made -/
def slotV (R C i p j : Nat) : Nat :=
  if j < 9 then (if j < i then nearV R C j else 0) else if j = 10 ∧ 2 ≤ p then sideN R C 1 false else if j = 11 ∧ 3 ≤ p then sideN R C 2 false else if j = 13 ∧ 2 ≤ p then sideN R C 1 true else if j = 14 ∧ 3 ≤ p then sideN R C 2 true else 0
def fillC (R C m i p : Nat) : List PV := ((List.range 15).map (slotV R C i p)).map (fun x : Nat => .int .i64 (x : Int)) ++ [.mapv m]
theorem fillC_length (R C m i p : Nat) : (fillC R C m i p).length = 16 := by simp [fillC]
theorem fill_done (R C m : Nat) : fillC R C m (R * C) 3 = srchC R C m := by
  have hn : ∀ j ∈ List.range 9, slotV R C (R * C) 3 j = nearV R C j := fun j hj => by
    have hj := List.mem_range.1 hj
    unfold slotV nearV
    rw [if_pos hj]
    by_cases h : j < R * C <;> simp [h]
  unfold fillC srchC srchV
  rw [show List.range 15 = List.range 9 ++ [9, 10, 11, 12, 13, 14] from rfl, List.map_append, List.map_congr_left hn]
  rfl
theorem fill_near {R C m i p : Nat} (hi : i < 9) : (fillC R C m i p).set (0 + i) (.int .i64 (nearV R C i : Int)) = fillC R C m (i + 1) p := by
  unfold fillC
  rw [Nat.zero_add, List.set_append_left _ _ (by simp; omega), ← List.map_set]
  congr 2
  apply List.ext_getElem (by simp)
  intro j h1 h2
  simp only [List.getElem_set, List.getElem_map, List.getElem_range]
  unfold slotV
  by_cases e : i = j
  · subst e; rw [if_pos rfl, if_pos hi, if_pos (by omega)]
  · rw [if_neg e]
    by_cases h9 : j < 9
    · rw [if_pos h9, if_pos h9]
      by_cases h : j < i
      · rw [if_pos h, if_pos (by omega)]
      · rw [if_neg h, if_neg (by omega)]
    · rw [if_neg h9, if_neg h9]
theorem fill_one (R C m i : Nat) : ((fillC R C m i 1).set (9 + 1) (.int .i64 (sideN R C 1 false : Int))).set (12 + 1) (.int .i64 (sideN R C 1 true : Int)) = fillC R C m i 2 := by rfl
theorem fill_two (R C m i : Nat) : ((fillC R C m i 2).set (9 + 2) (.int .i64 (sideN R C 2 false : Int))).set (12 + 2) (.int .i64 (sideN R C 2 true : Int)) = fillC R C m i 3 := by rfl
theorem bldS (m : Nat) : buildP Tryd.prog 49 [(3, .mapv m)] = some (.agg (fillC 1 1 m 0 1)) := by kernel_rfl
theorem fill_zero (R C m : Nat) : fillC 1 1 m 0 1 = fillC R C m 0 1 := by
  unfold fillC
  congr 2

theorem wmkM {Q : PV → PHeap → Prop} {h : PHeap} {F : PV × PHeap → Res} (hf : ∀ h' m, MapAt h' m [] → Keep h.length h h' → h.length ≤ m → W (F (.mapv m, h')) Q) : W ((makeMapP none h).bind F) Q :=
  hf _ _ (by unfold MapAt; simp) (Keep.append _ _ _ (Nat.le_refl _)) (Nat.le_refl _)

theorem newSearch_W {R C : Nat} (hB : BoardOf R C) (N : Nat) (hN : 7 ≤ N) (hlf : 1000 < lf) {h : PHeap} (ht : Tab g h) :
    W (CL g lf N fn_impl_newSearch [.int .i64 (R : Int), .int .i64 (C : Int)] h) fun v h' => ∃ s m, v = .ptr s 0 ∧ Sch R C h' s m ∧ Keep h.length h h' ∧ h.length ≤ s ∧ h.length ≤ m := by
  obtain ⟨n, rfl⟩ : ∃ n, N = n + 1 := ⟨N - 1, by omega⟩
  obtain ⟨b1, b2, b3, b4, h9⟩ := id hB
  rw [impl_newSearch.call_eq]
  unfold impl_newSearch.main
  simp only [env_lf, env_box, env_build, env_bin, env_makeMap]
  refine wmkM fun h1 m ma k1 lm => ?_
  refine wbd (bldS m) ?_
  refine wnew (l := fillC 1 1 m 0 1) (by rfl) fun h2 s o2 k2 ls => ?_
  dsimp only at k2 ls ⊢
  rw [fill_zero R C] at o2
  have ma2 := ma.keep k2
  have kk := k1.trans (k2.mono k1.1)
  have lss : h.length ≤ s := Nat.le_trans k1.1 ls
  have hRC : R * C < 4611686018427387904 := by omega
  repeat (first | with_reducible refine wmulN (by omega) ?_)
  refine loopW (fun m' st => ∃ (i : Nat) (h3 : PHeap), st = impl_newSearch.st0 (.int .i64 (R : Int)) (.int .i64 (C : Int)) (.ptr s 0) (.int .i64 ((R * C : Nat) : Int)) (.int .i64 (i : Int)) h3 ∧ i + m' = R * C ∧ At h3 s (fillC R C m i 1) ∧ MapAt h3 m [] ∧ Keep h.length h h3) ?_ lf (R * C) _ (by omega) ⟨0, h2, rfl, by omega, o2, ma2, kk⟩
  rintro n1 m1 st ⟨i, h3, rfl, him, o3, ma3, k3⟩ next
  rw [impl_newSearch.body0_eq]
  unfold impl_newSearch.body0
  simp only [env_C, env_store, env_ptr, env_bin, env_fieldAddr, env_indexAddr]
  cases m1 with
  | succ m1 =>
    have hi : i < 9 := by omega
    have hsl := shl_lt hi
    have hnv : wideN R C (1 <<< i) = nearV R C i := by unfold nearV; rw [if_pos (by omega)]
    obtain ⟨h4, e4, k4⟩ := withNear_calls g lf b1 b2 b3 b4 h9 hsl n (by omega) (by omega) (ht.keep k3)
    have o4 := o3.keep k4
    rw [hnv] at e4
    repeat (first | with_reducible refine wT ?_ | with_reducible refine wptr ?_ | with_reducible refine wbd (by assumption) ?_ | (with_reducible refine wbd (fs0 _) ?_) | (with_reducible refine wia9 hi ?_) | with_reducible refine wshl (by omega) ?_ | with_reducible refine wlssT (by omega) ?_ | dsimp only)
    refine wst1 o4 (by rw [fillC_length]; omega) fun h5 o5 k5 => ?_
    rw [fill_near hi] at o5
    have ma5 := (ma3.keep k4).kb k5 (o4.ne (ma3.keep k4)).symm
    repeat (first | with_reducible refine wadd1 (by omega) ?_)
    exact next _ _ (Nat.lt_succ_self m1) ⟨i + 1, h5, rfl, by omega, o5, ma5, (k3.trans (k4.mono k3.1)).kbs (Nat.le_refl _) k5 lss⟩
  | zero =>
    have hiR : i = R * C := by omega
    subst hiR
    repeat (first | with_reducible refine wF ?_ | with_reducible refine wlssF (by omega) ?_ | rw [kLoop_exit] | rw [impl_newSearch.after0_se0_0_1_5_13_14_15] | simp only [env_C, env_Y, env_g, env_lf, env_pick, env_alloc, env_box, env_build, env_buildSlice, env_load, env_store, env_ptr, env_bin, env_un, env_conv, env_make, env_slice, env_fieldAddr, env_field, env_indexAddr, env_index, env_extract, env_len, env_append, env_max, env_min, env_makeMap, env_lookup, env_update, env_clos, env_bstr, env_ext])
    refine loopW (fun m' st => ∃ (P : Nat) (h4 : PHeap), st = impl_newSearch.st1 (.int .i64 (R : Int)) (.int .i64 (C : Int)) (.ptr s 0) (.int .i64 (P : Int)) h4 ∧ P + m' = 3 ∧ 1 ≤ P ∧ At h4 s (fillC R C m (R * C) P) ∧ MapAt h4 m [] ∧ Keep h.length h h4) ?_ lf 2 _ (by omega) ⟨1, h3, rfl, rfl, by decide, o3, ma3, k3⟩
    rintro n2 m2 st ⟨P, h4, rfl, hPm, hP1, o4, ma4, k4⟩ next2
    have hP : P = 1 ∨ P = 2 ∨ P = 3 := by omega
    have e1 := fun h => sidesOf_W g lf hB (P := 1) (.inl rfl) n (by omega) hlf h
    have e2 := fun h => sidesOf_W g lf hB (P := 2) (.inr rfl) n (by omega) hlf h
    rw [impl_newSearch.body1_eq]
    unfold impl_newSearch.body1
    simp only [env_C, env_store, env_ptr, env_bin, env_fieldAddr, env_indexAddr, env_extract]
    rcases hP with rfl | rfl | rfl
    · have e1' := e1 h4
      repeat (first | with_reducible refine wT ?_ | with_reducible refine wx0 ?_ | with_reducible refine wx1 ?_ | with_reducible refine wptr ?_ | with_reducible refine wbd (by assumption) ?_ | (with_reducible refine wbd (fs1 _) ?_) | (with_reducible refine wbd (fs2 _) ?_) | (with_reducible refine wia3 (by omega) ?_) | with_reducible refine wleqT (by omega) ?_ | dsimp only)
      refine wst1 o4 (by rw [fillC_length]; decide) fun h5 o5 k5 => ?_
      repeat (first | (with_reducible refine wia3 (by omega) ?_))
      refine wst1 o5 (by rw [List.length_set, fillC_length]; decide) fun h6 o6 k6 => ?_
      rw [fill_one] at o6
      repeat (first | with_reducible refine wadd1 (by omega) ?_)
      exact next2 _ _ (show 1 < m2 by omega) ⟨2, h6, rfl, rfl, by decide, o6, (ma4.kb k5 (o4.ne ma4).symm).kb k6 (o4.ne ma4).symm, (k4.kbs (Nat.le_refl _) k5 lss).kbs (Nat.le_refl _) k6 lss⟩
    · have e2' := e2 h4
      repeat (first | with_reducible refine wT ?_ | with_reducible refine wx0 ?_ | with_reducible refine wx1 ?_ | with_reducible refine wptr ?_ | with_reducible refine wbd (by assumption) ?_ | (with_reducible refine wbd (fs1 _) ?_) | (with_reducible refine wbd (fs2 _) ?_) | (with_reducible refine wia3 (by omega) ?_) | with_reducible refine wleqT (by omega) ?_ | dsimp only)
      refine wst1 o4 (by rw [fillC_length]; decide) fun h5 o5 k5 => ?_
      repeat (first | (with_reducible refine wia3 (by omega) ?_))
      refine wst1 o5 (by rw [List.length_set, fillC_length]; decide) fun h6 o6 k6 => ?_
      rw [fill_two] at o6
      repeat (first | with_reducible refine wadd1 (by omega) ?_)
      exact next2 _ _ (show 0 < m2 by omega) ⟨3, h6, rfl, rfl, by decide, o6, (ma4.kb k5 (o4.ne ma4).symm).kb k6 (o4.ne ma4).symm, (k4.kbs (Nat.le_refl _) k5 lss).kbs (Nat.le_refl _) k6 lss⟩
    · repeat (first | with_reducible refine wF ?_ | with_reducible refine wrP ?_ | with_reducible refine wleqF (by omega) ?_ | rw [kLoop_exit] | rw [impl_newSearch.after1_se2_0_1_5_7_29])
      rw [fill_done] at o4
      exact W.ret ⟨s, m, rfl, ⟨o4, [], ma4, fun p hp => by cases hp⟩, k4, lss, Nat.le_trans (Nat.le_refl _) lm⟩

/-! ### where it begins -/
theorem bldSt (t : Nat) : buildP Tryd.prog 38 [(1, .int .i64 (t : Int))] = some (stP 0 0 0 t) := by kernel_rfl
theorem standingOf_W {xs : List Int} {p : PV} {h : PHeap} (hp : IntSl .i64 h p xs) (hl : xs.length ≤ 20) (t : Nat) (N : Nat) (hN : 2 ≤ N) (hlf : 1000 < lf) :
    W (CL g lf N fn_impl_standingOf [p, .int .i64 (t : Int)] h) fun v h' => v = stP (setL xs 0) (setL xs 1) (setL xs 2) t ∧ Keep h.length h h' := by
  obtain ⟨n, rfl⟩ : ∃ n, N = n + 1 := ⟨N - 1, by omega⟩
  rw [impl_standingOf.call_eq]
  unfold impl_standingOf.main
  simp only [env_lf, env_alloc, env_build, env_store]
  refine walS fun h1 id1 o1 k1 l1 => ?_
  refine wbd (bldSt t) ?_
  dsimp only
  refine walS fun h2 id2 o2 k2 l2 => ?_
  dsimp only
  have o1' := o1.keep k2
  have hne : id1 ≠ id2 := by have := o1.lt; omega
  refine wstS o2 fun h3 o3 k3 => ?_
  have o13 := o1'.kb k3 hne
  have kk : Keep h.length h h3 := (k1.trans (k2.mono k1.1)).kbs (Nat.le_refl _) k3 (Nat.le_trans k1.1 l2)
  have ll2 : h.length ≤ id2 := Nat.le_trans k1.1 l2
  refine loopW (fun m' st => ∃ (P u v w : Nat) (h4 : PHeap), st = impl_standingOf.st0 p (.ptr id1 0) (.ptr id2 0) (.int .i64 (P : Int)) h4 ∧ P + m' = 3 ∧ At h4 id2 (stC u v w t) ∧ At h4 id1 (stC 0 0 0 0) ∧ Keep h.length h h4 ∧ (1 ≤ P → u = setL xs 0) ∧ (2 ≤ P → v = setL xs 1) ∧ (3 ≤ P → w = setL xs 2)) ?_ lf 3 _ (by omega) ⟨0, 0, 0, 0, h3, rfl, rfl, o3, o13, kk, by omega, by omega, by omega⟩
  rintro n1 m1 st ⟨P, u, v, w, h4, rfl, hPm, o4, o14, k4, hu, hv, hw⟩ next
  have hP : P = 0 ∨ P = 1 ∨ P = 2 ∨ P = 3 := by omega
  have hp4 := hp.keep k4
  have e0 := setOf_W g lf ((0 : Nat) : Int) hp4 hl n (by omega) hlf
  have e1 := setOf_W g lf ((1 : Nat) : Int) hp4 hl n (by omega) hlf
  have e2 := setOf_W g lf ((2 : Nat) : Int) hp4 hl n (by omega) hlf
  rw [impl_standingOf.body0_eq]
  unfold impl_standingOf.body0
  simp only [env_C, env_store, env_bin, env_fieldAddr, env_indexAddr]
  rcases hP with rfl | rfl | rfl | rfl
  · repeat (first | with_reducible refine wT ?_ | with_reducible refine wbd (by assumption) ?_ | (with_reducible refine wbd (fSt0 _) ?_) | (with_reducible refine wia3 (by omega) ?_) | with_reducible refine wlssT (by omega) ?_ | dsimp only)
    refine wst1 o4 (show 0 + 0 < 4 by decide) fun h5 o5 k5 => ?_
    repeat (first | with_reducible refine wadd1 (by omega) ?_)
    exact next _ _ (show 2 < m1 by omega) ⟨1, setL xs 0, v, w, h5, rfl, rfl, o5, o14.kb k5 hne, k4.kbs (Nat.le_refl _) k5 ll2, fun _ => rfl, by omega, by omega⟩
  · repeat (first | with_reducible refine wT ?_ | with_reducible refine wbd (by assumption) ?_ | (with_reducible refine wbd (fSt0 _) ?_) | (with_reducible refine wia3 (by omega) ?_) | with_reducible refine wlssT (by omega) ?_ | dsimp only)
    refine wst1 o4 (show 0 + 1 < 4 by decide) fun h5 o5 k5 => ?_
    repeat (first | with_reducible refine wadd1 (by omega) ?_)
    exact next _ _ (show 1 < m1 by omega) ⟨2, u, setL xs 1, w, h5, rfl, rfl, o5, o14.kb k5 hne, k4.kbs (Nat.le_refl _) k5 ll2, fun _ => hu (by decide), fun _ => rfl, by omega⟩
  · repeat (first | with_reducible refine wT ?_ | with_reducible refine wbd (by assumption) ?_ | (with_reducible refine wbd (fSt0 _) ?_) | (with_reducible refine wia3 (by omega) ?_) | with_reducible refine wlssT (by omega) ?_ | dsimp only)
    refine wst1 o4 (show 0 + 2 < 4 by decide) fun h5 o5 k5 => ?_
    repeat (first | with_reducible refine wadd1 (by omega) ?_)
    exact next _ _ (show 0 < m1 by omega) ⟨3, u, v, setL xs 2, h5, rfl, rfl, o5, o14.kb k5 hne, k4.kbs (Nat.le_refl _) k5 ll2, fun _ => hu (by decide), fun _ => hv (by decide), fun _ => rfl⟩
  · repeat (first | with_reducible refine wF ?_ | (with_reducible refine wbd (ldS (by assumption)) ?_) | with_reducible refine wlssF (by omega) ?_ | rw [kLoop_exit] | rw [impl_standingOf.after0_se0_0_4_5_9_10] | simp only [env_C, env_Y, env_g, env_lf, env_pick, env_alloc, env_box, env_build, env_buildSlice, env_load, env_store, env_ptr, env_bin, env_un, env_conv, env_make, env_slice, env_fieldAddr, env_field, env_indexAddr, env_index, env_extract, env_len, env_append, env_max, env_min, env_makeMap, env_lookup, env_update, env_clos, env_bstr, env_ext])
    refine wstS o14 fun h5 o5 k5 => ?_
    repeat (first | (with_reducible refine wbd (ldS (by assumption)) ?_))
    exact W.ret ⟨by rw [hu (by decide), hv (by decide), hw (by decide)], k4.kbs (Nat.le_refl _) k5 l1⟩

theorem stands_of {R C T : Nat} {xs : List Int} (hS : Sides (R : Int) (C : Int) R C xs) (hT : T = 1 ∨ T = 2) : Stands R C (setL xs 0) (setL xs 1) (setL xs 2) T := by
  refine ⟨pos_sets hS, set_lt9 hS 0, fun k => ?_, hT⟩
  rw [setL_bit]
  constructor
  · intro hk
    have hkl := set_in hS (setL_bit.2 hk)
    exact ⟨hkl, (free_bit hS hkl).2 hk⟩
  · rintro ⟨h1, h2⟩; exact (free_bit hS h1).1 h2

end Go.Proofs.YtpaehbfknlpkbaeDoor

