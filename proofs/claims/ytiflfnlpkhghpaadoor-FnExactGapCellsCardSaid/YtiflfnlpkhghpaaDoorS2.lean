/- The model's chapter 2: what Joins, GroupOf, GapOf, Filled and GapCells of it compute. -/
import Derived.Test.YtiflfnlpkhghpaaDoorS1
namespace Go.Proofs.YtiflfnlpkhghpaaDoor
open Go Go.Ip G

def playerB (p : Int) : Bool := decide (1 ≤ p ∧ p ≤ 2)
def joinsL (r c : Int) (xs : List Int) (p : Int) : Bool := posB r c xs && playerB p && joinsN r.toNat c.toNat p.toNat (setL xs p)
def gapOfN (R C P : Nat) (xs : List Int) : Int := gapN (masksN R C) (setL xs P) (setL xs 0) (sideN R C P false) (sideN R C P true) (R * C)
def gapL (r c : Int) (xs : List Int) (p : Int) : Int := if (posB r c xs && playerB p) = true then gapOfN r.toNat c.toNat p.toNat xs else -1
def fillL (p x : Int) : Int := if x = 0 then p else x
def filledL (r c : Int) (xs : List Int) (p : Int) : List Int := if (posB r c xs && playerB p) = true then xs.map (fillL p) else []
def listFrom (set : Nat) : Nat → Nat → List Int
  | 0, _ => []
  | m + 1, k => if set >>> k % 2 = 1 then (k : Int) :: listFrom set m (k + 1) else listFrom set m (k + 1)
def listN (set : Nat) : List Int := listFrom set 9 0
def stoneB (r c : Int) (xs : List Int) (k : Int) : Bool := posB r c xs && decide (0 ≤ k ∧ k < (xs.length : Int)) && !decide (xs.getD k.toNat 0 = 0)
def groupL (r c : Int) (xs : List Int) (k : Int) : List Int := if stoneB r c xs k = true then listN (growN (masksN r.toNat c.toNat) (setL xs (xs.getD k.toNat 0)) (1 <<< k.toNat)) else []
def gapCellsL (r c : Int) (xs : List Int) (p : Int) : List Int :=
  if 0 < gapL r c xs p then ((List.range xs.length).filter fun k => decide (xs.getD k 0 = 0) && decide (gapL r c (xs.set k p) p = gapL r c xs p - 1)).map fun k : Nat => (k : Int) else []

theorem board_of_sides {r c : Int} {R C : Nat} {xs : List Int} (h : Sides r c R C xs) : BoardOf R C := by
  obtain ⟨_, _, h1, h2, h3, h4, h9, _, _⟩ := h
  exact ⟨h1, h2, h3, h4, h9⟩
theorem player_of {p : Int} (h : playerB p = true) : ∃ P : Nat, p = (P : Int) ∧ (P = 1 ∨ P = 2) := by
  unfold playerB at h
  have := of_decide_eq_true h
  obtain ⟨P, rfl⟩ := Int.eq_ofNat_of_zero_le (show 0 ≤ p by omega)
  exact ⟨P, rfl, by omega⟩

variable (g : Nat → PV) (lf n : Nat)

/-! ### a set's list -/
theorem listFrom_length (set : Nat) : ∀ (m k : Nat), (listFrom set m k).length ≤ m
  | 0, _ => Nat.le_refl _
  | m + 1, k => by
    have := listFrom_length set m (k + 1)
    rw [listFrom]; split
    · rw [List.length_cons]; omega
    · omega
theorem listN_length (set : Nat) : (listN set).length ≤ 9 := listFrom_length set 9 0

theorem listFrom_nil {set : Nat} : ∀ (m k : Nat), set >>> k = 0 → listFrom set m k = []
  | 0, _, _ => rfl
  | m + 1, k, h => by
    have h2 : set >>> (k + 1) = 0 := by rw [Nat.shiftRight_add, h]; rfl
    rw [listFrom, h, if_neg (by decide), listFrom_nil m (k + 1) h2]

theorem list_loop {set : Nat} (hs : set < 2 ^ 9) : ∀ (m k fuel : Nat) (q : PV) (ys : List Int) (h : PHeap) (b : Nat), k + m = 9 → m < fuel → ys.length ≤ k → OwnSl b h q ys → b ≤ h.length →
    ∃ q' h', loopK (ev ((env g lf n).cx Tryd.prog spec_l2List.kl) spec_l2List.lp0) fuel (spec_l2List.st0 (.int .i64 (set : Int)) q (.int .i64 (k : Int)) h) (spec_l2List.K0 (env g lf n) (kTop Tryd.prog Tryd.f61)) = some (q', h') ∧
      OwnSl b h' q' (ys ++ listFrom set m k) ∧ Keep b h h'
  | m, k, fuel, q, ys, h, b, hkm, hf, hy, ho, hb => by
    obtain ⟨f, rfl⟩ : ∃ f, fuel = f + 1 := ⟨fuel - 1, by omega⟩
    obtain ⟨b1, b2, b3⟩ := bitq set k (by omega)
    have g1 : binP Tryd.prog .gtr 3 (.int .i64 ((set >>> k : Nat) : Int)) (.int .i64 0) = some (.bool (decide (0 < set >>> k))) := by
      rw [bin_gtr]
      congr 2
      apply decide_eq_decide.2
      omega
    by_cases hz : set >>> k = 0
    · refine ⟨q, h, ?_, by rw [listFrom_nil m k hz, List.append_nil]; exact ho, Keep.refl _ _⟩
      rw [loopK_succ, spec_l2List.body0_eq]
      rw [decide_eq_false (by omega)] at g1
      unfold spec_l2List.body0
      refine bd b1 (bd g1 (cdF ?_))
      rw [kLoop_exit, spec_l2List.after0_se0_0_3_4_9]
      exact bd ho.res rfl
    · match m with
      | 0 =>
        obtain rfl : k = 9 := by omega
        exact absurd (by rw [Nat.shiftRight_eq_div_pow]; exact Nat.div_eq_of_lt hs) hz
      | m + 1 =>
        have f4 : binP Tryd.prog .add 3 (.int .i64 (k : Int)) (.int .i64 1) = some (.int .i64 ((k + 1 : Nat) : Int)) := by rw [bin_add, nx (by omega)]
        rw [decide_eq_true (Nat.pos_of_ne_zero hz)] at g1
        rw [listFrom]
        by_cases e : set >>> k % 2 = 1
        · rw [if_pos e]
          rw [decide_eq_true e] at b3
          obtain ⟨v, q2, h2', hb2, ha2, ho2, hk2⟩ := ho.append hb (k : Int) (by omega)
          obtain ⟨q', h', ih, o', k'⟩ := list_loop hs m (k + 1) f q2 (ys ++ [(k : Int)]) h2' b (by omega) (by omega) (by simp; omega) ho2 (by have := hk2.1; omega)
          refine ⟨q', h', ?_, by simpa using o', hk2.trans k'⟩
          rw [loopK_succ, spec_l2List.body0_eq]
          unfold spec_l2List.body0
          exact bd b1 (bd g1 (cdT (bd b1 (bd b2 (bd b3 (cdT (bd hb2 (bd ha2 (bd f4 ih)))))))))
        · rw [if_neg e]
          rw [decide_eq_false e] at b3
          obtain ⟨q', h', ih, o', k'⟩ := list_loop hs m (k + 1) f q ys h b (by omega) (by omega) (by omega) ho hb
          refine ⟨q', h', ?_, o', k'⟩
          rw [loopK_succ, spec_l2List.body0_eq]
          unfold spec_l2List.body0
          exact bd b1 (bd g1 (cdT (bd b1 (bd b2 (bd b3 (cdF (bd f4 ih)))))))
termination_by m => m

theorem l2List_calls {set : Nat} (hs : set < 2 ^ 9) (N : Nat) (hN : 1 ≤ N) (hlf : 20 < lf) {h : PHeap} :
    ∃ q h', CL g lf N fn_spec_l2List [.int .i64 (set : Int)] h = some (q, h') ∧ OwnSl h.length h' q (listN set) ∧ Keep h.length h h' := by
  obtain ⟨n, rfl⟩ : ∃ n, N = n + 1 := ⟨N - 1, by omega⟩
  rw [spec_l2List.call_eq]
  obtain ⟨q0, h0, e0, o0, k0⟩ := empty_lit (h := h)
  obtain ⟨q', h', e, o, k⟩ := list_loop g lf n hs 9 0 lf q0 [] h0 h.length (by omega) (by omega) (by simp) o0 k0.1
  refine ⟨q', h', ?_, by simpa [listN] using o, k0.trans k⟩
  unfold spec_l2List.main
  exact bd e0 e

/-! ### gaps -/
theorem gap_inner {M : List Nat} {p : PV} {h : PHeap} (hp : IntSl .i64 h p (ints M)) (hM : ∀ m ∈ M, m < 2 ^ 9) (hl : M.length ≤ 9) {free now : Nat} (hs : free < 2 ^ 9) (R C own last edge cost : PV) (K : PX → St → Res) : ∀ (m k fuel nx : Nat), k + m = M.length → m < fuel → nx < 2 ^ 9 →
    loopK (ev ((env g lf n).cx Tryd.prog spec_l2Gap.kl) spec_l2Gap.lp1) fuel (spec_l2Gap.st1 R C p own (.int .i64 (free : Int)) last (.int .i64 (now : Int)) edge cost (.int .i64 (nx : Int)) (.int .i64 (k : Int)) h) (spec_l2Gap.K1 (env g lf n) K) =
      spec_l2Gap.K1 (env g lf n) K (.exit 2) (spec_l2Gap.se2_0_1_2_3_4_13_14_15_16_17_18_57 R C p own (.int .i64 (free : Int)) last (.int .i64 (now : Int)) edge cost (.int .i64 (stepFrom free now k (M.drop k) nx : Int)) (.int .i64 (M.length : Int)) (.bool false) h)
  | 0, k, fuel, nx', hkm, hf, hnx => by
    obtain ⟨f, rfl⟩ : ∃ f, fuel = f + 1 := ⟨fuel - 1, by omega⟩
    obtain rfl : k = M.length := by omega
    rw [loopK_succ, spec_l2Gap.body1_eq]
    have f1 : binP Tryd.prog .lss 3 (.int .i64 (M.length : Int)) (.int .i64 ((ints M).length : Int)) = some (.bool false) := by rw [bin_lss, ints_length, decide_eq_false (by omega)]
    unfold spec_l2Gap.body1
    refine bd hp.len' (bd f1 (cdF ?_))
    rw [kLoop_exit, List.drop_length, stepFrom]
  | m + 1, k, fuel, nx', hkm, hf, hnx => by
    obtain ⟨f, rfl⟩ : ∃ f, fuel = f + 1 := ⟨fuel - 1, by omega⟩
    have hk : k < M.length := by omega
    obtain ⟨a, ha, hla⟩ := hp.at' (show k < (ints M).length by rw [ints_length]; exact hk)
    rw [ints_get hk] at hla
    have hmk : M.getD k 0 < 2 ^ 9 := by
      rw [List.getD_eq_getElem?_getD, List.getElem?_eq_getElem hk]; exact hM _ (List.getElem_mem hk)
    have hdx : M.drop k = M.getD k 0 :: M.drop (k + 1) := by
      rw [List.getD_eq_getElem?_getD, List.getElem?_eq_getElem hk]; exact List.drop_eq_getElem_cons hk
    have f1 : binP Tryd.prog .lss 3 (.int .i64 (k : Int)) (.int .i64 ((ints M).length : Int)) = some (.bool true) := by rw [bin_lss, ints_length, decide_eq_true (by omega)]
    obtain ⟨b1, b2, b3⟩ := bitq now k (by omega)
    have f4 : binP Tryd.prog .add 3 (.int .i64 (k : Int)) (.int .i64 1) = some (.int .i64 ((k + 1 : Nat) : Int)) := by rw [bin_add, nx (by omega)]
    rw [loopK_succ, spec_l2Gap.body1_eq, hdx, stepFrom]
    unfold spec_l2Gap.body1
    refine bd hp.len' (bd f1 (cdT (bd b1 (bd b2 (bd b3 ?_)))))
    by_cases e : now >>> k % 2 = 1
    · rw [decide_eq_true e, if_pos e]
      have ha2 := f_and (a := M.getD k 0) (b := free) (by omega) (by omega)
      have hlt := Nat.and_lt_two_pow (M.getD k 0) hs
      have ho2 := f_or (a := nx') (b := M.getD k 0 &&& free) (by omega) (by omega)
      refine cdT (bd ha (bd hla (bd ha2 (bd ho2 (bd f4 ?_)))))
      rw [kLoop_normal]
      exact gap_inner hp hM hl hs R C own last edge cost K m (k + 1) f _ (by omega) (by omega) (Nat.or_lt_two_pow hnx hlt)
    · rw [decide_eq_false e, if_neg e]
      refine cdF (bd f4 ?_)
      rw [kLoop_normal]
      exact gap_inner hp hM hl hs R C own last edge cost K m (k + 1) f _ (by omega) (by omega) hnx

theorem gap_loop {R C : Nat} {M : List Nat} (hR : R * C ≤ 9) {p : PV} {h : PHeap} (hp : IntSl .i64 h p (ints M)) (hM : ∀ m ∈ M, m < 2 ^ 9) (hl : M.length ≤ 9) {own free last edge : Nat} (ho : own < 2 ^ 9) (hfr : free < 2 ^ 9) (hla : last < 2 ^ 9) (he : edge < 2 ^ 9) (hn : 1 ≤ n) (hlf : 1000 < lf) : ∀ (m cost fuel now : Nat), cost + m = R * C + 1 → m < fuel → now < 2 ^ 9 →
    loopK (ev ((env g lf n).cx Tryd.prog spec_l2Gap.kl) spec_l2Gap.lp0) fuel (spec_l2Gap.st0 (.int .i64 (R : Int)) (.int .i64 (C : Int)) p (.int .i64 (own : Int)) (.int .i64 (free : Int)) (.int .i64 (last : Int)) (.int .i64 (now : Int)) (.int .i64 (edge : Int)) (.int .i64 (cost : Int)) h) (spec_l2Gap.K0 (env g lf n) (kTop Tryd.prog Tryd.f64)) = some (.int .i64 (gapF M own free edge last m cost now), h)
  | 0, cost, fuel, now, hcm, hf, hnow => by
    obtain ⟨f, rfl⟩ : ∃ f, fuel = f + 1 := ⟨fuel - 1, by omega⟩
    rw [loopK_succ, spec_l2Gap.body0_eq, gapF]
    have f1 : binP Tryd.prog .leq 3 (.int .i64 (cost : Int)) (.int .i64 ((R * C : Nat) : Int)) = some (.bool false) := by rw [bin_leq, decide_eq_false (by omega)]
    unfold spec_l2Gap.body0
    refine bd (f_mul R C (by omega)) (bd f1 (cdF ?_))
    rw [kLoop_exit, spec_l2Gap.after0_se0_0_1_2_3_4_13_14_15_16_31]
    exact bd res_int rfl
  | m + 1, cost, fuel, now, hcm, hf, hnow => by
    obtain ⟨f, rfl⟩ : ∃ f, fuel = f + 1 := ⟨fuel - 1, by omega⟩
    have f1 : binP Tryd.prog .leq 3 (.int .i64 (cost : Int)) (.int .i64 ((R * C : Nat) : Int)) = some (.bool true) := by rw [bin_leq, decide_eq_true (by omega)]
    have f2 := f_or (a := own) (b := now) (by omega) (by omega)
    have f3 := f_and (a := edge) (b := own) (by omega) (by omega)
    have b3 := Nat.and_lt_two_pow edge ho
    have f4 := f_or (a := now) (b := edge &&& own) (by omega) (by omega)
    have b2 : own ||| now < 2 ^ 9 := Nat.or_lt_two_pow ho hnow
    have b4 : now ||| (edge &&& own) < 2 ^ 9 := Nat.or_lt_two_pow hnow b3
    have e5 := l2Grow_calls g lf hp hM hl b2 (fr := now ||| (edge &&& own)) (by omega) n hn hlf
    have b5 := grow_lt (M := M) (fr := now ||| (edge &&& own)) b2
    rw [loopK_succ, spec_l2Gap.body0_eq, gapF]
    obtain ⟨gr, hgr⟩ : ∃ gr, gr = growN M (own ||| now) (now ||| (edge &&& own)) := ⟨_, rfl⟩
    rw [← hgr] at e5 b5 ⊢
    have f6 := f_and (a := gr) (b := last) (by omega) (by omega)
    have f7 : binP Tryd.prog .neq 3 (.int .i64 ((gr &&& last : Nat) : Int)) (.int .i64 0) = some (.bool (!decide (gr &&& last = 0))) := by
      rw [bin_neq]; exact congrArg (fun z => some (PV.bool (!z))) (natEq _ 0)
    unfold spec_l2Gap.body0
    refine bd (f_mul R C (by omega)) (bd f1 (cdT (bd f2 (bd f3 (bd f4 (bd e5 (bd f6 (bd f7 ?_))))))))
    by_cases hz : gr &&& last = 0
    · rw [decide_eq_true hz, if_pos hz, Bool.not_true]
      have f8 := f_and (a := edge) (b := free) (by omega) (by omega)
      have b8 := Nat.and_lt_two_pow edge hfr
      have f9 := f_or (a := gr) (b := edge &&& free) (by omega) (by omega)
      have b9 : gr ||| (edge &&& free) < 2 ^ 9 := Nat.or_lt_two_pow b5 b8
      have inner := gap_inner g lf n hp hM hl (free := free) (now := gr) hfr (.int .i64 (R : Int)) (.int .i64 (C : Int)) (.int .i64 (own : Int)) (.int .i64 (last : Int)) (.int .i64 (edge : Int)) (.int .i64 (cost : Int)) (kLoop (ev ((env g lf n).cx Tryd.prog spec_l2Gap.kl) spec_l2Gap.lp0) f (spec_l2Gap.K0 (env g lf n) (kTop Tryd.prog Tryd.f64))) M.length 0 lf (gr ||| (edge &&& free)) (by omega) (by omega) b9
      rw [List.drop_zero] at inner
      have bn := stepFrom_lt (now := gr) hfr M 0 _ b9
      obtain ⟨nt, hnt⟩ : ∃ nt, nt = stepFrom free gr 0 M (gr ||| (edge &&& free)) := ⟨_, rfl⟩
      rw [← hnt] at inner bn ⊢
      refine cdF (bd f8 (bd f9 (inner.trans ?_)))
      rw [spec_l2Gap.after1_se2_0_1_2_3_4_13_14_15_16_17_18_57]
      have f10 : binP Tryd.prog .eql 3 (.int .i64 (nt : Int)) (.int .i64 (gr : Int)) = some (.bool (decide (nt = gr))) := by rw [bin_eql, natEq]
      refine bd f10 ?_
      by_cases e : nt = gr
      · rw [decide_eq_true e, if_pos e]
        refine cdT ?_
        rw [kLoop_ret, spec_l2Gap.K0_ret, spec_l2Gap.top_sr_12]
        exact bd res_int rfl
      · rw [decide_eq_false e, if_neg e]
        have f11 : binP Tryd.prog .add 3 (.int .i64 (cost : Int)) (.int .i64 1) = some (.int .i64 ((cost + 1 : Nat) : Int)) := by rw [bin_add, nx (by omega)]
        refine cdF (bd f11 ?_)
        rw [kLoop_normal]
        exact gap_loop hR hp hM hl ho hfr hla he hn hlf m (cost + 1) f nt (by omega) (by omega) bn
    · rw [decide_eq_false hz, if_neg hz, Bool.not_false]
      refine cdT ?_
      rw [kLoop_ret, spec_l2Gap.K0_ret, spec_l2Gap.top_sr_12]
      exact bd res_int rfl

theorem l2Gap_calls {R C P : Nat} (hB : BoardOf R C) (hP : P = 1 ∨ P = 2) {p : PV} {h : PHeap} (hp : IntSl .i64 h p (ints (masksN R C))) {own free : Nat} (ho : own < 2 ^ 9) (hfr : free < 2 ^ 9) (N : Nat) (hN : 2 ≤ N) (hlf : 1000 < lf) :
    CL g lf N fn_spec_l2Gap [.int .i64 (R : Int), .int .i64 (C : Int), p, .int .i64 (own : Int), .int .i64 (free : Int), .int .i64 (P : Int)] h = some (.int .i64 (gapN (masksN R C) own free (sideN R C P false) (sideN R C P true) (R * C)), h) := by
  obtain ⟨n, rfl⟩ : ∃ n, N = n + 1 := ⟨N - 1, by omega⟩
  rw [spec_l2Gap.call_eq]
  have s1 := l2Side_calls g lf hB hP true n (by omega) (by omega) h
  have s2 := l2Side_calls g lf hB hP false n (by omega) (by omega) h
  unfold spec_l2Gap.main
  refine bd s1 (bd s2 ?_)
  exact gap_loop g lf n hB.2.2.2.2 hp (masksN_lt hB) (by rw [masksN_length]; exact hB.2.2.2.2) ho hfr (sideN_lt hB) (sideN_lt hB) (by omega) hlf (R * C + 1) 0 lf 0 (by omega) (by have := hB.2.2.2.2; omega) (by decide)

/-! ### the functions -/
theorem specJoins_calls {xs : List Int} {p : PV} {h : PHeap} (N : Nat) (hN : 4 ≤ N) (r c pl : Int) (hp : IntSl .i64 h p xs) (hl : xs.length ≤ 2 ^ 35) (hf : xs.length < lf) (hlf : 1000 < lf) :
    ∃ h', CL g lf N fn_spec_Joins [.int .i64 r, .int .i64 c, p, .int .i64 pl] h = some (.bool (joinsL r c xs pl), h') ∧ Keep h.length h h' := by
  obtain ⟨n, rfl⟩ : ∃ n, N = n + 1 := ⟨N - 1, by omega⟩
  rw [spec_Joins.call_eq]
  have hpos := specPositionOk_N g lf n (by omega) r c hp (by omega) hf
  have l1 := l1In_N g lf n (by omega) h pl 1 2
  unfold joinsL
  cases hb : posB r c xs with
  | false =>
    rw [hb] at hpos
    refine ⟨h, ?_, Keep.refl _ _⟩
    unfold spec_Joins.main
    refine bd hpos (bd un_not (gn rfl (bd rfl (gn rfl (bd rfl (gn rfl (bd rfl (bd (v := PV.bool true) rfl (cdT ?_)))))))))
    exact bd res_bool rfl
  | true =>
    rw [hb] at hpos
    cases hpl : playerB pl with
    | false =>
      unfold playerB at hpl
      rw [hpl] at l1
      refine ⟨h, ?_, Keep.refl _ _⟩
      unfold spec_Joins.main
      refine bd hpos (bd un_not (gd rfl (bd rfl (gd rfl (bd l1 (gd rfl (bd (v := (PV.bool true, h)) rfl (bd (v := PV.bool true) rfl (cdT ?_)))))))))
      exact bd res_bool rfl
    | true =>
      have hpl' := hpl
      unfold playerB at hpl'
      rw [hpl'] at l1
      obtain ⟨R, C, hS⟩ := sides_of hb
      obtain ⟨P, rfl, hP⟩ := player_of hpl
      have hB := board_of_sides hS
      obtain ⟨rfl, rfl, _, _, _, _, h9, hlen, _⟩ := id hS
      obtain ⟨q, h1, e1, o1, k1⟩ := l2Masks_calls g lf hB n (by omega) (by omega) (h := h)
      have e2 := l2Set_calls g lf (P : Int) (hp.keep k1) (by omega) n (by omega) (by omega)
      have hst := setL_lt (P : Int) (xs := xs) (n := 9) (by omega)
      have e3 := l2Joins_calls g lf hB hP o1.int hst n (by omega) hlf
      refine ⟨h1, ?_, k1⟩
      rw [Bool.and_self, Bool.true_and]
      unfold spec_Joins.main
      refine bd hpos (bd un_not (gd rfl (bd rfl (gd rfl (bd l1 (gd rfl (bd (v := (PV.bool false, h)) rfl (bd (v := PV.bool false) rfl (cdF ?_)))))))))
      exact bd e1 (bd e2 (bd e3 (bd res_bool rfl)))

theorem specGapOf_calls {xs : List Int} {p : PV} {h : PHeap} (N : Nat) (hN : 4 ≤ N) (r c pl : Int) (hp : IntSl .i64 h p xs) (hl : xs.length ≤ 2 ^ 35) (hf : xs.length < lf) (hlf : 1000 < lf) :
    ∃ h', CL g lf N fn_spec_GapOf [.int .i64 r, .int .i64 c, p, .int .i64 pl] h = some (.int .i64 (gapL r c xs pl), h') ∧ Keep h.length h h' := by
  obtain ⟨n, rfl⟩ : ∃ n, N = n + 1 := ⟨N - 1, by omega⟩
  rw [spec_GapOf.call_eq]
  have hpos := specPositionOk_N g lf n (by omega) r c hp (by omega) hf
  have l1 := l1In_N g lf n (by omega) h pl 1 2
  unfold gapL
  cases hb : posB r c xs with
  | false =>
    rw [hb] at hpos
    refine ⟨h, ?_, Keep.refl _ _⟩
    unfold spec_GapOf.main
    refine bd hpos (bd un_not (gn rfl (bd rfl (gn rfl (bd rfl (gn rfl (bd rfl (bd (v := PV.bool true) rfl (cdT ?_)))))))))
    exact bd res_int rfl
  | true =>
    rw [hb] at hpos
    cases hpl : playerB pl with
    | false =>
      unfold playerB at hpl
      rw [hpl] at l1
      refine ⟨h, ?_, Keep.refl _ _⟩
      unfold spec_GapOf.main
      refine bd hpos (bd un_not (gd rfl (bd rfl (gd rfl (bd l1 (gd rfl (bd (v := (PV.bool true, h)) rfl (bd (v := PV.bool true) rfl (cdT ?_)))))))))
      exact bd res_int rfl
    | true =>
      have hpl' := hpl
      unfold playerB at hpl'
      rw [hpl'] at l1
      obtain ⟨R, C, hS⟩ := sides_of hb
      obtain ⟨P, rfl, hP⟩ := player_of hpl
      have hB := board_of_sides hS
      obtain ⟨rfl, rfl, _, _, _, _, h9, hlen, _⟩ := id hS
      obtain ⟨q, h1, e1, o1, k1⟩ := l2Masks_calls g lf hB n (by omega) (by omega) (h := h)
      have e2 := l2Set_calls g lf (P : Int) (hp.keep k1) (by omega) n (by omega) (by omega)
      have e3 := l2Set_calls g lf 0 (hp.keep k1) (by omega) n (by omega) (by omega)
      have hst := setL_lt (P : Int) (xs := xs) (n := 9) (by omega)
      have hst0 := setL_lt 0 (xs := xs) (n := 9) (by omega)
      have e4 := l2Gap_calls g lf hB hP o1.int hst hst0 n (by omega) hlf
      refine ⟨h1, ?_, k1⟩
      rw [Bool.and_self, if_pos rfl]
      unfold spec_GapOf.main
      refine bd hpos (bd un_not (gd rfl (bd rfl (gd rfl (bd l1 (gd rfl (bd (v := (PV.bool false, h)) rfl (bd (v := PV.bool false) rfl (cdF ?_)))))))))
      exact bd e1 (bd e2 (bd e3 (bd e4 (bd res_int rfl))))

theorem specGroupOf_calls {xs : List Int} {p : PV} {h : PHeap} (N : Nat) (hN : 4 ≤ N) (r c k : Int) (hp : IntSl .i64 h p xs) (hl : xs.length ≤ 2 ^ 35) (hf : xs.length < lf) (hlf : 1000 < lf) :
    ∃ q h', CL g lf N fn_spec_GroupOf [.int .i64 r, .int .i64 c, p, .int .i64 k] h = some (q, h') ∧ OwnSl h.length h' q (groupL r c xs k) ∧ Keep h.length h h' := by
  obtain ⟨n, rfl⟩ : ∃ n, N = n + 1 := ⟨N - 1, by omega⟩
  rw [spec_GroupOf.call_eq]
  have hpos := specPositionOk_N g lf n (by omega) r c hp (by omega) hf
  obtain ⟨q0, h0, e0, o0, k0⟩ := empty_lit (h := h)
  unfold groupL stoneB
  cases hb : posB r c xs with
  | false =>
    rw [hb] at hpos
    refine ⟨q0, h0, ?_, o0, k0⟩
    unfold spec_GroupOf.main
    refine bd hpos (bd un_not (gn rfl (bd rfl (gn rfl (bd rfl (gn rfl (bd rfl (gn rfl (bd rfl (gn rfl (bd rfl (gn rfl (bd rfl (bd (v := PV.bool true) rfl ?_))))))))))))))
    refine gn rfl (bd rfl (gn rfl (bd rfl (gn rfl (bd rfl (gn rfl (bd rfl (gn rfl (bd rfl (bd (v := PV.bool true) rfl (cdT ?_)))))))))))
    exact bd e0 (bd o0.res rfl)
  | true =>
    rw [hb] at hpos
    have f1 : binP Tryd.prog .sub 3 (.int .i64 (xs.length : Int)) (.int .i64 1) = some (.int .i64 ((xs.length : Int) - 1)) := by rw [bin_sub, wr (by omega)]
    have l1 := l1In_N g lf n (by omega) h k 0 ((xs.length : Int) - 1)
    have hk' : decide (0 ≤ k ∧ k ≤ (xs.length : Int) - 1) = decide (0 ≤ k ∧ k < (xs.length : Int)) := by apply decide_eq_decide.2; omega
    rw [hk'] at l1
    cases hk : decide (0 ≤ k ∧ k < (xs.length : Int)) with
    | false =>
      rw [hk] at l1
      refine ⟨q0, h0, ?_, o0, k0⟩
      unfold spec_GroupOf.main
      refine bd hpos (bd un_not (gd rfl (bd rfl (gd rfl (bd rfl (gd rfl (bd (congrArg (pv _) hp.len') (gd rfl (bd (congrArg (pv _) f1) (gd rfl (bd l1 (gd rfl (bd (v := (PV.bool true, h)) rfl (bd (v := PV.bool true) rfl ?_))))))))))))))
      refine gn rfl (bd rfl (gn rfl (bd rfl (gn rfl (bd rfl (gn rfl (bd rfl (gn rfl (bd rfl (bd (v := PV.bool true) rfl (cdT ?_)))))))))))
      exact bd e0 (bd o0.res rfl)
    | true =>
      rw [hk] at l1
      have hkb := of_decide_eq_true hk
      obtain ⟨K, rfl⟩ := Int.eq_ofNat_of_zero_le hkb.1
      have hK : K < xs.length := by omega
      obtain ⟨a, ha, hla⟩ := hp.at' hK
      have hgd : xs.getD (K : Int).toNat 0 = xs[K] := by
        rw [show ((K : Int).toNat) = K from rfl, List.getD_eq_getElem?_getD, List.getElem?_eq_getElem hK]; rfl
      rw [hgd]
      have f2 : binP Tryd.prog .eql 3 (.int .i64 xs[K]) (.int .i64 0) = some (.bool (decide (xs[K] = 0))) := by rw [bin_eql]; rfl
      by_cases hz : xs[K] = 0
      · rw [decide_eq_true hz] at f2
        rw [decide_eq_true hz]
        refine ⟨q0, h0, ?_, o0, k0⟩
        unfold spec_GroupOf.main
        refine bd hpos (bd un_not (gd rfl (bd rfl (gd rfl (bd rfl (gd rfl (bd (congrArg (pv _) hp.len') (gd rfl (bd (congrArg (pv _) f1) (gd rfl (bd l1 (gd rfl (bd (v := (PV.bool false, h)) rfl (bd (v := PV.bool false) rfl ?_))))))))))))))
        refine gd rfl (bd rfl (gd rfl (bd rfl (gd rfl (bd (congrArg (pv _) ha) (gd rfl (bd (congrArg (pv _) hla) (gd rfl (bd (congrArg (pv _) f2) (bd (v := PV.bool true) rfl (cdT ?_)))))))))))
        exact bd e0 (bd o0.res rfl)
      · rw [decide_eq_false hz] at f2
        rw [decide_eq_false hz]
        obtain ⟨R, C, hS⟩ := sides_of hb
        have hB := board_of_sides hS
        obtain ⟨rfl, rfl, _, _, _, _, h9, hlen, _⟩ := id hS
        obtain ⟨x, hx⟩ : ∃ x, x = xs[K] := ⟨_, rfl⟩
        rw [← hx] at hla f2 ⊢
        obtain ⟨q, h1, e1, o1, k1⟩ := l2Masks_calls g lf hB n (by omega) (by omega) (h := h)
        have hp1 := hp.keep k1
        have e2 := l2Set_calls g lf x hp1 (by omega) n (by omega) (by omega)
        have hst := setL_lt x (xs := xs) (n := 9) (by omega)
        have e3 := l2Grow_calls g lf o1.int (masksN_lt hB) (by rw [masksN_length]; exact h9) hst (fr := 1 <<< K) (by have := shl_lt (show K < 9 by omega); omega) n (by omega) hlf
        obtain ⟨q4, h4, e4, o4, k4⟩ := l2List_calls g lf (grow_lt (M := masksN R C) (fr := 1 <<< K) hst) n (by omega) (by omega) (h := h1)
        have at1 : ∀ h', IntSl .i64 h' p xs → loadP Tryd.prog 3 a h' = some (.int .i64 x) := fun h' hp' => by
          obtain ⟨a', ha', hla'⟩ := hp'.at' hK
          obtain rfl : a = a' := Option.some.inj (ha.symm.trans ha')
          rw [hx]; exact hla'
        have c1 := at1 h1 hp1
        have c4 := at1 h4 (hp1.keep k4)
        refine ⟨q4, h4, ?_, o4.mono k1.1, k1.trans (k4.mono k1.1)⟩
        unfold spec_GroupOf.main
        refine bd hpos (bd un_not (gd rfl (bd rfl (gd rfl (bd rfl (gd rfl (bd (congrArg (pv _) hp.len') (gd rfl (bd (congrArg (pv _) f1) (gd rfl (bd l1 (gd rfl (bd (v := (PV.bool false, h)) rfl (bd (v := PV.bool false) rfl ?_))))))))))))))
        refine gd rfl (bd rfl (gd rfl (bd rfl (gd rfl (bd (congrArg (pv _) ha) (gd rfl (bd (congrArg (pv _) hla) (gd rfl (bd (congrArg (pv _) f2) (bd (v := PV.bool false) rfl (cdF ?_)))))))))))
        refine bd ha (bd hla (bd (f_shl K (by omega)) (bd e1 (bd c1 (ckT plain_int (bd e2 (bd c1 (ckT plain_int ?_))))))))
        exact bd e3 (bd c1 (ckT plain_int (bd e4 (bd c4 (ckT plain_int (bd o4.res rfl))))))

end Go.Proofs.YtiflfnlpkhghpaaDoor
