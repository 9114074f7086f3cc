/- The model's Filled and GapCells. -/
import Derived.Test.YtiflfnlpkhghpaaDoorS2
namespace Go.Proofs.YtiflfnlpkhghpaaDoor
open Go Go.Ip G

variable (g : Nat → PV) (lf n : Nat)

/-- An empty literal, and a whole list appended: a copy. -/
theorem copy_all {xs : List Int} {p : PV} {h : PHeap} (hp : IntSl .i64 h p xs) (hx : 0 < xs.length) (hl : xs.length ≤ 2 ^ 36) :
    ∃ v q h', buildSliceP Tryd.prog 23 0 [] h = some v ∧ appendP Tryd.prog 23 23 v.1 p v.2 = some (q, h') ∧ OwnSl h.length h' q xs ∧ Keep h.length h h' := by
  rcases hp with ⟨rfl, rfl⟩ | ⟨id, off, rfl, hc⟩
  · simp at hx
  have hid : id < h.length := lt_of_cell (hc 0 _ (List.getElem?_eq_getElem hx))
  have hb : buildSliceP Tryd.prog 23 0 [] h = some (.sl h.length 0 0, h ++ [.own 1 []]) := by
    simp [buildSliceP, tyElem, tySize, tyZero, repeatCells, fillP]
  have hcells : ((cellsAt (h ++ [PObj.own 1 []]) id).drop off).take (xs.length * 1) = xs.map (.int .i64) := by
    rw [Nat.mul_one]
    apply List.ext_getElem?
    intro j
    have e : cellsAt (h ++ [PObj.own 1 []]) id = cellsAt h id := by unfold cellsAt; rw [List.getElem?_append_left hid]
    rw [e]
    by_cases hj : j < xs.length
    · rw [List.getElem?_take_of_lt hj, List.getElem?_drop, hc j _ (List.getElem?_eq_getElem hj), List.getElem?_map, List.getElem?_eq_getElem hj]; rfl
    · rw [List.getElem?_eq_none (by rw [List.length_take]; omega), List.getElem?_eq_none (by simp; omega)]
  have hfit : off + xs.length * 1 ≤ (cellsAt (h ++ [PObj.own 1 []]) id).length := by
    have := congrArg List.length hcells
    simp only [List.length_take, List.length_drop, List.length_map, Nat.mul_one] at this ⊢
    omega
  have hsrc : srcP (h ++ [PObj.own 1 []]) 1 (.sl id off xs.length) = some (xs.length, xs.map (.int .i64)) := by
    simp only [srcP]
    rw [if_pos hfit, hcells]
  refine ⟨_, .sl (h.length + 1) 0 (0 + xs.length), ((h ++ [PObj.own 1 []]).set h.length .dead ++ [PObj.own 1 ([] ++ xs.map (.int .i64))]), hb, ?_, .inr ⟨h.length + 1, by omega, by simp, ?_⟩, ?_⟩
  · simp only [appendP, tyElem, tySize, tySmall, bne_self_eq_false, Bool.not_true, Bool.or_self, Bool.false_eq_true, if_false, hsrc, Option.bind_some]
    have h3 : (h ++ [PObj.own 1 []])[h.length]? = some (.own 1 []) := by simp
    rw [h3]
    have : 0 + xs.length ≤ 2 ^ 36 := by omega
    simp only [List.length_nil, Nat.zero_mul, true_and, if_pos this]
    simp
  · rw [List.getElem?_append_right (by simp)]; simp
  · exact (((Keep.append _ h _ (Nat.le_refl _)).trans (Keep.set _ _ h.length .dead (Nat.le_refl _))).trans (Keep.append _ _ _ (by simp)))

theorem filled_loop {xs : List Int} {p : PV} {r c pl : Int} (hb : posB r c xs = true) (hpl : playerB pl = true) (hl : xs.length ≤ 9) (hn : 3 ≤ n) (hlf : 1000 < lf) : ∀ (m i fuel : Nat) (q : PV) (ys : List Int) (h : PHeap) (b : Nat), i + m = xs.length → m < fuel → ys.length = i → OwnSl b h q ys → b ≤ h.length → (∀ h', Keep b h h' → IntSl .i64 h' p xs) →
    ∃ q' h', loopK (ev ((env g lf n).cx Tryd.prog spec_Filled.kl) spec_Filled.lp0) fuel (spec_Filled.st0 (.int .i64 r) (.int .i64 c) p (.int .i64 pl) q (.int .i64 (i : Int)) h) (spec_Filled.K0 (env g lf n) (kTop Tryd.prog Tryd.f34)) = some (q', h') ∧
      OwnSl b h' q' (ys ++ (xs.drop i).map (fillL pl)) ∧ Keep b h h'
  | 0, i, fuel, q, ys, h, b, him, hf, hy, ho, hb', hp => by
    obtain ⟨f, rfl⟩ : ∃ f, fuel = f + 1 := ⟨fuel - 1, by omega⟩
    refine ⟨q, h, ?_, by rw [List.drop_eq_nil_of_le (by omega)]; simpa using ho, Keep.refl _ _⟩
    rw [loopK_succ, spec_Filled.body0_eq]
    have f1 : binP Tryd.prog .lss 3 (.int .i64 (i : Int)) (.int .i64 (xs.length : Int)) = some (.bool false) := by rw [bin_lss, decide_eq_false (by omega)]
    unfold spec_Filled.body0
    refine bd (hp h (Keep.refl _ _)).len' (bd f1 (gn rfl (bd rfl (gn rfl (bd rfl (gn rfl (bd rfl (gn rfl (bd rfl (bd (v := PV.bool false) rfl (gn rfl (bd rfl (gn rfl (bd rfl (bd (v := PV.bool false) rfl (cdF ?_))))))))))))))))
    rw [kLoop_exit, spec_Filled.after0_se0_0_1_2_3_9_10_26]
    exact bd ho.res rfl
  | m + 1, i, fuel, q, ys, h, b, him, hf, hy, ho, hb', hp => by
    obtain ⟨f, rfl⟩ : ∃ f, fuel = f + 1 := ⟨fuel - 1, by omega⟩
    have hi : i < xs.length := by omega
    have hp0 := hp h (Keep.refl _ _)
    obtain ⟨a, ha, hla⟩ := hp0.at' hi
    have hpos := specPositionOk_N g lf n hn r c hp0 (by omega) (by omega)
    rw [hb] at hpos
    have l1 := l1In_N g lf n (by omega) h pl 1 2
    have hpl' := hpl
    unfold playerB at hpl'
    rw [hpl'] at l1
    have f1 : binP Tryd.prog .lss 3 (.int .i64 (i : Int)) (.int .i64 (xs.length : Int)) = some (.bool true) := by rw [bin_lss, decide_eq_true (by omega)]
    have f2 : binP Tryd.prog .eql 3 (.int .i64 xs[i]) (.int .i64 0) = some (.bool (decide (xs[i] = 0))) := by rw [bin_eql]; rfl
    have f4 : binP Tryd.prog .add 3 (.int .i64 (i : Int)) (.int .i64 1) = some (.int .i64 ((i + 1 : Nat) : Int)) := by rw [bin_add, nx (by omega)]
    have hdx : xs.drop i = xs[i] :: xs.drop (i + 1) := List.drop_eq_getElem_cons hi
    obtain ⟨v, q2, h2', hb2, ha2, ho2, hk2⟩ := ho.append hb' (fillL pl xs[i]) (by omega)
    obtain ⟨q', h', ih, o', k'⟩ := filled_loop hb hpl hl hn hlf m (i + 1) f q2 (ys ++ [fillL pl xs[i]]) h2' b (by omega) (by omega) (by simp; omega) ho2 (by have := hk2.1; omega) (fun h3 hk3 => hp h3 (hk2.trans hk3))
    refine ⟨q', h', ?_, by rw [hdx, List.map_cons, List.append_cons]; exact o', hk2.trans k'⟩
    rw [loopK_succ, spec_Filled.body0_eq]
    unfold spec_Filled.body0
    refine bd hp0.len' (bd f1 (gd rfl (bd rfl (gd rfl (bd rfl (gd rfl (bd rfl (gd rfl (bd hpos (bd (v := PV.bool true) rfl (gd rfl (bd rfl (gd rfl (bd l1 (bd (v := PV.bool true) rfl (cdT (bd ha (bd hla (bd f2 ?_)))))))))))))))))))
    unfold fillL at hb2
    by_cases e : xs[i] = 0
    · rw [decide_eq_true e]
      rw [if_pos e] at hb2
      exact cdT (bd hb2 (bd ha2 (bd f4 ih)))
    · rw [decide_eq_false e]
      rw [if_neg e] at hb2
      exact cdF (bd hb2 (bd ha2 (bd f4 ih)))

theorem specFilled_calls {xs : List Int} {p : PV} {h : PHeap} (N : Nat) (hN : 4 ≤ N) (r c pl : Int) (hp : IntSl .i64 h p xs) (hl : xs.length ≤ 2 ^ 35) (hf : xs.length < lf) (hlf : 1000 < lf) :
    ∃ q h', CL g lf N fn_spec_Filled [.int .i64 r, .int .i64 c, p, .int .i64 pl] h = some (q, h') ∧ OwnSl h.length h' q (filledL r c xs pl) ∧ Keep h.length h h' := by
  obtain ⟨n, rfl⟩ : ∃ n, N = n + 1 := ⟨N - 1, by omega⟩
  rw [spec_Filled.call_eq]
  obtain ⟨q0, h0, e0, o0, k0⟩ := empty_lit (h := h)
  unfold filledL
  cases hbp : (posB r c xs && playerB pl) with
  | true =>
    rw [Bool.and_eq_true] at hbp
    have h9 : xs.length ≤ 9 := by
      obtain ⟨R, C, hS⟩ := sides_of hbp.1
      obtain ⟨_, _, _, _, _, _, h9, hlen, _⟩ := hS
      omega
    obtain ⟨q', h', e, o, k⟩ := filled_loop g lf n hbp.1 hbp.2 h9 (by omega) hlf xs.length 0 lf q0 [] h0 h.length (by omega) hf rfl o0 k0.1 (fun h' hk => hp.keep (k0.trans hk))
    refine ⟨q', h', ?_, by rw [if_pos rfl]; simpa using o, k0.trans k⟩
    unfold spec_Filled.main
    exact bd e0 e
  | false =>
    refine ⟨q0, h0, ?_, by simpa using o0, k0⟩
    obtain ⟨f, rfl⟩ : ∃ f, lf = f + 1 := ⟨lf - 1, by omega⟩
    have hp0 := hp.keep k0
    have hpos := specPositionOk_N g (f + 1) n (by omega) r c hp0 (by omega) hf
    have l1 := l1In_N g (f + 1) n (by omega) h0 pl 1 2
    unfold spec_Filled.main
    refine bd e0 ?_
    rw [env_lf, loopK_succ, spec_Filled.body0_eq]
    unfold spec_Filled.body0
    have f1 : binP Tryd.prog .lss 3 (.int .i64 0) (.int .i64 (xs.length : Int)) = some (.bool (decide ((0 : Int) < xs.length))) := bin_lss
    refine bd hp0.len' (bd f1 ?_)
    cases hz : decide ((0 : Int) < xs.length) with
    | false =>
      refine gn rfl (bd rfl (gn rfl (bd rfl (gn rfl (bd rfl (gn rfl (bd rfl (bd (v := PV.bool false) rfl (gn rfl (bd rfl (gn rfl (bd rfl (bd (v := PV.bool false) rfl (cdF ?_))))))))))))))
      rw [kLoop_exit, spec_Filled.after0_se0_0_1_2_3_9_10_26]
      exact bd o0.res rfl
    | true =>
      cases hb : posB r c xs with
      | false =>
        rw [hb] at hpos
        refine gd rfl (bd rfl (gd rfl (bd rfl (gd rfl (bd rfl (gd rfl (bd hpos (bd (v := PV.bool false) rfl (gn rfl (bd rfl (gn rfl (bd rfl (bd (v := PV.bool false) rfl (cdF ?_))))))))))))))
        rw [kLoop_exit, spec_Filled.after0_se0_0_1_2_3_9_10_26]
        exact bd o0.res rfl
      | true =>
        rw [hb, Bool.true_and] at hbp
        unfold playerB at hbp
        rw [hb] at hpos
        rw [hbp] at l1
        refine gd rfl (bd rfl (gd rfl (bd rfl (gd rfl (bd rfl (gd rfl (bd hpos (bd (v := PV.bool true) rfl (gd rfl (bd rfl (gd rfl (bd l1 (bd (v := PV.bool false) rfl (cdF ?_))))))))))))))
        rw [kLoop_exit, spec_Filled.after0_se0_0_1_2_3_9_10_26]
        exact bd o0.res rfl

/-! ### the cells that close a gap -/
def gcFrom (r c : Int) (xs : List Int) (p G : Int) : Nat → Nat → List Int
  | 0, _ => []
  | m + 1, k => if xs.getD k 0 = 0 ∧ gapL r c (xs.set k p) p = G - 1 then (k : Int) :: gcFrom r c xs p G m (k + 1) else gcFrom r c xs p G m (k + 1)

theorem gcFrom_length (r c : Int) (xs : List Int) (p G : Int) : ∀ m k, (gcFrom r c xs p G m k).length ≤ m
  | 0, _ => Nat.le_refl _
  | m + 1, k => by
    have := gcFrom_length r c xs p G m (k + 1)
    rw [gcFrom]; split
    · rw [List.length_cons]; omega
    · omega

theorem gcFrom_eq (r c : Int) (xs : List Int) (p G : Int) : ∀ m k, gcFrom r c xs p G m k = ((List.range' k m).filter fun k => decide (xs.getD k 0 = 0) && decide (gapL r c (xs.set k p) p = G - 1)).map fun k : Nat => (k : Int)
  | 0, _ => rfl
  | m + 1, k => by
    rw [gcFrom, List.range'_succ, List.filter_cons, gcFrom_eq r c xs p G m (k + 1)]
    by_cases h : xs.getD k 0 = 0 ∧ gapL r c (xs.set k p) p = G - 1
    · rw [if_pos h, decide_eq_true h.1, decide_eq_true h.2]; rfl
    · rw [if_neg h, if_neg (by rw [Bool.and_eq_true, decide_eq_true_iff, decide_eq_true_iff]; exact h)]

theorem gapL_eq {R C P : Nat} {xs : List Int} (hb : posB (R : Int) (C : Int) xs = true) (hP : P = 1 ∨ P = 2) : gapL (R : Int) (C : Int) xs (P : Int) = gapN (masksN R C) (setL xs (P : Int)) (setL xs 0) (sideN R C P false) (sideN R C P true) (R * C) := by
  have hp : playerB (P : Int) = true := by rcases hP with rfl | rfl <;> rfl
  unfold gapL
  rw [hb, hp]; rfl

theorem gapL_small (r c : Int) (xs : List Int) (p : Int) : -1 ≤ gapL r c xs p ∧ gapL r c xs p ≤ 9 := by
  cases hbp : (posB r c xs && playerB p) with
  | false => unfold gapL; rw [hbp]; simp
  | true =>
    rw [Bool.and_eq_true] at hbp
    obtain ⟨R, C, hS⟩ := sides_of hbp.1
    obtain ⟨P, rfl, hP⟩ := player_of hbp.2
    obtain ⟨rfl, rfl, _, _, _, _, h9, hlen, _⟩ := id hS
    rw [gapL_eq hbp.1 hP]
    have hst := setL_lt (P : Int) (xs := xs) (n := 9) (by omega)
    have hst0 := setL_lt 0 (xs := xs) (n := R * C) (by omega)
    rcases gapN_spec (M := masksN R C) (own := setL xs (P : Int)) (edge := sideN R C P false) (last := sideN R C P true) h9 hst hst0 with ⟨k, hk, hg⟩ | ⟨hk, _⟩
    · have := gap_pop (Nat.lt_of_lt_of_le hst0 (Nat.pow_le_pow_right (by decide) h9)) hg
      have := pop_le h9 hst0
      rw [hk]; omega
    · rw [hk]; omega

theorem gc_loop {xs : List Int} {p : PV} {r c pl G : Int} (hG : G = gapL r c xs pl) (hpos : 0 < G) (hl : xs.length ≤ 9) (hn : 4 ≤ n) (hlf : 1000 < lf) : ∀ (m i fuel : Nat) (q : PV) (ys : List Int) (h : PHeap) (b : Nat), i + m = xs.length → m < fuel → ys.length ≤ i → OwnSl b h q ys → b ≤ h.length → (∀ h', Keep b h h' → IntSl .i64 h' p xs) →
    ∃ q' h', loopK (ev ((env g lf n).cx Tryd.prog spec_GapCells.kl) spec_GapCells.lp0) fuel (spec_GapCells.st0 (.int .i64 r) (.int .i64 c) p (.int .i64 pl) q (.int .i64 G) (.int .i64 (i : Int)) h) (spec_GapCells.K0 (env g lf n) (kTop Tryd.prog Tryd.f38)) = some (q', h') ∧
      OwnSl b h' q' (ys ++ gcFrom r c xs pl G m i) ∧ Keep b h h'
  | 0, i, fuel, q, ys, h, b, him, hf, hy, ho, hb', hp => by
    obtain ⟨f, rfl⟩ : ∃ f, fuel = f + 1 := ⟨fuel - 1, by omega⟩
    refine ⟨q, h, ?_, by rw [gcFrom, List.append_nil]; exact ho, Keep.refl _ _⟩
    rw [loopK_succ, spec_GapCells.body0_eq]
    have f1 : binP Tryd.prog .lss 3 (.int .i64 (i : Int)) (.int .i64 (xs.length : Int)) = some (.bool false) := by rw [bin_lss, decide_eq_false (by omega)]
    unfold spec_GapCells.body0
    refine bd (hp h (Keep.refl _ _)).len' (bd f1 (gn rfl (bd rfl (gn rfl (bd rfl (bd (v := PV.bool false) rfl (cdF ?_)))))))
    rw [kLoop_exit, spec_GapCells.after0_se0_0_1_2_3_9_10_11_26]
    exact bd ho.res rfl
  | m + 1, i, fuel, q, ys, h, b, him, hf, hy, ho, hb', hp => by
    obtain ⟨f, rfl⟩ : ∃ f, fuel = f + 1 := ⟨fuel - 1, by omega⟩
    have hi : i < xs.length := by omega
    have hp0 := hp h (Keep.refl _ _)
    obtain ⟨a, ha, hla⟩ := hp0.at' hi
    have f1 : binP Tryd.prog .lss 3 (.int .i64 (i : Int)) (.int .i64 (xs.length : Int)) = some (.bool true) := by rw [bin_lss, decide_eq_true (by omega)]
    have f0 : binP Tryd.prog .gtr 3 (.int .i64 G) (.int .i64 0) = some (.bool true) := by rw [bin_gtr, decide_eq_true hpos]
    have f2 : binP Tryd.prog .neq 3 (.int .i64 xs[i]) (.int .i64 0) = some (.bool (!decide (xs[i] = 0))) := by rw [bin_neq]; rfl
    have f4 : binP Tryd.prog .add 3 (.int .i64 (i : Int)) (.int .i64 1) = some (.int .i64 ((i + 1 : Nat) : Int)) := by rw [bin_add, nx (by omega)]
    have hgd : xs.getD i 0 = xs[i] := by rw [List.getD_eq_getElem?_getD, List.getElem?_eq_getElem hi]; rfl
    have hGs := gapL_small r c xs pl
    rw [gcFrom]
    by_cases e : xs[i] = 0
    · rw [decide_eq_true e, Bool.not_true] at f2
      obtain ⟨v, q1, h1, hb1, ha1, o1, k1⟩ := copy_all hp0 (by omega) (by omega)
      obtain ⟨a2, h2, ia2, st2, o2, k2, len2⟩ := o1.store hi pl
      have hK2 : Keep h.length h h2 := k1.trans k2
      obtain ⟨h3, e3, k3⟩ := specGapOf_calls g lf n hn r c pl o2.int (by simp; omega) (by simp; omega) hlf
      have hK3 : Keep h.length h h3 := hK2.trans (k3.mono hK2.1)
      have f5 : binP Tryd.prog .sub 3 (.int .i64 G) (.int .i64 1) = some (.int .i64 (G - 1)) := by rw [bin_sub, wr (by omega)]
      have f6 : binP Tryd.prog .eql 3 (.int .i64 (gapL r c (xs.set i pl) pl)) (.int .i64 (G - 1)) = some (.bool (decide (gapL r c (xs.set i pl) pl = G - 1))) := by rw [bin_eql]; rfl
      have ho3 := ho.keep hK3
      have kb3 : Keep b h h3 := hK3.mono hb'
      by_cases e2 : gapL r c (xs.set i pl) pl = G - 1
      · rw [decide_eq_true e2] at f6
        rw [if_pos ⟨by rw [hgd]; exact e, e2⟩]
        obtain ⟨v4, q4, h4, hb4, ha4, o4, k4⟩ := ho3.append (by have := kb3.1; omega) (i : Int) (by omega)
        obtain ⟨q', h', ih, o', k'⟩ := gc_loop hG hpos hl hn hlf m (i + 1) f q4 (ys ++ [(i : Int)]) h4 b (by omega) (by omega) (by simp; omega) o4 (by have := kb3.1; have := k4.1; omega) (fun h5 hk5 => hp h5 ((kb3.trans k4).trans hk5))
        refine ⟨q', h', ?_, by simpa using o', (kb3.trans k4).trans k'⟩
        rw [loopK_succ, spec_GapCells.body0_eq]
        unfold spec_GapCells.body0
        refine bd hp0.len' (bd f1 (gd rfl (bd rfl (gd rfl (bd (congrArg (pv _) f0) (bd (v := PV.bool true) rfl (cdT (bd ha (bd hla (bd f2 (cdF ?_)))))))))))
        exact bd hb1 (bd ha1 (bd ia2 (bd st2 (bd e3 (bd f5 (bd f6 (cdT (bd hb4 (bd ha4 (bd f4 ih))))))))))
      · rw [decide_eq_false e2] at f6
        rw [if_neg (fun h => e2 h.2)]
        obtain ⟨q', h', ih, o', k'⟩ := gc_loop hG hpos hl hn hlf m (i + 1) f q ys h3 b (by omega) (by omega) (by omega) ho3 (by have := kb3.1; omega) (fun h5 hk5 => hp h5 (kb3.trans hk5))
        refine ⟨q', h', ?_, o', kb3.trans k'⟩
        rw [loopK_succ, spec_GapCells.body0_eq]
        unfold spec_GapCells.body0
        refine bd hp0.len' (bd f1 (gd rfl (bd rfl (gd rfl (bd (congrArg (pv _) f0) (bd (v := PV.bool true) rfl (cdT (bd ha (bd hla (bd f2 (cdF ?_)))))))))))
        exact bd hb1 (bd ha1 (bd ia2 (bd st2 (bd e3 (bd f5 (bd f6 (cdF (bd f4 ih))))))))
    · rw [decide_eq_false e, Bool.not_false] at f2
      rw [if_neg (fun h => e (by rw [← hgd]; exact h.1))]
      obtain ⟨q', h', ih, o', k'⟩ := gc_loop hG hpos hl hn hlf m (i + 1) f q ys h b (by omega) (by omega) (by omega) ho hb' hp
      refine ⟨q', h', ?_, o', k'⟩
      rw [loopK_succ, spec_GapCells.body0_eq]
      unfold spec_GapCells.body0
      exact bd hp0.len' (bd f1 (gd rfl (bd rfl (gd rfl (bd (congrArg (pv _) f0) (bd (v := PV.bool true) rfl (cdT (bd ha (bd hla (bd f2 (cdT (bd f4 ih))))))))))))

theorem specGapCells_calls {xs : List Int} {p : PV} {h : PHeap} (N : Nat) (hN : 5 ≤ N) (r c pl : Int) (hp : IntSl .i64 h p xs) (hl : xs.length ≤ 2 ^ 35) (hf : xs.length < lf) (hlf : 1000 < lf) :
    ∃ q h', CL g lf N fn_spec_GapCells [.int .i64 r, .int .i64 c, p, .int .i64 pl] h = some (q, h') ∧ OwnSl h.length h' q (gapCellsL r c xs pl) ∧ Keep h.length h h' := by
  obtain ⟨n, rfl⟩ : ∃ n, N = n + 1 := ⟨N - 1, by omega⟩
  rw [spec_GapCells.call_eq]
  obtain ⟨q0, h0, e0, o0, k0⟩ := empty_lit (h := h)
  have hp0 := hp.keep k0
  obtain ⟨h1, e1, k1⟩ := specGapOf_calls g lf n (by omega) r c pl hp0 hl hf hlf
  have o1 := o0.keep k1
  have kk : Keep h.length h h1 := k0.trans (k1.mono k0.1)
  unfold gapCellsL
  by_cases hpos : 0 < gapL r c xs pl
  · have h9 : xs.length ≤ 9 := by
      cases hbp : (posB r c xs && playerB pl) with
      | false => unfold gapL at hpos; rw [hbp] at hpos; simp at hpos
      | true =>
        rw [Bool.and_eq_true] at hbp
        obtain ⟨R, C, hS⟩ := sides_of hbp.1
        obtain ⟨_, _, _, _, _, _, h9, hlen, _⟩ := hS
        omega
    rw [if_pos hpos]
    obtain ⟨q', h', e, o, k⟩ := gc_loop g lf n rfl hpos h9 (by omega) hlf xs.length 0 lf q0 [] h1 h.length (by omega) hf (by simp) o1 kk.1 (fun h' hk => hp.keep (kk.trans hk))
    rw [gcFrom_eq] at o
    refine ⟨q', h', ?_, by rw [List.range_eq_range']; simpa using o, kk.trans k⟩
    unfold spec_GapCells.main
    exact bd e0 (bd e1 e)
  · rw [if_neg hpos]
    refine ⟨q0, h1, ?_, o1, kk⟩
    obtain ⟨f, rfl⟩ : ∃ f, lf = f + 1 := ⟨lf - 1, by omega⟩
    have hp1 := hp.keep kk
    have f1 : binP Tryd.prog .lss 3 (.int .i64 0) (.int .i64 (xs.length : Int)) = some (.bool (decide ((0 : Int) < xs.length))) := bin_lss
    have f0 : binP Tryd.prog .gtr 3 (.int .i64 (gapL r c xs pl)) (.int .i64 0) = some (.bool false) := by rw [bin_gtr, decide_eq_false hpos]
    unfold spec_GapCells.main
    refine bd e0 (bd e1 ?_)
    rw [env_lf, loopK_succ, spec_GapCells.body0_eq]
    unfold spec_GapCells.body0
    refine bd hp1.len' (bd f1 ?_)
    cases hz : decide ((0 : Int) < xs.length) with
    | false =>
      refine gn rfl (bd rfl (gn rfl (bd rfl (bd (v := PV.bool false) rfl (cdF ?_)))))
      rw [kLoop_exit, spec_GapCells.after0_se0_0_1_2_3_9_10_11_26]
      exact bd o1.res rfl
    | true =>
      refine gd rfl (bd rfl (gd rfl (bd (congrArg (pv _) f0) (bd (v := PV.bool false) rfl (cdF ?_)))))
      rw [kLoop_exit, spec_GapCells.after0_se0_0_1_2_3_9_10_11_26]
      exact bd o1.res rfl

end Go.Proofs.YtiflfnlpkhghpaaDoor
