/- Promise 7: neighbours are one step apart. -/
import Derived.Test.YtaajbolfmhhdcaaDoorN4
namespace Go.Proofs.YtaajbolfmhhdcaaDoor
open Go Go.Ip G

variable (g : Nat → PV) (lf n : Nat)

theorem drawFar_calls {p : PV} {xs : List Int} {h : PHeap} (N : Nat) (hN : 5 ≤ N) (ha : Arg h p xs) :
    ∃ (r c a b : Int) (h' : PHeap), CL g lf N fn_spec_DrawCellsFar [p] h = some (.tup [.int .i64 r, .int .i64 c, .int .i64 a, .int .i64 b], h') ∧ Keep h.length h h' := by
  obtain ⟨n, rfl⟩ : ∃ n, N = n + 1 := ⟨N - 1, by omega⟩
  rw [spec_DrawCellsFar.call_eq]
  obtain ⟨h1, e1, r1, k1⟩ := open_calls g lf n (by omega) ha
  obtain ⟨r, c, h2, e2, r2, k2, b1, b2, b3, b4⟩ := board_calls g lf n (by omega) 14 r1 (by omega) (by omega) (by omega)
  have hm := mul_bound b1 b2 b3 b4
  have f1 : binP Tryd.prog .mul 3 (.int .i64 r) (.int .i64 c) = some (.int .i64 (r * c)) := by rw [bin_mul, wr (by omega)]
  obtain ⟨M, hM⟩ : ∃ M : Int, M = if (1 : Int) > r * c then 1 else r * c := ⟨_, rfl⟩
  have hM1 : 1 ≤ M ∧ M ≤ 25 := by rw [hM]; split <;> omega
  have f2 : foldP maxP2 (.int .i64 (r * c)) [.int .i64 1] = some (.int .i64 M) := by rw [hM]; rfl
  obtain ⟨v1, h3, e3, r3, o3, a1, a2, _⟩ := pick_calls g lf n (by omega) M r2 (by omega) (by omega)
  obtain ⟨v2, h4, e4, r4, o4, c1, c2, _⟩ := pick_calls g lf n (by omega) 40 r3 (by omega) (by omega)
  obtain ⟨v3, h5, e5, r5, o5, d1, d2, _⟩ := pick_calls g lf n (by omega) M r4 (by omega) (by omega)
  obtain ⟨v4, h6, e6, r6, o6, i1, i2, _⟩ := pick_calls g lf n (by omega) 40 r5 (by omega) (by omega)
  have a2' := a2 hM1.1
  have d2' := d2 hM1.1
  obtain ⟨q2, q2a, q2b⟩ := quo_39 c1 (c2 (by omega))
  obtain ⟨q4, q4a, q4b⟩ := quo_39 i1 (i2 (by omega))
  have f3 : binP Tryd.prog .mul 3 (.int .i64 (v2.tdiv 39)) (.int .i64 9) = some (.int .i64 (v2.tdiv 39 * 9)) := by rw [bin_mul, wr (by omega)]
  have f4 : binP Tryd.prog .add 3 (.int .i64 v1) (.int .i64 (v2.tdiv 39 * 9)) = some (.int .i64 (v1 + v2.tdiv 39 * 9)) := by rw [bin_add, wr (by omega)]
  have f5 : binP Tryd.prog .mul 3 (.int .i64 (v4.tdiv 39)) (.int .i64 9) = some (.int .i64 (v4.tdiv 39 * 9)) := by rw [bin_mul, wr (by omega)]
  have f6 : binP Tryd.prog .sub 3 (.int .i64 v3) (.int .i64 (v4.tdiv 39 * 9)) = some (.int .i64 (v3 - v4.tdiv 39 * 9)) := by rw [bin_sub, wr (by omega)]
  have K2 : Keep h.length h1 h2 := k2.keep k1.1
  refine ⟨r, c, v1 + v2.tdiv 39 * 9, v3 - v4.tdiv 39 * 9, h6, ?_, ((((k1.trans K2).trans o3.keep).trans o4.keep).trans o5.keep).trans o6.keep⟩
  unfold spec_DrawCellsFar.main
  exact bd e1 (bd e2 (bd extract_tup (bd extract_tup (bd f1 (bd f2 (bd e3 (bd e4 (bd q2 (bd f3 (bd f4 (bd e5 (bd e6 (bd q4 (bd f5 (bd f6 (bd res_int (bd res_int (bd res_int (bd res_int rfl)))))))))))))))))))

theorem farL_cell {r c a b : Int} {R C A B : Nat} (ha : CellOf r c a R C A) (hb : CellOf r c b R C B) : farL r c a b = farS C A B := by
  have e1 : cellB r c a = true := by
    obtain ⟨rfl, rfl, rfl, h1, h2, h3, h4, h9, hK⟩ := ha
    unfold cellB boardB
    have e : ((R : Int) * (C : Int)) = ((R * C : Nat) : Int) := by rw [Int.natCast_mul]
    rw [decide_eq_true ⟨by omega, by omega, by omega, by omega, by omega⟩, decide_eq_true ⟨by omega, by omega⟩]; rfl
  have e2 : cellB r c b = true := by
    obtain ⟨rfl, rfl, rfl, h1, h2, h3, h4, h9, hK⟩ := hb
    unfold cellB boardB
    have e : ((R : Int) * (C : Int)) = ((R * C : Nat) : Int) := by rw [Int.natCast_mul]
    rw [decide_eq_true ⟨by omega, by omega, by omega, by omega, by omega⟩, decide_eq_true ⟨by omega, by omega⟩]; rfl
  unfold farL
  rw [e1, e2, Bool.and_self, if_pos rfl, ha.2.1, ha.2.2.1, hb.2.2.1]; rfl

theorem fnFar_loop {r c a b : Int} {R C A B : Nat} (hA : CellOf r c a R C A) (hB : CellOf r c b R C B) (hn : 7 ≤ n) (hlf : 20 < lf) {p : PV} : ∀ (m i fuel : Nat) (x : Int) (h : PHeap), i + m = (nearN R C A).length → m < fuel → leastFrom C B x ((nearN R C A).drop i) = leastFrom C B 100 (nearN R C A) →
    IntSl .i64 h p (nearN R C A) → Tab g h →
    ∃ h', loopK (ev ((env g lf n).cx Tryd.prog laws_FnCellsFar.kl) laws_FnCellsFar.lp0) fuel (laws_FnCellsFar.st0 (.int .i64 r) (.int .i64 c) (.int .i64 a) (.int .i64 b) (.int .i64 (farS C A B)) p (.int .i64 x) (.int .i64 (i : Int)) h) (laws_FnCellsFar.K0 (env g lf n) (kTop Tryd.prog Tryd.f4)) = some (.bool true, h')
  | 0, i, fuel, x, h, him, hf, hx, hp, ht => by
    obtain ⟨f, rfl⟩ : ∃ f, fuel = f + 1 := ⟨fuel - 1, by omega⟩
    obtain ⟨hr, hc, ha, h1, h2, h3, h4, h9, hlA⟩ := id hA
    obtain ⟨_, _, hb, _, _, _, _, _, hlB⟩ := id hB
    have hok := far_ok h1 h2 h3 h4 h9 hlA hlB
    unfold farOk at hok
    simp only [Bool.and_eq_true, decide_eq_true_eq, beq_iff_eq] at hok
    obtain ⟨⟨⟨⟨⟨⟨k1, k2⟩, k3⟩, k4⟩, k5⟩, k6⟩, k7⟩ := hok
    rw [List.drop_eq_nil_of_le (by omega), leastFrom] at hx
    rw [← hx] at k7
    have hl6 := nearN_length R C A
    obtain ⟨h', eF, kF⟩ := cellsFar_calls g lf n (by omega) hlf ht r c b a
    rw [farL_cell hB hA, k3] at eF
    have hp' := hp.keep kF
    have eH := hasInt_N g lf n (by omega) b hp' (by omega) (by omega)
    rw [hb] at eH
    rw [← k6, ← hb] at eH
    have e5 := alive_calls g lf n (by omega) h'
    obtain ⟨v, hv⟩ : ∃ v, v = farS C A B := ⟨_, rfl⟩
    rw [← hv] at eF k2 k5 k7 eH ⊢
    have g0 : binP Tryd.prog .lss 3 (.int .i64 (i : Int)) (.int .i64 ((nearN R C A).length : Int)) = some (.bool false) := by rw [bin_lss, decide_eq_false (by omega)]
    have g1 : binP Tryd.prog .eql 3 (.int .i64 v) (.int .i64 v) = some (.bool true) := by rw [bin_eql]; simp
    have g2 : binP Tryd.prog .eql 3 (.int .i64 v) (.int .i64 0) = some (.bool (decide (v = 0))) := by rw [bin_eql]; rfl
    have g3 : binP Tryd.prog .eql 3 (.int .i64 a) (.int .i64 b) = some (.bool (decide (v = 0))) := by rw [bin_eql, ha, hb, natEq, k5]
    have g4 : binP Tryd.prog .eql 4 (.bool (decide (v = 0))) (.bool (decide (v = 0))) = some (.bool true) := by rw [eqlB]; simp
    have g5 : binP Tryd.prog .eql 3 (.int .i64 v) (.int .i64 1) = some (.bool (decide (v = 1))) := by rw [bin_eql]; rfl
    have g6 : binP Tryd.prog .eql 4 (.bool (decide (v = 1))) (.bool (decide (v = 1))) = some (.bool true) := by rw [eqlB]; simp
    have g7 : binP Tryd.prog .sub 3 (.int .i64 v) (.int .i64 1) = some (.int .i64 (v - 1)) := f_sub v 1 (by omega)
    have g8 : binP Tryd.prog .eql 3 (.int .i64 x) (.int .i64 (v - 1)) = some (.bool (decide (x = v - 1))) := by rw [bin_eql]; rfl
    refine ⟨h', ?_⟩
    rw [loopK_succ, laws_FnCellsFar.body0_eq]
    unfold laws_FnCellsFar.body0
    refine bd hp.len' (bd g0 (cdF ?_))
    rw [kLoop_exit, laws_FnCellsFar.after0_se0_3_4_5_6_7_8_9_10_48]
    refine bd eF (bd g1 (gd rfl (bd rfl (gd rfl (bd (congrArg (pv _) g2) (gd rfl (bd rfl (gd rfl (bd rfl (gd rfl (bd (congrArg (pv _) g3) (gd rfl (bd (congrArg (pv _) g4) (bd (v := PV.bool true) rfl ?_))))))))))))))
    refine gd rfl (bd rfl (gd rfl (bd (congrArg (pv _) g5) (gd rfl (bd rfl (gd rfl (bd rfl (gd rfl (bd eH (gd rfl (bd (congrArg (pv _) g6) (bd (v := PV.bool true) rfl ?_))))))))))))
    refine gd rfl (bd rfl (gd rfl (bd (congrArg (pv _) g2) (gd rfl (bd rfl ?_)))))
    by_cases hz : v = 0
    · rw [decide_eq_true hz]
      refine gn rfl (bd rfl (gn rfl (bd rfl (gn rfl (bd rfl (gn rfl (bd rfl (gd rfl (bd (v := (PV.bool true, h')) rfl (bd (v := PV.bool true) rfl ?_))))))))))
      exact gd rfl (bd e5 (bd (v := PV.bool true) rfl (bd res_bool rfl)))
    · have hxv : x = v - 1 := by
        rw [decide_eq_false hz, Bool.false_or] at k7
        exact of_decide_eq_true k7
      rw [decide_eq_true hxv] at g8
      rw [decide_eq_false hz]
      refine gd rfl (bd rfl (gd rfl (bd rfl (gd rfl (bd (congrArg (pv _) g7) (gd rfl (bd (congrArg (pv _) g8) (gd rfl (bd (v := (PV.bool true, h')) rfl (bd (v := PV.bool true) rfl ?_))))))))))
      exact gd rfl (bd e5 (bd (v := PV.bool true) rfl (bd res_bool rfl)))
  | m + 1, i, fuel, x, h, him, hf, hx, hp, ht => by
    obtain ⟨f, rfl⟩ : ∃ f, fuel = f + 1 := ⟨fuel - 1, by omega⟩
    obtain ⟨hr, hc, ha, h1, h2, h3, h4, h9, hlA⟩ := id hA
    obtain ⟨_, _, hb, _, _, _, _, _, hlB⟩ := id hB
    have hok := far_ok h1 h2 h3 h4 h9 hlA hlB
    unfold farOk at hok
    simp only [Bool.and_eq_true, decide_eq_true_eq, beq_iff_eq] at hok
    obtain ⟨⟨⟨⟨⟨⟨k1, k2⟩, k3⟩, k4⟩, k5⟩, k6⟩, k7⟩ := hok
    have hi : i < (nearN R C A).length := by omega
    have hl6 := nearN_length R C A
    obtain ⟨ad, hia, hla⟩ := hp.at' hi
    have hmem := List.getElem_mem hi
    have hin := near_in h1 h2 h3 h4 h9 hlA _ hmem
    have hk4 := List.all_eq_true.1 k4 _ hmem
    rw [decide_eq_true_eq] at hk4
    obtain ⟨E, hE⟩ := Int.eq_ofNat_of_zero_le hin.1
    rw [hE] at hla hk4
    rw [show ((E : Int).toNat) = E from rfl] at hk4
    have hcE : CellOf r c (E : Int) R C E := ⟨hr, hc, rfl, h1, h2, h3, h4, h9, by omega⟩
    have hdx : (nearN R C A).drop i = (nearN R C A)[i] :: (nearN R C A).drop (i + 1) := List.drop_eq_getElem_cons hi
    rw [hdx, leastFrom, hE, show ((E : Int).toNat) = E from rfl] at hx
    obtain ⟨h', eF, kF⟩ := cellsFar_calls g lf n (by omega) hlf ht r c (E : Int) b
    rw [farL_cell hcE hB] at eF
    obtain ⟨h'', ih⟩ := fnFar_loop hA hB hn hlf m (i + 1) f _ h' (by omega) (by omega) hx (hp.keep kF) (ht.keep kF)
    obtain ⟨v, hv⟩ : ∃ v, v = farS C A B := ⟨_, rfl⟩
    obtain ⟨y, hy⟩ : ∃ y, y = farS C E B := ⟨_, rfl⟩
    rw [← hv] at k2 hk4 ih ⊢
    rw [← hy] at hk4 ih eF
    have g0 : binP Tryd.prog .lss 3 (.int .i64 (i : Int)) (.int .i64 ((nearN R C A).length : Int)) = some (.bool true) := by rw [bin_lss, decide_eq_true (by omega)]
    have g1 : binP Tryd.prog .add 3 (.int .i64 v) (.int .i64 1) = some (.int .i64 (v + 1)) := f_addI v 1 (by omega)
    have g2 : binP Tryd.prog .gtr 3 (.int .i64 y) (.int .i64 (v + 1)) = some (.bool false) := by rw [bin_gtr, decide_eq_false (by omega)]
    have g3 : binP Tryd.prog .sub 3 (.int .i64 v) (.int .i64 1) = some (.int .i64 (v - 1)) := f_sub v 1 (by omega)
    have g4 : binP Tryd.prog .lss 3 (.int .i64 y) (.int .i64 (v - 1)) = some (.bool false) := by rw [bin_lss, decide_eq_false (by omega)]
    have g5 : foldP minP2 (.int .i64 x) [.int .i64 y] = some (.int .i64 (if y < x then y else x)) := rfl
    have g6 : binP Tryd.prog .add 3 (.int .i64 (i : Int)) (.int .i64 1) = some (.int .i64 ((i + 1 : Nat) : Int)) := by rw [bin_add, nx (by omega)]
    refine ⟨h'', ?_⟩
    rw [loopK_succ, laws_FnCellsFar.body0_eq]
    unfold laws_FnCellsFar.body0
    refine bd hp.len' (bd g0 (cdT (bd hia (bd hla (bd eF (bd g1 (bd g2 ?_)))))))
    refine gd rfl (bd rfl (gd rfl (bd rfl (gd rfl (bd (congrArg (pv _) g3) (gd rfl (bd (congrArg (pv _) g4) (bd (v := PV.bool false) rfl (cdF ?_)))))))))
    exact bd g5 (bd g6 ih)

theorem fnCellsFar_calls {p : PV} {xs : List Int} {h : PHeap} (N : Nat) (hN : 8 ≤ N) (ha : Arg h p xs) (hlf : 20 < lf) (ht : Tab g h) :
    ∃ h', CL g lf N fn_laws_FnCellsFar [p] h = some (.bool true, h') := by
  obtain ⟨n, rfl⟩ : ∃ n, N = n + 1 := ⟨N - 1, by omega⟩
  rw [laws_FnCellsFar.call_eq]
  have hlenp : lenP Tryd.prog 22 p = some (.int .i64 xs.length) := (ha.1 h (Keep.refl _ _)).len tyB
  by_cases hbig : (1048576 : Int) < (xs.length : Int)
  · refine ⟨h, ?_⟩
    unfold laws_FnCellsFar.main
    have f0 : binP Tryd.prog .gtr 3 (.int .i64 (xs.length : Int)) (.int .i64 1048576) = some (.bool true) := by rw [bin_gtr, decide_eq_true hbig]
    exact bd hlenp (bd f0 (cdT (bd res_bool rfl)))
  · obtain ⟨r, c, a, b, h1, e1, k1⟩ := drawFar_calls g lf n (by omega) ha
    have f0 : binP Tryd.prog .gtr 3 (.int .i64 (xs.length : Int)) (.int .i64 1048576) = some (.bool false) := by rw [bin_gtr, decide_eq_false hbig]
    have t1 := ht.keep k1
    obtain ⟨h2, e2, k2⟩ := cellsFar_calls g lf n (by omega) hlf t1 r c a b
    have t2 := t1.keep k2
    have e3 := specCellsFar_calls g lf n (by omega) (h := h2) r c a b
    have f1 : binP Tryd.prog .neq 3 (.int .i64 (farL r c a b)) (.int .i64 (farL r c a b)) = some (.bool false) := by rw [bin_neq]; simp
    cases hab : (cellB r c a && cellB r c b) with
    | false =>
      have hfl : farL r c a b = -1 := by unfold farL; rw [hab]; rfl
      have e5 := alive_calls g lf n (by omega) h2
      rw [hfl] at e2 e3 f1
      have f2 : binP Tryd.prog .lss 3 (.int .i64 (-1)) (.int .i64 0) = some (.bool true) := by rw [bin_lss]; rfl
      have f3 : binP Tryd.prog .eql 3 (.int .i64 (-1)) (.int .i64 (-1)) = some (.bool true) := by rw [bin_eql]; rfl
      refine ⟨h2, ?_⟩
      unfold laws_FnCellsFar.main
      refine bd hlenp (bd f0 (cdF (bd e1 (bd extract_tup (bd extract_tup (bd extract_tup (bd extract_tup (bd e2 (bd e3 (bd f1 (cdF ?_)))))))))))
      exact bd f2 (cdT (bd f3 (gd rfl (bd e5 (bd (v := PV.bool true) rfl (bd res_bool rfl))))))
    | true =>
      rw [Bool.and_eq_true] at hab
      obtain ⟨R, C, A, hA⟩ := cell_of hab.1
      obtain ⟨R', C', B, hB⟩ := cell_of hab.2
      obtain rfl : R' = R := by have := hA.1; have := hB.1; omega
      obtain rfl : C' = C := by have := hA.2.1; have := hB.2.1; omega
      have hfl := farL_cell hA hB
      obtain ⟨_, _, _, s1, s2, s3, s4, s9, sA⟩ := id hA
      have hok := far_ok s1 s2 s3 s4 s9 sA hB.2.2.2.2.2.2.2.2
      unfold farOk at hok
      simp only [Bool.and_eq_true, decide_eq_true_eq] at hok
      have hpos := hok.1.1.1.1.1.2
      rw [hfl] at e2 e3 f1
      have f2 : binP Tryd.prog .lss 3 (.int .i64 (farS C' A B)) (.int .i64 0) = some (.bool false) := by rw [bin_lss, decide_eq_false (by omega)]
      obtain ⟨q, h3, e4, o4, k4⟩ := nearCells_calls g lf n (by omega) hlf t2 r c a
      rw [nearL_cell hA] at o4
      obtain ⟨h4, e5⟩ := fnFar_loop g lf n hA hB (by omega) hlf (nearN R' C' A).length 0 lf 100 h3 (by omega) (by have := nearN_length R' C' A; omega) rfl o4.int (t2.keep k4)
      refine ⟨h4, ?_⟩
      unfold laws_FnCellsFar.main
      refine bd hlenp (bd f0 (cdF (bd e1 (bd extract_tup (bd extract_tup (bd extract_tup (bd extract_tup (bd e2 (bd e3 (bd f1 (cdF ?_)))))))))))
      exact bd f2 (cdF (bd e4 e5))

end Go.Proofs.YtaajbolfmhhdcaaDoor
