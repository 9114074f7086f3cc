/- The position that the model draws: at most ten numbers, whatever they are. -/
import Derived.Test.YtiflfnlpkhghpaaDoorP1
namespace Go.Proofs.YtiflfnlpkhghpaaDoor
open Go Go.Ip Go.RowKit G

variable (g : Nat → PV) (lf n : Nat)

theorem mul_bound {r c : Int} (h1 : -1 ≤ r) (h2 : r ≤ 5) (h3 : -1 ≤ c) (h4 : c ≤ 5) : -5 ≤ r * c ∧ r * c ≤ 25 := by
  have : r = -1 ∨ r = 0 ∨ r = 1 ∨ r = 2 ∨ r = 3 ∨ r = 4 ∨ r = 5 := by omega
  rcases this with rfl | rfl | rfl | rfl | rfl | rfl | rfl <;> omega

theorem OwnSl.keepOnly {n id : Nat} {h h' : PHeap} {p : PV} {xs : List Int} (s : OwnSl n h p xs) (hk : Only id (id + 1) h h') (hn : id < n) : OwnSl n h' p xs :=
  s.keepX (m := h.length) hk.x hn (Nat.le_refl _)

theorem pos_loop {id : Nat} {r c k thin : Int} (hr1 : -1 ≤ r) (hr2 : r ≤ 5) (hc1 : -1 ≤ c) (hc2 : c ≤ 5) (hn : 1 ≤ n) : ∀ (m i fuel M : Nat) (q : PV) (xs : List Int) (h : PHeap), i + m = 9 → m < fuel → Rd h id M → M + 2 * m ≤ 900000 → OwnSl (id + 1) h q xs → xs.length = i →
    ∃ i' M' q' xs' h' v, M' ≤ M + 2 * m ∧ Rd h' id M' ∧ OwnSl (id + 1) h' q' xs' ∧ xs'.length ≤ 9 ∧ Keep id h h' ∧
      loopK (ev ((env g lf n).cx Tryd.prog spec_l20Position.kl) spec_l20Position.lp0) fuel (spec_l20Position.st0 (.ptr id 0) (.int .i64 k) (.int .i64 r) (.int .i64 c) q (.int .i64 thin) (.int .i64 i) h) (spec_l20Position.K0 (env g lf n) (kTop Tryd.prog Tryd.f57)) =
        spec_l20Position.K0 (env g lf n) (kTop Tryd.prog Tryd.f57) (.exit 0) (spec_l20Position.se0_0_1_7_8_9_10_11_32 (.ptr id 0) (.int .i64 k) (.int .i64 r) (.int .i64 c) q' (.int .i64 thin) (.int .i64 i') v h') := by
  have hb := mul_bound hr1 hr2 hc1 hc2
  have w1 : binP Tryd.prog .mul 3 (.int .i64 r) (.int .i64 c) = some (.int .i64 (r * c)) := by rw [bin_mul, wr (by omega)]
  obtain ⟨X, hX⟩ : ∃ X : Int, foldP maxP2 (.int .i64 (r * c)) [.int .i64 0] = some (.int .i64 X) := ⟨_, rfl⟩
  intro m
  induction m with
  | zero =>
    intro i fuel M q xs h him hf hrd hM ho hl
    obtain ⟨f, rfl⟩ : ∃ f, fuel = f + 1 := ⟨fuel - 1, by omega⟩
    obtain rfl : i = 9 := by omega
    rw [loopK_succ, spec_l20Position.body0_eq]
    unfold spec_l20Position.body0
    refine ⟨9, M, q, xs, h, .bool false, by omega, hrd, ho, by omega, Keep.refl _ _, ?_⟩
    refine bd w1 (bd hX ?_)
    by_cases hlt : ((9 : Nat) : Int) < X
    · have f1 : binP Tryd.prog .lss 3 (.int .i64 ((9 : Nat) : Int)) (.int .i64 X) = some (.bool true) := by rw [bin_lss, decide_eq_true hlt]
      have f2 : binP Tryd.prog .lss 3 (.int .i64 ((9 : Nat) : Int)) (.int .i64 9) = some (.bool false) := by rw [bin_lss]; rfl
      refine bd f1 (bd (want_bool (x := true) (y := true)) (bd (v := (PV.int .i64 ((9 : Nat) : Int), h)) rfl ?_))
      refine bd (want_bool (x := true) (y := true)) (bd (v := (PV.bool false, h)) (congrArg (pv h) f2) (bd (v := PV.bool false) rfl (cdF ?_)))
      rfl
    · have f1 : binP Tryd.prog .lss 3 (.int .i64 ((9 : Nat) : Int)) (.int .i64 X) = some (.bool false) := by rw [bin_lss, decide_eq_false hlt]
      refine bd f1 (bd (want_bool (x := false) (y := true)) (bd (v := (PV.tup [], h)) rfl ?_))
      refine bd (want_bool (x := false) (y := true)) (bd (v := (PV.tup [], h)) rfl (bd (v := PV.bool false) rfl (cdF ?_)))
      rfl
  | succ m ih =>
    intro i fuel M q xs h him hf hrd hM ho hl
    obtain ⟨f, rfl⟩ : ∃ f, fuel = f + 1 := ⟨fuel - 1, by omega⟩
    rw [loopK_succ, spec_l20Position.body0_eq]
    unfold spec_l20Position.body0
    by_cases hlt : (i : Int) < X
    · have f1 : binP Tryd.prog .lss 3 (.int .i64 (i : Int)) (.int .i64 X) = some (.bool true) := by rw [bin_lss, decide_eq_true hlt]
      have f2 : binP Tryd.prog .lss 3 (.int .i64 (i : Int)) (.int .i64 9) = some (.bool true) := by rw [bin_lss, decide_eq_true (by omega)]
      have f3 : binP Tryd.prog .add 3 (.int .i64 (i : Int)) (.int .i64 1) = some (.int .i64 ((i + 1 : Nat) : Int)) := by rw [bin_add, nx (by omega)]
      obtain ⟨what, h1, e1, r1, o1, _⟩ := pick_calls g lf n (by omega) 3 hrd (by omega) (by omega)
      have ho1 := ho.keepOnly o1 (by omega)
      -- either way one number more
      have more : ∀ (y : Int) (h2 : PHeap) (M2 : Nat), M2 ≤ M + 2 → Rd h2 id M2 → OwnSl (id + 1) h2 q xs → Keep id h h2 → ∃ v q2 h3, buildSliceP Tryd.prog 23 1 [(0, .int .i64 y)] h2 = some v ∧ appendP Tryd.prog 23 23 q v.1 v.2 = some (q2, h3) ∧
          ∃ i' M' q' xs' h' u, M' ≤ M + 2 * (m + 1) ∧ Rd h' id M' ∧ OwnSl (id + 1) h' q' xs' ∧ xs'.length ≤ 9 ∧ Keep id h h' ∧
            loopK (ev ((env g lf n).cx Tryd.prog spec_l20Position.kl) spec_l20Position.lp0) f (spec_l20Position.st0 (.ptr id 0) (.int .i64 k) (.int .i64 r) (.int .i64 c) q2 (.int .i64 thin) (.int .i64 ((i + 1 : Nat) : Int)) h3) (spec_l20Position.K0 (env g lf n) (kTop Tryd.prog Tryd.f57)) =
              spec_l20Position.K0 (env g lf n) (kTop Tryd.prog Tryd.f57) (.exit 0) (spec_l20Position.se0_0_1_7_8_9_10_11_32 (.ptr id 0) (.int .i64 k) (.int .i64 r) (.int .i64 c) q' (.int .i64 thin) (.int .i64 i') u h') := by
        intro y h2 M2 hM2 hr2' ho2 hk2
        obtain ⟨v, q2, h3, e2, e3, o3, k3⟩ := ho2.append (by have := hr2'.lt; omega) y (by omega)
        obtain ⟨i', M', q', xs', h', u, a1, a2, a3, a4, a5, a6⟩ := ih (i + 1) f M2 q2 (xs ++ [y]) h3 (by omega) (by omega) (hr2'.keep k3 (by omega)) (by omega) o3 (by simp; omega)
        exact ⟨v, q2, h3, e2, e3, i', M', q', xs', h', u, by omega, a2, a3, a4, (hk2.trans (k3.mono (by omega))).trans a5, a6⟩
      by_cases ht : (0 : Int) < thin
      · obtain ⟨w, h2, e2, r2, o2, _⟩ := pick_calls g lf n (by omega) 4 r1 (by omega) (by omega)
        have ho2 := ho1.keepOnly o2 (by omega)
        have g1 : binP Tryd.prog .gtr 3 (.int .i64 thin) (.int .i64 0) = some (.bool true) := by rw [bin_gtr, decide_eq_true ht]
        by_cases hw : w < thin
        · have g2 : binP Tryd.prog .lss 3 (.int .i64 w) (.int .i64 thin) = some (.bool true) := by rw [bin_lss, decide_eq_true hw]
          obtain ⟨v, q2, h3, b1, b2, i', M', q', xs', h', u, a1, a2, a3, a4, a5, a6⟩ := more 0 h2 (M + 1 + 1) (by omega) r2 ho2 (o1.keep.trans o2.keep)
          refine ⟨i', M', q', xs', h', u, a1, a2, a3, a4, a5, ?_⟩
          refine bd w1 (bd hX (bd f1 (bd (want_bool (x := true) (y := true)) (bd (v := (PV.int .i64 (i : Int), h)) rfl ?_))))
          refine bd (want_bool (x := true) (y := true)) (bd (v := (PV.bool true, h)) (congrArg (pv h) f2) (bd (v := PV.bool true) rfl (cdT ?_)))
          refine bd e1 (bd g1 (bd (want_bool (x := true) (y := true)) (bd (v := (PV.ptr id 0, h1)) rfl (bd (want_bool (x := true) (y := true)) (bd e2 ?_)))))
          refine bd (want_bool (x := true) (y := true)) (bd (v := (PV.int .i64 thin, h2)) rfl (bd (want_bool (x := true) (y := true)) (bd (v := (PV.bool true, h2)) (congrArg (pv h2) g2) (bd (v := PV.bool true) rfl (cdT ?_)))))
          exact bd b1 (bd b2 (bd f3 a6))
        · have g2 : binP Tryd.prog .lss 3 (.int .i64 w) (.int .i64 thin) = some (.bool false) := by rw [bin_lss, decide_eq_false hw]
          obtain ⟨v, q2, h3, b1, b2, i', M', q', xs', h', u, a1, a2, a3, a4, a5, a6⟩ := more what h2 (M + 1 + 1) (by omega) r2 ho2 (o1.keep.trans o2.keep)
          refine ⟨i', M', q', xs', h', u, a1, a2, a3, a4, a5, ?_⟩
          refine bd w1 (bd hX (bd f1 (bd (want_bool (x := true) (y := true)) (bd (v := (PV.int .i64 (i : Int), h)) rfl ?_))))
          refine bd (want_bool (x := true) (y := true)) (bd (v := (PV.bool true, h)) (congrArg (pv h) f2) (bd (v := PV.bool true) rfl (cdT ?_)))
          refine bd e1 (bd g1 (bd (want_bool (x := true) (y := true)) (bd (v := (PV.ptr id 0, h1)) rfl (bd (want_bool (x := true) (y := true)) (bd e2 ?_)))))
          refine bd (want_bool (x := true) (y := true)) (bd (v := (PV.int .i64 thin, h2)) rfl (bd (want_bool (x := true) (y := true)) (bd (v := (PV.bool false, h2)) (congrArg (pv h2) g2) (bd (v := PV.bool false) rfl (cdF ?_)))))
          exact bd b1 (bd b2 (bd f3 a6))
      · have g1 : binP Tryd.prog .gtr 3 (.int .i64 thin) (.int .i64 0) = some (.bool false) := by rw [bin_gtr, decide_eq_false ht]
        obtain ⟨v, q2, h3, b1, b2, i', M', q', xs', h', u, a1, a2, a3, a4, a5, a6⟩ := more what h1 (M + 1) (by omega) r1 ho1 o1.keep
        refine ⟨i', M', q', xs', h', u, a1, a2, a3, a4, a5, ?_⟩
        refine bd w1 (bd hX (bd f1 (bd (want_bool (x := true) (y := true)) (bd (v := (PV.int .i64 (i : Int), h)) rfl ?_))))
        refine bd (want_bool (x := true) (y := true)) (bd (v := (PV.bool true, h)) (congrArg (pv h) f2) (bd (v := PV.bool true) rfl (cdT ?_)))
        refine bd e1 (bd g1 (bd (want_bool (x := false) (y := true)) (bd (v := (PV.tup [], h1)) rfl (bd (want_bool (x := false) (y := true)) (bd (v := (PV.tup [], h1)) rfl ?_)))))
        refine bd (want_bool (x := false) (y := true)) (bd (v := (PV.tup [], h1)) rfl (bd (want_bool (x := false) (y := true)) (bd (v := (PV.tup [], h1)) rfl (bd (v := PV.bool false) rfl (cdF ?_)))))
        exact bd b1 (bd b2 (bd f3 a6))
    · have f1 : binP Tryd.prog .lss 3 (.int .i64 (i : Int)) (.int .i64 X) = some (.bool false) := by rw [bin_lss, decide_eq_false hlt]
      refine ⟨i, M, q, xs, h, .bool false, by omega, hrd, ho, by omega, Keep.refl _ _, ?_⟩
      refine bd w1 (bd hX (bd f1 (bd (want_bool (x := false) (y := true)) (bd (v := (PV.tup [], h)) rfl ?_))))
      refine bd (want_bool (x := false) (y := true)) (bd (v := (PV.tup [], h)) rfl (bd (v := PV.bool false) rfl (cdF ?_)))
      rfl

theorem tab2 (h : PHeap) : buildSliceP Tryd.prog 23 2 [(0, .int .i64 (-1)), (1, .int .i64 3)] h = some (.sl h.length 0 2, h ++ [.own 1 [.int .i64 (-1), .int .i64 3]]) := by
  have := lit2 h [] (-1) 3
  simpa using this

theorem position_calls {h : PHeap} {id m : Nat} (N : Nat) (hN : 4 ≤ N) (k : Int) (hr : Rd h id m) (hm : m ≤ 800000) (hk : k ≤ 400000) (hk0 : 1 ≤ k) (hlf : 20 < lf) :
    ∃ (r c : Int) (q : PV) (xs : List Int) (h' : PHeap), CL g lf N fn_spec_l20Position [.ptr id 0, .int .i64 k] h = some (.tup [.int .i64 r, .int .i64 c, q], h') ∧ Rd h' id (m + 30) ∧ Keep id h h' ∧ OwnSl (id + 1) h' q xs ∧ xs.length ≤ 10 ∧ -1 ≤ r ∧ r ≤ 5 ∧ -1 ≤ c ∧ c ≤ 5 := by
  obtain ⟨n, rfl⟩ : ∃ n, N = n + 1 := ⟨N - 1, by omega⟩
  rw [spec_l20Position.call_eq]
  have wk : binP Tryd.prog .mul 3 (.int .i64 k) (.int .i64 2) = some (.int .i64 (k * 2)) := by rw [bin_mul, wr (by omega)]
  obtain ⟨r, c, h1, e1, r1, k1, hr1, hr2, hc1, hc2⟩ := board_calls g lf n (by omega) (k * 2) hr (by omega) (by omega) (by omega)
  obtain ⟨q0, h2, e2, o2, k2⟩ := empty_lit (h := h1)
  have r2 := r1.keep k2 r1.lt
  have o2' : OwnSl (id + 1) h2 q0 [] := o2.mono (by have := r1.lt; omega)
  obtain ⟨thin, h3, e3, r3, o3, _⟩ := pick_calls g lf n (by omega) 4 r2 (by omega) (by omega)
  have o3' := o2'.keepOnly o3 (by omega)
  obtain ⟨i', M', q', xs', h4, u, hM', r4, o4, hl4, k4, hloop⟩ := pos_loop g lf n (k := k) (thin := thin) hr1 hr2 hc1 hc2 (by omega) 9 0 lf _ q0 [] h3 (by omega) (by omega) r3 (by omega) o3' rfl
  have K4 : Keep id h h4 := ((k1.keep (by exact Nat.le_of_lt hr.lt)).trans ((k2.mono (by exact Nat.le_of_lt r1.lt)).trans o3.keep)).trans k4
  obtain ⟨b, h5, e5, r5, o5⟩ := odd_calls g lf n (by omega) (k * 2) r4 (by omega) (by omega) (by omega)
  have o5' := o4.keepOnly o5 (by omega)
  have K5 : Keep id h h5 := K4.trans o5.keep
  have pre : ∀ {z : PV × PHeap}, spec_l20Position.K0 (env g lf n) (kTop Tryd.prog Tryd.f57) (.exit 0) (spec_l20Position.se0_0_1_7_8_9_10_11_32 (.ptr id 0) (.int .i64 k) (.int .i64 r) (.int .i64 c) q' (.int .i64 thin) (.int .i64 i') u h4) = some z →
      spec_l20Position.main (env g lf n) (.ptr id 0) (.int .i64 k) h = some z := by
    intro z hz
    unfold spec_l20Position.main
    refine bd wk (bd e1 (bd (v := PV.int .i64 r) rfl (bd (v := PV.int .i64 c) rfl (bd e2 (bd e3 ?_)))))
    exact hloop.trans hz
  cases b with
  | false =>
    refine ⟨r, c, q', xs', h5, pre ?_, r5.mono (by omega), K5, o5', by omega, hr1, hr2, hc1, hc2⟩
    rw [spec_l20Position.after0_se0_0_1_7_8_9_10_11_32]
    exact bd wk (bd e5 (cdF (bd res_int (bd res_int (bd o5'.res rfl)))))
  | true =>
    obtain ⟨w, h6, e6, r6, o6, w0, w1, _⟩ := pick_calls g lf n (by omega) 2 r5 (by omega) (by omega)
    have o6' := o5'.keepOnly o6 (by omega)
    have K6 : Keep id h h6 := K5.trans o6.keep
    by_cases hw : w = 0
    · subst hw
      obtain ⟨v, q7, h7, e7, e8, o7, k7⟩ := o6'.append (by have := r6.lt; omega) 0 (by omega)
      refine ⟨r, c, q7, xs' ++ [0], h7, pre ?_, (r6.keep k7 (by omega)).mono (by omega), K6.trans (k7.mono (by omega)), o7, by simp; omega, hr1, hr2, hc1, hc2⟩
      rw [spec_l20Position.after0_se0_0_1_7_8_9_10_11_32]
      refine bd wk (bd e5 (cdT (bd e6 (bd (v := PV.bool true) (by simp) (cdT ?_)))))
      exact bd e7 (bd e8 (bd res_int (bd res_int (bd o7.res rfl))))
    · have hne : binP Tryd.prog .eql 3 (.int .i64 w) (.int .i64 0) = some (.bool false) := by rw [bin_eql]; simp [hw]
      have hlen := o6'.int.len'
      by_cases hl : (0 : Int) < (xs'.length : Int)
      · have hgt : binP Tryd.prog .gtr 3 (.int .i64 (xs'.length : Int)) (.int .i64 0) = some (.bool true) := by rw [bin_gtr, decide_eq_true hl]
        have r7 := r6.keep (Keep.append h6.length h6 [.own 1 [.int .i64 (-1), .int .i64 3]] (Nat.le_refl _)) r6.lt
        obtain ⟨w', h7, e7, r7', o7, w0', w1', _⟩ := pick_calls g lf n (by omega) 2 r7 (by omega) (by omega)
        have hid6 := r6.lt
        have hobj : h7[h6.length]? = some (.own 1 [.int .i64 (-1), .int .i64 3]) := by rw [o7.2 _ (by omega)]; simp
        have hw' : w' = 0 ∨ w' = 1 := by have := w1' (by omega); omega
        have hrow : ∃ a y, indexAddrP Tryd.prog 23 (.sl h6.length 0 2) (.int .i64 w') = some a ∧ loadP Tryd.prog 3 a h7 = some (.int .i64 y) := by
          rcases hw' with rfl | rfl
          · exact ⟨.ptr h6.length 0, -1, by simp [indexAddrP, tyS, tySize], by simp [loadP, tyAgg, cellsAt, hobj, PObj.get]⟩
          · exact ⟨.ptr h6.length 1, 3, by simp [indexAddrP, tyS, tySize], by simp [loadP, tyAgg, cellsAt, hobj, PObj.get]⟩
        obtain ⟨a, y, ha, hy⟩ := hrow
        have o7' := (o6'.keep (Keep.append h6.length h6 [.own 1 [.int .i64 (-1), .int .i64 3]] (Nat.le_refl _))).keepOnly o7 (by omega)
        obtain ⟨a8, h8, ha8, hs8, o8, k8, hl8⟩ := o7'.store (show 0 < xs'.length by omega) y
        have hlen' : ((0 : Nat) : Int) = 0 := rfl
        refine ⟨r, c, q', xs'.set 0 y, h8, pre ?_, (r7'.keep k8 (by omega)).mono (by omega), (K6.trans ((Keep.append id h6 _ (by omega)).trans o7.keep)).trans (k8.mono (by omega)), o8, by simp; omega, hr1, hr2, hc1, hc2⟩
        rw [spec_l20Position.after0_se0_0_1_7_8_9_10_11_32]
        refine bd wk (bd e5 (cdT (bd e6 (bd hne (cdF (bd hlen (bd hgt (cdT ?_))))))))
        exact bd (tab2 h6) (bd e7 (bd ha (bd hy (bd ha8 (bd hs8 (bd res_int (bd res_int (bd o8.res rfl))))))))
      · have hgt : binP Tryd.prog .gtr 3 (.int .i64 (xs'.length : Int)) (.int .i64 0) = some (.bool false) := by rw [bin_gtr, decide_eq_false hl]
        refine ⟨r, c, q', xs', h6, pre ?_, r6.mono (by omega), K6, o6', by omega, hr1, hr2, hc1, hc2⟩
        rw [spec_l20Position.after0_se0_0_1_7_8_9_10_11_32]
        exact bd wk (bd e5 (cdT (bd e6 (bd hne (cdF (bd hlen (bd hgt (cdF (bd res_int (bd res_int (bd o6'.res rfl)))))))))))

end Go.Proofs.YtiflfnlpkhghpaaDoor
