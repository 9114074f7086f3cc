/- Promises 11, 12, 13 and 14 over what the program's functions are asked to compute. -/
import Derived.Test.YtiflfnlpkhghpaaDoorQ1
namespace Go.Proofs.YtiflfnlpkhghpaaDoor
open Go Go.Ip G

/-! ### more facts on positions -/
theorem range_count (w : Int) : ∀ (xs : List Int) (n : Nat), xs.length ≤ n → (List.range n).countP (fun j => decide (xs[j]? = some w)) = xs.count w
  | [], n, _ => by
    rw [List.count_nil, List.countP_eq_zero]
    intro j _; simp
  | x :: xs, n, h => by
    obtain ⟨m, rfl⟩ : ∃ m, n = m + 1 := ⟨n - 1, by simp at h; omega⟩
    rw [List.range_succ_eq_map, List.countP_cons, List.countP_map, List.count_cons]
    have ih := range_count w xs m (by simpa using h)
    have : ((fun j => decide ((x :: xs)[j]? = some w)) ∘ Nat.succ) = fun j => decide (xs[j]? = some w) := by
      funext j; simp
    rw [this, ih]
    congr 1
    by_cases e : x = w <;> simp [e]

theorem pop_count {xs : List Int} (h : xs.length ≤ 9) (w : Int) : pop (setL xs w) = xs.count w := by
  rw [← range_count w xs 9 h]
  unfold pop
  apply List.countP_congr
  intro j _
  rw [setL_bit, decide_eq_true_iff]

theorem gap_le_free {R C P : Nat} {r c : Int} {xs : List Int} (hs : Sides r c R C xs) : gapN (masksN R C) (setL xs (P : Int)) (setL xs 0) (sideN R C P false) (sideN R C P true) (R * C) ≤ (xs.count 0 : Int) := by
  have hl : xs.length ≤ 9 := by have := hs.2.2.2.2.2.2.2.1; have := hs.2.2.2.2.2.2.1; omega
  rcases gap_spec (P := P) hs with ⟨k, hk, hg⟩ | ⟨hk, _⟩
  · have := gap_pop (set_lt9 hs 0) hg
    rw [pop_count hl] at this
    rw [hk]; omega
  · rw [hk]; omega

theorem gap_joins {R C P : Nat} {xs : List Int} (hb : posB (R : Int) (C : Int) xs = true) (hs : Sides (R : Int) (C : Int) R C xs) (hP : P = 1 ∨ P = 2) : decide (gapL (R : Int) (C : Int) xs (P : Int) = 0) = joinsL (R : Int) (C : Int) xs (P : Int) := by
  rw [gapL_eq hb hP, joinsL_eq hb hP, Bool.eq_iff_iff, decide_eq_true_iff]
  exact gap_zero_iff hs
theorem gap_other {R C P : Nat} {xs : List Int} (hb : posB (R : Int) (C : Int) xs = true) (hs : Sides (R : Int) (C : Int) R C xs) (hP : P = 1 ∨ P = 2) : decide (gapL (R : Int) (C : Int) xs (P : Int) = -1) = joinsL (R : Int) (C : Int) xs ((3 - P : Nat) : Int) := by
  rw [gapL_eq hb hP, joinsL_eq hb (by omega), Bool.eq_iff_iff, decide_eq_true_iff]
  exact gap_none_iff hs hP
theorem gap_filled {R C P : Nat} {xs : List Int} (hb : posB (R : Int) (C : Int) xs = true) (hs : Sides (R : Int) (C : Int) R C xs) (hP : P = 1 ∨ P = 2) : joinsL (R : Int) (C : Int) (xs.map (fillL (P : Int))) (P : Int) = decide (0 ≤ gapL (R : Int) (C : Int) xs (P : Int)) := by
  rw [joinsL_eq (filled_pos hb hP) hP, (filled_set hs hP).1, other_joins hs hP, ← joinsL_eq hb (show 3 - P = 1 ∨ 3 - P = 2 by omega), ← gap_other hb hs hP]
  have := (gapL_small (R : Int) (C : Int) xs (P : Int)).1
  rw [Bool.eq_iff_iff, Bool.not_eq_true', decide_eq_false_iff_not, decide_eq_true_iff]
  omega

theorem pos_set {R C P : Nat} {xs : List Int} (hb : posB (R : Int) (C : Int) xs = true) (hP : P = 1 ∨ P = 2) (k : Nat) : posB (R : Int) (C : Int) (xs.set k (P : Int)) = true := by
  unfold posB at hb ⊢
  rw [List.length_set]
  rw [Bool.and_eq_true] at hb ⊢
  refine ⟨hb.1, ?_⟩
  rw [List.all_eq_true]
  intro x hx
  rcases List.mem_or_eq_of_mem_set hx with hx | rfl
  · exact List.all_eq_true.1 hb.2 x hx
  · rcases hP with rfl | rfl <;> rfl

/-- With a stone more on a free cell. -/
theorem gapL_stone {R C P : Nat} {xs : List Int} (hb : posB (R : Int) (C : Int) xs = true) (hs : Sides (R : Int) (C : Int) R C xs) (hP : P = 1 ∨ P = 2) {k : Nat} (hk : xs[k]? = some 0) (h0 : 0 ≤ gapL (R : Int) (C : Int) xs (P : Int)) :
    gapL (R : Int) (C : Int) (xs.set k (P : Int)) (P : Int) = gapL (R : Int) (C : Int) xs (P : Int) ∨ (1 ≤ gapL (R : Int) (C : Int) xs (P : Int) ∧ gapL (R : Int) (C : Int) (xs.set k (P : Int)) (P : Int) = gapL (R : Int) (C : Int) xs (P : Int) - 1) := by
  rw [gapL_eq (pos_set hb hP k) hP, gapL_eq hb hP]
  rw [gapL_eq hb hP] at h0
  rcases gap_spec (P := P) hs with ⟨G, hG, hg⟩ | ⟨hG, _⟩
  · rw [hG]
    rcases gap_stone hs hP hk hg with h | ⟨h1, h⟩
    · exact .inl h
    · exact .inr ⟨by omega, h⟩
  · omega

theorem free_first {r c : Int} {xs : List Int} (hb : posB r c xs = true) {i : Nat} (hi : i < (cellsL r c xs 0).length) : ∃ j : Nat, (cellsL r c xs 0)[i] = (j : Int) ∧ xs[j]? = some 0 := by
  obtain ⟨e, he⟩ : ∃ e, e = (cellsL r c xs 0)[i] := ⟨_, rfl⟩
  have hm : e ∈ cellsL r c xs 0 := by rw [he]; exact List.getElem_mem hi
  have hc : cellsL r c xs 0 = cellsFrom 0 0 xs := by unfold cellsL; rw [hb]; rfl
  rw [hc] at hm
  obtain ⟨j, h1, h2⟩ := cellsFrom_mem 0 xs 0 _ hm
  exact ⟨j, by rw [← he, h1, Nat.zero_add], h2⟩

variable (g : Nat → PV) (lf n : Nat)

theorem fnGapOf_calls (hJ : JoinsOk g lf) (hG : GapOk g lf) {p : PV} {ys : List Int} {h : PHeap} (N : Nat) (hN : 21 ≤ N) (ha : Arg h p ys) (hlf : 1000 < lf) (ht : TabOk g h) :
    ∃ h', CL g lf N fn_laws_FnGapOf [p] h = some (.bool true, h') := by
  obtain ⟨n, rfl⟩ : ∃ n, N = n + 1 := ⟨N - 1, by omega⟩
  rw [laws_FnGapOf.call_eq]
  have hlenp : lenP Tryd.prog 22 p = some (.int .i64 ys.length) := (ha.1 h (Keep.refl _ _)).len tyB
  by_cases hbig : (1048576 : Int) < (ys.length : Int)
  · refine ⟨h, ?_⟩
    unfold laws_FnGapOf.main
    have f0 : binP Tryd.prog .gtr 3 (.int .i64 (ys.length : Int)) (.int .i64 1048576) = some (.bool true) := by rw [bin_gtr, decide_eq_true hbig]
    exact bd hlenp (bd f0 (cdT (bd res_bool rfl)))
  · have f0 : binP Tryd.prog .gtr 3 (.int .i64 (ys.length : Int)) (.int .i64 1048576) = some (.bool false) := by rw [bin_gtr, decide_eq_false hbig]
    obtain ⟨r, c, q, xs, pl, h1, e1, k1, hq, hl, hp1, hp2⟩ := drawGapOf_calls g lf n (by omega) ha (by omega)
    have t1 := ht.keep k1
    obtain ⟨h2, e2, k2⟩ := hG n (by omega) r c pl t1 hq (by omega) (by omega)
    have t2 := t1.keep k2
    have hq2 := hq.keep k2
    obtain ⟨h3, e3, k3⟩ := specGapOf_calls g lf n (by omega) r c pl hq2 (by omega) (by omega) hlf
    have t3 := t2.keep k3
    have hq3 := hq2.keep k3
    have f1 : binP Tryd.prog .neq 3 (.int .i64 (gapL r c xs pl)) (.int .i64 (gapL r c xs pl)) = some (.bool false) := by rw [bin_neq]; simp
    have hpos := specPositionOk_N g lf n (by omega) r c hq3 (by omega) (by omega)
    have f2 : binP Tryd.prog .gtr 3 (.int .i64 pl) (.int .i64 2) = some (.bool (decide (2 < pl))) := bin_gtr
    have e5 := alive_calls g lf n (by omega) h3
    have fm : binP Tryd.prog .eql 3 (.int .i64 (-1)) (.int .i64 (-1)) = some (.bool true) := by rw [bin_eql]; rfl
    cases hb : posB r c xs with
    | false =>
      have hj := gapL_none (pl := pl) (.inl hb)
      rw [hj] at e2 e3 f1
      rw [hb] at hpos
      refine ⟨h3, ?_⟩
      unfold laws_FnGapOf.main
      refine bd hlenp (bd f0 (cdF (bd e1 (bd extract_tup (bd extract_tup (bd extract_tup (bd extract_tup (bd e2 (bd e3 (bd f1 (cdF ?_)))))))))))
      refine bd hpos (bd un_not (gn rfl (bd rfl (gn rfl (bd rfl (bd (v := PV.bool true) rfl (cdT ?_)))))))
      exact bd fm (gd rfl (bd e5 (bd (v := PV.bool true) rfl (bd res_bool rfl))))
    | true =>
      rw [hb] at hpos
      by_cases hpl : 2 < pl
      · have hj := gapL_none (r := r) (c := c) (xs := xs) (.inr hpl)
        rw [hj] at e2 e3 f1
        rw [decide_eq_true hpl] at f2
        refine ⟨h3, ?_⟩
        unfold laws_FnGapOf.main
        refine bd hlenp (bd f0 (cdF (bd e1 (bd extract_tup (bd extract_tup (bd extract_tup (bd extract_tup (bd e2 (bd e3 (bd f1 (cdF ?_)))))))))))
        refine bd hpos (bd un_not (gd rfl (bd rfl (gd rfl (bd (congrArg (pv _) f2) (bd (v := PV.bool true) rfl (cdT ?_)))))))
        exact bd fm (gd rfl (bd e5 (bd (v := PV.bool true) rfl (bd res_bool rfl))))
      · rw [decide_eq_false hpl] at f2
        obtain ⟨P, rfl⟩ := Int.eq_ofNat_of_zero_le (show 0 ≤ pl by omega)
        have hP : P = 1 ∨ P = 2 := by omega
        have hP3 : 3 - P = 1 ∨ 3 - P = 2 := by omega
        obtain ⟨R, C, hS⟩ := sides_of hb
        obtain ⟨rfl, rfl, s1, s2, s3, s4, s9, slen, sall⟩ := id hS
        have g1 := gap_joins hb hS hP
        have g2 := gap_other hb hS hP
        have g3 : gapL (R : Int) (C : Int) xs (P : Int) ≤ (xs.count 0 : Int) := by rw [gapL_eq hb hP]; exact gap_le_free hS
        have g5 := gapL_small (R : Int) (C : Int) xs (P : Int)
        have g4 := fun k (hk : xs[k]? = some 0) => gapL_stone (k := k) hb hS hP hk
        have hcc := cells_count hb 0
        obtain ⟨G, hGG⟩ : ∃ G, G = gapL (R : Int) (C : Int) xs (P : Int) := ⟨_, rfl⟩
        rw [← hGG] at e2 e3 f1 g1 g2 g3 g4 g5
        obtain ⟨q4, h4, e4, o4, k4⟩ := cellsOf_calls g lf n (by omega) (R : Int) (C : Int) 0 hq3 (by omega) (by omega)
        have t4 := t3.keep k4
        have hq4 := hq3.keep k4
        have f3 : binP Tryd.prog .sub 3 (.int .i64 3) (.int .i64 (P : Int)) = some (.int .i64 ((3 - P : Nat) : Int)) := by
          rw [bin_sub, wr (by omega), show (3 : Int) - (P : Int) = ((3 - P : Nat) : Int) by omega]
        have f4 : binP Tryd.prog .eql 3 (.int .i64 G) (.int .i64 0) = some (.bool (joinsL (R : Int) (C : Int) xs (P : Int))) := by rw [bin_eql, ← g1]; rfl
        obtain ⟨h5, e6, k5⟩ := hJ n (by omega) (R : Int) (C : Int) (P : Int) t4 hq4 (by omega) (by omega)
        have t5 := t4.keep k5
        have hq5 := hq4.keep k5
        have o5 := o4.keep k5
        have f5 : binP Tryd.prog .neq 4 (.bool (joinsL (R : Int) (C : Int) xs (P : Int))) (.bool (joinsL (R : Int) (C : Int) xs (P : Int))) = some (.bool false) := by rw [neqB]; simp
        have f6 : binP Tryd.prog .eql 3 (.int .i64 G) (.int .i64 (-1)) = some (.bool (joinsL (R : Int) (C : Int) xs ((3 - P : Nat) : Int))) := by rw [bin_eql, ← g2]; rfl
        obtain ⟨h6, e7, k6⟩ := hJ n (by omega) (R : Int) (C : Int) ((3 - P : Nat) : Int) t5 hq5 (by omega) (by omega)
        have t6 := t5.keep k6
        have hq6 := hq5.keep k6
        have o6 := o5.keep k6
        have f7 : binP Tryd.prog .neq 4 (.bool (joinsL (R : Int) (C : Int) xs ((3 - P : Nat) : Int))) (.bool (joinsL (R : Int) (C : Int) xs ((3 - P : Nat) : Int))) = some (.bool false) := by rw [neqB]; simp
        have f8 : binP Tryd.prog .gtr 3 (.int .i64 G) (.int .i64 ((cellsL (R : Int) (C : Int) xs 0).length : Int)) = some (.bool false) := by rw [bin_gtr, decide_eq_false (by omega)]
        have f9 : binP Tryd.prog .eql 3 (.int .i64 ((cellsL (R : Int) (C : Int) xs 0).length : Int)) (.int .i64 0) = some (.bool (decide ((cellsL (R : Int) (C : Int) xs 0).length = 0))) := by rw [bin_eql]; exact congrArg (fun z => some (PV.bool z)) (natEq _ 0)
        have f10 : binP Tryd.prog .lss 3 (.int .i64 G) (.int .i64 0) = some (.bool (decide (G < 0))) := bin_lss
        have e8 := alive_calls g lf n (by omega) h6
        -- the way to the two ends
        by_cases hz : (cellsL (R : Int) (C : Int) xs 0).length = 0
        · rw [decide_eq_true hz] at f9
          refine ⟨h6, ?_⟩
          unfold laws_FnGapOf.main
          refine bd hlenp (bd f0 (cdF (bd e1 (bd extract_tup (bd extract_tup (bd extract_tup (bd extract_tup (bd e2 (bd e3 (bd f1 (cdF ?_)))))))))))
          refine bd hpos (bd un_not (gd rfl (bd rfl (gd rfl (bd (congrArg (pv _) f2) (bd (v := PV.bool false) rfl (cdF ?_)))))))
          refine bd e4 (bd f3 (bd f4 (bd e6 (bd f5 ?_))))
          refine gd rfl (bd rfl (gd rfl (bd (congrArg (pv _) f6) (gd rfl (bd rfl (gd rfl (bd rfl (gd rfl (bd rfl (gd rfl (bd rfl (gd rfl (bd e7 (gd rfl (bd (congrArg (pv _) f7) (bd (v := PV.bool false) rfl ?_))))))))))))))))
          refine gd rfl (bd rfl (gd rfl (bd rfl (gd rfl (bd (congrArg (pv _) o6.int.len') (gd rfl (bd (congrArg (pv _) f8) (bd (v := PV.bool false) rfl (cdF ?_)))))))))
          refine bd o6.int.len' (bd f9 (gn rfl (bd rfl (gn rfl (bd rfl (bd (v := PV.bool true) rfl (cdT ?_)))))))
          exact bd e8 (bd res_bool rfl)
        · rw [decide_eq_false hz] at f9
          by_cases hneg : G < 0
          · rw [decide_eq_true hneg] at f10
            refine ⟨h6, ?_⟩
            unfold laws_FnGapOf.main
            refine bd hlenp (bd f0 (cdF (bd e1 (bd extract_tup (bd extract_tup (bd extract_tup (bd extract_tup (bd e2 (bd e3 (bd f1 (cdF ?_)))))))))))
            refine bd hpos (bd un_not (gd rfl (bd rfl (gd rfl (bd (congrArg (pv _) f2) (bd (v := PV.bool false) rfl (cdF ?_)))))))
            refine bd e4 (bd f3 (bd f4 (bd e6 (bd f5 ?_))))
            refine gd rfl (bd rfl (gd rfl (bd (congrArg (pv _) f6) (gd rfl (bd rfl (gd rfl (bd rfl (gd rfl (bd rfl (gd rfl (bd rfl (gd rfl (bd e7 (gd rfl (bd (congrArg (pv _) f7) (bd (v := PV.bool false) rfl ?_))))))))))))))))
            refine gd rfl (bd rfl (gd rfl (bd rfl (gd rfl (bd (congrArg (pv _) o6.int.len') (gd rfl (bd (congrArg (pv _) f8) (bd (v := PV.bool false) rfl (cdF ?_)))))))))
            refine bd o6.int.len' (bd f9 (gd rfl (bd rfl (gd rfl (bd (congrArg (pv _) f10) (bd (v := PV.bool true) rfl (cdT ?_)))))))
            exact bd e8 (bd res_bool rfl)
          · rw [decide_eq_false hneg] at f10
            have hF : 0 < (cellsL (R : Int) (C : Int) xs 0).length := Nat.pos_of_ne_zero hz
            obtain ⟨j, hj, hxj⟩ := free_first hb hF
            have hjl : j < xs.length := (List.getElem?_eq_some_iff.1 hxj).1
            obtain ⟨v, q7, h7, b7, a7, o7, k7⟩ := copy_all hq6 (by omega) (by omega)
            have o7' := o6.keep k7
            obtain ⟨ad, ia, la⟩ := o7'.int.at' hF
            rw [hj] at la
            obtain ⟨a8, h8, ia8, st8, o8, k8, len8⟩ := o7.store hjl (P : Int)
            have kk : Keep h6.length h6 h8 := k7.trans k8
            have t8 := t6.keep kk
            obtain ⟨h9, e9, k9⟩ := hG n (by omega) (R : Int) (C : Int) (P : Int) t8 o8.int (by simp; omega) (by simp; omega)
            have hst := g4 j hxj (by omega)
            obtain ⟨m, hm⟩ : ∃ m, m = gapL (R : Int) (C : Int) (xs.set j (P : Int)) (P : Int) := ⟨_, rfl⟩
            rw [← hm] at e9 hst
            have f11 : binP Tryd.prog .eql 3 (.int .i64 m) (.int .i64 G) = some (.bool (decide (m = G))) := by rw [bin_eql]; rfl
            have f12 : binP Tryd.prog .sub 3 (.int .i64 G) (.int .i64 1) = some (.int .i64 (G - 1)) := by rw [bin_sub, wr (by omega)]
            have f13 : binP Tryd.prog .eql 3 (.int .i64 m) (.int .i64 (G - 1)) = some (.bool (decide (m = G - 1))) := by rw [bin_eql]; rfl
            refine ⟨h9, ?_⟩
            unfold laws_FnGapOf.main
            refine bd hlenp (bd f0 (cdF (bd e1 (bd extract_tup (bd extract_tup (bd extract_tup (bd extract_tup (bd e2 (bd e3 (bd f1 (cdF ?_)))))))))))
            refine bd hpos (bd un_not (gd rfl (bd rfl (gd rfl (bd (congrArg (pv _) f2) (bd (v := PV.bool false) rfl (cdF ?_)))))))
            refine bd e4 (bd f3 (bd f4 (bd e6 (bd f5 ?_))))
            refine gd rfl (bd rfl (gd rfl (bd (congrArg (pv _) f6) (gd rfl (bd rfl (gd rfl (bd rfl (gd rfl (bd rfl (gd rfl (bd rfl (gd rfl (bd e7 (gd rfl (bd (congrArg (pv _) f7) (bd (v := PV.bool false) rfl ?_))))))))))))))))
            refine gd rfl (bd rfl (gd rfl (bd rfl (gd rfl (bd (congrArg (pv _) o6.int.len') (gd rfl (bd (congrArg (pv _) f8) (bd (v := PV.bool false) rfl (cdF ?_)))))))))
            refine bd o6.int.len' (bd f9 (gd rfl (bd rfl (gd rfl (bd (congrArg (pv _) f10) (bd (v := PV.bool false) rfl (cdF ?_)))))))
            refine bd b7 (bd a7 (bd ia (bd la (bd ia8 (bd st8 (bd e9 (bd f11 ?_)))))))
            by_cases e : m = G
            · rw [decide_eq_true e]
              exact gn rfl (bd rfl (gn rfl (bd rfl (gn rfl (bd rfl (gn rfl (bd rfl (bd (v := PV.bool true) rfl (bd res_bool rfl)))))))))
            · rw [decide_eq_false e]
              rw [decide_eq_true (show m = G - 1 by omega)] at f13
              exact gd rfl (bd rfl (gd rfl (bd rfl (gd rfl (bd (congrArg (pv _) f12) (gd rfl (bd (congrArg (pv _) f13) (bd (v := PV.bool true) rfl (bd res_bool rfl)))))))))

/-! ### promise 12 -/
theorem fnFilled_loop (hJ : JoinsOk g lf) (hG : GapOk g lf) {R C P : Nat} {xs : List Int} (hb : posB (R : Int) (C : Int) xs = true) (hS : Sides (R : Int) (C : Int) R C xs) (hP : P = 1 ∨ P = 2) (hn : 20 ≤ n) (hlf : 1000 < lf) {q q2 : PV} {h : PHeap} (ht : TabOk g h) (hq : IntSl .i64 h q xs) (hq2 : IntSl .i64 h q2 (xs.map (fillL (P : Int)))) : ∀ (m i fuel : Nat), i + m = xs.length → m < fuel →
    ∃ h', loopK (ev ((env g lf n).cx Tryd.prog laws_FnFilled.kl) laws_FnFilled.lp0) fuel (laws_FnFilled.st0 (.int .i64 (R : Int)) (.int .i64 (C : Int)) q (.int .i64 (P : Int)) q2 (.int .i64 (i : Int)) h) (laws_FnFilled.K0 (env g lf n) (kTop Tryd.prog Tryd.f6)) = some (.bool true, h')
  | 0, i, fuel, him, hf => by
    obtain ⟨f, rfl⟩ : ∃ f, fuel = f + 1 := ⟨fuel - 1, by omega⟩
    have h9 : xs.length ≤ 9 := by have := hS.2.2.2.2.2.2.2.1; have := hS.2.2.2.2.2.2.1; omega
    have hl2 : (xs.map (fillL (P : Int))).length = xs.length := List.length_map ..
    have f1 : binP Tryd.prog .lss 3 (.int .i64 (i : Int)) (.int .i64 ((xs.map (fillL (P : Int))).length : Int)) = some (.bool false) := by rw [bin_lss, hl2, decide_eq_false (by omega)]
    have hfb := filled_pos hb hP
    have hpos := positionOk_N g lf n (by omega) (R : Int) (C : Int) hq2 (by omega) (by omega)
    rw [hfb] at hpos
    obtain ⟨q3, h3, e3, o3, k3⟩ := cellsOf_calls g lf n (by omega) (R : Int) (C : Int) 0 hq2 (by omega) (by omega)
    have hlen0 : (cellsL (R : Int) (C : Int) (xs.map (fillL (P : Int))) 0).length = 0 := by
      rw [cells_count hfb, List.count_eq_zero]
      intro hm
      obtain ⟨x, _, hx⟩ := List.mem_map.1 hm
      unfold fillL at hx
      split at hx
      · rcases hP with rfl | rfl <;> cases hx
      · rename_i hne; exact hne hx
    have l3 := o3.int.len'
    rw [hlen0] at l3
    have f2 : binP Tryd.prog .eql 3 (.int .i64 ((0 : Nat) : Int)) (.int .i64 0) = some (.bool true) := by rw [bin_eql]; rfl
    have t3 := ht.keep k3
    obtain ⟨h4, e4, k4⟩ := hJ n hn (R : Int) (C : Int) (P : Int) t3 (hq2.keep k3) (by omega) (by omega)
    have t4 := t3.keep k4
    obtain ⟨h5, e5, k5⟩ := hG n hn (R : Int) (C : Int) (P : Int) t4 ((hq.keep k3).keep k4) (by omega) (by omega)
    rw [gap_filled hb hS hP] at e4
    have f3 : binP Tryd.prog .geq 3 (.int .i64 (gapL (R : Int) (C : Int) xs (P : Int))) (.int .i64 0) = some (.bool (decide (0 ≤ gapL (R : Int) (C : Int) xs (P : Int)))) := bin_geq
    have f4 : binP Tryd.prog .eql 4 (.bool (decide (0 ≤ gapL (R : Int) (C : Int) xs (P : Int)))) (.bool (decide (0 ≤ gapL (R : Int) (C : Int) xs (P : Int)))) = some (.bool true) := by rw [eqlB]; simp
    refine ⟨h5, ?_⟩
    rw [loopK_succ, laws_FnFilled.body0_eq]
    unfold laws_FnFilled.body0
    refine bd hq2.len' (bd f1 (gn rfl (bd rfl (gn rfl (bd rfl (gn rfl (bd rfl (gn rfl (bd rfl (gn rfl (bd rfl (bd (v := PV.bool false) rfl (cdF ?_)))))))))))))
    rw [kLoop_exit, laws_FnFilled.after0_se0_3_4_5_6_7_8_46]
    refine bd hpos (gd rfl (bd rfl (gd rfl (bd rfl (gd rfl (bd rfl (gd rfl (bd e3 (gd rfl (bd (congrArg (pv _) l3) (gd rfl (bd (congrArg (pv _) f2) (bd (v := PV.bool true) rfl ?_)))))))))))))
    refine gd rfl (bd rfl (gd rfl (bd rfl (gd rfl (bd rfl (gd rfl (bd rfl (gd rfl (bd e4 ?_)))))))))
    refine gd rfl (bd rfl (gd rfl (bd rfl (gd rfl (bd rfl (gd rfl (bd rfl (gd rfl (bd e5 ?_)))))))))
    exact gd rfl (bd (congrArg (pv _) f3) (gd rfl (bd (congrArg (pv _) f4) (bd (v := PV.bool true) rfl (bd res_bool rfl)))))
  | m + 1, i, fuel, him, hf => by
    obtain ⟨f, rfl⟩ : ∃ f, fuel = f + 1 := ⟨fuel - 1, by omega⟩
    have h9 : xs.length ≤ 9 := by have := hS.2.2.2.2.2.2.2.1; have := hS.2.2.2.2.2.2.1; omega
    have hi : i < xs.length := by omega
    have hl2 : (xs.map (fillL (P : Int))).length = xs.length := List.length_map ..
    have hi2 : i < (xs.map (fillL (P : Int))).length := by omega
    obtain ⟨a, ia, la⟩ := hq.at' hi
    obtain ⟨b, ib, lb⟩ := hq2.at' hi2
    rw [List.getElem_map] at lb
    have f1 : binP Tryd.prog .lss 3 (.int .i64 (i : Int)) (.int .i64 ((xs.map (fillL (P : Int))).length : Int)) = some (.bool true) := by rw [bin_lss, hl2, decide_eq_true (by omega)]
    have f2 : binP Tryd.prog .eql 3 (.int .i64 ((xs.map (fillL (P : Int))).length : Int)) (.int .i64 (xs.length : Int)) = some (.bool true) := by rw [bin_eql, hl2]; simp
    have f3 : binP Tryd.prog .neq 3 (.int .i64 xs[i]) (.int .i64 0) = some (.bool (!decide (xs[i] = 0))) := by rw [bin_neq]; rfl
    have f4 : binP Tryd.prog .add 3 (.int .i64 (i : Int)) (.int .i64 1) = some (.int .i64 ((i + 1 : Nat) : Int)) := by rw [bin_add, nx (by omega)]
    obtain ⟨h', ih⟩ := fnFilled_loop hJ hG hb hS hP hn hlf ht hq hq2 m (i + 1) f (by omega) (by omega)
    refine ⟨h', ?_⟩
    rw [loopK_succ, laws_FnFilled.body0_eq]
    unfold laws_FnFilled.body0
    refine bd hq2.len' (bd f1 (gd rfl (bd rfl (gd rfl (bd (congrArg (pv _) hq2.len') (gd rfl (bd rfl (gd rfl (bd (congrArg (pv _) hq.len') (gd rfl (bd (congrArg (pv _) f2) (bd (v := PV.bool true) rfl (cdT (bd ia (bd la (bd f3 ?_))))))))))))))))
    by_cases e : xs[i] = 0
    · rw [decide_eq_true e, Bool.not_true]
      refine gn rfl (bd rfl (gn rfl (bd rfl (gn rfl (bd rfl (gn rfl (bd rfl (gn rfl (bd rfl (gn rfl (bd rfl (gn rfl (bd rfl (gn rfl (bd rfl (gn rfl (bd rfl (bd (v := PV.bool false) rfl (cdF ?_)))))))))))))))))))
      exact bd f4 ih
    · rw [decide_eq_false e, Bool.not_false]
      unfold fillL at lb
      rw [if_neg e] at lb
      have f5 : binP Tryd.prog .neq 3 (.int .i64 xs[i]) (.int .i64 xs[i]) = some (.bool false) := by rw [bin_neq]; simp
      refine gd rfl (bd rfl (gd rfl (bd rfl (gd rfl (bd (congrArg (pv _) ib) (gd rfl (bd (congrArg (pv _) lb) (gd rfl (bd rfl (gd rfl (bd rfl (gd rfl (bd (congrArg (pv _) ia) (gd rfl (bd (congrArg (pv _) la) (gd rfl (bd (congrArg (pv _) f5) (bd (v := PV.bool false) rfl (cdF ?_)))))))))))))))))))
      exact bd f4 ih

theorem fnFilled_calls (hJ : JoinsOk g lf) (hG : GapOk g lf) (hFi : FilledOk g lf) {p : PV} {ys : List Int} {h : PHeap} (N : Nat) (hN : 21 ≤ N) (ha : Arg h p ys) (hlf : 1000 < lf) (ht : TabOk g h) :
    ∃ h', CL g lf N fn_laws_FnFilled [p] h = some (.bool true, h') := by
  obtain ⟨n, rfl⟩ : ∃ n, N = n + 1 := ⟨N - 1, by omega⟩
  rw [laws_FnFilled.call_eq]
  have hlenp : lenP Tryd.prog 22 p = some (.int .i64 ys.length) := (ha.1 h (Keep.refl _ _)).len tyB
  by_cases hbig : (1048576 : Int) < (ys.length : Int)
  · refine ⟨h, ?_⟩
    unfold laws_FnFilled.main
    have f0 : binP Tryd.prog .gtr 3 (.int .i64 (ys.length : Int)) (.int .i64 1048576) = some (.bool true) := by rw [bin_gtr, decide_eq_true hbig]
    exact bd hlenp (bd f0 (cdT (bd res_bool rfl)))
  · have f0 : binP Tryd.prog .gtr 3 (.int .i64 (ys.length : Int)) (.int .i64 1048576) = some (.bool false) := by rw [bin_gtr, decide_eq_false hbig]
    obtain ⟨r, c, q, xs, pl, h1, e1, k1, hq, hl, hp1, hp2⟩ := drawFilled_calls g lf n (by omega) ha (by omega)
    have t1 := ht.keep k1
    obtain ⟨q2, h2, e2, o2, k2⟩ := hFi n (by omega) r c pl t1 hq (by omega) (by omega)
    have t2 := t1.keep k2
    have hq2 := hq.keep k2
    obtain ⟨q3, h3, e3, o3, k3⟩ := specFilled_calls g lf n (by omega) r c pl hq2 (by omega) (by omega) hlf
    have t3 := t2.keep k3
    have hq3 := hq2.keep k3
    have o2' := o2.keep k3
    have hfl := filledL_length r c xs pl
    have e4 := sameInts_N g lf n (by omega) o2'.int o3.int (by omega) (by omega)
    rw [decide_eq_true rfl] at e4
    have e5 := alive_calls g lf n (by omega) h3
    have l2 := o2'.int.len'
    cases hbp : (posB r c xs && playerB pl) with
    | false =>
      have : filledL r c xs pl = [] := by unfold filledL; rw [hbp]; rfl
      rw [this] at l2
      have f2 : binP Tryd.prog .eql 3 (.int .i64 (([] : List Int).length : Int)) (.int .i64 0) = some (.bool true) := by rw [bin_eql]; rfl
      refine ⟨h3, ?_⟩
      unfold laws_FnFilled.main
      refine bd hlenp (bd f0 (cdF (bd e1 (bd extract_tup (bd extract_tup (bd extract_tup (bd extract_tup (bd e2 (bd e3 (bd e4 (bd un_not (cdF ?_))))))))))))
      exact bd l2 (bd f2 (cdT (bd e5 (bd res_bool rfl))))
    | true =>
      have hfe : filledL r c xs pl = xs.map (fillL pl) := by unfold filledL; rw [hbp]; rfl
      rw [Bool.and_eq_true] at hbp
      obtain ⟨R, C, hS⟩ := sides_of hbp.1
      obtain ⟨P, rfl, hP⟩ := player_of hbp.2
      obtain ⟨rfl, rfl, s1, s2, s3, s4, s9, slen, sall⟩ := id hS
      rw [hfe] at l2 o2'
      have hne := posB_some hbp.1
      have f2 : binP Tryd.prog .eql 3 (.int .i64 ((xs.map (fillL (P : Int))).length : Int)) (.int .i64 0) = some (.bool false) := by
        rw [bin_eql, List.length_map]
        have : ((xs.length : Int) == ((0 : Nat) : Int)) = decide (xs.length = 0) := natEq _ _
        exact congrArg (fun z => some (PV.bool z)) (this.trans (decide_eq_false hne))
      obtain ⟨h4, e6⟩ := fnFilled_loop g lf n hJ hG hbp.1 hS hP (by omega) hlf t3 hq3 o2'.int xs.length 0 lf (by omega) (by omega)
      refine ⟨h4, ?_⟩
      unfold laws_FnFilled.main
      refine bd hlenp (bd f0 (cdF (bd e1 (bd extract_tup (bd extract_tup (bd extract_tup (bd extract_tup (bd e2 (bd e3 (bd e4 (bd un_not (cdF ?_))))))))))))
      exact bd l2 (bd f2 (cdF e6))

end Go.Proofs.YtiflfnlpkhghpaaDoor
