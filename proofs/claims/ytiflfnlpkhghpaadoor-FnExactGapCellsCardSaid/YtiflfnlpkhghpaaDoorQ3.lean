/- Promises 13 and 14 over what the program's functions are asked to compute. -/
import Derived.Test.YtiflfnlpkhghpaaDoorQ2
namespace Go.Proofs.YtiflfnlpkhghpaaDoor
open Go Go.Ip G

/-! ### the cells that close a gap -/
theorem gc_mem {r c p : Int} {xs : List Int} (h0 : 0 < gapL r c xs p) {k : Nat} (hk : xs[k]? = some 0) : (k : Int) ∈ gapCellsL r c xs p ↔ gapL r c (xs.set k p) p = gapL r c xs p - 1 := by
  have hkl : k < xs.length := (List.getElem?_eq_some_iff.1 hk).1
  have hgd : xs.getD k 0 = 0 := by rw [List.getD_eq_getElem?_getD, hk]; rfl
  unfold gapCellsL
  rw [if_pos h0, List.mem_map]
  constructor
  · rintro ⟨j, hj, e⟩
    obtain rfl : j = k := by omega
    rw [List.mem_filter, Bool.and_eq_true, decide_eq_true_iff, decide_eq_true_iff] at hj
    exact hj.2.2
  · intro h
    refine ⟨k, ?_, rfl⟩
    rw [List.mem_filter, Bool.and_eq_true, decide_eq_true_iff, decide_eq_true_iff, List.mem_range]
    exact ⟨hkl, hgd, h⟩

theorem gc_sorted (r c : Int) (xs : List Int) (p : Int) : ∀ i (hi : i + 1 < (gapCellsL r c xs p).length), (gapCellsL r c xs p)[i] < (gapCellsL r c xs p)[i + 1] := by
  have hs : (gapCellsL r c xs p).Pairwise (· < ·) := by
    unfold gapCellsL
    split
    · rw [List.pairwise_map]
      refine (List.Pairwise.filter _ List.pairwise_lt_range).imp ?_
      intro a b h; omega
    · exact List.Pairwise.nil
  intro i hi
  exact List.pairwise_iff_getElem.1 hs i (i + 1) (by omega) hi (by omega)

theorem gc_count {R C P : Nat} {xs : List Int} (hb : posB (R : Int) (C : Int) xs = true) (hs : Sides (R : Int) (C : Int) R C xs) (hP : P = 1 ∨ P = 2) (h0 : 0 < gapL (R : Int) (C : Int) xs (P : Int)) : gapL (R : Int) (C : Int) xs (P : Int) ≤ ((gapCellsL (R : Int) (C : Int) xs (P : Int)).length : Int) := by
  have h9 := hs.2.2.2.2.2.2.1
  have hlen := hs.2.2.2.2.2.2.2.1
  have hge := gapL_eq hb hP
  rcases gap_spec (P := P) hs with ⟨G, hG, hg⟩ | ⟨hG, _⟩
  · have hc := good_count h9 (set_lt9 hs _) (set_lt hs 0) hg
    have hl : (gapCellsL (R : Int) (C : Int) xs (P : Int)).length = (List.range (R * C)).countP (goodB (masksN R C) (setL xs (P : Int)) (setL xs 0) (sideN R C P false) (sideN R C P true) (R * C)) := by
      unfold gapCellsL
      rw [if_pos h0, List.length_map, ← List.countP_eq_length_filter, hlen]
      apply List.countP_congr
      intro k hk
      rw [List.mem_range] at hk
      have hkl : k < xs.length := by omega
      unfold goodB
      rw [Bool.and_eq_true, Bool.and_eq_true, decide_eq_true_iff, decide_eq_true_iff, decide_eq_true_iff, setL_bit]
      have hgd : xs.getD k 0 = 0 ↔ xs[k]? = some 0 := by
        rw [List.getD_eq_getElem?_getD, List.getElem?_eq_getElem hkl]; simp
      rw [hgd]
      refine and_congr_right fun hz => ?_
      obtain ⟨e1, e2, _⟩ := set_more hs hP hz
      rw [gapL_eq (pos_set hb hP k) hP, hge, e1, e2]
    rw [hge, hG, hl]
    omega
  · rw [hge, hG]; omega

variable (g : Nat → PV) (lf n : Nat)

theorem fnGapCells_loop (hG : GapOk g lf) {R C P : Nat} {xs : List Int} (hb : posB (R : Int) (C : Int) xs = true) (hS : Sides (R : Int) (C : Int) R C xs) (hP : P = 1 ∨ P = 2) (h0 : 0 < gapL (R : Int) (C : Int) xs (P : Int)) (hn : 20 ≤ n) (hlf : 1000 < lf) {q qL qF : PV} : ∀ (m i fuel : Nat) (h : PHeap), i + m = (cellsL (R : Int) (C : Int) xs 0).length → m < fuel →
    TabOk g h → IntSl .i64 h q xs → IntSl .i64 h qL (gapCellsL (R : Int) (C : Int) xs (P : Int)) → IntSl .i64 h qF (cellsL (R : Int) (C : Int) xs 0) →
    ∃ h', loopK (ev ((env g lf n).cx Tryd.prog laws_FnGapCells.kl) laws_FnGapCells.lp0) fuel (laws_FnGapCells.st0 (.int .i64 (R : Int)) (.int .i64 (C : Int)) q (.int .i64 (P : Int)) qL (.int .i64 (gapL (R : Int) (C : Int) xs (P : Int))) qF (.int .i64 (i : Int)) h) (laws_FnGapCells.K0 (env g lf n) (kTop Tryd.prog Tryd.f7)) = some (.bool true, h')
  | 0, i, fuel, h, him, hf, ht, hq, hqL, hqF => by
    obtain ⟨f, rfl⟩ : ∃ f, fuel = f + 1 := ⟨fuel - 1, by omega⟩
    have h9 : xs.length ≤ 9 := by have := hS.2.2.2.2.2.2.2.1; have := hS.2.2.2.2.2.2.1; omega
    have hgl := gapCellsL_length (R : Int) (C : Int) xs (P : Int)
    have f1 : binP Tryd.prog .lss 3 (.int .i64 (i : Int)) (.int .i64 ((cellsL (R : Int) (C : Int) xs 0).length : Int)) = some (.bool false) := by rw [bin_lss, decide_eq_false (by omega)]
    have easc := ascend_calls g lf n (by omega) hqL (gc_sorted _ _ _ _) (by omega) (by omega)
    have hcnt := gc_count hb hS hP h0
    have f2 : binP Tryd.prog .geq 3 (.int .i64 ((gapCellsL (R : Int) (C : Int) xs (P : Int)).length : Int)) (.int .i64 (gapL (R : Int) (C : Int) xs (P : Int))) = some (.bool true) := by rw [bin_geq, decide_eq_true hcnt]
    refine ⟨h, ?_⟩
    rw [loopK_succ, laws_FnGapCells.body0_eq]
    unfold laws_FnGapCells.body0
    refine bd hqF.len' (bd f1 (cdF ?_))
    rw [kLoop_exit, laws_FnGapCells.after0_se0_3_4_5_6_7_8_9_10_56]
    exact bd easc (gd rfl (bd rfl (gd rfl (bd (congrArg (pv _) hqL.len') (gd rfl (bd rfl (gd rfl (bd (congrArg (pv _) f2) (bd (v := PV.bool true) rfl (bd res_bool rfl))))))))))
  | m + 1, i, fuel, h, him, hf, ht, hq, hqL, hqF => by
    obtain ⟨f, rfl⟩ : ∃ f, fuel = f + 1 := ⟨fuel - 1, by omega⟩
    have h9 : xs.length ≤ 9 := by have := hS.2.2.2.2.2.2.2.1; have := hS.2.2.2.2.2.2.1; omega
    have hgl := gapCellsL_length (R : Int) (C : Int) xs (P : Int)
    have hcl := cellsL_length (R : Int) (C : Int) xs 0
    have hi : i < (cellsL (R : Int) (C : Int) xs 0).length := by omega
    obtain ⟨k, hk, hxk⟩ := free_first hb hi
    have hkl : k < xs.length := (List.getElem?_eq_some_iff.1 hxk).1
    obtain ⟨v, q7, h7, b7, a7, o7, k7⟩ := copy_all hq (by omega) (by omega)
    have qF7 := hqF.keep k7
    obtain ⟨ad, ia, la⟩ := qF7.at' hi
    rw [hk] at la
    obtain ⟨a8, h8, ia8, st8, o8, k8, len8⟩ := o7.store hkl (P : Int)
    have kk : Keep h.length h h8 := k7.trans k8
    have qF8 := hqF.keep kk
    obtain ⟨ad', ia', la'⟩ := qF8.at' hi
    obtain rfl : ad = ad' := Option.some.inj (ia.symm.trans ia')
    rw [hk] at la'
    have qL8 := hqL.keep kk
    have eH := hasInt_N g lf n (by omega) (k : Int) qL8 (by omega) (by omega)
    have t8 := ht.keep kk
    obtain ⟨h9', e9, k9⟩ := hG n hn (R : Int) (C : Int) (P : Int) t8 o8.int (by simp; omega) (by simp; omega)
    have K9 : Keep h.length h h9' := kk.trans (k9.mono kk.1)
    have hmem := gc_mem (r := (R : Int)) (c := (C : Int)) (p := (P : Int)) h0 hxk
    have hst := gapL_stone hb hS hP hxk (by omega)
    have hsm := gapL_small (R : Int) (C : Int) xs (P : Int)
    obtain ⟨h', ih⟩ := fnGapCells_loop hG hb hS hP h0 hn hlf m (i + 1) f h9' (by omega) (by omega) (ht.keep K9) (hq.keep K9) (hqL.keep K9) (hqF.keep K9)
    have f1 : binP Tryd.prog .lss 3 (.int .i64 (i : Int)) (.int .i64 ((cellsL (R : Int) (C : Int) xs 0).length : Int)) = some (.bool true) := by rw [bin_lss, decide_eq_true (by omega)]
    have f4 : binP Tryd.prog .add 3 (.int .i64 (i : Int)) (.int .i64 1) = some (.int .i64 ((i + 1 : Nat) : Int)) := by rw [bin_add, nx (by omega)]
    obtain ⟨G, hGG⟩ : ∃ G, G = gapL (R : Int) (C : Int) xs (P : Int) := ⟨_, rfl⟩
    obtain ⟨mm, hmm⟩ : ∃ mm, mm = gapL (R : Int) (C : Int) (xs.set k (P : Int)) (P : Int) := ⟨_, rfl⟩
    rw [← hGG] at hmem hst ih hsm ⊢
    rw [← hmm] at hmem hst e9
    refine ⟨h', ?_⟩
    rw [loopK_succ, laws_FnGapCells.body0_eq]
    unfold laws_FnGapCells.body0
    refine bd hqF.len' (bd f1 (cdT (bd b7 (bd a7 (bd ia (bd la (bd ia8 (bd st8 (bd ia (bd la' ?_))))))))))
    by_cases e : (k : Int) ∈ gapCellsL (R : Int) (C : Int) xs (P : Int)
    · rw [decide_eq_true e] at eH
      have hme := hmem.1 e
      have f5 : binP Tryd.prog .sub 3 (.int .i64 G) (.int .i64 1) = some (.int .i64 (G - 1)) := by rw [bin_sub, wr (by omega)]
      have f6 : binP Tryd.prog .neq 3 (.int .i64 mm) (.int .i64 (G - 1)) = some (.bool false) := by rw [bin_neq, hme]; simp
      exact bd eH (cdT (bd f5 (bd e9 (bd f6 (cdF (bd f4 ih))))))
    · rw [decide_eq_false e] at eH
      have hme : mm = G := by
        rcases hst with h | ⟨_, h⟩
        · exact h
        · exact absurd (hmem.2 h) e
      have f6 : binP Tryd.prog .neq 3 (.int .i64 mm) (.int .i64 G) = some (.bool false) := by rw [bin_neq, hme]; simp
      exact bd eH (cdF (bd e9 (bd f6 (cdF (bd f4 ih)))))

theorem fnGapCells_calls (hG : GapOk g lf) (hGC : GapCellsOk g lf) {p : PV} {ys : List Int} {h : PHeap} (N : Nat) (hN : 21 ≤ N) (ha : Arg h p ys) (hlf : 1000 < lf) (ht : TabOk g h) :
    ∃ h', CL g lf N fn_laws_FnGapCells [p] h = some (.bool true, h') := by
  obtain ⟨n, rfl⟩ : ∃ n, N = n + 1 := ⟨N - 1, by omega⟩
  rw [laws_FnGapCells.call_eq]
  have hlenp : lenP Tryd.prog 22 p = some (.int .i64 ys.length) := (ha.1 h (Keep.refl _ _)).len tyB
  by_cases hbig : (1048576 : Int) < (ys.length : Int)
  · refine ⟨h, ?_⟩
    unfold laws_FnGapCells.main
    have f0 : binP Tryd.prog .gtr 3 (.int .i64 (ys.length : Int)) (.int .i64 1048576) = some (.bool true) := by rw [bin_gtr, decide_eq_true hbig]
    exact bd hlenp (bd f0 (cdT (bd res_bool rfl)))
  · have f0 : binP Tryd.prog .gtr 3 (.int .i64 (ys.length : Int)) (.int .i64 1048576) = some (.bool false) := by rw [bin_gtr, decide_eq_false hbig]
    obtain ⟨r, c, q, xs, pl, h1, e1, k1, hq, hl, hp1, hp2⟩ := drawGapCells_calls g lf n (by omega) ha (by omega)
    have t1 := ht.keep k1
    obtain ⟨q2, h2, e2, o2, k2⟩ := hGC n (by omega) r c pl t1 hq (by omega) (by omega)
    have t2 := t1.keep k2
    have hq2 := hq.keep k2
    obtain ⟨q3, h3, e3, o3, k3⟩ := specGapCells_calls g lf n (by omega) r c pl hq2 (by omega) (by omega) hlf
    have t3 := t2.keep k3
    have hq3 := hq2.keep k3
    have o2' := o2.keep k3
    have hgl := gapCellsL_length r c xs pl
    have e4 := sameInts_N g lf n (by omega) o2'.int o3.int (by omega) (by omega)
    rw [decide_eq_true rfl] at e4
    obtain ⟨h5, e5, k5⟩ := hG n (by omega) r c pl t3 hq3 (by omega) (by omega)
    have t5 := t3.keep k5
    have hq5 := hq3.keep k5
    have o5 := o2'.keep k5
    have f1 : binP Tryd.prog .leq 3 (.int .i64 (gapL r c xs pl)) (.int .i64 0) = some (.bool (decide (gapL r c xs pl ≤ 0))) := bin_leq
    by_cases hz : gapL r c xs pl ≤ 0
    · rw [decide_eq_true hz] at f1
      have hnil : gapCellsL r c xs pl = [] := by unfold gapCellsL; rw [if_neg (by omega)]
      have l5 := o5.int.len'
      rw [hnil] at l5
      have f2 : binP Tryd.prog .eql 3 (.int .i64 (([] : List Int).length : Int)) (.int .i64 0) = some (.bool true) := by rw [bin_eql]; rfl
      have e6 := alive_calls g lf n (by omega) h5
      refine ⟨h5, ?_⟩
      unfold laws_FnGapCells.main
      refine bd hlenp (bd f0 (cdF (bd e1 (bd extract_tup (bd extract_tup (bd extract_tup (bd extract_tup (bd e2 (bd e3 (bd e4 (bd un_not (cdF ?_))))))))))))
      exact bd e5 (bd f1 (cdT (bd l5 (bd f2 (gd rfl (bd e6 (bd (v := PV.bool true) rfl (bd res_bool rfl))))))))
    · rw [decide_eq_false hz] at f1
      have hbp : (posB r c xs && playerB pl) = true := by
        cases e : (posB r c xs && playerB pl) with
        | true => rfl
        | false => unfold gapL at hz; rw [e] at hz; simp at hz
      rw [Bool.and_eq_true] at hbp
      obtain ⟨R, C, hS⟩ := sides_of hbp.1
      obtain ⟨P, rfl, hP⟩ := player_of hbp.2
      obtain ⟨rfl, rfl, s1, s2, s3, s4, s9, slen, sall⟩ := id hS
      obtain ⟨q6, h6, e6, o6, k6⟩ := cellsOf_calls g lf n (by omega) (R : Int) (C : Int) 0 hq5 (by omega) (by omega)
      obtain ⟨h7, e7⟩ := fnGapCells_loop g lf n hG hbp.1 hS hP (by omega) (by omega) hlf (cellsL (R : Int) (C : Int) xs 0).length 0 lf h6 (by omega) (by have := cellsL_length (R : Int) (C : Int) xs 0; omega) (t5.keep k6) (hq5.keep k6) (o5.int.keep k6) o6.int
      refine ⟨h7, ?_⟩
      unfold laws_FnGapCells.main
      refine bd hlenp (bd f0 (cdF (bd e1 (bd extract_tup (bd extract_tup (bd extract_tup (bd extract_tup (bd e2 (bd e3 (bd e4 (bd un_not (cdF ?_))))))))))))
      exact bd e5 (bd f1 (cdF (bd e6 e7)))

/-! ### gaps of free boards, and mirrored -/
theorem free_all : (boards.all fun b => decide (gapL (b.1 : Int) (b.2 : Int) (List.replicate (b.1 * b.2) 0) 1 = (b.1 : Int)) && decide (gapL (b.1 : Int) (b.2 : Int) (List.replicate (b.1 * b.2) 0) 2 = (b.2 : Int))) = true := by kernel_rfl

def mirOkB (R C : Nat) : Bool :=
  ((List.range (R * C)).all fun k => (List.range (R * C)).all fun j => ((masksN R C).getD k 0).testBit j == ((masksN C R).getD (sig C R k) 0).testBit (sig C R j)) &&
  ((List.range (R * C)).all fun j => [1, 2].all fun P => [true, false].all fun last => (sideN R C P last).testBit j == (sideN C R (3 - P) last).testBit (sig C R j))
theorem mirOk_all : (boards.all fun b => mirOkB b.1 b.2) = true := by kernel_rfl

theorem cost_mirror {R C P : Nat} {r c : Int} {xs : List Int} (hs : Sides r c R C xs) (hP : P = 1 ∨ P = 2) {k j : Nat} (h : Cost (masksN R C) (sideN R C P false) (setL xs (P : Int)) (setL xs 0) k j) :
    Cost (masksN C R) (sideN C R (3 - P) false) (setL (mir R C xs) ((3 - P : Nat) : Int)) (setL (mir R C xs) 0) k (sig C R j) := by
  have hm := List.all_eq_true.1 mirOk_all (R, C) (board_mem (board_of_sides hs))
  unfold mirOkB at hm
  rw [Bool.and_eq_true] at hm
  have hadj : ∀ i j, i < R * C → j < R * C → Adj (masksN R C) i j → Adj (masksN C R) (sig C R i) (sig C R j) := fun i j hi hj ha => by
    have := List.all_eq_true.1 (List.all_eq_true.1 hm.1 i (by rw [List.mem_range]; exact hi)) j (by rw [List.mem_range]; exact hj)
    rw [beq_iff_eq] at this
    unfold Adj at ha ⊢
    rw [← this]; exact ha
  have hedge : ∀ j, j < R * C → (sideN R C P false).testBit j = true → (sideN C R (3 - P) false).testBit (sig C R j) = true := fun j hj he => by
    have := List.all_eq_true.1 hm.2 j (by rw [List.mem_range]; exact hj)
    have := List.all_eq_true.1 this P (by rcases hP with rfl | rfl <;> simp)
    have := List.all_eq_true.1 this false (by simp)
    rw [beq_iff_eq] at this
    rw [← this]; exact he
  have hown : ∀ j, (setL xs (P : Int)).testBit j = true → (setL (mir R C xs) ((3 - P : Nat) : Int)).testBit (sig C R j) = true := fun j hj => by
    rw [← swap_player hP, setL_mir hs, moved_bit]
    exact ⟨j, set_in hs hj, hj, rfl⟩
  have hfree : ∀ j, (setL xs 0).testBit j = true → (setL (mir R C xs) 0).testBit (sig C R j) = true := fun j hj => by
    have e : setL (mir R C xs) 0 = moved (sig C R) (setL xs 0) (R * C) := setL_mir hs 0
    rw [e, moved_bit]
    exact ⟨j, set_in hs hj, hj, rfl⟩
  have hin : ∀ {k j}, Cost (masksN R C) (sideN R C P false) (setL xs (P : Int)) (setL xs 0) k j → j < R * C := fun h => by
    cases h with
    | ownEdge _ h => exact set_in hs h
    | freeEdge _ h => exact set_in hs h
    | ownStep _ _ h => exact set_in hs h
    | freeStep _ _ h => exact set_in hs h
  induction h with
  | ownEdge h ho => exact .ownEdge (hedge _ (set_in hs ho) h) (hown _ ho)
  | freeEdge h hf => exact .freeEdge (hedge _ (set_in hs hf) h) (hfree _ hf)
  | ownStep h ha ho ih => exact .ownStep ih (hadj _ _ (hin h) (set_in hs ho) ha) (hown _ ho)
  | freeStep h ha hf ih => exact .freeStep ih (hadj _ _ (hin h) (set_in hs hf) ha) (hfree _ hf)

theorem hits_mirror {R C P : Nat} {r c : Int} {xs : List Int} (hs : Sides r c R C xs) (hP : P = 1 ∨ P = 2) {k : Nat} (h : Hits (masksN R C) (setL xs (P : Int)) (setL xs 0) (sideN R C P false) (sideN R C P true) k) :
    Hits (masksN C R) (setL (mir R C xs) ((3 - P : Nat) : Int)) (setL (mir R C xs) 0) (sideN C R (3 - P) false) (sideN C R (3 - P) true) k := by
  obtain ⟨j, hj, hc⟩ := h
  have hm := List.all_eq_true.1 mirOk_all (R, C) (board_mem (board_of_sides hs))
  unfold mirOkB at hm
  rw [Bool.and_eq_true] at hm
  have hjn : j < R * C := by
    cases hc with
    | ownEdge _ h => exact set_in hs h
    | freeEdge _ h => exact set_in hs h
    | ownStep _ _ h => exact set_in hs h
    | freeStep _ _ h => exact set_in hs h
  have := List.all_eq_true.1 hm.2 j (by rw [List.mem_range]; exact hjn)
  have := List.all_eq_true.1 this P (by rcases hP with rfl | rfl <;> simp)
  have := List.all_eq_true.1 this true (by simp)
  rw [beq_iff_eq] at this
  exact ⟨sig C R j, by rw [← this]; exact hj, cost_mirror hs hP hc⟩

theorem sides_mir {R C : Nat} {xs : List Int} (hb : posB (R : Int) (C : Int) xs = true) (hs : Sides (R : Int) (C : Int) R C xs) : Sides (C : Int) (R : Int) C R (mir R C xs) := by
  have hmb := posB_mir hs hb
  obtain ⟨R', C', hS'⟩ := sides_of hmb
  obtain ⟨a1, a2, rest⟩ := id hS'
  obtain rfl : R' = C := by omega
  obtain rfl : C' = R := by omega
  exact hS'

theorem gap_mirror {R C P : Nat} {xs : List Int} (hb : posB (R : Int) (C : Int) xs = true) (hs : Sides (R : Int) (C : Int) R C xs) (hP : P = 1 ∨ P = 2) : gapL (C : Int) (R : Int) (mir R C xs) ((3 - P : Nat) : Int) = gapL (R : Int) (C : Int) xs (P : Int) := by
  have hmb := posB_mir hs hb
  have hs' := sides_mir hb hs
  have hP' : 3 - P = 1 ∨ 3 - P = 2 := by omega
  have fwd : ∀ k, Hits (masksN R C) (setL xs (P : Int)) (setL xs 0) (sideN R C P false) (sideN R C P true) k → Hits (masksN C R) (setL (mir R C xs) ((3 - P : Nat) : Int)) (setL (mir R C xs) 0) (sideN C R (3 - P) false) (sideN C R (3 - P) true) k := fun k h => hits_mirror hs hP h
  have bwd : ∀ k, Hits (masksN C R) (setL (mir R C xs) ((3 - P : Nat) : Int)) (setL (mir R C xs) 0) (sideN C R (3 - P) false) (sideN C R (3 - P) true) k → Hits (masksN R C) (setL xs (P : Int)) (setL xs 0) (sideN R C P false) (sideN R C P true) k := fun k h => by
    have := hits_mirror hs' hP' h
    rw [mir_mir hs.2.2.1 hs.2.2.2.1 hs.2.2.2.2.1 hs.2.2.2.2.2.1 hs.2.2.2.2.2.2.1 hs.2.2.2.2.2.2.2.1, show 3 - (3 - P) = P by omega] at this
    exact this
  rw [gapL_eq hmb hP', gapL_eq hb hP]
  rcases gap_spec (P := P) hs with ⟨k, hk, hg⟩ | ⟨hk, hn⟩
  · rcases gap_spec (P := 3 - P) hs' with ⟨k', hk', hg'⟩ | ⟨_, hn'⟩
    · have : IsGap (masksN R C) (setL xs (P : Int)) (setL xs 0) (sideN R C P false) (sideN R C P true) k' := ⟨bwd _ hg'.1, fun i hi h => hg'.2 i hi (fwd i h)⟩
      rw [hk, hk', hg.unique this]
    · exact absurd (fwd _ hg.1) (hn' _)
  · rcases gap_spec (P := 3 - P) hs' with ⟨k', _, hg'⟩ | ⟨hk', _⟩
    · exact absurd (bwd _ hg'.1) (hn _)
    · rw [hk, hk']

theorem fnGapFree_calls (hG : GapOk g lf) {p : PV} {ys : List Int} {h : PHeap} (N : Nat) (hN : 21 ≤ N) (ha : Arg h p ys) (hlf : 1000 < lf) (ht : TabOk g h) :
    ∃ h', CL g lf N fn_laws_FnGapFree [p] h = some (.bool true, h') := by
  obtain ⟨n, rfl⟩ : ∃ n, N = n + 1 := ⟨N - 1, by omega⟩
  rw [laws_FnGapFree.call_eq]
  have hlenp : lenP Tryd.prog 22 p = some (.int .i64 ys.length) := (ha.1 h (Keep.refl _ _)).len tyB
  by_cases hbig : (1048576 : Int) < (ys.length : Int)
  · refine ⟨h, ?_⟩
    unfold laws_FnGapFree.main
    have f0 : binP Tryd.prog .gtr 3 (.int .i64 (ys.length : Int)) (.int .i64 1048576) = some (.bool true) := by rw [bin_gtr, decide_eq_true hbig]
    exact bd hlenp (bd f0 (cdT (bd res_bool rfl)))
  · have f0 : binP Tryd.prog .gtr 3 (.int .i64 (ys.length : Int)) (.int .i64 1048576) = some (.bool false) := by rw [bin_gtr, decide_eq_false hbig]
    obtain ⟨r, c, q, xs, pl, h1, e1, k1, hq, hl, hp1, hp2⟩ := drawGapOf_calls g lf n (by omega) ha (by omega)
    have t1 := ht.keep k1
    have hpos := specPositionOk_N g lf n (by omega) r c hq (by omega) (by omega)
    have f2 : binP Tryd.prog .gtr 3 (.int .i64 pl) (.int .i64 2) = some (.bool (decide (2 < pl))) := bin_gtr
    have fm : binP Tryd.prog .eql 3 (.int .i64 (-1)) (.int .i64 (-1)) = some (.bool true) := by rw [bin_eql]; rfl
    obtain ⟨h2, e2, k2⟩ := hG n (by omega) r c pl t1 hq (by omega) (by omega)
    have e5 := alive_calls g lf n (by omega) h2
    cases hb : posB r c xs with
    | false =>
      have hj := gapL_none (pl := pl) (.inl hb)
      rw [hj] at e2
      rw [hb] at hpos
      refine ⟨h2, ?_⟩
      unfold laws_FnGapFree.main
      refine bd hlenp (bd f0 (cdF (bd e1 (bd extract_tup (bd extract_tup (bd extract_tup (bd extract_tup ?_)))))))
      refine bd hpos (bd un_not (gn rfl (bd rfl (gn rfl (bd rfl (bd (v := PV.bool true) rfl (cdT ?_)))))))
      exact bd e2 (bd fm (gd rfl (bd e5 (bd (v := PV.bool true) rfl (bd res_bool rfl)))))
    | true =>
      rw [hb] at hpos
      by_cases hpl : 2 < pl
      · have hj := gapL_none (r := r) (c := c) (xs := xs) (.inr hpl)
        rw [hj] at e2
        rw [decide_eq_true hpl] at f2
        refine ⟨h2, ?_⟩
        unfold laws_FnGapFree.main
        refine bd hlenp (bd f0 (cdF (bd e1 (bd extract_tup (bd extract_tup (bd extract_tup (bd extract_tup ?_)))))))
        refine bd hpos (bd un_not (gd rfl (bd rfl (gd rfl (bd (congrArg (pv _) f2) (bd (v := PV.bool true) rfl (cdT ?_)))))))
        exact bd e2 (bd fm (gd rfl (bd e5 (bd (v := PV.bool true) rfl (bd res_bool rfl)))))
      · rw [decide_eq_false hpl] at f2
        clear e5 e2 k2
        obtain ⟨P, rfl⟩ := Int.eq_ofNat_of_zero_le (show 0 ≤ pl by omega)
        have hP : P = 1 ∨ P = 2 := by omega
        obtain ⟨R, C, hS⟩ := sides_of hb
        obtain ⟨rfl, rfl, s1, s2, s3, s4, s9, slen, sall⟩ := id hS
        have hfa := List.all_eq_true.1 free_all (R, C) (board_mem (board_of_sides hS))
        simp only [Bool.and_eq_true, decide_eq_true_eq] at hfa
        have hmir := gap_mirror hb hS hP
        have f3 : binP Tryd.prog .sub 3 (.int .i64 3) (.int .i64 (P : Int)) = some (.int .i64 ((3 - P : Nat) : Int)) := by
          rw [bin_sub, wr (by omega), show (3 : Int) - (P : Int) = ((3 - P : Nat) : Int) by omega]
        obtain ⟨q3, h3, e3, o3, k3⟩ := made (h := h1) (m := R * C) (by omega)
        have t3 := t1.keep k3
        have hq3 := hq.keep k3
        have e4 := alive_calls g lf n (by omega) h3
        obtain ⟨h4, e6, k4⟩ := hG n (by omega) (R : Int) (C : Int) 1 t3 o3.int (by simp; omega) (by simp; omega)
        rw [hfa.1] at e6
        have t4 := t3.keep k4
        have hq4 := hq3.keep k4
        have o4 := o3.keep k4
        obtain ⟨h5, e7, k5⟩ := hG n (by omega) (R : Int) (C : Int) 2 t4 o4.int (by simp; omega) (by simp; omega)
        rw [hfa.2] at e7
        have t5 := t4.keep k5
        have hq5 := hq4.keep k5
        obtain ⟨q6, h6, e8, o6, k6⟩ := mirrored_calls g lf n (by omega) (R : Int) (C : Int) hq5 (by omega) (by omega)
        have hmi : mirL (R : Int) (C : Int) xs = mir R C xs := by unfold mirL; rw [hb]; rfl
        rw [hmi] at o6
        have t6 := t5.keep k6
        have hq6 := hq5.keep k6
        obtain ⟨h7, e9, k7⟩ := hG n (by omega) (C : Int) (R : Int) ((3 - P : Nat) : Int) t6 o6.int (by rw [mir_length]; omega) (by rw [mir_length]; omega)
        rw [hmir] at e9
        have t7 := t6.keep k7
        obtain ⟨h8, e10, k8⟩ := hG n (by omega) (R : Int) (C : Int) (P : Int) t7 (hq6.keep k7) (by omega) (by omega)
        have feq : ∀ x : Int, binP Tryd.prog .eql 3 (.int .i64 x) (.int .i64 x) = some (.bool true) := fun x => by rw [bin_eql]; simp
        refine ⟨h8, ?_⟩
        unfold laws_FnGapFree.main
        refine bd hlenp (bd f0 (cdF (bd e1 (bd extract_tup (bd extract_tup (bd extract_tup (bd extract_tup ?_)))))))
        refine bd hpos (bd un_not (gd rfl (bd rfl (gd rfl (bd (congrArg (pv _) f2) (bd (v := PV.bool false) rfl (cdF ?_)))))))
        refine bd (f_mul R C (by omega)) (bd e3 (bd e4 ?_))
        refine gd rfl (bd rfl (gd rfl (bd rfl (gd rfl (bd rfl (gd rfl (bd e6 (gd rfl (bd rfl (gd rfl (bd (congrArg (pv _) (feq _)) ?_)))))))))))
        refine gd rfl (bd rfl (gd rfl (bd rfl (gd rfl (bd rfl (gd rfl (bd rfl (gd rfl (bd e7 (gd rfl (bd rfl (gd rfl (bd (congrArg (pv _) (feq _)) ?_)))))))))))))
        refine gd rfl (bd (v := (PV.bool true, h5)) rfl (gd rfl (bd rfl ?_)))
        refine gd rfl (bd rfl (gd rfl (bd rfl (gd rfl (bd rfl (gd rfl (bd rfl (gd rfl (bd rfl (gd rfl (bd e8 ?_)))))))))))
        refine gd rfl (bd rfl (gd rfl (bd (congrArg (pv _) f3) (gd rfl (bd e9 ?_)))))
        refine gd rfl (bd rfl (gd rfl (bd rfl (gd rfl (bd rfl (gd rfl (bd rfl (gd rfl (bd e10 (gd rfl (bd (congrArg (pv _) (feq _)) ?_)))))))))))
        exact gd rfl (bd (v := (PV.bool true, h8)) rfl (bd (v := PV.bool true) rfl (bd res_bool rfl)))

end Go.Proofs.YtiflfnlpkhghpaaDoor
