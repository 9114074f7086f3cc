/- Promises 10 and 15 over what the program's functions are asked to compute. -/
import Derived.Test.YtiflfnlpkhghpaaDoorQ3
namespace Go.Proofs.YtiflfnlpkhghpaaDoor
open Go Go.Ip G

/-! ### lists of sets -/
theorem listFrom_mem (S : Nat) (e : Int) : ∀ (m k : Nat), e ∈ listFrom S m k ↔ ∃ j : Nat, e = (j : Int) ∧ k ≤ j ∧ j < k + m ∧ S.testBit j = true
  | 0, k => by
    rw [listFrom]
    constructor
    · intro h; simp at h
    · rintro ⟨j, _, h1, h2, _⟩; omega
  | m + 1, k => by
    have ih := listFrom_mem S e m (k + 1)
    rw [listFrom]
    by_cases hb : S >>> k % 2 = 1
    · rw [if_pos hb, List.mem_cons, ih]
      constructor
      · rintro (h | ⟨j, h1, h2, h3, h4⟩)
        · exact ⟨k, h, Nat.le_refl _, by omega, (bit_iff S k).1 hb⟩
        · exact ⟨j, h1, by omega, by omega, h4⟩
      · rintro ⟨j, h1, h2, h3, h4⟩
        by_cases e2 : j = k
        · exact .inl (by rw [h1, e2])
        · exact .inr ⟨j, h1, by omega, by omega, h4⟩
    · rw [if_neg hb, ih]
      constructor
      · rintro ⟨j, h1, h2, h3, h4⟩
        exact ⟨j, h1, by omega, by omega, h4⟩
      · rintro ⟨j, h1, h2, h3, h4⟩
        by_cases e2 : j = k
        · subst e2; exact absurd ((bit_iff S j).2 h4) hb
        · exact ⟨j, h1, by omega, by omega, h4⟩

theorem listN_mem {S : Nat} (hS : S < 2 ^ 9) (e : Int) : e ∈ listN S ↔ ∃ j : Nat, e = (j : Int) ∧ S.testBit j = true := by
  unfold listN
  rw [listFrom_mem]
  constructor
  · rintro ⟨j, h1, _, _, h4⟩; exact ⟨j, h1, h4⟩
  · rintro ⟨j, h1, h4⟩; exact ⟨j, h1, Nat.zero_le _, by have := bit_small hS h4; omega, h4⟩

theorem listFrom_sorted (S : Nat) : ∀ (m k : Nat), (listFrom S m k).Pairwise (· < ·)
  | 0, _ => List.Pairwise.nil
  | m + 1, k => by
    have ih := listFrom_sorted S m (k + 1)
    rw [listFrom]
    split
    · refine List.pairwise_cons.2 ⟨fun e he => ?_, ih⟩
      obtain ⟨j, h1, h2, _, _⟩ := (listFrom_mem S e m (k + 1)).1 he
      omega
    · exact ih

theorem listN_sorted (S : Nat) : ∀ i (hi : i + 1 < (listN S).length), (listN S)[i] < (listN S)[i + 1] := fun i hi =>
  List.pairwise_iff_getElem.1 (listFrom_sorted S 9 0) i (i + 1) (by have : i + 1 < (listN S).length := hi; unfold listN at this; omega) hi (by omega)

/-! ### masks -/
def maskOkB (R C : Nat) : Bool :=
  (masksN R C).all (fun m => decide (m < 2 ^ (R * C))) && ((List.range (R * C)).all fun k => (List.range (R * C)).all fun j =>
    (((masksN R C).getD k 0).testBit j == ((masksN R C).getD j 0).testBit k) && (((masksN R C).getD k 0).testBit j == decide ((j : Int) ∈ nearN R C k)))
theorem maskOk_all : (boards.all fun b => maskOkB b.1 b.2) = true := by kernel_rfl

theorem adj_in {R C k j : Nat} (hB : BoardOf R C) (h : Adj (masksN R C) k j) : k < R * C ∧ j < R * C := by
  unfold Adj at h
  have hk : k < (masksN R C).length := by
    rcases Nat.lt_or_ge k (masksN R C).length with hlt | hge
    · exact hlt
    · rw [List.getD_eq_getElem?_getD, List.getElem?_eq_none hge] at h
      simp at h
  have hm := List.all_eq_true.1 maskOk_all (R, C) (board_mem hB)
  unfold maskOkB at hm
  rw [Bool.and_eq_true] at hm
  rw [List.getD_eq_getElem?_getD, List.getElem?_eq_getElem hk] at h
  have := List.all_eq_true.1 hm.1 _ (List.getElem_mem hk)
  have := of_decide_eq_true this
  exact ⟨by rw [masksN_length] at hk; exact hk, bit_small this h⟩

theorem adj_sym {R C : Nat} (hB : BoardOf R C) : ∀ k j, Adj (masksN R C) k j → Adj (masksN R C) j k := by
  intro k j h
  obtain ⟨hk, hj⟩ := adj_in hB h
  have hm := List.all_eq_true.1 maskOk_all (R, C) (board_mem hB)
  unfold maskOkB at hm
  rw [Bool.and_eq_true] at hm
  have := List.all_eq_true.1 (List.all_eq_true.1 hm.2 k (by rw [List.mem_range]; exact hk)) j (by rw [List.mem_range]; exact hj)
  rw [Bool.and_eq_true, beq_iff_eq, beq_iff_eq] at this
  unfold Adj at h ⊢
  rw [← this.1]; exact h

theorem adj_near {R C k j : Nat} (hB : BoardOf R C) (hk : k < R * C) (hj : j < R * C) (h : (j : Int) ∈ nearN R C k) : Adj (masksN R C) k j := by
  have hm := List.all_eq_true.1 maskOk_all (R, C) (board_mem hB)
  unfold maskOkB at hm
  rw [Bool.and_eq_true] at hm
  have := List.all_eq_true.1 (List.all_eq_true.1 hm.2 k (by rw [List.mem_range]; exact hk)) j (by rw [List.mem_range]; exact hj)
  rw [Bool.and_eq_true, beq_iff_eq, beq_iff_eq] at this
  unfold Adj
  rw [this.2, decide_eq_true_iff]; exact h

/-! ### groups -/
theorem reach_one {M : List Nat} {S k : Nat} (hk : S.testBit k = true) : Reach M S (1 <<< k) k := .start (by rw [one_bit]; simp) hk

theorem group_same {R C S k j : Nat} (hB : BoardOf R C) (hS : S < 2 ^ 9) (hk : S.testBit k = true) (h : Reach (masksN R C) S (1 <<< k) j) : growN (masksN R C) S (1 <<< j) = growN (masksN R C) S (1 <<< k) := by
  apply Nat.eq_of_testBit_eq
  intro i
  rw [Bool.eq_iff_iff, grow_bit hS, grow_bit hS]
  have one : ∀ {a : Nat} {x : Nat}, (1 <<< a).testBit x = true → x = a := fun {a x} hx => by rw [one_bit] at hx; exact of_decide_eq_true hx
  constructor
  · exact Reach.trans fun x hx => by rw [one hx]; exact h
  · exact Reach.trans fun x hx => by rw [one hx]; exact Reach.back (adj_sym hB) hk h

theorem groupL_stone {R C K : Nat} {xs : List Int} (hb : posB (R : Int) (C : Int) xs = true) {x : Int} (hx : xs[K]? = some x) (hz : x ≠ 0) : groupL (R : Int) (C : Int) xs (K : Int) = listN (growN (masksN R C) (setL xs x) (1 <<< K)) := by
  have hK : K < xs.length := (List.getElem?_eq_some_iff.1 hx).1
  have hgd : xs.getD K 0 = x := by rw [List.getD_eq_getElem?_getD, hx]; rfl
  unfold groupL stoneB
  rw [hb, decide_eq_true ⟨by omega, by omega⟩, show ((K : Int).toNat) = K from rfl, hgd, decide_eq_false hz]
  rfl

variable (g : Nat → PV) (lf n : Nat)

theorem drawGroupOf_calls {p : PV} {ys : List Int} {h : PHeap} (N : Nat) (hN : 6 ≤ N) (ha : Arg h p ys) (hlf : 20 < lf) :
    ∃ (r c : Int) (q : PV) (xs : List Int) (k : Int) (h' : PHeap), CL g lf N fn_spec_DrawGroupOf [p] h = some (.tup [.int .i64 r, .int .i64 c, q, .int .i64 k], h') ∧ Keep h.length h h' ∧ IntSl .i64 h' q xs ∧ xs.length ≤ 10 := by
  obtain ⟨n, rfl⟩ : ∃ n, N = n + 1 := ⟨N - 1, by omega⟩
  rw [spec_DrawGroupOf.call_eq]
  obtain ⟨h1, e1, r1, k1⟩ := open_calls g lf n (by omega) ha
  obtain ⟨r, c, q, xs, h2, e2, r2, k2, o2, hl, hrc⟩ := position_calls g lf n (by omega) 12 r1 (by omega) (by omega) (by omega) hlf
  obtain ⟨M, hM⟩ : ∃ M : Int, M = if (1 : Int) > (xs.length : Int) then 1 else (xs.length : Int) := ⟨_, rfl⟩
  have hM1 : 1 ≤ M ∧ M ≤ 10 := by rw [hM]; split <;> omega
  have f2 : foldP maxP2 (.int .i64 (xs.length : Int)) [.int .i64 1] = some (.int .i64 M) := by rw [hM]; rfl
  obtain ⟨v1, h3, e3, r3, o3, a1, a2, _⟩ := pick_calls g lf n (by omega) M r2 (by omega) (by omega)
  obtain ⟨v2, h4, e4, r4, o4, c1, c2, _⟩ := pick_calls g lf n (by omega) 40 r3 (by omega) (by omega)
  have a2' := a2 hM1.1
  obtain ⟨q2, q2a, q2b⟩ := quo_39 c1 (c2 (by omega))
  have f3 : binP Tryd.prog .mul 3 (.int .i64 (v2.tdiv 39)) (.int .i64 9) = some (.int .i64 (v2.tdiv 39 * 9)) := by rw [bin_mul, wr (by omega)]
  have f4 : binP Tryd.prog .add 3 (.int .i64 v1) (.int .i64 (v2.tdiv 39 * 9)) = some (.int .i64 (v1 + v2.tdiv 39 * 9)) := by rw [bin_add, wr (by omega)]
  have ho := (o2.keepOnly o3 (by omega)).keepOnly o4 (by omega)
  refine ⟨r, c, q, xs, v1 + v2.tdiv 39 * 9, h4, ?_, ((k1.trans k2).trans o3.keep).trans o4.keep, ho.int, hl⟩
  unfold spec_DrawGroupOf.main
  exact bd e1 (bd e2 (bd extract_tup (bd extract_tup (bd extract_tup (bd o2.int.len' (bd f2 (bd e3 (bd e4 (bd q2 (bd f3 (bd f4 (bd res_int (bd res_int (bd o2.res (bd res_int rfl)))))))))))))))

theorem loadAt {xs : List Int} {p a : PV} {h : PHeap} {i : Nat} (hp : IntSl .i64 h p xs) (hi : i < xs.length) (ha : indexAddrP Tryd.prog 23 p (.int .i64 (i : Int)) = some a) : loadP Tryd.prog 3 a h = some (.int .i64 xs[i]) := by
  obtain ⟨a', ha', hla⟩ := hp.at' hi
  obtain rfl : a = a' := Option.some.inj (ha.symm.trans ha')
  exact hla

theorem fnGroup_inner {R C K : Nat} {xs L NL : List Int} {x : Int} (hx : xs[K]? = some x) (hl : xs.length ≤ 9) (hLl : L.length ≤ 9) (hNl : NL.length ≤ 9) (hN : ∀ e ∈ NL, ∃ j : Nat, e = (j : Int) ∧ ∃ hj : j < xs.length, xs[j] = x → (j : Int) ∈ L) (hn : 1 ≤ n) (hlf : 1000 < lf) {q qL qN : PV} (i : Nat) (hi : i ≤ 100) {h : PHeap} (hq : IntSl .i64 h q xs) (hL : IntSl .i64 h qL L) (hNL : IntSl .i64 h qN NL) (Kk : PX → St → Res) : ∀ (m t fuel : Nat), t + m = NL.length → m < fuel →
    loopK (ev ((env g lf n).cx Tryd.prog laws_FnGroupOf.kl) laws_FnGroupOf.lp1) fuel (laws_FnGroupOf.st1 (.int .i64 (R : Int)) (.int .i64 (C : Int)) q (.int .i64 (K : Int)) qL (.int .i64 (i : Int)) qN (.int .i64 (t : Int)) h) (laws_FnGroupOf.K1 (env g lf n) Kk) =
      Kk .normal (laws_FnGroupOf.st0 (.int .i64 (R : Int)) (.int .i64 (C : Int)) q (.int .i64 (K : Int)) qL (.int .i64 ((i + 1 : Nat) : Int)) h)
  | 0, t, fuel, htm, hf => by
    obtain ⟨f, rfl⟩ : ∃ f, fuel = f + 1 := ⟨fuel - 1, by omega⟩
    have f1 : binP Tryd.prog .lss 3 (.int .i64 (t : Int)) (.int .i64 (NL.length : Int)) = some (.bool false) := by rw [bin_lss, decide_eq_false (by omega)]
    have f4 : binP Tryd.prog .add 3 (.int .i64 (i : Int)) (.int .i64 1) = some (.int .i64 ((i + 1 : Nat) : Int)) := by rw [bin_add, nx (by omega)]
    rw [loopK_succ, laws_FnGroupOf.body1_eq]
    unfold laws_FnGroupOf.body1
    refine bd hNL.len' (bd f1 (cdF ?_))
    rw [kLoop_exit, laws_FnGroupOf.after1_se2_3_4_5_6_7_8_9_10_79]
    exact bd f4 rfl
  | m + 1, t, fuel, htm, hf => by
    obtain ⟨f, rfl⟩ : ∃ f, fuel = f + 1 := ⟨fuel - 1, by omega⟩
    have ht : t < NL.length := by omega
    obtain ⟨j, hj, hjl, himp⟩ := hN _ (List.getElem_mem ht)
    have hK : K < xs.length := (List.getElem?_eq_some_iff.1 hx).1
    have hxK : xs[K] = x := by rw [List.getElem?_eq_getElem hK] at hx; exact Option.some.inj hx
    obtain ⟨a, ia, la⟩ := hNL.at' ht
    rw [hj] at la
    obtain ⟨b, ib, lb⟩ := hq.at' hjl
    obtain ⟨d, id', ld⟩ := hq.at' hK
    rw [hxK] at ld
    have f1 : binP Tryd.prog .lss 3 (.int .i64 (t : Int)) (.int .i64 (NL.length : Int)) = some (.bool true) := by rw [bin_lss, decide_eq_true (by omega)]
    have f2 : binP Tryd.prog .eql 3 (.int .i64 xs[j]) (.int .i64 x) = some (.bool (decide (xs[j] = x))) := by rw [bin_eql]; rfl
    have f4 : binP Tryd.prog .add 3 (.int .i64 (t : Int)) (.int .i64 1) = some (.int .i64 ((t + 1 : Nat) : Int)) := by rw [bin_add, nx (by omega)]
    have ih := fnGroup_inner (R := R) (C := C) hx hl hLl hNl hN hn hlf i hi hq hL hNL Kk m (t + 1) f (by omega) (by omega)
    have eH := hasInt_N g lf n hn (j : Int) hL (by omega) (by omega)
    rw [loopK_succ, laws_FnGroupOf.body1_eq]
    unfold laws_FnGroupOf.body1
    refine bd hNL.len' (bd f1 (cdT (bd ia (bd la (bd ib (bd lb (bd id' (bd ld (bd f2 ?_)))))))))
    by_cases e : xs[j] = x
    · rw [decide_eq_true e]
      rw [decide_eq_true (himp e)] at eH
      refine gd rfl (bd rfl (gd rfl (bd rfl (gd rfl (bd rfl (gd rfl (bd (congrArg (pv _) ia) (gd rfl (bd (congrArg (pv _) la) (gd rfl (bd eH ?_)))))))))))
      refine bd ld (ckT plain_int (bd lb (ckT plain_int (bd la (ckT plain_int ?_)))))
      refine gd rfl (bd (v := (PV.bool false, h)) rfl (bd (v := PV.bool false) rfl (cdF (bd f4 ih))))
    · rw [decide_eq_false e]
      refine gn rfl (bd rfl (gn rfl (bd rfl (gn rfl (bd rfl (gn rfl (bd rfl (gn rfl (bd rfl (gn rfl (bd rfl ?_)))))))))))
      refine bd ld (ckT plain_int (bd lb (ckT plain_int (bd la (ckT plain_int ?_)))))
      refine gn rfl (bd rfl (bd (v := PV.bool false) rfl (cdF (bd f4 ih))))

theorem fnGroup_loop (hGr : GroupOk g lf) {R C K : Nat} {xs : List Int} {x : Int} (hb : posB (R : Int) (C : Int) xs = true) (hS : Sides (R : Int) (C : Int) R C xs) (hx : xs[K]? = some x) (hz : x ≠ 0) (hn : 20 ≤ n) (hlf : 1000 < lf) {q qL : PV} : ∀ (m i fuel : Nat) (h : PHeap), i + m = (groupL (R : Int) (C : Int) xs (K : Int)).length → m < fuel →
    Tab g h → TabOk g h → IntSl .i64 h q xs → IntSl .i64 h qL (groupL (R : Int) (C : Int) xs (K : Int)) →
    ∃ h', loopK (ev ((env g lf n).cx Tryd.prog laws_FnGroupOf.kl) laws_FnGroupOf.lp0) fuel (laws_FnGroupOf.st0 (.int .i64 (R : Int)) (.int .i64 (C : Int)) q (.int .i64 (K : Int)) qL (.int .i64 (i : Int)) h) (laws_FnGroupOf.K0 (env g lf n) (kTop Tryd.prog Tryd.f4)) = some (.bool true, h')
  | m, i, fuel, h, him, hf, htt, ht, hq, hL => by
    obtain ⟨f, rfl⟩ : ∃ f, fuel = f + 1 := ⟨fuel - 1, by omega⟩
    have hB := board_of_sides hS
    obtain ⟨s1, s2, s3, s4, s9⟩ := id hB
    have hlen : xs.length = R * C := hS.2.2.2.2.2.2.2.1
    have hK : K < xs.length := (List.getElem?_eq_some_iff.1 hx).1
    have hxK : xs[K] = x := by have := hx; rw [List.getElem?_eq_getElem hK] at this; exact Option.some.inj this
    have hSx : setL xs x < 2 ^ 9 := set_lt9 hS x
    have hSK : (setL xs x).testBit K = true := setL_bit.2 hx
    have hgr := groupL_stone hb hx hz
    have hg9 : growN (masksN R C) (setL xs x) (1 <<< K) < 2 ^ 9 := grow_lt hSx
    have hll : (groupL (R : Int) (C : Int) xs (K : Int)).length ≤ 9 := groupL_length _ _ _ _
    have hmem : ∀ e, e ∈ groupL (R : Int) (C : Int) xs (K : Int) ↔ ∃ j : Nat, e = (j : Int) ∧ Reach (masksN R C) (setL xs x) (1 <<< K) j := by
      intro e
      rw [hgr, listN_mem hg9]
      constructor
      · rintro ⟨j, h1, h2⟩; exact ⟨j, h1, (grow_bit hSx j).1 h2⟩
      · rintro ⟨j, h1, h2⟩; exact ⟨j, h1, (grow_bit hSx j).2 h2⟩
    match m with
    | 0 =>
      have f1 : binP Tryd.prog .lss 3 (.int .i64 (i : Int)) (.int .i64 ((groupL (R : Int) (C : Int) xs (K : Int)).length : Int)) = some (.bool false) := by rw [bin_lss, decide_eq_false (by omega)]
      have eH := hasInt_N g lf n (by omega) (K : Int) hL (by omega) (by omega)
      rw [decide_eq_true ((hmem _).2 ⟨K, rfl, reach_one hSK⟩)] at eH
      have easc := ascend_calls g lf n (by omega) hL (by rw [hgr]; exact listN_sorted _) (by omega) (by omega)
      refine ⟨h, ?_⟩
      rw [loopK_succ, laws_FnGroupOf.body0_eq]
      unfold laws_FnGroupOf.body0
      refine bd hL.len' (bd f1 (cdF ?_))
      rw [kLoop_exit, laws_FnGroupOf.after0_se0_3_4_5_6_7_8_41]
      exact bd eH (gd rfl (bd rfl (gd rfl (bd easc (bd (v := PV.bool true) rfl (bd res_bool rfl))))))
    | m + 1 =>
      have hi : i < (groupL (R : Int) (C : Int) xs (K : Int)).length := by omega
      obtain ⟨j, hj, hreach⟩ := (hmem _).1 (List.getElem_mem hi)
      have hSj := hreach.inSet
      have hxj := setL_bit.1 hSj
      have hjl : j < xs.length := (List.getElem?_eq_some_iff.1 hxj).1
      have hxj' : xs[j] = x := by have := hxj; rw [List.getElem?_eq_getElem hjl] at this; exact Option.some.inj this
      obtain ⟨a, ia, la⟩ := hL.at' hi
      rw [hj] at la
      obtain ⟨b, ib, lb⟩ := hq.at' hjl
      rw [hxj'] at lb
      obtain ⟨d, id', ld⟩ := hq.at' hK
      rw [hxK] at ld
      have f1 : binP Tryd.prog .lss 3 (.int .i64 (i : Int)) (.int .i64 ((groupL (R : Int) (C : Int) xs (K : Int)).length : Int)) = some (.bool true) := by rw [bin_lss, decide_eq_true (by omega)]
      have f2 : binP Tryd.prog .neq 3 (.int .i64 x) (.int .i64 x) = some (.bool false) := by rw [bin_neq]; simp
      obtain ⟨q', h1, e1, o1, k1⟩ := hGr n hn (R : Int) (C : Int) (j : Int) ht hq (by omega) (by omega)
      have hsame : groupL (R : Int) (C : Int) xs (j : Int) = groupL (R : Int) (C : Int) xs (K : Int) := by
        rw [groupL_stone hb hxj hz, hgr, group_same hB hSx hSK hreach]
      rw [hsame] at o1
      have hq1 := hq.keep k1
      have hL1 := hL.keep k1
      have la1 := loadAt hL1 hi ia
      rw [hj] at la1
      have lb1 := loadAt hq1 hjl ib
      rw [hxj'] at lb1
      have ld1 := loadAt hq1 hK id'
      rw [hxK] at ld1
      have e2 := sameInts_N g lf n (by omega) o1.int hL1 (by omega) (by omega)
      rw [decide_eq_true rfl] at e2
      have t1 := ht.keep k1
      have tt1 := htt.keep k1
      obtain ⟨qN, h2, e3, o3, k3⟩ := nearCells_calls g lf n (by omega) (by omega) tt1 (R : Int) (C : Int) (j : Int)
      rw [nearL_cell (⟨rfl, rfl, rfl, s1, s2, s3, s4, s9, by omega⟩ : CellOf (R : Int) (C : Int) (j : Int) R C j)] at o3
      have hnl := nearN_length R C j
      have hN : ∀ e ∈ nearN R C j, ∃ t : Nat, e = (t : Int) ∧ ∃ ht : t < xs.length, xs[t] = x → (t : Int) ∈ groupL (R : Int) (C : Int) xs (K : Int) := by
        intro e he
        have hin := near_in s1 s2 s3 s4 s9 (show j < R * C by omega) e he
        obtain ⟨t, rfl⟩ := Int.eq_ofNat_of_zero_le hin.1
        have htl : t < xs.length := by omega
        refine ⟨t, rfl, htl, fun hxt => (hmem _).2 ⟨t, rfl, ?_⟩⟩
        exact .step hreach (adj_near hB (by omega) (by omega) he) (setL_bit.2 (by rw [List.getElem?_eq_getElem htl, hxt]))
      obtain ⟨h', ih⟩ := fnGroup_loop hGr hb hS hx hz hn hlf m (i + 1) f h2 (by omega) (by omega) (tt1.keep k3) (t1.keep k3) (hq1.keep k3) (hL1.keep k3)
      have inner := fnGroup_inner g lf n (R := R) (C := C) hx (by omega) hll (by omega) hN (by omega) hlf i (by omega) (hq1.keep k3) (hL1.keep k3) o3.int (kLoop (ev ((env g lf n).cx Tryd.prog laws_FnGroupOf.kl) laws_FnGroupOf.lp0) f (laws_FnGroupOf.K0 (env g lf n) (kTop Tryd.prog Tryd.f4))) (nearN R C j).length 0 lf (by omega) (by omega)
      refine ⟨h', ?_⟩
      rw [loopK_succ, laws_FnGroupOf.body0_eq]
      unfold laws_FnGroupOf.body0
      refine bd hL.len' (bd f1 (cdT (bd ia (bd la (bd ib (bd lb (bd id' (bd ld (bd f2 ?_)))))))))
      refine gd rfl (bd rfl (gd rfl (bd rfl (gd rfl (bd rfl (gd rfl (bd rfl (gd rfl (bd rfl (gd rfl (bd (congrArg (pv _) ia) (gd rfl (bd rfl (gd rfl (bd (congrArg (pv _) la) (gd rfl (bd e1 ?_)))))))))))))))))
      refine bd ld1 (ckT plain_int (bd lb1 (ckT plain_int (bd la1 (ckT plain_int ?_)))))
      refine gd rfl (bd e2 ?_)
      refine bd ld1 (ckT plain_int (bd lb1 (ckT plain_int (bd la1 (ckT plain_int ?_)))))
      refine gd rfl (bd (v := (PV.bool false, h1)) rfl (bd (v := PV.bool false) rfl (cdF ?_)))
      exact bd ia (bd la1 (bd e3 (inner.trans ih)))
termination_by m => m

theorem fnGroupOf_calls (hGr : GroupOk g lf) {p : PV} {ys : List Int} {h : PHeap} (N : Nat) (hN : 21 ≤ N) (ha : Arg h p ys) (hlf : 1000 < lf) (htt : Tab g h) (ht : TabOk g h) :
    ∃ h', CL g lf N fn_laws_FnGroupOf [p] h = some (.bool true, h') := by
  obtain ⟨n, rfl⟩ : ∃ n, N = n + 1 := ⟨N - 1, by omega⟩
  rw [laws_FnGroupOf.call_eq]
  have hlenp : lenP Tryd.prog 22 p = some (.int .i64 ys.length) := (ha.1 h (Keep.refl _ _)).len tyB
  by_cases hbig : (1048576 : Int) < (ys.length : Int)
  · refine ⟨h, ?_⟩
    unfold laws_FnGroupOf.main
    have f0 : binP Tryd.prog .gtr 3 (.int .i64 (ys.length : Int)) (.int .i64 1048576) = some (.bool true) := by rw [bin_gtr, decide_eq_true hbig]
    exact bd hlenp (bd f0 (cdT (bd res_bool rfl)))
  · have f0 : binP Tryd.prog .gtr 3 (.int .i64 (ys.length : Int)) (.int .i64 1048576) = some (.bool false) := by rw [bin_gtr, decide_eq_false hbig]
    obtain ⟨r, c, q, xs, k, h1, e1, k1, hq, hl⟩ := drawGroupOf_calls g lf n (by omega) ha (by omega)
    have t1 := ht.keep k1
    have tt1 := htt.keep k1
    obtain ⟨q2, h2, e2, o2, k2⟩ := hGr n (by omega) r c k t1 hq (by omega) (by omega)
    have t2 := t1.keep k2
    have tt2 := tt1.keep k2
    have hq2 := hq.keep k2
    obtain ⟨q3, h3, e3, o3, k3⟩ := specGroupOf_calls g lf n (by omega) r c k hq2 (by omega) (by omega) hlf
    have t3 := t2.keep k3
    have tt3 := tt2.keep k3
    have hq3 := hq2.keep k3
    have o2' := o2.keep k3
    have hgl := groupL_length r c xs k
    have e4 := sameInts_N g lf n (by omega) o2'.int o3.int (by omega) (by omega)
    rw [decide_eq_true rfl] at e4
    have e5 := alive_calls g lf n (by omega) h3
    have l2 := o2'.int.len'
    have f2 : binP Tryd.prog .eql 3 (.int .i64 ((groupL r c xs k).length : Int)) (.int .i64 0) = some (.bool (decide ((groupL r c xs k).length = 0))) := by
      rw [bin_eql]; exact congrArg (fun z => some (PV.bool z)) (natEq _ 0)
    by_cases hz : (groupL r c xs k).length = 0
    · rw [decide_eq_true hz] at f2
      refine ⟨h3, ?_⟩
      unfold laws_FnGroupOf.main
      refine bd hlenp (bd f0 (cdF (bd e1 (bd extract_tup (bd extract_tup (bd extract_tup (bd extract_tup (bd e2 (bd e3 (bd e4 (bd un_not (cdF ?_))))))))))))
      exact bd l2 (bd f2 (cdT (bd e5 (bd res_bool rfl))))
    · rw [decide_eq_false hz] at f2
      have hst : stoneB r c xs k = true := by
        cases e : stoneB r c xs k with
        | true => rfl
        | false => unfold groupL at hz; rw [e] at hz; simp at hz
      unfold stoneB at hst
      rw [Bool.and_eq_true, Bool.and_eq_true, decide_eq_true_iff, Bool.not_eq_true', decide_eq_false_iff_not] at hst
      obtain ⟨⟨hb, hk0⟩, hne⟩ := hst
      obtain ⟨K, rfl⟩ := Int.eq_ofNat_of_zero_le hk0.1
      have hK : K < xs.length := by omega
      rw [show ((K : Int).toNat) = K from rfl, List.getD_eq_getElem?_getD, List.getElem?_eq_getElem hK] at hne
      obtain ⟨R, C, hS⟩ := sides_of hb
      obtain ⟨rfl, rfl, _⟩ := id hS
      obtain ⟨h4, e6⟩ := fnGroup_loop g lf n hGr hb hS (List.getElem?_eq_getElem hK) hne (by omega) hlf _ 0 lf h3 (Nat.zero_add _) (by omega) tt3 t3 hq3 o2'.int
      refine ⟨h4, ?_⟩
      unfold laws_FnGroupOf.main
      refine bd hlenp (bd f0 (cdF (bd e1 (bd extract_tup (bd extract_tup (bd extract_tup (bd extract_tup (bd e2 (bd e3 (bd e4 (bd un_not (cdF ?_))))))))))))
      exact bd l2 (bd f2 (cdF e6))

end Go.Proofs.YtiflfnlpkhghpaaDoor
