/- Promises 2 and 8: neighbours are so both ways; all neighbours are counted by rows and columns. -/
import Derived.Test.YtaajbolfmhhdcaaDoorN2
namespace Go.Proofs.YtaajbolfmhhdcaaDoor
open Go Go.Ip G

/-! ### of all cells of all boards -/
def ascB : List Int → Bool
  | a :: b :: l => decide (a < b) && ascB (b :: l)
  | _ => true

theorem asc_get : ∀ {L : List Int}, ascB L = true → ∀ i (hi : i + 1 < L.length), L[i] < L[i + 1]
  | [], _, i, hi => by simp at hi
  | [a], _, i, hi => by simp at hi
  | a :: b :: l, h, 0, hi => by simp only [ascB, Bool.and_eq_true, decide_eq_true_eq] at h; exact h.1
  | a :: b :: l, h, i + 1, hi => by
    simp only [ascB, Bool.and_eq_true] at h
    exact asc_get h.2 i (by simpa using hi)

def nearOk (R C K : Nat) : Bool :=
  (nearN R C K).all (fun e => decide (0 ≤ e ∧ e < ((R * C : Nat) : Int)) && decide (e ≠ (K : Int)) && decide ((K : Int) ∈ nearN R C e.toNat) && decide (((R * C : Nat) : Int) - 1 - e ∈ nearN R C (R * C - 1 - K))) &&
    ascB (nearN R C K) && decide ((nearN R C (R * C - 1 - K)).length = (nearN R C K).length)

theorem near_all : ((List.range 5).all fun R => (List.range 5).all fun C => (List.range 9).all fun K => !(decide (1 ≤ R ∧ 1 ≤ C ∧ R * C ≤ 9 ∧ K < R * C)) || nearOk R C K) = true := by kernel_rfl

theorem near_ok {R C K : Nat} (h1 : 1 ≤ R) (h2 : R ≤ 4) (h3 : 1 ≤ C) (h4 : C ≤ 4) (h9 : R * C ≤ 9) (hK : K < R * C) : nearOk R C K = true := by
  have := List.all_eq_true.1 near_all R (by rw [List.mem_range]; omega)
  have := List.all_eq_true.1 this C (by rw [List.mem_range]; omega)
  have := List.all_eq_true.1 this K (by rw [List.mem_range]; omega)
  rwa [decide_eq_true ⟨h1, h3, h9, hK⟩, Bool.not_true, Bool.false_or] at this

def sumTo (R C : Nat) : Nat → Nat
  | 0 => 0
  | i + 1 => sumTo R C i + (nearN R C i).length

theorem sum_all : ((List.range 5).all fun R => (List.range 5).all fun C => !(decide (1 ≤ R ∧ 1 ≤ C ∧ R * C ≤ 9)) || decide ((sumTo R C (R * C) : Int) = 2 * ((R : Int) * ((C : Int) - 1) + (C : Int) * ((R : Int) - 1) + ((R : Int) - 1) * ((C : Int) - 1)))) = true := by kernel_rfl

theorem sum_ok {R C : Nat} (h1 : 1 ≤ R) (h2 : R ≤ 4) (h3 : 1 ≤ C) (h4 : C ≤ 4) (h9 : R * C ≤ 9) : (sumTo R C (R * C) : Int) = 2 * ((R : Int) * ((C : Int) - 1) + (C : Int) * ((R : Int) - 1) + ((R : Int) - 1) * ((C : Int) - 1)) := by
  have := List.all_eq_true.1 sum_all R (by rw [List.mem_range]; omega)
  have := List.all_eq_true.1 this C (by rw [List.mem_range]; omega)
  rw [decide_eq_true ⟨h1, h3, h9⟩, Bool.not_true, Bool.false_or] at this
  exact of_decide_eq_true this

theorem nearN_length (R C i : Nat) : (nearN R C i).length ≤ 6 := nearFrom_length R C i steps
theorem sumTo_le (R C : Nat) : ∀ i, sumTo R C i ≤ 6 * i
  | 0 => Nat.le_refl _
  | i + 1 => by
    have := sumTo_le R C i
    have := nearN_length R C i
    rw [sumTo]; omega

theorem nearL_cell {r c k : Int} {R C K : Nat} (h : CellOf r c k R C K) : nearL r c k = nearN R C K := by
  obtain ⟨rfl, rfl, rfl, h1, h2, h3, h4, h9, hK⟩ := h
  unfold nearL cellB boardB
  have e : ((R : Int) * (C : Int)) = ((R * C : Nat) : Int) := by rw [Int.natCast_mul]
  rw [decide_eq_true ⟨by omega, by omega, by omega, by omega, by omega⟩, decide_eq_true ⟨by omega, by omega⟩, Bool.true_and, if_pos rfl]; rfl

variable (g : Nat → PV) (lf n : Nat)

theorem quo_39 {v : Int} (h0 : 0 ≤ v) (h1 : v < 40) : binP Tryd.prog .quo 3 (.int .i64 v) (.int .i64 39) = some (.int .i64 (v.tdiv 39)) ∧ 0 ≤ v.tdiv 39 ∧ v.tdiv 39 ≤ 40 := by
  have := tdiv_range h0 (show (1 : Int) ≤ 39 by decide)
  rw [bin_quo (by decide), wr (by omega)]
  exact ⟨rfl, this.1, by omega⟩

theorem drawNear_calls {p : PV} {xs : List Int} {h : PHeap} (N : Nat) (hN : 5 ≤ N) (ha : Arg h p xs) :
    ∃ (r c k : Int) (h' : PHeap), CL g lf N fn_spec_DrawNearCells [p] h = some (.tup [.int .i64 r, .int .i64 c, .int .i64 k], h') ∧ Keep h.length h h' ∧ -1 ≤ r ∧ r ≤ 5 ∧ -1 ≤ c ∧ c ≤ 5 ∧ -1000 ≤ k ∧ k ≤ 1000 := by
  obtain ⟨n, rfl⟩ : ∃ n, N = n + 1 := ⟨N - 1, by omega⟩
  rw [spec_DrawNearCells.call_eq]
  obtain ⟨h1, e1, r1, k1⟩ := open_calls g lf n (by omega) ha
  obtain ⟨r, c, h2, e2, r2, k2, b1, b2, b3, b4⟩ := board_calls g lf n (by omega) 14 r1 (by omega) (by omega) (by omega)
  have hm := mul_bound b1 b2 b3 b4
  have f1 : binP Tryd.prog .mul 3 (.int .i64 r) (.int .i64 c) = some (.int .i64 (r * c)) := by rw [bin_mul, wr (by omega)]
  obtain ⟨M, hM⟩ : ∃ M : Int, M = if (1 : Int) > r * c then 1 else r * c := ⟨_, rfl⟩
  have hM1 : 1 ≤ M ∧ M ≤ 25 := by rw [hM]; split <;> omega
  have f2 : foldP maxP2 (.int .i64 (r * c)) [.int .i64 1] = some (.int .i64 M) := by rw [hM]; rfl
  obtain ⟨v1, h3, e3, r3, o3, a1, a2, _⟩ := pick_calls g lf n (by omega) M r2 (by omega) (by omega)
  obtain ⟨v2, h4, e4, r4, o4, c1, c2, _⟩ := pick_calls g lf n (by omega) 40 r3 (by omega) (by omega)
  obtain ⟨v3, h5, e5, r5, o5, d1, d2, _⟩ := pick_calls g lf n (by omega) 40 r4 (by omega) (by omega)
  have a2' := a2 hM1.1
  obtain ⟨q2, q2a, q2b⟩ := quo_39 c1 (c2 (by omega))
  obtain ⟨q3, q3a, q3b⟩ := quo_39 d1 (d2 (by omega))
  have f3 : binP Tryd.prog .mul 3 (.int .i64 (v2.tdiv 39)) (.int .i64 9) = some (.int .i64 (v2.tdiv 39 * 9)) := by rw [bin_mul, wr (by omega)]
  have f4 : binP Tryd.prog .add 3 (.int .i64 v1) (.int .i64 (v2.tdiv 39 * 9)) = some (.int .i64 (v1 + v2.tdiv 39 * 9)) := by rw [bin_add, wr (by omega)]
  have f5 : binP Tryd.prog .mul 3 (.int .i64 (v3.tdiv 39)) (.int .i64 20) = some (.int .i64 (v3.tdiv 39 * 20)) := by rw [bin_mul, wr (by omega)]
  have f6 : binP Tryd.prog .sub 3 (.int .i64 (v1 + v2.tdiv 39 * 9)) (.int .i64 (v3.tdiv 39 * 20)) = some (.int .i64 (v1 + v2.tdiv 39 * 9 - v3.tdiv 39 * 20)) := by rw [bin_sub, wr (by omega)]
  have K2 : Keep h.length h1 h2 := k2.keep k1.1
  refine ⟨r, c, v1 + v2.tdiv 39 * 9 - v3.tdiv 39 * 20, h5, ?_, (((k1.trans K2).trans o3.keep).trans o4.keep).trans o5.keep, b1, b2, b3, b4, by omega, by omega⟩
  unfold spec_DrawNearCells.main
  exact bd e1 (bd e2 (bd extract_tup (bd extract_tup (bd f1 (bd f2 (bd e3 (bd e4 (bd q2 (bd f3 (bd f4 (bd e5 (bd q3 (bd f5 (bd f6 (bd res_int (bd res_int (bd res_int rfl)))))))))))))))))

theorem fnNear_loop {r c k last : Int} {R C K : Nat} (hB : CellOf r c k R C K) (hlast : last = ((R * C : Nat) : Int) - 1) (hn : 5 ≤ n) (hlf : 20 < lf) {p q : PV} : ∀ (m i fuel : Nat) (h : PHeap), i + m = (nearN R C K).length → m < fuel →
    IntSl .i64 h p (nearN R C K) → IntSl .i64 h q (nearN R C (R * C - 1 - K)) → Tab g h →
    ∃ h', loopK (ev ((env g lf n).cx Tryd.prog laws_FnNearCells.kl) laws_FnNearCells.lp0) fuel (laws_FnNearCells.st0 (.int .i64 r) (.int .i64 c) (.int .i64 k) p (.int .i64 last) q (.int .i64 (i : Int)) h) (laws_FnNearCells.K0 (env g lf n) (kTop Tryd.prog Tryd.f3)) = some (.bool true, h')
  | 0, i, fuel, h, him, hf, hp, hq, ht => by
    obtain ⟨f, rfl⟩ : ∃ f, fuel = f + 1 := ⟨fuel - 1, by omega⟩
    obtain ⟨hr, hc, hk, h1, h2, h3, h4, h9, hK⟩ := id hB
    have hok := near_ok h1 h2 h3 h4 h9 hK
    unfold nearOk at hok
    simp only [Bool.and_eq_true, decide_eq_true_eq] at hok
    have hl6 := nearN_length R C K
    refine ⟨h, ?_⟩
    rw [loopK_succ, laws_FnNearCells.body0_eq]
    have f1 : binP Tryd.prog .lss 3 (.int .i64 (i : Int)) (.int .i64 ((nearN R C K).length : Int)) = some (.bool false) := by rw [bin_lss, decide_eq_false (by omega)]
    have easc := ascend_calls g lf n (by omega) hp (asc_get hok.1.2) (by omega) (by omega)
    have f2 : binP Tryd.prog .leq 3 (.int .i64 ((nearN R C K).length : Int)) (.int .i64 6) = some (.bool true) := by rw [bin_leq, decide_eq_true (by omega)]
    have f3 : binP Tryd.prog .eql 3 (.int .i64 ((nearN R C (R * C - 1 - K)).length : Int)) (.int .i64 ((nearN R C K).length : Int)) = some (.bool true) := by rw [bin_eql, hok.2]; simp
    have e5 := alive_calls g lf n (by omega) h
    unfold laws_FnNearCells.body0
    refine bd hp.len' (bd f1 (cdF ?_))
    rw [kLoop_exit, laws_FnNearCells.after0_se0_3_4_5_6_7_8_9_64]
    refine bd easc (gd rfl (bd rfl (gd rfl (bd (congrArg (pv _) hp.len') (gd rfl (bd (congrArg (pv _) f2) (bd (v := PV.bool true) rfl ?_)))))))
    refine gd rfl (bd rfl (gd rfl (bd (congrArg (pv _) hq.len') (gd rfl (bd rfl (gd rfl (bd (congrArg (pv _) hp.len') (gd rfl (bd (congrArg (pv _) f3) (bd (v := PV.bool true) rfl ?_))))))))))
    exact gd rfl (bd e5 (bd (v := PV.bool true) rfl (bd res_bool rfl)))
  | m + 1, i, fuel, h, him, hf, hp, hq, ht => by
    obtain ⟨f, rfl⟩ : ∃ f, fuel = f + 1 := ⟨fuel - 1, by omega⟩
    obtain ⟨hr, hc, hk, h1, h2, h3, h4, h9, hK⟩ := id hB
    have hok := near_ok h1 h2 h3 h4 h9 hK
    unfold nearOk at hok
    simp only [Bool.and_eq_true, decide_eq_true_eq] at hok
    have hl6 := nearN_length R C K
    have hl6' := nearN_length R C (R * C - 1 - K)
    have hi : i < (nearN R C K).length := by omega
    obtain ⟨a, hia, hla⟩ := hp.at' hi
    obtain ⟨e, he⟩ : ∃ e, e = (nearN R C K)[i] := ⟨_, rfl⟩
    have hmem : e ∈ nearN R C K := by rw [he]; exact List.getElem_mem hi
    have hall := List.all_eq_true.1 hok.1.1 e hmem
    simp only [Bool.and_eq_true, decide_eq_true_eq] at hall
    obtain ⟨⟨⟨⟨g0, gl⟩, gne⟩, gin⟩, gturn⟩ := hall
    obtain ⟨E, hE⟩ := Int.eq_ofNat_of_zero_le g0
    have hcE : CellOf r c e R C E := ⟨hr, hc, hE, h1, h2, h3, h4, h9, by omega⟩
    rw [show e.toNat = E by omega] at gin
    obtain ⟨q', h', eN, oN, kN⟩ := nearCells_calls g lf n (by omega) hlf ht r c e
    rw [nearL_cell hcE] at oN
    have hlE := nearN_length R C E
    have hp' := hp.keep kN
    have hq' := hq.keep kN
    have ht' := ht.keep kN
    obtain ⟨a', hia', hla'⟩ := hp'.at' hi
    obtain rfl : a = a' := Option.some.inj (hia.symm.trans hia')
    rw [← he] at hla hla'
    have eH1 := hasInt_N g lf n (by omega) (K : Int) oN.int (by omega) (by omega)
    rw [decide_eq_true gin, ← hk] at eH1
    have eH2 := hasInt_N g lf n (by omega) (((R * C : Nat) : Int) - 1 - e) hq' (by omega) (by omega)
    rw [decide_eq_true gturn, ← hlast] at eH2
    have f1 : binP Tryd.prog .lss 3 (.int .i64 (i : Int)) (.int .i64 ((nearN R C K).length : Int)) = some (.bool true) := by rw [bin_lss, decide_eq_true (by omega)]
    have f2 : binP Tryd.prog .eql 3 (.int .i64 e) (.int .i64 k) = some (.bool false) := by
      rw [bin_eql, hk]; simp; exact gne
    have f3 : binP Tryd.prog .sub 3 (.int .i64 last) (.int .i64 e) = some (.int .i64 (last - e)) := by rw [bin_sub, wr (by omega)]
    have f4 : binP Tryd.prog .add 3 (.int .i64 (i : Int)) (.int .i64 1) = some (.int .i64 ((i + 1 : Nat) : Int)) := by rw [bin_add, nx (by omega)]
    obtain ⟨h'', ih⟩ := fnNear_loop hB hlast hn hlf m (i + 1) f h' (by omega) (by omega) hp' hq' ht'
    refine ⟨h'', ?_⟩
    rw [loopK_succ, laws_FnNearCells.body0_eq]
    unfold laws_FnNearCells.body0
    refine bd hp.len' (bd f1 (cdT (bd hia (bd hla (bd f2 ?_)))))
    refine gd rfl (bd rfl (gd rfl (bd rfl (gd rfl (bd rfl (gd rfl (bd rfl (gd rfl (bd (congrArg (pv _) hia) (gd rfl (bd (congrArg (pv _) hla) ?_)))))))))))
    refine gd rfl (bd eN (gd rfl (bd rfl (gd rfl (bd eH1 (gd rfl (bd (v := (PV.bool false, h')) rfl (bd (v := PV.bool false) rfl ?_))))))))
    refine gd rfl (bd rfl (gd rfl (bd rfl (gd rfl (bd rfl (gd rfl (bd rfl (gd rfl (bd (congrArg (pv _) hia) (gd rfl (bd (congrArg (pv _) hla') ?_)))))))))))
    refine gd rfl (bd (congrArg (pv _) f3) (gd rfl (bd eH2 (gd rfl (bd (v := (PV.bool false, h')) rfl (bd (v := PV.bool false) rfl ?_))))))
    exact cdF (bd f4 ih)

theorem fnNearCells_calls {p : PV} {xs : List Int} {h : PHeap} (N : Nat) (hN : 6 ≤ N) (ha : Arg h p xs) (hlf : 20 < lf) (ht : Tab g h) :
    ∃ h', CL g lf N fn_laws_FnNearCells [p] h = some (.bool true, h') := by
  obtain ⟨n, rfl⟩ : ∃ n, N = n + 1 := ⟨N - 1, by omega⟩
  rw [laws_FnNearCells.call_eq]
  have hlenp : lenP Tryd.prog 22 p = some (.int .i64 xs.length) := (ha.1 h (Keep.refl _ _)).len tyB
  by_cases hbig : (1048576 : Int) < (xs.length : Int)
  · refine ⟨h, ?_⟩
    unfold laws_FnNearCells.main
    have f0 : binP Tryd.prog .gtr 3 (.int .i64 (xs.length : Int)) (.int .i64 1048576) = some (.bool true) := by rw [bin_gtr, decide_eq_true hbig]
    exact bd hlenp (bd f0 (cdT (bd res_bool rfl)))
  · obtain ⟨r, c, k, h1, e1, k1, b1, b2, b3, b4, b5, b6⟩ := drawNear_calls g lf n (by omega) ha
    have f0 : binP Tryd.prog .gtr 3 (.int .i64 (xs.length : Int)) (.int .i64 1048576) = some (.bool false) := by rw [bin_gtr, decide_eq_false hbig]
    have t1 := ht.keep k1
    obtain ⟨q2, h2, e2, o2, k2⟩ := nearCells_calls g lf n (by omega) hlf t1 r c k
    have t2 := t1.keep k2
    obtain ⟨q3, h3, e3, o3, k3⟩ := specNearCells_calls g lf n (by omega) hlf (h := h2) r c k
    have t3 := t2.keep k3
    have o2' := o2.keep k3
    have hl6 := nearL_length r c k
    have e4 := sameInts_N g lf n (by omega) o2'.int o3.int (by omega) (by omega)
    rw [decide_eq_true rfl] at e4
    have e5 := alive_calls g lf n (by omega) h3
    have hBk := specBoardOk_N g lf n (by omega) h3 r c
    have hm := mul_bound b1 b2 b3 b4
    have f2 : binP Tryd.prog .mul 3 (.int .i64 r) (.int .i64 c) = some (.int .i64 (r * c)) := by rw [bin_mul, wr (by omega)]
    have none : cellB r c k = false → ∀ z : PV × PHeap, lenP Tryd.prog 25 q2 = some (.int .i64 0) := fun hc _ => by
      have : nearL r c k = [] := by unfold nearL; rw [hc]; rfl
      rw [this] at o2'
      exact o2'.int.len'
    have f3 : binP Tryd.prog .eql 3 (.int .i64 0) (.int .i64 0) = some (.bool true) := by rw [bin_eql]; rfl
    cases hb : boardB r c with
    | false =>
      rw [hb] at hBk
      have hlen := none (by unfold cellB; rw [hb]; rfl) (q2, h2)
      refine ⟨h3, ?_⟩
      unfold laws_FnNearCells.main
      refine bd hlenp (bd f0 (cdF (bd e1 (bd extract_tup (bd extract_tup (bd extract_tup (bd e2 (bd e3 (bd e4 (bd un_not (cdF ?_)))))))))))
      refine bd hBk (bd un_not (gn rfl (bd rfl (gn rfl (bd rfl (bd (v := PV.bool true) rfl ?_))))))
      refine gn rfl (bd rfl (gn rfl (bd rfl (gn rfl (bd rfl (gn rfl (bd rfl (gn rfl (bd rfl (bd (v := PV.bool true) rfl (cdT ?_)))))))))))
      exact bd hlen (bd f3 (gd rfl (bd e5 (bd (v := PV.bool true) rfl (bd res_bool rfl)))))
    | true =>
      rw [hb] at hBk
      have g1 : binP Tryd.prog .lss 3 (.int .i64 k) (.int .i64 0) = some (.bool (decide (k < 0))) := bin_lss
      have g2 : binP Tryd.prog .geq 3 (.int .i64 k) (.int .i64 (r * c)) = some (.bool (decide (r * c ≤ k))) := bin_geq
      cases hneg : decide (k < 0) with
      | true =>
        rw [hneg] at g1
        have hlen := none (by unfold cellB; rw [hb, decide_eq_false (by have := of_decide_eq_true hneg; omega)]; rfl) (q2, h2)
        refine ⟨h3, ?_⟩
        unfold laws_FnNearCells.main
        refine bd hlenp (bd f0 (cdF (bd e1 (bd extract_tup (bd extract_tup (bd extract_tup (bd e2 (bd e3 (bd e4 (bd un_not (cdF ?_)))))))))))
        refine bd hBk (bd un_not (gd rfl (bd rfl (gd rfl (bd (congrArg (pv _) g1) (bd (v := PV.bool true) rfl ?_))))))
        refine gn rfl (bd rfl (gn rfl (bd rfl (gn rfl (bd rfl (gn rfl (bd rfl (gn rfl (bd rfl (bd (v := PV.bool true) rfl (cdT ?_)))))))))))
        exact bd hlen (bd f3 (gd rfl (bd e5 (bd (v := PV.bool true) rfl (bd res_bool rfl)))))
      | false =>
        rw [hneg] at g1
        cases hgt : decide (r * c ≤ k) with
        | true =>
          rw [hgt] at g2
          have hlen := none (by unfold cellB; rw [hb, decide_eq_false (by have := of_decide_eq_true hgt; omega)]; rfl) (q2, h2)
          refine ⟨h3, ?_⟩
          unfold laws_FnNearCells.main
          refine bd hlenp (bd f0 (cdF (bd e1 (bd extract_tup (bd extract_tup (bd extract_tup (bd e2 (bd e3 (bd e4 (bd un_not (cdF ?_)))))))))))
          refine bd hBk (bd un_not (gd rfl (bd rfl (gd rfl (bd (congrArg (pv _) g1) (bd (v := PV.bool false) rfl ?_))))))
          refine gd rfl (bd rfl (gd rfl (bd rfl (gd rfl (bd rfl (gd rfl (bd (congrArg (pv _) f2) (gd rfl (bd (congrArg (pv _) g2) (bd (v := PV.bool true) rfl (cdT ?_)))))))))))
          exact bd hlen (bd f3 (gd rfl (bd e5 (bd (v := PV.bool true) rfl (bd res_bool rfl)))))
        | false =>
          rw [hgt] at g2
          have hnn := of_decide_eq_false hneg
          have hlt := of_decide_eq_false hgt
          have hcell : cellB r c k = true := by unfold cellB; rw [hb, decide_eq_true (by omega)]; rfl
          obtain ⟨R, C, K, hB⟩ := cell_of hcell
          obtain ⟨hr, hc, hk, s1, s2, s3, s4, s9, sK⟩ := id hB
          have hrc : r * c = ((R * C : Nat) : Int) := by rw [hr, hc, Int.natCast_mul]
          obtain ⟨q4, h4, e6, o4, k4⟩ := nearCells_calls g lf n (by omega) hlf t3 r c (r * c - 1 - k)
          rw [nearL_cell (⟨hr, hc, by rw [hrc, hk]; omega, s1, s2, s3, s4, s9, by omega⟩ : CellOf r c (r * c - 1 - k) R C (R * C - 1 - K))] at o4
          rw [nearL_cell hB] at o2'
          have f5 : binP Tryd.prog .sub 3 (.int .i64 (r * c)) (.int .i64 1) = some (.int .i64 (r * c - 1)) := by rw [bin_sub, wr (by omega)]
          have f6 : binP Tryd.prog .sub 3 (.int .i64 (r * c - 1)) (.int .i64 k) = some (.int .i64 (r * c - 1 - k)) := by rw [bin_sub, wr (by omega)]
          obtain ⟨h5, e7⟩ := fnNear_loop g lf n hB (show r * c - 1 = ((R * C : Nat) : Int) - 1 by rw [hrc]) (by omega) hlf (nearN R C K).length 0 lf h4 (by omega) (by have := nearN_length R C K; omega) (o2'.int.keep k4) o4.int (t3.keep k4)
          refine ⟨h5, ?_⟩
          unfold laws_FnNearCells.main
          refine bd hlenp (bd f0 (cdF (bd e1 (bd extract_tup (bd extract_tup (bd extract_tup (bd e2 (bd e3 (bd e4 (bd un_not (cdF ?_)))))))))))
          refine bd hBk (bd un_not (gd rfl (bd rfl (gd rfl (bd (congrArg (pv _) g1) (bd (v := PV.bool false) rfl ?_))))))
          refine gd rfl (bd rfl (gd rfl (bd rfl (gd rfl (bd rfl (gd rfl (bd (congrArg (pv _) f2) (gd rfl (bd (congrArg (pv _) g2) (bd (v := PV.bool false) rfl (cdF ?_)))))))))))
          exact bd f2 (bd f5 (bd f6 (bd e6 e7)))

/-! ### promise 8 -/
theorem fnCount_loop {r c : Int} {R C : Nat} (hr : r = (R : Int)) (hc : c = (C : Int)) (h1 : 1 ≤ R) (h2 : R ≤ 4) (h3 : 1 ≤ C) (h4 : C ≤ 4) (h9 : R * C ≤ 9) (hn : 5 ≤ n) (hlf : 20 < lf) : ∀ (m i fuel : Nat) (h : PHeap), i + m = R * C → m < fuel → Tab g h →
    ∃ h', loopK (ev ((env g lf n).cx Tryd.prog laws_FnNearCount.kl) laws_FnNearCount.lp0) fuel (laws_FnNearCount.st0 (.int .i64 r) (.int .i64 c) (.int .i64 (sumTo R C i : Int)) (.int .i64 (i : Int)) h) (laws_FnNearCount.K0 (env g lf n) (kTop Tryd.prog Tryd.f5)) = some (.bool true, h')
  | 0, i, fuel, h, him, hf, ht => by
    obtain ⟨f, rfl⟩ : ∃ f, fuel = f + 1 := ⟨fuel - 1, by omega⟩
    obtain rfl : i = R * C := by omega
    have hrc : r * c = ((R * C : Nat) : Int) := by rw [hr, hc, Int.natCast_mul]
    have f2 : binP Tryd.prog .mul 3 (.int .i64 r) (.int .i64 c) = some (.int .i64 (r * c)) := by rw [bin_mul, wr (by omega)]
    have f1 : binP Tryd.prog .lss 3 (.int .i64 ((R * C : Nat) : Int)) (.int .i64 (r * c)) = some (.bool false) := by rw [bin_lss, hrc, decide_eq_false (by omega)]
    have hs := sum_ok h1 h2 h3 h4 h9
    have e5 := alive_calls g lf n (by omega) h
    refine ⟨h, ?_⟩
    rw [loopK_succ, laws_FnNearCount.body0_eq]
    unfold laws_FnNearCount.body0
    refine bd f2 (bd f1 (cdF ?_))
    rw [kLoop_exit, laws_FnNearCount.after0_se0_3_4_5_6_30]
    rw [← hr, ← hc] at hs
    have hr4 : 1 ≤ r ∧ r ≤ 4 := by omega
    have hc4 : 1 ≤ c ∧ c ≤ 4 := by omega
    have p1 : 0 ≤ r * (c - 1) ∧ r * (c - 1) ≤ 12 := by
      have : c = 1 ∨ c = 2 ∨ c = 3 ∨ c = 4 := by omega
      rcases this with h | h | h | h <;> rw [h] <;> omega
    have p2 : 0 ≤ c * (r - 1) ∧ c * (r - 1) ≤ 12 := by
      have : c = 1 ∨ c = 2 ∨ c = 3 ∨ c = 4 := by omega
      rcases this with h | h | h | h <;> rw [h] <;> omega
    have p3 : 0 ≤ (r - 1) * (c - 1) ∧ (r - 1) * (c - 1) ≤ 12 := by
      have : c = 1 ∨ c = 2 ∨ c = 3 ∨ c = 4 := by omega
      rcases this with h | h | h | h <;> rw [h] <;> omega
    have g1 : binP Tryd.prog .sub 3 (.int .i64 c) (.int .i64 1) = some (.int .i64 (c - 1)) := by rw [bin_sub, wr (by omega)]
    have g2 : binP Tryd.prog .mul 3 (.int .i64 r) (.int .i64 (c - 1)) = some (.int .i64 (r * (c - 1))) := by rw [bin_mul, wr (by omega)]
    have g3 : binP Tryd.prog .sub 3 (.int .i64 r) (.int .i64 1) = some (.int .i64 (r - 1)) := by rw [bin_sub, wr (by omega)]
    have g4 : binP Tryd.prog .mul 3 (.int .i64 c) (.int .i64 (r - 1)) = some (.int .i64 (c * (r - 1))) := by rw [bin_mul, wr (by omega)]
    have g5 : binP Tryd.prog .add 3 (.int .i64 (r * (c - 1))) (.int .i64 (c * (r - 1))) = some (.int .i64 (r * (c - 1) + c * (r - 1))) := by rw [bin_add, wr (by omega)]
    have g6 : binP Tryd.prog .mul 3 (.int .i64 (r - 1)) (.int .i64 (c - 1)) = some (.int .i64 ((r - 1) * (c - 1))) := by rw [bin_mul, wr (by omega)]
    have g7 : binP Tryd.prog .add 3 (.int .i64 (r * (c - 1) + c * (r - 1))) (.int .i64 ((r - 1) * (c - 1))) = some (.int .i64 (r * (c - 1) + c * (r - 1) + (r - 1) * (c - 1))) := by rw [bin_add, wr (by omega)]
    have g8 : binP Tryd.prog .mul 3 (.int .i64 2) (.int .i64 (r * (c - 1) + c * (r - 1) + (r - 1) * (c - 1))) = some (.int .i64 (2 * (r * (c - 1) + c * (r - 1) + (r - 1) * (c - 1)))) := by rw [bin_mul, wr (by omega)]
    have g9 : binP Tryd.prog .eql 3 (.int .i64 (sumTo R C (R * C) : Int)) (.int .i64 (2 * (r * (c - 1) + c * (r - 1) + (r - 1) * (c - 1)))) = some (.bool true) := by rw [bin_eql, hs]; simp
    exact bd g1 (bd g2 (bd g3 (bd g4 (bd g5 (bd g3 (bd g1 (bd g6 (bd g7 (bd g8 (bd g9 (gd rfl (bd e5 (bd (v := PV.bool true) rfl (bd res_bool rfl))))))))))))))
  | m + 1, i, fuel, h, him, hf, ht => by
    obtain ⟨f, rfl⟩ : ∃ f, fuel = f + 1 := ⟨fuel - 1, by omega⟩
    have hrc : r * c = ((R * C : Nat) : Int) := by rw [hr, hc, Int.natCast_mul]
    have f2 : binP Tryd.prog .mul 3 (.int .i64 r) (.int .i64 c) = some (.int .i64 (r * c)) := by rw [bin_mul, wr (by omega)]
    have f1 : binP Tryd.prog .lss 3 (.int .i64 (i : Int)) (.int .i64 (r * c)) = some (.bool true) := by rw [bin_lss, hrc, decide_eq_true (by omega)]
    obtain ⟨q', h', eN, oN, kN⟩ := nearCells_calls g lf n (by omega) hlf ht r c (i : Int)
    rw [nearL_cell (⟨hr, hc, rfl, h1, h2, h3, h4, h9, by omega⟩ : CellOf r c (i : Int) R C i)] at oN
    have hl := nearN_length R C i
    have hs := sumTo_le R C i
    have f3 : binP Tryd.prog .add 3 (.int .i64 (sumTo R C i : Int)) (.int .i64 ((nearN R C i).length : Int)) = some (.int .i64 (sumTo R C (i + 1) : Int)) := by
      rw [bin_add, wr (by omega), sumTo, Int.natCast_add]
    have f4 : binP Tryd.prog .add 3 (.int .i64 (i : Int)) (.int .i64 1) = some (.int .i64 ((i + 1 : Nat) : Int)) := by rw [bin_add, nx (by omega)]
    obtain ⟨h'', ih⟩ := fnCount_loop hr hc h1 h2 h3 h4 h9 hn hlf m (i + 1) f h' (by omega) (by omega) (ht.keep kN)
    refine ⟨h'', ?_⟩
    rw [loopK_succ, laws_FnNearCount.body0_eq]
    unfold laws_FnNearCount.body0
    exact bd f2 (bd f1 (cdT (bd eN (bd oN.int.len' (bd f3 (bd f4 ih))))))

theorem fnNearCount_calls {p : PV} {xs : List Int} {h : PHeap} (N : Nat) (hN : 6 ≤ N) (ha : Arg h p xs) (hlf : 20 < lf) (ht : Tab g h) :
    ∃ h', CL g lf N fn_laws_FnNearCount [p] h = some (.bool true, h') := by
  obtain ⟨n, rfl⟩ : ∃ n, N = n + 1 := ⟨N - 1, by omega⟩
  rw [laws_FnNearCount.call_eq]
  have hlenp : lenP Tryd.prog 22 p = some (.int .i64 xs.length) := (ha.1 h (Keep.refl _ _)).len tyB
  by_cases hbig : (1048576 : Int) < (xs.length : Int)
  · refine ⟨h, ?_⟩
    unfold laws_FnNearCount.main
    have f0 : binP Tryd.prog .gtr 3 (.int .i64 (xs.length : Int)) (.int .i64 1048576) = some (.bool true) := by rw [bin_gtr, decide_eq_true hbig]
    exact bd hlenp (bd f0 (cdT (bd res_bool rfl)))
  · obtain ⟨r, c, h1, e1, k1, b1, b2, b3, b4⟩ := drawBoard_calls g lf n (by omega) ha
    have f0 : binP Tryd.prog .gtr 3 (.int .i64 (xs.length : Int)) (.int .i64 1048576) = some (.bool false) := by rw [bin_gtr, decide_eq_false hbig]
    have hBk := specBoardOk_N g lf n (by omega) h1 r c
    cases hb : boardB r c with
    | false =>
      rw [hb] at hBk
      have hBi := boardOk_N g lf n (by omega) h1 r c
      rw [hb] at hBi
      have e5 := alive_calls g lf n (by omega) h1
      refine ⟨h1, ?_⟩
      unfold laws_FnNearCount.main
      refine bd hlenp (bd f0 (cdF (bd e1 (bd extract_tup (bd extract_tup (bd hBk (bd un_not (cdT ?_))))))))
      exact bd hBi (bd un_not (gd rfl (bd e5 (bd (v := PV.bool true) rfl (bd res_bool rfl)))))
    | true =>
      rw [hb] at hBk
      have hb' := hb
      unfold boardB at hb'
      have hm := of_decide_eq_true hb'
      obtain ⟨R, hR⟩ := Int.eq_ofNat_of_zero_le (show 0 ≤ r by omega)
      obtain ⟨C, hC⟩ := Int.eq_ofNat_of_zero_le (show 0 ≤ c by omega)
      have h9 := hm.2.2.2.2
      rw [hR, hC, ← Int.natCast_mul] at h9
      obtain ⟨h2, e2⟩ := fnCount_loop g lf n hR hC (by omega) (by omega) (by omega) (by omega) (by omega) (by omega) hlf (R * C) 0 lf h1 (by omega) (by omega) (ht.keep k1)
      refine ⟨h2, ?_⟩
      unfold laws_FnNearCount.main
      exact bd hlenp (bd f0 (cdF (bd e1 (bd extract_tup (bd extract_tup (bd hBk (bd un_not (cdF e2))))))))

end Go.Proofs.YtaajbolfmhhdcaaDoor
