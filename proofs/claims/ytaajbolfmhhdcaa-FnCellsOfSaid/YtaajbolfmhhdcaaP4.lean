/- Promise 4: each cell is of one kind. -/
import Derived.Test.YtaajbolfmhhdcaaP5
namespace Go.Proofs.Ytaajbolfmhhdcaa
open Go Go.Ip Go.RowKit G

variable (g : Nat → PV) (lf n : Nat)

/-! ### what is listed -/
theorem cellsFrom_mem (x : Int) : ∀ (ys : List Int) (i : Nat) (e : Int), e ∈ cellsFrom x i ys → ∃ j : Nat, e = ((i + j : Nat) : Int) ∧ ys[j]? = some x
  | [], _, _, h => by cases h
  | y :: ys, i, e, h => by
    rw [cellsFrom] at h
    by_cases hy : y = x
    · rw [if_pos hy, List.mem_cons] at h
      rcases h with rfl | h
      · exact ⟨0, rfl, by simp [hy]⟩
      · obtain ⟨j, he, hj⟩ := cellsFrom_mem x ys (i + 1) e h
        exact ⟨j + 1, by rw [he]; congr 1; omega, by simpa using hj⟩
    · rw [if_neg hy] at h
      obtain ⟨j, he, hj⟩ := cellsFrom_mem x ys (i + 1) e h
      exact ⟨j + 1, by rw [he]; congr 1; omega, by simpa using hj⟩

theorem cellsFrom_sorted (x : Int) : ∀ (ys : List Int) (i : Nat), (cellsFrom x i ys).Pairwise (· < ·)
  | [], _ => List.Pairwise.nil
  | y :: ys, i => by
    rw [cellsFrom]
    have ih := cellsFrom_sorted x ys (i + 1)
    by_cases hy : y = x
    · rw [if_pos hy, List.pairwise_cons]
      refine ⟨fun e he => ?_, ih⟩
      obtain ⟨j, he, _⟩ := cellsFrom_mem x ys (i + 1) e he
      omega
    · rw [if_neg hy]; exact ih

theorem cells_sum : ∀ (ys : List Int), ys.all contentB = true → ys.count 0 + ys.count 1 + ys.count 2 = ys.length
  | [], _ => rfl
  | y :: ys, h => by
    simp only [List.all_cons, Bool.and_eq_true] at h
    have ih := cells_sum ys h.2
    have hy := h.1
    unfold contentB at hy
    have hy := of_decide_eq_true hy
    have : y = 0 ∨ y = 1 ∨ y = 2 := by omega
    rcases this with rfl | rfl | rfl <;> simp <;> omega

/-! ### ascend -/
theorem asc_loop {L : List Int} {p : PV} {h : PHeap} (hp : IntSl .i64 h p L) (hs : ∀ i (hi : i + 1 < L.length), L[i] < L[i + 1]) (hl : L.length ≤ 2 ^ 36) : ∀ (m j fuel : Nat), L.length ≤ j + 1 + m → j ≤ 2 ^ 36 → m < fuel →
    loopK (ev ((env g lf n).cx Try.prog laws_ascend.kl) laws_ascend.lp0) fuel (laws_ascend.st0 p (.int .i64 ((j + 1 : Nat) : Int)) h) (laws_ascend.K0 (env g lf n) (kTop Try.prog Try.f24)) = some (.bool true, h) := by
  intro m
  induction m with
  | zero =>
    intro j fuel hj hj2 hf
    obtain ⟨f, rfl⟩ : ∃ f, fuel = f + 1 := ⟨fuel - 1, by omega⟩
    rw [loopK_succ, laws_ascend.body0_eq]
    have f1 : binP Try.prog .lss 3 (.int .i64 ((j + 1 : Nat) : Int)) (.int .i64 (L.length : Int)) = some (.bool false) := by rw [bin_lss, decide_eq_false (by omega)]
    unfold laws_ascend.body0
    refine bd hp.len' (bd f1 (cdF ?_))
    show laws_ascend.K0 (env g lf n) _ (.exit 0) _ = _
    rw [laws_ascend.after0_se0_0_3_7]
    exact bd res_bool rfl
  | succ m ih =>
    intro j fuel hj hj2 hf
    obtain ⟨f, rfl⟩ : ∃ f, fuel = f + 1 := ⟨fuel - 1, by omega⟩
    rw [loopK_succ, laws_ascend.body0_eq]
    unfold laws_ascend.body0
    by_cases hlt : j + 1 < L.length
    · have f1 : binP Try.prog .lss 3 (.int .i64 ((j + 1 : Nat) : Int)) (.int .i64 (L.length : Int)) = some (.bool true) := by rw [bin_lss, decide_eq_true (by omega)]
      have f2 : binP Try.prog .sub 3 (.int .i64 ((j + 1 : Nat) : Int)) (.int .i64 1) = some (.int .i64 (j : Int)) := by rw [bin_sub, show (((j + 1 : Nat) : Int) - 1) = (j : Int) by omega, wr (by omega)]
      have f3 : binP Try.prog .add 3 (.int .i64 ((j + 1 : Nat) : Int)) (.int .i64 1) = some (.int .i64 ((j + 1 + 1 : Nat) : Int)) := by rw [bin_add, nx (by omega)]
      obtain ⟨a, ha, hla⟩ := hp.at' (show j < L.length by omega)
      obtain ⟨b, hb, hlb⟩ := hp.at' hlt
      have hlt' := hs j hlt
      have f4 : binP Try.prog .geq 3 (.int .i64 L[j]) (.int .i64 L[j + 1]) = some (.bool false) := by rw [bin_geq, decide_eq_false (by omega)]
      exact bd hp.len' (bd f1 (cdT (bd f2 (bd ha (bd hla (bd hb (bd hlb (bd f4 (cdF (bd f3 (ih (j + 1) f (by omega) (by omega) (by omega))))))))))))
    · have f1 : binP Try.prog .lss 3 (.int .i64 ((j + 1 : Nat) : Int)) (.int .i64 (L.length : Int)) = some (.bool false) := by rw [bin_lss, decide_eq_false (by omega)]
      refine bd hp.len' (bd f1 (cdF ?_))
      show laws_ascend.K0 (env g lf n) _ (.exit 0) _ = _
      rw [laws_ascend.after0_se0_0_3_7]
      exact bd res_bool rfl

theorem ascend_calls {L : List Int} {p : PV} {h : PHeap} (N : Nat) (hN : 1 ≤ N) (hp : IntSl .i64 h p L) (hs : ∀ i (hi : i + 1 < L.length), L[i] < L[i + 1]) (hl : L.length ≤ 2 ^ 36) (hf : L.length < lf) :
    CL g lf N fn_laws_ascend [p] h = some (.bool true, h) := by
  obtain ⟨n, rfl⟩ : ∃ n, N = n + 1 := ⟨N - 1, by omega⟩
  rw [laws_ascend.call_eq]
  exact asc_loop g lf n hp hs hl L.length 0 lf (by omega) (by omega) hf

theorem drawCells_calls {p : PV} {xs : List Int} {h : PHeap} (N : Nat) (hN : 5 ≤ N) (ha : Arg h p xs) (hlf : 20 < lf) :
    ∃ (r c : Int) (q : PV) (zs : List Int) (x : Int) (h' : PHeap), CL g lf N fn_spec_DrawCellsOf [p] h = some (.tup [.int .i64 r, .int .i64 c, q, .int .i64 x], h') ∧ IntSl .i64 h' q zs ∧ zs.length ≤ 10 := by
  obtain ⟨n, rfl⟩ : ∃ n, N = n + 1 := ⟨N - 1, by omega⟩
  rw [spec_DrawCellsOf.call_eq]
  obtain ⟨h1, e1, r1, k1⟩ := open_calls g lf n (by omega) ha
  obtain ⟨r, c, q, zs, h2, e2, r2, k2, o2, hl, hrc⟩ := position_calls g lf n (by omega) 9 r1 (by omega) (by omega) (by omega) hlf
  obtain ⟨w1, h3, e3, r3, o3, _⟩ := pick_calls g lf n (by omega) 3 r2 (by omega) (by omega)
  have ho3 := o2.keepOnly o3 (by omega)
  obtain ⟨w2, h4, e4, r4, o4, _⟩ := pick_calls g lf n (by omega) 30 r3 (by omega) (by omega)
  have ho4 := ho3.keepOnly o4 (by omega)
  have f1 := bin_quo (P := Try.prog) (t := 3) (k := .i64) (a := w2) (show (29 : Int) ≠ 0 by omega)
  obtain ⟨Q, hQ⟩ : ∃ Q, Q = IntKind.i64.wrap (w2.tdiv 29) := ⟨_, rfl⟩
  rw [← hQ] at f1
  have f2 := bin_mul (P := Try.prog) (t := 3) (k := .i64) (a := Q) (b := 3)
  obtain ⟨R, hR⟩ : ∃ R, R = IntKind.i64.wrap (Q * 3) := ⟨_, rfl⟩
  rw [← hR] at f2
  have f3 := bin_add (P := Try.prog) (t := 3) (k := .i64) (a := w1) (b := R)
  refine ⟨r, c, q, zs, IntKind.i64.wrap (w1 + R), h4, ?_, ho4.int, hl⟩
  unfold spec_DrawCellsOf.main
  exact bd e1 (bd e2 (bd extract_tup (bd extract_tup (bd extract_tup (bd e3 (bd e4 (bd f1 (bd f2 (bd f3 (bd res_int (bd res_int (bd o2.res (bd res_int rfl)))))))))))))

/-! ### the law's own loops -/
theorem cnt_step {zs : List Int} {q q2 X : PV} {h : PHeap} (r c v S : Int) (f : Nat) (hn : 4 ≤ n) (hq : IntSl .i64 h q zs) (hl : zs.length ≤ 10) (hlf : 20 < lf) (hv : 0 ≤ v ∧ v ≤ 2) (hS : 0 ≤ S ∧ S ≤ 1000) :
    ∃ h', Keep h.length h h' ∧
      loopK (ev ((env g lf n).cx Try.prog laws_FnCellsOf.kl) laws_FnCellsOf.lp0) (f + 1) (laws_FnCellsOf.st0 (.int .i64 r) (.int .i64 c) q X q2 (.int .i64 S) (.int .i64 v) h) (laws_FnCellsOf.K0 (env g lf n) (kTop Try.prog Try.f5)) =
        loopK (ev ((env g lf n).cx Try.prog laws_FnCellsOf.kl) laws_FnCellsOf.lp0) f (laws_FnCellsOf.st0 (.int .i64 r) (.int .i64 c) q X q2 (.int .i64 (S + ((cellsL r c zs v).length : Int))) (.int .i64 (v + 1)) h') (laws_FnCellsOf.K0 (env g lf n) (kTop Try.prog Try.f5)) := by
  obtain ⟨q', h', e, o, k⟩ := cellsOf_calls g lf n hn r c v hq (by omega) (by omega)
  have hle := cellsL_length r c zs v
  refine ⟨h', k, ?_⟩
  rw [loopK_succ, laws_FnCellsOf.body0_eq]
  unfold laws_FnCellsOf.body0
  have f1 : binP Try.prog .leq 3 (.int .i64 v) (.int .i64 2) = some (.bool true) := by rw [bin_leq, decide_eq_true hv.2]
  have f2 : binP Try.prog .add 3 (.int .i64 S) (.int .i64 ((cellsL r c zs v).length : Int)) = some (.int .i64 (S + ((cellsL r c zs v).length : Int))) := by rw [bin_add, wr (by omega)]
  have f3 : binP Try.prog .add 3 (.int .i64 v) (.int .i64 1) = some (.int .i64 (v + 1)) := by rw [bin_add, wr (by omega)]
  exact bd f1 (cdT (bd e (bd o.int.len' (bd f2 (bd f3 rfl)))))

theorem cnt_loop {zs : List Int} {q q2 X : PV} {h : PHeap} (r c : Int) (fuel : Nat) (hfu : 4 ≤ fuel) (hn : 4 ≤ n) (hq : IntSl .i64 h q zs) (hl : zs.length ≤ 10) (hlf : 20 < lf) :
    ∃ h' v w, Keep h.length h h' ∧
      loopK (ev ((env g lf n).cx Try.prog laws_FnCellsOf.kl) laws_FnCellsOf.lp0) fuel (laws_FnCellsOf.st0 (.int .i64 r) (.int .i64 c) q X q2 (.int .i64 0) (.int .i64 0) h) (laws_FnCellsOf.K0 (env g lf n) (kTop Try.prog Try.f5)) =
        laws_FnCellsOf.K0 (env g lf n) (kTop Try.prog Try.f5) (.exit 0) (laws_FnCellsOf.se0_3_4_5_6_7_8_9_46 (.int .i64 r) (.int .i64 c) q X q2 (.int .i64 (0 + ((cellsL r c zs 0).length : Int) + ((cellsL r c zs (0 + 1)).length : Int) + ((cellsL r c zs (0 + 1 + 1)).length : Int))) v w h') := by
  obtain ⟨f, rfl⟩ : ∃ f, fuel = f + 1 + 1 + 1 + 1 := ⟨fuel - 4, by omega⟩
  have l0 := cellsL_length r c zs 0
  have l1 := cellsL_length r c zs (0 + 1)
  have l2 := cellsL_length r c zs (0 + 1 + 1)
  obtain ⟨h1, k1, s1⟩ := cnt_step g lf n (q2 := q2) (X := X) r c 0 0 (f + 1 + 1 + 1) hn hq hl hlf (by omega) (by omega)
  obtain ⟨h2, k2, s2⟩ := cnt_step g lf n (q2 := q2) (X := X) r c (0 + 1) (0 + ((cellsL r c zs 0).length : Int)) (f + 1 + 1) hn (hq.keep k1) hl hlf (by omega) (by omega)
  obtain ⟨h3, k3, s3⟩ := cnt_step g lf n (q2 := q2) (X := X) r c (0 + 1 + 1) (0 + ((cellsL r c zs 0).length : Int) + ((cellsL r c zs (0 + 1)).length : Int)) (f + 1) hn ((hq.keep k1).keep k2) hl hlf (by omega) (by omega)
  refine ⟨h3, .int .i64 (0 + 1 + 1 + 1), .bool false, k1.trans ((k2.mono k1.1).trans (k3.mono (Nat.le_trans k1.1 k2.1))), ?_⟩
  rw [s1, s2, s3, loopK_succ, laws_FnCellsOf.body0_eq]
  unfold laws_FnCellsOf.body0
  have f1 : binP Try.prog .leq 3 (.int .i64 (0 + 1 + 1 + 1)) (.int .i64 2) = some (.bool false) := by rw [bin_leq]; rfl
  exact bd f1 (cdF rfl)

theorem each_loop {L zs : List Int} {q q2 S : PV} {X : Int} {h : PHeap} (hL : IntSl .i64 h q2 L) (hz : IntSl .i64 h q zs) (hel : ∀ e ∈ L, ∃ k : Nat, e = (k : Int) ∧ zs[k]? = some X) (hl : L.length ≤ 10) : ∀ (m i fuel : Nat), i + m = L.length → m < fuel →
    ∃ i' v, loopK (ev ((env g lf n).cx Try.prog laws_FnCellsOf.kl) laws_FnCellsOf.lp1) fuel (laws_FnCellsOf.st1 q (.int .i64 X) q2 S (.int .i64 (i : Int)) h) (laws_FnCellsOf.K1 (env g lf n) (kTop Try.prog Try.f5)) =
      laws_FnCellsOf.K1 (env g lf n) (kTop Try.prog Try.f5) (.exit 2) (laws_FnCellsOf.se2_5_6_7_8_10_60 q (.int .i64 X) q2 S i' v h)
  | 0, i, fuel, him, hf => by
    obtain ⟨f, rfl⟩ : ∃ f, fuel = f + 1 := ⟨fuel - 1, by omega⟩
    rw [loopK_succ, laws_FnCellsOf.body1_eq]
    have f1 : binP Try.prog .lss 3 (.int .i64 (i : Int)) (.int .i64 (L.length : Int)) = some (.bool false) := by rw [bin_lss, decide_eq_false (by omega)]
    refine ⟨.int .i64 (i : Int), .bool false, ?_⟩
    unfold laws_FnCellsOf.body1
    exact bd hL.len' (bd f1 (cdF rfl))
  | m + 1, i, fuel, him, hf => by
    obtain ⟨f, rfl⟩ : ∃ f, fuel = f + 1 := ⟨fuel - 1, by omega⟩
    have hi : i < L.length := by omega
    obtain ⟨a, ha, hla⟩ := hL.at' hi
    obtain ⟨k, hk, hzk⟩ := hel L[i] (List.getElem_mem hi)
    obtain ⟨hkl, hkx⟩ := List.getElem?_eq_some_iff.1 hzk
    obtain ⟨b, hb, hlb⟩ := hz.at' hkl
    rw [hkx] at hlb
    rw [hk] at hla
    have f1 : binP Try.prog .lss 3 (.int .i64 (i : Int)) (.int .i64 (L.length : Int)) = some (.bool true) := by rw [bin_lss, decide_eq_true (by omega)]
    have f2 : binP Try.prog .lss 3 (.int .i64 (k : Int)) (.int .i64 0) = some (.bool false) := by rw [bin_lss, decide_eq_false (by omega)]
    have f3 : binP Try.prog .geq 3 (.int .i64 (k : Int)) (.int .i64 (zs.length : Int)) = some (.bool false) := by rw [bin_geq, decide_eq_false (by omega)]
    have f4 : binP Try.prog .neq 3 (.int .i64 X) (.int .i64 X) = some (.bool false) := by rw [bin_neq]; simp
    have f5 : binP Try.prog .add 3 (.int .i64 (i : Int)) (.int .i64 1) = some (.int .i64 ((i + 1 : Nat) : Int)) := by rw [bin_add, nx (by omega)]
    obtain ⟨i', v, ih⟩ := each_loop (S := S) hL hz hel hl m (i + 1) f (by omega) (by omega)
    refine ⟨i', v, ?_⟩
    rw [loopK_succ, laws_FnCellsOf.body1_eq]
    unfold laws_FnCellsOf.body1
    have wf : wantV (.bool false) false = some true := want_bool (x := false) (y := false)
    refine bd hL.len' (bd f1 (cdT (bd ha (bd hla (bd f2 ?_)))))
    refine bd wf (bd (v := (q2, h)) rfl (bd wf (bd (v := (PV.int .i64 (i : Int), h)) rfl (bd wf (bd (v := (a, h)) (congrArg (pv h) ha) (bd wf (bd (v := (PV.int .i64 (k : Int), h)) (congrArg (pv h) hla) ?_)))))))
    refine bd wf (bd (v := (q, h)) rfl (bd wf (bd (v := (PV.int .i64 (zs.length : Int), h)) (congrArg (pv h) hz.len') (bd wf (bd (v := (PV.bool false, h)) (congrArg (pv h) f3) (bd (v := PV.bool false) rfl ?_))))))
    refine bd wf (bd (v := (q, h)) rfl (bd wf (bd (v := (q2, h)) rfl (bd wf (bd (v := (PV.int .i64 (i : Int), h)) rfl (bd wf (bd (v := (a, h)) (congrArg (pv h) ha) (bd wf (bd (v := (PV.int .i64 (k : Int), h)) (congrArg (pv h) hla) ?_)))))))))
    refine bd wf (bd (v := (b, h)) (congrArg (pv h) hb) (bd wf (bd (v := (PV.int .i64 X, h)) (congrArg (pv h) hlb) (bd wf (bd (v := (PV.int .i64 X, h)) rfl (bd wf (bd (v := (PV.bool false, h)) (congrArg (pv h) f4) (bd (v := PV.bool false) rfl ?_))))))))
    exact cdF (bd f5 ih)

theorem fnCellsOf_calls {p : PV} {xs : List Int} {h : PHeap} (N : Nat) (hN : 6 ≤ N) (ha : Arg h p xs) (hlf : 20 < lf) :
    ∃ h', CL g lf N fn_laws_FnCellsOf [p] h = some (.bool true, h') := by
  obtain ⟨n, rfl⟩ : ∃ n, N = n + 1 := ⟨N - 1, by omega⟩
  rw [laws_FnCellsOf.call_eq]
  have hlenp : lenP Try.prog 22 p = some (.int .i64 xs.length) := (ha.1 h (Keep.refl _ _)).len tyB
  by_cases hbig : (1048576 : Int) < (xs.length : Int)
  · refine ⟨h, ?_⟩
    unfold laws_FnCellsOf.main
    have f0 : binP Try.prog .gtr 3 (.int .i64 (xs.length : Int)) (.int .i64 1048576) = some (.bool true) := by rw [bin_gtr, decide_eq_true hbig]
    exact bd hlenp (bd f0 (cdT (bd res_bool rfl)))
  · obtain ⟨r, c, q, zs, x, h1, e1, hq, hl⟩ := drawCells_calls g lf n (by omega) ha hlf
    have f0 : binP Try.prog .gtr 3 (.int .i64 (xs.length : Int)) (.int .i64 1048576) = some (.bool false) := by rw [bin_gtr, decide_eq_false hbig]
    have hlt := cellsL_length r c zs x
    obtain ⟨q2, h2, e2, o2, k2⟩ := cellsOf_calls g lf n (by omega) r c x hq (by omega) (by omega)
    have hq2 := hq.keep k2
    obtain ⟨q3, h3, e3, o3, k3⟩ := specCellsOf_calls g lf n (by omega) r c x hq2 (by omega) (by omega)
    have hq3 := hq2.keep k3
    have o2' := o2.keep k3
    have e4 := sameInts_N g lf n (by omega) o2'.int o3.int (by omega) (by omega)
    rw [decide_eq_true rfl] at e4
    have el := o2'.int.len'
    have e6 := specPositionOk_N g lf n (by omega) r c hq3 (by omega) (by omega)
    cases hB : posB r c zs with
    | false =>
      have ht : cellsL r c zs x = [] := by unfold cellsL; rw [hB]; rfl
      rw [ht] at el
      rw [hB] at e6
      have f1 : binP Try.prog .eql 3 (.int .i64 (([] : List Int).length : Int)) (.int .i64 0) = some (.bool true) := by rw [bin_eql]; rfl
      refine ⟨h3, ?_⟩
      unfold laws_FnCellsOf.main
      refine bd hlenp (bd f0 (cdF (bd e1 (bd extract_tup (bd extract_tup (bd extract_tup (bd extract_tup (bd e2 (bd e3 (bd e4 (bd un_not (cdF (bd e6 (bd un_not (cdT ?_)))))))))))))))
      exact bd el (bd f1 (bd (want_bool (x := true) (y := true)) (bd (alive_calls g lf n (by omega) h3) (bd (v := PV.bool true) rfl (bd res_bool rfl)))))
    | true =>
      have ht : ∀ y, cellsL r c zs y = cellsFrom y 0 zs := fun y => by unfold cellsL; rw [hB]; rfl
      rw [hB] at e6
      obtain ⟨h4, v4, w4, k4, hloop⟩ := cnt_loop g lf n (q2 := q2) (X := .int .i64 x) r c lf (by omega) (by omega) hq3 hl hlf
      have hq4 := hq3.keep k4
      have o4 := o2'.keep k4
      have hall : zs.all contentB = true := by
        unfold posB at hB
        rw [Bool.and_eq_true] at hB
        exact hB.2
      have hsum := cells_sum zs hall
      have hS : (0 + ((cellsL r c zs 0).length : Int) + ((cellsL r c zs (0 + 1)).length : Int) + ((cellsL r c zs (0 + 1 + 1)).length : Int)) = (zs.length : Int) := by
        rw [ht, ht, ht, cellsFrom_count, cellsFrom_count, cellsFrom_count]
        show (0 : Int) + (zs.count 0 : Int) + (zs.count 1 : Int) + (zs.count 2 : Int) = _
        omega
      rw [hS] at hloop
      have hel : ∀ e ∈ cellsL r c zs x, ∃ k : Nat, e = (k : Int) ∧ zs[k]? = some x := by
        intro e he
        rw [ht] at he
        obtain ⟨j, hj, hz⟩ := cellsFrom_mem x zs 0 e he
        exact ⟨j, by rw [hj]; congr 1; omega, hz⟩
      have hsort : ∀ i (hi : i + 1 < (cellsL r c zs x).length), (cellsL r c zs x)[i] < (cellsL r c zs x)[i + 1] := by
        intro i hi
        have hp : (cellsL r c zs x).Pairwise (· < ·) := by rw [ht]; exact cellsFrom_sorted x zs 0
        exact List.pairwise_iff_getElem.1 hp i (i + 1) (by omega) hi (by omega)
      obtain ⟨i', v, hloop2⟩ := each_loop g lf n (S := .int .i64 (zs.length : Int)) o4.int hq4 hel (by omega) (cellsL r c zs x).length 0 lf (by omega) (by omega)
      have e7 := ascend_calls g lf n (by omega) o4.int hsort (by omega) (by omega)
      refine ⟨h4, ?_⟩
      unfold laws_FnCellsOf.main
      refine bd hlenp (bd f0 (cdF (bd e1 (bd extract_tup (bd extract_tup (bd extract_tup (bd extract_tup (bd e2 (bd e3 (bd e4 (bd un_not (cdF (bd e6 (bd un_not (cdF ?_)))))))))))))))
      refine hloop.trans ?_
      rw [laws_FnCellsOf.after0_se0_3_4_5_6_7_8_9_46]
      refine hloop2.trans ?_
      rw [laws_FnCellsOf.after1_se2_5_6_7_8_10_60]
      have wt : wantV (.bool true) true = some true := want_bool (x := true) (y := true)
      have fe : binP Try.prog .eql 3 (.int .i64 (zs.length : Int)) (.int .i64 (zs.length : Int)) = some (.bool true) := by rw [bin_eql]; simp
      refine bd e7 (bd wt (bd (v := (PV.int .i64 (zs.length : Int), h4)) rfl (bd wt (bd (v := (q, h4)) rfl ?_))))
      refine bd wt (bd (v := (PV.int .i64 (zs.length : Int), h4)) (congrArg (pv h4) hq4.len') ?_)
      exact bd wt (bd (v := (PV.bool true, h4)) (congrArg (pv h4) fe) (bd (v := PV.bool true) rfl (bd res_bool rfl)))

end Go.Proofs.Ytaajbolfmhhdcaa
