/- Promise 5: turned by half a turn twice it is as before. -/
import Derived.Test.YtaajbolfmhhdcaaP3
namespace Go.Proofs.Ytaajbolfmhhdcaa
open Go Go.Ip Go.RowKit G

variable (g : Nat → PV) (lf n : Nat)

/-! ### sameInts: are two lists equal? -/
theorem sameInts_loop {xs ys : List Int} {p q : PV} {h : PHeap} (hp : IntSl .i64 h p xs) (hq : IntSl .i64 h q ys) (hxy : xs.length = ys.length) (hl : xs.length ≤ 2 ^ 36) : ∀ (m i fuel : Nat), i + m = xs.length → m < fuel →
    loopK (ev ((env g lf n).cx Try.prog laws_sameInts.kl) laws_sameInts.lp0) fuel (laws_sameInts.st0 p q (.int .i64 i) h) (laws_sameInts.K0 (env g lf n) (kTop Try.prog Try.f22)) = some (.bool (decide (xs.drop i = ys.drop i)), h)
  | 0, i, fuel, him, hf => by
    obtain ⟨f, rfl⟩ : ∃ f, fuel = f + 1 := ⟨fuel - 1, by omega⟩
    rw [loopK_succ, laws_sameInts.body0_eq]
    have hlt : ¬ ((i : Int) < (xs.length : Int)) := by omega
    have hd : xs.drop i = ys.drop i := by rw [List.drop_eq_nil_of_le (by omega), List.drop_eq_nil_of_le (by omega)]
    simp [laws_sameInts.body0, hp.len', hlt, laws_sameInts.after0_se0_0_1_5_14, hd]
  | m + 1, i, fuel, him, hf => by
    obtain ⟨f, rfl⟩ : ∃ f, fuel = f + 1 := ⟨fuel - 1, by omega⟩
    have hi : i < xs.length := by omega
    have hi' : i < ys.length := by omega
    obtain ⟨a, ha, hla⟩ := hp.at' hi
    obtain ⟨b, hb, hlb⟩ := hq.at' hi'
    have ih := sameInts_loop hp hq hxy hl m (i + 1) f (by omega) (by omega)
    have hlt : (i : Int) < (xs.length : Int) := by omega
    rw [loopK_succ, laws_sameInts.body0_eq]
    have hdx : xs.drop i = xs[i] :: xs.drop (i + 1) := List.drop_eq_getElem_cons hi
    have hdy : ys.drop i = ys[i] :: ys.drop (i + 1) := List.drop_eq_getElem_cons hi'
    by_cases he : xs[i] = ys[i]
    · have hne : (xs[i] != ys[i]) = false := by simp [he]
      simp only [laws_sameInts.body0, env_len, env_bin, env_indexAddr, env_load, hp.len', bin_lss, hlt, decide_true, Option.bind_some, cond_bool, cond_true, ha, hla, hb, hlb, bin_neq, hne, cond_false, bin_add, nx (show i < 2 ^ 40 by omega), kLoop_normal, ih]
      rw [hdx, hdy, he]
      simp only [List.cons.injEq, true_and]
    · have hne : (xs[i] != ys[i]) = true := by simp [he]
      simp only [laws_sameInts.body0, env_len, env_bin, env_indexAddr, env_load, hp.len', bin_lss, hlt, decide_true, Option.bind_some, cond_bool, cond_true, ha, hla, hb, hlb, bin_neq, hne, kLoop_ret, laws_sameInts.K0_ret, laws_sameInts.top_sr_4, res_bool, Option.bind_some]
      rw [hdx, hdy]
      simp only [List.cons.injEq, he, false_and, decide_false]

theorem sameInts_N {xs ys : List Int} {p q : PV} {h : PHeap} (N : Nat) (hN : 1 ≤ N) (hp : IntSl .i64 h p xs) (hq : IntSl .i64 h q ys) (hl : xs.length ≤ 2 ^ 36) (hf : xs.length < lf) :
    CL g lf N fn_laws_sameInts [p, q] h = some (.bool (decide (xs = ys)), h) := by
  obtain ⟨n, rfl⟩ : ∃ n, N = n + 1 := ⟨N - 1, by omega⟩
  rw [laws_sameInts.call_eq]
  by_cases hxy : xs.length = ys.length
  · have := sameInts_loop g lf n hp hq hxy hl xs.length 0 lf (by omega) hf
    simp only [laws_sameInts.main, env_len, env_bin, env_lf, hp.len', hq.len', Option.bind_some, bin_neq, hxy, bne_self_eq_false, cond_bool, cond_false]
    simpa using this
  · have hne : ((xs.length : Int) != (ys.length : Int)) = true := by simp; omega
    have hd : ¬ xs = ys := fun e => hxy (by rw [e])
    simp [laws_sameInts.main, hp.len', hq.len', hne, hd]

theorem drawHalf_calls {p : PV} {xs : List Int} {h : PHeap} (N : Nat) (hN : 5 ≤ N) (ha : Arg h p xs) (hlf : 20 < lf) :
    ∃ (r c : Int) (q : PV) (zs : List Int) (h' : PHeap), CL g lf N fn_spec_DrawHalfTurned [p] h = some (.tup [.int .i64 r, .int .i64 c, q], h') ∧ IntSl .i64 h' q zs ∧ zs.length ≤ 10 ∧ -1 ≤ r ∧ r ≤ 5 ∧ -1 ≤ c ∧ c ≤ 5 := by
  obtain ⟨n, rfl⟩ : ∃ n, N = n + 1 := ⟨N - 1, by omega⟩
  rw [spec_DrawHalfTurned.call_eq]
  obtain ⟨h1, e1, r1, k1⟩ := open_calls g lf n (by omega) ha
  obtain ⟨r, c, q, zs, h2, e2, r2, k2, o2, hl, hrc⟩ := position_calls g lf n (by omega) 9 r1 (by omega) (by omega) (by omega) hlf
  refine ⟨r, c, q, zs, h2, ?_, o2.int, hl, hrc⟩
  unfold spec_DrawHalfTurned.main
  exact bd e1 (bd e2 (bd extract_tup (bd extract_tup (bd extract_tup (bd res_int (bd res_int (bd o2.res rfl)))))))

theorem cellsFrom_count (x : Int) : ∀ (ys : List Int) (i : Nat), (cellsFrom x i ys).length = ys.count x
  | [], _ => rfl
  | y :: ys, i => by
    have := cellsFrom_count x ys (i + 1)
    rw [cellsFrom, List.count_cons]
    by_cases h : y = x
    · rw [if_pos h, List.length_cons, this, if_pos (by simp [h])]
    · rw [if_neg h, this, if_neg (by simp [h])]; rfl

theorem posB_reverse (r c : Int) (xs : List Int) : posB r c xs.reverse = posB r c xs := by
  unfold posB
  rw [List.length_reverse, List.all_reverse]

theorem turn_turn {r c : Int} {xs : List Int} (h : posB r c xs = true) : turnL r c xs.reverse = xs := by
  unfold turnL
  rw [posB_reverse, if_pos h, List.reverse_reverse]

theorem cells_turn (r c x : Int) (xs : List Int) : (cellsL r c xs.reverse x).length = (cellsL r c xs x).length := by
  unfold cellsL
  rw [posB_reverse]
  split
  · rw [cellsFrom_count, cellsFrom_count, List.count_reverse]
  · rfl

theorem posB_some {r c : Int} {xs : List Int} (h : posB r c xs = true) : xs.length ≠ 0 := by
  unfold posB at h
  rw [Bool.and_eq_true, Bool.and_eq_true] at h
  have hb := h.1.1
  unfold boardB at hb
  have hm := of_decide_eq_true hb
  have hl := of_decide_eq_true h.1.2
  have : 0 < r * c := Int.mul_pos (by omega) (by omega)
  omega

theorem fnHalfTurned_calls {p : PV} {xs : List Int} {h : PHeap} (N : Nat) (hN : 6 ≤ N) (ha : Arg h p xs) (hlf : 20 < lf) :
    ∃ h', CL g lf N fn_laws_FnHalfTurned [p] h = some (.bool true, h') := by
  obtain ⟨n, rfl⟩ : ∃ n, N = n + 1 := ⟨N - 1, by omega⟩
  rw [laws_FnHalfTurned.call_eq]
  have hlenp : lenP Try.prog 22 p = some (.int .i64 xs.length) := (ha.1 h (Keep.refl _ _)).len tyB
  by_cases hbig : (1048576 : Int) < (xs.length : Int)
  · refine ⟨h, ?_⟩
    unfold laws_FnHalfTurned.main
    have f0 : binP Try.prog .gtr 3 (.int .i64 (xs.length : Int)) (.int .i64 1048576) = some (.bool true) := by rw [bin_gtr, decide_eq_true hbig]
    exact bd hlenp (bd f0 (cdT (bd res_bool rfl)))
  · obtain ⟨r, c, q, zs, h1, e1, hq, hl, hr1, hr2, hc1, hc2⟩ := drawHalf_calls g lf n (by omega) ha hlf
    have f0 : binP Try.prog .gtr 3 (.int .i64 (xs.length : Int)) (.int .i64 1048576) = some (.bool false) := by rw [bin_gtr, decide_eq_false hbig]
    have e5 : ∀ h', CL g lf n fn_laws_alive [] h' = some (.bool true, h') := fun h' => alive_calls g lf n (by omega) h'
    have hlt := turnL_length r c zs
    obtain ⟨q2, h2, e2, o2, k2⟩ := halfTurned_calls g lf n (by omega) r c hq (by omega) (by omega)
    have hq2 := hq.keep k2
    obtain ⟨q3, h3, e3, o3, k3⟩ := specHalfTurned_calls g lf n (by omega) r c hq2 (by omega) (by omega)
    have hq3 := hq2.keep k3
    have o2' := o2.keep k3
    have e4 := sameInts_N g lf n (by omega) o2'.int o3.int (by omega) (by omega)
    rw [decide_eq_true rfl] at e4
    have el := o2'.int.len'
    cases hB : posB r c zs with
    | false =>
      have ht : turnL r c zs = [] := by unfold turnL; rw [hB]; rfl
      rw [ht] at el
      have f1 : binP Try.prog .eql 3 (.int .i64 (([] : List Int).length : Int)) (.int .i64 0) = some (.bool true) := by rw [bin_eql]; rfl
      have e6 := positionOk_N g lf n (by omega) r c hq3 (by omega) (by omega)
      rw [hB] at e6
      refine ⟨h3, ?_⟩
      unfold laws_FnHalfTurned.main
      refine bd hlenp (bd f0 (cdF (bd e1 (bd extract_tup (bd extract_tup (bd extract_tup (bd e2 (bd e3 (bd e4 (bd un_not (cdF (bd el (bd f1 (cdT ?_))))))))))))))
      exact bd e6 (bd un_not (bd (want_bool (x := true) (y := true)) (bd (e5 h3) (bd (v := PV.bool true) rfl (bd res_bool rfl)))))
    | true =>
      have ht : turnL r c zs = zs.reverse := by unfold turnL; rw [hB]; rfl
      rw [ht] at el o2'
      rw [List.length_reverse] at el
      have hne := posB_some hB
      have f1 : binP Try.prog .eql 3 (.int .i64 (zs.length : Int)) (.int .i64 0) = some (.bool false) := by rw [bin_eql]; simp; intro e; exact hne (by rw [e]; rfl)
      have hrl : zs.reverse.length ≤ 10 := by rw [List.length_reverse]; exact hl
      have e6 := positionOk_N g lf n (by omega) r c o2'.int (by omega) (by omega)
      rw [posB_reverse, hB] at e6
      obtain ⟨q4, h4, e7, o4, k4⟩ := halfTurned_calls g lf n (by omega) r c o2'.int (by omega) (by omega)
      rw [turn_turn hB] at o4
      have hq4 := hq3.keep k4
      have t4 := o2'.keep k4
      have e8 := sameInts_N g lf n (by omega) o4.int hq4 (by omega) (by omega)
      rw [decide_eq_true rfl] at e8
      obtain ⟨q5, h5, e9, o5, k5⟩ := cellsOf_calls g lf n (by omega) r c 1 t4.int (by omega) (by omega)
      have hq5 := hq4.keep k5
      have t5 := t4.keep k5
      have l5 := o5.int.len'
      rw [cells_turn] at l5
      obtain ⟨q6, h6, e10, o6, k6⟩ := cellsOf_calls g lf n (by omega) r c 1 hq5 (by omega) (by omega)
      have hq6 := hq5.keep k6
      have t6 := t5.keep k6
      have l6 := o6.int.len'
      obtain ⟨q7, h7, e11, o7, k7⟩ := cellsOf_calls g lf n (by omega) r c 0 t6.int (by omega) (by omega)
      have hq7 := hq6.keep k7
      have l7 := o7.int.len'
      rw [cells_turn] at l7
      obtain ⟨q8, h8, e12, o8, k8⟩ := cellsOf_calls g lf n (by omega) r c 0 hq7 (by omega) (by omega)
      have l8 := o8.int.len'
      have fe : ∀ x : Int, binP Try.prog .eql 3 (.int .i64 x) (.int .i64 x) = some (.bool true) := fun x => by rw [bin_eql]; simp
      refine ⟨h8, ?_⟩
      unfold laws_FnHalfTurned.main
      refine bd hlenp (bd f0 (cdF (bd e1 (bd extract_tup (bd extract_tup (bd extract_tup (bd e2 (bd e3 (bd e4 (bd un_not (cdF (bd el (bd f1 (cdF ?_))))))))))))))
      have wt : wantV (.bool true) true = some true := want_bool (x := true) (y := true)
      refine bd e6 (bd wt (bd (v := (PV.int .i64 r, h3)) rfl (bd wt (bd (v := (PV.int .i64 c, h3)) rfl (bd wt (bd (v := (q2, h3)) rfl (bd wt (bd e7 ?_))))))))
      refine bd wt (bd (v := (q, h4)) rfl (bd wt (bd e8 (bd (v := PV.bool true) rfl ?_))))
      refine bd wt (bd (v := (PV.int .i64 r, h4)) rfl (bd wt (bd (v := (PV.int .i64 c, h4)) rfl (bd wt (bd (v := (q2, h4)) rfl (bd wt (bd e9 ?_)))))))
      refine bd wt (bd (v := (PV.int .i64 ((cellsL r c zs 1).length : Int), h5)) (congrArg (pv h5) l5) ?_)
      refine bd wt (bd (v := (PV.int .i64 r, h5)) rfl (bd wt (bd (v := (PV.int .i64 c, h5)) rfl (bd wt (bd (v := (q, h5)) rfl (bd wt (bd e10 ?_)))))))
      refine bd wt (bd (v := (PV.int .i64 ((cellsL r c zs 1).length : Int), h6)) (congrArg (pv h6) l6) ?_)
      refine bd wt (bd (v := (PV.bool true, h6)) (congrArg (pv h6) (fe _)) (bd (v := PV.bool true) rfl ?_))
      refine bd wt (bd (v := (PV.int .i64 r, h6)) rfl (bd wt (bd (v := (PV.int .i64 c, h6)) rfl (bd wt (bd (v := (q2, h6)) rfl (bd wt (bd e11 ?_)))))))
      refine bd wt (bd (v := (PV.int .i64 ((cellsL r c zs 0).length : Int), h7)) (congrArg (pv h7) l7) ?_)
      refine bd wt (bd (v := (PV.int .i64 r, h7)) rfl (bd wt (bd (v := (PV.int .i64 c, h7)) rfl (bd wt (bd (v := (q, h7)) rfl (bd wt (bd e12 ?_)))))))
      refine bd wt (bd (v := (PV.int .i64 ((cellsL r c zs 0).length : Int), h8)) (congrArg (pv h8) l8) ?_)
      exact bd wt (bd (v := (PV.bool true, h8)) (congrArg (pv h8) (fe _)) (bd (v := PV.bool true) rfl (bd res_bool rfl)))

end Go.Proofs.Ytaajbolfmhhdcaa
