/- Texts of this seat, in their order, put together by program. -/
import Derived.Test.YtpaehbfknlpkbadDoorK12
set_option linter.unusedSimpArgs false
set_option linter.unusedVariables false
set_option linter.unusedSectionVars false
/- What the program's functions of chapter 11 compute, on: slips, and the best record. -/
set_option maxRecDepth 20000
namespace Go.Proofs.YtpaehbfknlpkbadDoor
open Go Go.Ip G

theorem wheld1 {Q : PV → PHeap → Prop} {b u : Bool} {x y : Res} (hb : b = u) (hx : W x Q) : W ((wantV (.bool b) u).bind fun v => bif v then x else y) Q := by
  subst hb; simpa [wantV] using hx
theorem wheld0 {Q : PV → PHeap → Prop} {b u : Bool} {x y : Res} (hb : b = !u) (hy : W y Q) : W ((wantV (.bool b) u).bind fun v => bif v then x else y) Q := by
  subst hb; cases u <;> simpa [wantV] using hy

/-- A list that grows, in an object that is none of some others. -/
def LsAt (b : Nat) (ex : List Nat) (h : PHeap) (q : PV) (ys : List Int) : Prop := (q = .nilsl ∧ ys = []) ∨ ∃ i, i ∉ ex ∧ b ≤ i ∧ q = .sl i 0 ys.length ∧ At h i (ys.map (.int .i64))
theorem LsAt.keep {b : Nat} {ex : List Nat} {h h' : PHeap} {q : PV} {ys : List Int} (o : LsAt b ex h q ys) (k : Keep h.length h h') : LsAt b ex h' q ys := by
  rcases o with o | ⟨i, h1, h2, h3, h4⟩
  · exact .inl o
  · exact .inr ⟨i, h1, h2, h3, h4.keep k⟩
theorem LsAt.kb {b j : Nat} {ex : List Nat} {h h' : PHeap} {q : PV} {ys : List Int} (o : LsAt b ex h q ys) (k : KB j h h') (hj : j ∈ ex) : LsAt b ex h' q ys := by
  rcases o with o | ⟨i, h1, h2, h3, h4⟩
  · exact .inl o
  · exact .inr ⟨i, h1, h2, h3, h4.kb k fun e => h1 (e ▸ hj)⟩
theorem LsAt.more {b j : Nat} {ex : List Nat} {h h1 h2 : PHeap} {q : PV} {ys : List Int} (o : LsAt b ex h q ys) (k : Keep h.length h h1) (k2 : KB j h1 h2) (hj : h.length ≤ j) : LsAt b (j :: ex) h2 q ys := by
  rcases o with o | ⟨i, a1, a2, a3, a4⟩
  · exact .inl o
  · have hi := a4.lt
    have hne : i ≠ j := by omega
    exact .inr ⟨i, by simp [hne, a1], a2, a3, (a4.keep k).kb k2 hne⟩
theorem LsAt.less {b j : Nat} {ex : List Nat} {h : PHeap} {q : PV} {ys : List Int} (o : LsAt b (j :: ex) h q ys) : LsAt b ex h q ys := by
  rcases o with o | ⟨i, a1, a2⟩
  · exact .inl o
  · exact .inr ⟨i, fun hi => a1 (List.mem_cons_of_mem _ hi), a2⟩
theorem LsAt.own {b : Nat} {ex : List Nat} {h : PHeap} {q : PV} {ys : List Int} (o : LsAt b ex h q ys) : OwnSl b h q ys := by
  rcases o with ⟨rfl, rfl⟩ | ⟨i, h1, h2, h3, h4⟩
  · exact OwnSl.nil _ _
  · exact SlAt.own (i := i) (.inr ⟨h3, h4⟩) h2
theorem wapL {Q : PV → PHeap → Prop} {b : Nat} {ex : List Nat} {h : PHeap} {q : PV} {ys : List Int} (o : LsAt b ex h q ys) (hb : b ≤ h.length) (hx : ∀ j ∈ ex, j < h.length) {x : Int} (hl : ys.length + 1 ≤ 2 ^ 36) {F : PV × PHeap → Res}
    (hf : ∀ p' h' i, LsAt b ex h' p' (ys ++ [x]) → KB i h h' → i ∉ ex → b ≤ i → W (F (p', h')) Q) :
    W ((buildSliceP Tryd.prog 22 1 [(0, .int .i64 x)] h).bind fun v => (appendP Tryd.prog 22 22 q v.1 v.2).bind F) Q := by
  have made : ∀ {p' h' j}, SlAt j h' p' (ys ++ [x]) → h.length ≤ j → LsAt b ex h' p' (ys ++ [x]) := fun {p' h' j} sl lj => by
    rcases sl with ⟨_, e⟩ | ⟨e1, e2⟩
    · simp at e
    · exact .inr ⟨j, fun hj => by have := hx j hj; omega, by omega, e1, e2⟩
  rcases o with ⟨rfl, rfl⟩ | ⟨i, h1, h2, rfl, h3⟩
  · exact wapS (i := h.length) (.inl ⟨rfl, rfl⟩) hl fun p' h' j sl k lj => hf p' h' h.length (made sl lj) k (fun hj => by have := hx _ hj; omega) hb
  · exact wapS (i := i) (.inr ⟨rfl, h3⟩) hl fun p' h' j sl k lj => hf p' h' i (made sl lj) k h1 h2
theorem wresL {Q : PV → PHeap → Prop} {b : Nat} {ex : List Nat} {h : PHeap} {q : PV} {ys : List Int} (o : LsAt b ex h q ys) {f : PV → Res} (hf : W (f q) Q) : W ((resV q).bind f) Q := wbd o.own.res hf

variable (g : Nat → PV) (lf n : Nat)

theorem smallOk_N (r c : Int) (N : Nat) (hN : 3 ≤ N) (h : PHeap) : CL g lf N fn_impl_smallOk [.int .i64 r, .int .i64 c] h = some (.bool (boardB r c && decide (r * c ≤ 6)), h) := by
  obtain ⟨n, rfl⟩ : ∃ n, N = n + 1 := ⟨N - 1, by omega⟩
  have e1 := boardOk_N g lf n (by omega) h r c
  suffices this : W (CL g lf (n + 1) fn_impl_smallOk [.int .i64 r, .int .i64 c] h) fun v h' => v = .bool (boardB r c && decide (r * c ≤ 6)) ∧ h' = h by
    obtain ⟨_, _, e, rfl, rfl⟩ := this; exact e
  rw [impl_smallOk.call_eq]
  unfold impl_smallOk.main
  simp only [env_C, env_pick, env_bin]
  cases hb : boardB r c with
  | false =>
    rw [hb] at e1
    repeat (first | with_reducible refine wg0 rfl ?_ | with_reducible refine wpF ?_ | with_reducible refine wsm ?_ | with_reducible refine wrB ?_ | with_reducible refine wbd (by assumption) ?_ | dsimp only)
    exact W.ret ⟨rfl, rfl⟩
  | true =>
    rw [hb] at e1
    obtain ⟨R, C, rfl, rfl, hB⟩ := boardB_nat hb
    obtain ⟨b1, b2, b3, b4, b9⟩ := id hB
    rw [Bool.true_and, ← Int.natCast_mul]
    by_cases h6 : R * C ≤ 6
    · rw [decide_eq_true (show ((R * C : Nat) : Int) ≤ 6 by omega)]
      repeat (first | with_reducible refine wg1 rfl ?_ | with_reducible refine wpT ?_ | with_reducible refine wpv ?_ | with_reducible refine wsm ?_ | with_reducible refine wrB ?_ | with_reducible refine wbd (by assumption) ?_ | with_reducible refine wmulN (by omega) ?_ | with_reducible refine wleqT (by omega) ?_ | dsimp only)
      exact W.ret ⟨rfl, rfl⟩
    · rw [decide_eq_false (show ¬ ((R * C : Nat) : Int) ≤ 6 by omega)]
      repeat (first | with_reducible refine wg1 rfl ?_ | with_reducible refine wpT ?_ | with_reducible refine wpv ?_ | with_reducible refine wsm ?_ | with_reducible refine wrB ?_ | with_reducible refine wbd (by assumption) ?_ | with_reducible refine wmulN (by omega) ?_ | with_reducible refine wleqF (by omega) ?_ | dsimp only)
      exact W.ret ⟨rfl, rfl⟩

set_option maxHeartbeats 2000000 in
theorem slips_W (hbig : Big g) (hlf : 1000 < lf) (r c : Int) {ms : List Int} {p : PV} {h : PHeap} (ht : TabOk g h) (hp : IntSl .i64 h p ms) (hl : ms.length ≤ 2 ^ 35) (hf : ms.length < lf) (N : Nat) (hN : 43 ≤ N) :
    W (CL g lf N fn_impl_SlipsOf [.int .i64 r, .int .i64 c, p] h) fun q h' => OwnSl h.length h' q (slipsL r c ms) ∧ Keep h.length h h' := by
  obtain ⟨n, rfl⟩ : ∃ n, N = n + 1 := ⟨N - 1, by omega⟩
  have e1 := smallOk_N g lf r c n (by omega) h
  rw [impl_SlipsOf.call_eq]
  unfold impl_SlipsOf.main
  simp only [env_C, env_lf, env_pick, env_alloc, env_store, env_un, env_len]
  cases hsm : (boardB r c && decide (r * c ≤ 6)) with
  | false =>
    rw [hsm] at e1
    have he : slipsL r c ms = [] := by
      unfold slipsL
      rw [if_neg]
      rintro ⟨h1, h2⟩
      rw [rec_board h1, decide_eq_true h2] at hsm
      cases hsm
    rw [he]
    repeat (first | with_reducible refine wT ?_ | with_reducible refine wg0 rfl ?_ | with_reducible refine wpT ?_ | with_reducible refine wnF ?_ | with_reducible refine wsm ?_ | with_reducible refine wrN ?_ | with_reducible refine wbd (by assumption) ?_ | dsimp only)
    exact W.ret ⟨OwnSl.nil _ _, Keep.refl _ _⟩
  | true =>
    rw [hsm] at e1
    rw [Bool.and_eq_true, decide_eq_true_iff] at hsm
    obtain ⟨hbb, h6⟩ := hsm
    repeat (first | with_reducible refine wg1 rfl ?_ | with_reducible refine wnT ?_ | with_reducible refine wsm ?_ | with_reducible refine wbd (by assumption) ?_ | dsimp only)
    refine wcall (recordOk_W g lf hlf r c ht hp hl hf n (by omega)) fun v h1 ⟨hv, k1⟩ => ?_
    subst hv
    cases hr : recB r c ms with
    | false =>
      have he : slipsL r c ms = [] := by unfold slipsL; rw [hr, if_neg (by simp)]
      rw [he]
      repeat (first | with_reducible refine wT ?_ | with_reducible refine wg1 rfl ?_ | with_reducible refine wpF ?_ | with_reducible refine wnF ?_ | with_reducible refine wpv ?_ | with_reducible refine wrN ?_ | dsimp only)
      exact W.ret ⟨OwnSl.nil _ _, k1⟩
    | true =>
      have he : slipsL r c ms = slipsF r c (startL r c) 1 0 ms := by unfold slipsL; rw [if_pos ⟨hr, h6⟩]
      rw [he]
      obtain ⟨R, C, rfl, rfl, hB⟩ := boardB_nat hbb
      obtain ⟨b1, b2, b3, b4, b9⟩ := id hB
      have hml := (rec_length hr).2
      repeat (first | with_reducible refine wF ?_ | with_reducible refine wg1 rfl ?_ | with_reducible refine wpF ?_ | with_reducible refine wnT ?_ | with_reducible refine wpv ?_ | dsimp only)
      refine wcall (newSearch_W g lf hB n (by omega) hlf (ht.keep k1).1) fun v h2 ⟨s, m, hv, hs2, k2, l1, l2⟩ => ?_
      subst hv
      have kk2 := k1.trans (k2.mono k1.1)
      obtain ⟨q3, h3, e3, o3, k3⟩ := freeBoard_W g lf n (by omega) h2 (R : Int) (C : Int)
      rw [hbb, if_pos rfl, show freeL (R : Int).toNat (C : Int).toNat = startL (R : Int) (C : Int) from (start_nat R C).symm] at o3
      have kk3 := kk2.trans (k3.mono kk2.1)
      have hs3 := hs2.keep k3
      have hsl : (startL (R : Int) (C : Int)).length = R * C := by rw [start_nat, List.length_replicate]
      repeat (first | with_reducible refine wbd (by assumption) ?_ | dsimp only)
      refine wcall (standingOf_W g lf o3.int (by omega) 1 n (by omega) hlf) fun v h4 ⟨hv, k4⟩ => ?_
      subst hv
      have kk4 := kk3.trans (k4.mono kk3.1)
      have hs4 := hs3.keep k4
      repeat (first | dsimp only)
      refine walS fun h5 id o5 k5 l5 => ?_
      dsimp only at k5 l5 ⊢
      refine wstS o5 fun h6 o6 k6 => ?_
      have hs5 := hs4.keep k5
      have d1 : s ≠ id := by have := hs4.1.lt; omega
      have d2 : m ≠ id := by have := hs4.lt; omega
      have hs6 := hs5.kbo k6 d1 d2
      have d3 : h.length ≤ id := Nat.le_trans kk4.1 l5
      have l1' : h.length ≤ s := Nat.le_trans k1.1 l1
      have l2' : h.length ≤ m := Nat.le_trans k1.1 l2
      have kk6 := (kk4.trans (k5.mono kk4.1)).kbs (Nat.le_refl _) k6 d3
      have hlen := hp.len'
      have hb0 : posB (R : Int) (C : Int) (startL (R : Int) (C : Int)) = true := start_pos hbb
      obtain ⟨R', C', hS0⟩ := sides_of hb0
      have hS0c := hS0
      obtain ⟨eR, eC, _⟩ := hS0c
      obtain rfl : R = R' := by omega
      obtain rfl : C = C' := by omega
      have hpl0 : (playTo (R : Int) (C : Int) (startL (R : Int) (C : Int)) 1 ms).isSome = true := by unfold recB at hr; rw [Bool.and_eq_true] at hr; exact hr.2
      generalize startL (R : Int) (C : Int) = x0 at *
      repeat (first | with_reducible refine wbd (by assumption) ?_)
      refine loopW (fun m' st => ∃ (k U : Nat) (zs ys : List Int) (q : PV) (h7 : PHeap), st = impl_SlipsOf.st0 (.ptr s 0) (.ptr id 0) q p (.int .i64 (ms.length : Int)) (.int .i64 (k : Int)) h7 ∧ k + m' = ms.length ∧ posB (R : Int) (C : Int) zs = true ∧ Sides (R : Int) (C : Int) R C zs ∧ (U = 1 ∨ U = 2) ∧
        (playTo (R : Int) (C : Int) zs (U : Int) (ms.drop k)).isSome = true ∧ At h7 id (stC (setL zs 0) (setL zs 1) (setL zs 2) U) ∧ Sch R C h7 s m ∧ LsAt h.length [s, m, id] h7 q ys ∧ ys.length ≤ k ∧ ys ++ slipsF (R : Int) (C : Int) zs (U : Int) k (ms.drop k) = slipsF (R : Int) (C : Int) x0 1 0 ms ∧ Keep h.length h h7) ?_ lf ms.length _ hf
        ⟨0, 1, x0, [], .nilsl, h6, rfl, by omega, hb0, hS0, .inl rfl, hpl0, o6, hs6, .inl ⟨rfl, rfl⟩, by simp, rfl, kk6⟩
      clear hS0 hb0 hpl0 o6 hs6 kk6 o5 k5 k6 hs5 hs4 hs3 hs2
      rintro n1 m1 st ⟨k, U, zs, ys, q, h7, rfl, hkm, hb, hS, hU, hpl, o7, hs7, ls7, hyl, hfl, kk7⟩ next
      rw [impl_SlipsOf.body0_eq]
      unfold impl_SlipsOf.body0
      simp only [env_C, env_pick, env_alloc, env_buildSlice, env_load, env_store, env_bin, env_fieldAddr, env_indexAddr, env_append]
      cases m1 with
      | zero =>
        obtain rfl : k = ms.length := by omega
        rw [List.drop_length] at hfl
        have hys : ys = slipsF (R : Int) (C : Int) x0 1 0 ms := by rw [← hfl, slipsF, List.append_nil]
        repeat (first | with_reducible refine wF ?_ | (with_reducible refine wresL ls7 ?_) | with_reducible refine wlssF (by omega) ?_ | rw [kLoop_exit] | rw [impl_SlipsOf.after0_se0_7_8_9_31_32_33_34])
        exact W.ret ⟨hys ▸ ls7.own, kk7⟩
      | succ m1 =>
        have hk : k < ms.length := by omega
        have hd : ms.drop k = ms[k] :: ms.drop (k + 1) := List.drop_eq_getElem_cons hk
        rw [hd] at hpl hfl
        simp only [playTo] at hpl
        cases hmv : moveL (R : Int) (C : Int) zs ms[k] (U : Int) with
        | false => rw [hmv, if_neg (by decide)] at hpl; cases hpl
        | true =>
        rw [hmv, if_pos rfl] at hpl
        obtain ⟨K, hK, hK0, hKl⟩ := move_cell hmv
        have e3 : (3 : Int) - (U : Int) = ((3 - U : Nat) : Int) := by omega
        have hU' : 3 - U = 1 ∨ 3 - U = 2 := by omega
        rw [slips_step] at hfl
        rw [hK, Int.toNat_natCast, e3] at hpl hfl
        have hzl : zs.length = R * C := hS.2.2.2.2.2.2.2.1
        have hf9 := set_lt9 hS 0
        have ha9 := set_lt9 hS 1
        have hb9 := set_lt9 hS 2
        have hb2 := pos_set hb hU K
        have hS2 := sides_set hb hS (k := K) hU
        obtain ⟨q1, q2⟩ := set_putA hU hK0
        have q0 := (set_more hS hU hK0).2.1
        have w1 := winL_eq hb hU
        have w2 := winL_eq hb2 hU'
        rw [w1, w2] at hfl
        refine wlssT (by omega) ?_
        refine wT ?_
        refine wat (hp.keep kk7) hk fun a ea => ?_
        refine wbd ea ?_
        rw [hK]
        refine wbd (ldS o7) ?_
        refine wcall (after_W g lf hf9 ha9 hb9 (by omega) hU n (by omega) h7) fun v h8 ⟨hv, k8⟩ => ?_
        subst hv
        have kk8 := kk7.trans (k8.mono kk7.1)
        refine walS fun h9 id2 o9 k9 l9 => ?_
        dsimp only at k9 l9 ⊢
        refine wstS o9 fun h10 n10 k10 => ?_
        have k79 : Keep h7.length h7 h9 := k8.trans (k9.mono k8.1)
        have l79 : h7.length ≤ id2 := Nat.le_trans k8.1 l9
        have f1 : id ≠ id2 := by have := o7.lt; omega
        have f2 : s ≠ id2 := by have := hs7.1.lt; omega
        have f3 : m ≠ id2 := by have := hs7.lt; omega
        have ls10 := ls7.more k79 k10 l79
        have o10 := (o7.keep k79).kb k10 f1
        have hs10 := (hs7.keep k79).kbo k10 f2 f3
        have kk10 := (kk8.trans (k9.mono kk8.1)).kbs (Nat.le_refl _) k10 (Nat.le_trans kk7.1 l79)
        rw [← q0, ← q1, ← q2] at n10
        have ht10 := ht.2.keep kk10
        repeat (first | (with_reducible refine wbd (fSt1 _) ?_) | (with_reducible refine wbd (ld1 (by assumption) rfl) ?_) | (with_reducible refine wbd (ldS (by assumption)) ?_))
        refine wcall (sWinner_W g lf hB hbig hlf 9 _ _ _ _ n h10 (Nat.le_trans (fr_le _ _ _) b9) (stands_of hS hU) (by omega) hs10 ht10) fun v h11 ⟨hv, hs11, k11⟩ => ?_
        subst hv
        have o11 := o10.kb k11 (hs10.ne o10)
        have n11 := n10.kb k11 (hs10.ne n10)
        have ls11 := ls10.kb k11 (by simp)
        have kk11 := kk10.kbs (Nat.le_refl _) k11 l2'
        have ht11 := ht.2.keep kk11
        generalize hW1 : winN R C (setL zs 1) (setL zs 2) U = W1 at hfl ⊢
        generalize hW2 : winN R C (setL (zs.set K (U : Int)) 1) (setL (zs.set K (U : Int)) 2) (3 - U) = W2 at hfl
        repeat (first | with_reducible refine wck plain_int ?_ | (with_reducible refine wbd (ld1 (by assumption) rfl) ?_) | (with_reducible refine wbd (ldS (by assumption)) ?_) | (with_reducible refine wck plainS ?_) | dsimp only)
        refine weql (fun ew => ?_) (fun ew => ?_)
        · repeat (first | with_reducible refine wg1 rfl ?_ | with_reducible refine wpv ?_ | with_reducible refine wsm ?_ | (with_reducible refine wbd (fSt1 _) ?_) | (with_reducible refine wbd (ld1 (by assumption) rfl) ?_) | (with_reducible refine wbd (ldS (by assumption)) ?_) | (with_reducible refine wheld1 rfl ?_) | dsimp only)
          refine wcall (sWinner_W g lf hB hbig hlf 9 _ _ _ _ n h11 (Nat.le_trans (fr_le _ _ _) b9) (stands_of hS2 hU') (by omega) hs11 ht11) fun v h12 ⟨hv, hs12, k12⟩ => ?_
          subst hv
          rw [hW2]
          have o12 := o11.kb k12 (hs11.ne o11)
          have n12 := n11.kb k12 (hs11.ne n11)
          have ls12 := ls11.kb k12 (by simp)
          have kk12 := kk11.kbs (Nat.le_refl _) k12 l2'
          repeat (first | with_reducible refine wg1 rfl ?_ | with_reducible refine wpv ?_ | with_reducible refine wck plain_int ?_ | (with_reducible refine wbd (ld1 (by assumption) rfl) ?_) | (with_reducible refine wbd (ldS (by assumption)) ?_) | (with_reducible refine wck plainS ?_) | dsimp only)
          refine wneq (fun ev => ?_) (fun ev => ?_)
          · rw [if_pos ⟨ew, ev⟩] at hfl
            repeat (first | with_reducible refine wT ?_ | with_reducible refine wpT ?_)
            refine wapL ls12 kk12.1 (fun j hj => ?_) (by omega) fun q' h13 i ls13 k13 hi hbi => ?_
            · simp only [List.mem_cons, List.not_mem_nil, or_false] at hj
              rcases hj with rfl | rfl | rfl | rfl
              · exact n12.lt
              · exact hs12.1.lt
              · exact hs12.lt
              · exact o12.lt
            · simp only [List.mem_cons, List.not_mem_nil, or_false, not_or] at hi
              obtain ⟨g1, g2, g3, g4⟩ := hi
              have o13 := o12.kb k13 (Ne.symm g4)
              have n13 := n12.kb k13 (Ne.symm g1)
              have hs13 := hs12.kbo k13 (Ne.symm g2) (Ne.symm g3)
              have kk13 := kk12.kbs (Nat.le_refl _) k13 hbi
              refine wbd (ldS n13) ?_
              refine wstS o13 fun h14 o14 k14 => ?_
              repeat (first | with_reducible refine wadd1 (by omega) ?_ | dsimp only)
              refine next _ _ (Nat.lt_succ_self _) ⟨k + 1, 3 - U, zs.set K (U : Int), ys ++ [(k : Int)], q', h14, rfl, by omega, hb2, hS2, hU', hpl, o14, hs13.kbo k14 d1 d2, ls13.less.kb k14 (by simp), by rw [List.length_append]; simp; omega, ?_, kk13.kbs (Nat.le_refl _) k14 d3⟩
              rw [List.append_assoc]; exact hfl
          · rw [if_neg (fun a => a.2 ev)] at hfl
            repeat (first | with_reducible refine wF ?_ | with_reducible refine wpT ?_ | (with_reducible refine wbd (ldS (by assumption)) ?_))
            refine wstS o12 fun h14 o14 k14 => ?_
            repeat (first | with_reducible refine wadd1 (by omega) ?_)
            refine next _ _ (Nat.lt_succ_self _) ⟨k + 1, 3 - U, zs.set K (U : Int), ys, q, h14, rfl, by omega, hb2, hS2, hU', hpl, o14, hs12.kbo k14 d1 d2, ls12.less.kb k14 (by simp), by omega, hfl, kk12.kbs (Nat.le_refl _) k14 d3⟩
        · rw [if_neg (fun a => ew a.1)] at hfl
          repeat (first | with_reducible refine wF ?_ | with_reducible refine wg0 rfl ?_ | with_reducible refine wpF ?_ | with_reducible refine wsm ?_ | with_reducible refine wck plain_int ?_ | (with_reducible refine wbd (ld1 (by assumption) rfl) ?_) | (with_reducible refine wbd (ldS (by assumption)) ?_) | (with_reducible refine wck plainS ?_) | (with_reducible refine wheld0 rfl ?_) | dsimp only)
          refine wstS o11 fun h14 o14 k14 => ?_
          repeat (first | with_reducible refine wadd1 (by omega) ?_)
          refine next _ _ (Nat.lt_succ_self _) ⟨k + 1, 3 - U, zs.set K (U : Int), ys, q, h14, rfl, by omega, hb2, hS2, hU', hpl, o14, hs11.kbo k14 d1 d2, ls11.less.kb k14 (by simp), by omega, hfl, kk11.kbs (Nat.le_refl _) k14 d3⟩
theorem slipsOk (hbig : Big g) (hlf : 1000 < lf) : SlipsOk g lf := fun N hN r c ms p h ht hp hl hf => by
  obtain ⟨q, h', e, o, k⟩ := slips_W g lf hbig hlf r c ht hp hl hf N (by omega)
  exact ⟨q, h', e, o, k⟩

end Go.Proofs.YtpaehbfknlpkbadDoor

